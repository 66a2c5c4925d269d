import PyProof.Rows.All
import Wide.All
import OpenK.AllK
import Wide.FinOn
import Lean
import PyProof.EqAt
import PyProof.EqKinds
import PyProof.TupleCall
import KE.KNest
import KE.KNestM
import KE.KSortTup
import PyProof.CollectWalk
import PyProof.IsRules
import PyProof.Rows.SetFrom
import PyProof.Rows.SortKeyStr
import PyProof.Rows.SortStr
import PyProof.SetKind
import PyProof.TupleOfGen
import PySem.Challenge.RW_cardlanes_k06_stands_told
set_option Elab.async false
set_option linter.all false
set_option maxRecDepth 100000
set_option maxHeartbeats 4000000
set_option hygiene false
local macro_rules (kind:=ident)|i=>match i.getId with|.str .anonymous s=>if s.front=='Q' then match s with| "Qa"=>`((by omega))| "Qe"=>`((by decide+kernel))| "Qc"=>`((by decide))| "Qb"=>`((by simp))| "Qd"=>`(Value->Shared->Prop)|_=>Lean.Macro.throwUnsupported else Lean.Macro.throwUnsupported|_=>Lean.Macro.throwUnsupported
set_option hygiene true
local macro_rules| `(tactic|omega)=>`(tactic|first|lia|omega (config:={}))
open Lean Parser in
local macro_rules| `(tactic|exists $ts,*)=>do
  let mut st:List (TSyntax `tactic):=[]
  for t0 in ts.getElems.reverse do
    let mut t:Syntax:=t0
    for _ in[0:9]do
      if t.isIdent then
        if let some v←expandMacro? t then t:=v
      if t.isOfKind ``Term.paren then t:=t[1]
    if let some k:=t.isNatLit? then
      let c::r:=st|Macro.throwUnsupported
      let mut c:=c
      for _ in[0:k]do c← `(tactic|(intro _; $c))
      st:=c::r
    else if t.isOfKind ``Term.byTactic then
      let s:TSyntax ``Tactic.tacticSeq:=⟨t[1]⟩
      st:=(← `(tactic|($s)))::st
    else
      let (u,gs)←(t.replaceM fun s=>if s.isOfKind ``Term.syntheticHole then do
          let g:=mkIdent (.mkSimple s!"g{t0.raw.getPos?.map (·.byteIdx)}_{(← get).size}")
          modify (·.push g)
          return some (s.setArg 1 g)
        else return none:StateT (Array Ident) MacroM Syntax).run #[]
      let u:Term:=⟨u⟩
      let mut a← `(tactic|refine' $u)
      for g in gs do
        let c::r:=st|Macro.throwUnsupported
        st:=r
        a← `(tactic|($a;case $g:ident=> $c:tactic))
      st:=a::st
  let[a]:=st|Macro.throwUnsupported
  return a
section
namespace L2
open PySem PySem.Spec PyProof.Rows
noncomputable abbrev bP:=Sum Int Str
noncomputable def pI:bP->Value->Bool
 |.inl k,v=>Value.isInt k v
 |.inr x,v=>Value.isStrOf x v
noncomputable def LY(w:World):bP->Int
 |.inl k=>hashInt k
 |.inr x=>hashStr w x
theorem kL:∀{k:bP} {v:Value},pI k v=true->(∃i t,k=Sum.inl i/\v=Value.int i t)\/(∃x t,k=Sum.inr x/\v=Value.str x t)
 |.inl i,v,h=>by
  obtain⟨t,e⟩:=Value.isInt_shape (k:=i) (v:=v) h
  exact .inl ⟨i,t,rfl,e⟩
 |.inr x,v,h=>by
  obtain⟨t,e⟩:=Value.isStrOf_shape (x:=x) (v:=v) h
  exact .inr ⟨x,t,rfl,e⟩
theorem LX(i:Int)(t:Tok):pI (.inl i) (.int i t)=true:=by simp[pI,Value.isInt]
theorem LW(x:Str)(t:Tok):pI (.inr x) (.str x t)=true:=by simp[pI,Value.isStrOf]
theorem LV(a b:Int):decide ((Sum.inl a:bP)=Sum.inl b)=(a==b):=by
 by_cases e:a=b
 ·subst e;simp
 ·have h:¬(Sum.inl a:bP)=Sum.inl b:=λ q=>e (Sum.inl.inj q)
  rw[decide_eq_false h]
  exact(beq_eq_false_iff_ne.mpr e).symm
theorem LR(a b:Str):decide ((Sum.inr a:bP)=Sum.inr b)=decide (a=b):=by
 by_cases e:a=b
 ·subst e;simp
 ·have h:¬(Sum.inr a:bP)=Sum.inr b:=λ q=>e (Sum.inr.inj q)
  rw[decide_eq_false h,decide_eq_false e]
theorem LU(a:Int)(b:Str):decide ((Sum.inl a:bP)=Sum.inr b)=false:=decide_eq_false (λ q=>nomatch q)
theorem LS(a:Str)(b:Int):decide ((Sum.inr a:bP)=Sum.inl b)=false:=decide_eq_false (λ q=>nomatch q)
noncomputable def gK(prog:Program)(w:World):PySem.KeyKind prog w bP where
 is:=pI
 hash:=LY w
 inj:=λ v a b ha hb=>by
  rcases kL ha with⟨i,t,rfl,rfl⟩|⟨x,t,rfl,rfl⟩
  ·rcases kL hb with⟨j,u,rfl,e⟩|⟨y,u,rfl,e⟩
   ·injection e with e1 _;rw[e1]
   ·exact nomatch e
  ·rcases kL hb with⟨j,u,rfl,e⟩|⟨y,u,rfl,e⟩
   ·exact nomatch e
   ·injection e with e1 _;rw[e1]
 byValue:=λ k v h=>by
  rcases kL h with⟨i,t,rfl,rfl⟩|⟨x,t,rfl,rfl⟩<;>rfl
 pyHash:=λ hv h=>by
  rcases kL hv with⟨i,t,rfl,rfl⟩|⟨x,t,rfl,rfl⟩
  ·exact wpAny_pyHash_int h
  ·exact wpAny_pyHash_str h
 eqBool:=λ hu hv h=>by
  rcases kL hu with⟨i,t,rfl,rfl⟩|⟨x,t,rfl,rfl⟩
  ·rcases kL hv with⟨j,u,rfl,rfl⟩|⟨y,u,rfl,rfl⟩
   ·rw[LV]at h;exact wpAny_eqBool_int h
   ·rw[LU]at h;exact SeqAt.EqAt.int_str i t y u _ _ _ _ h
  ·rcases kL hv with⟨j,u,rfl,rfl⟩|⟨y,u,rfl,rfl⟩
   ·rw[LS]at h;exact SeqAt.EqAt.str_int x t j u _ _ _ _ h
   ·rw[LR]at h;exact wpAny_eqBool_str h
 «strs»:=λ k x t v h=>by
  rcases kL h with⟨i,u,rfl,e⟩|⟨y,u,rfl,e⟩
  ·exact nomatch e
  ·injection e with e1 _
   subst e1
   cases v<;>rfl
theorem Ih(prog:Program)(w:World)(i:Int)(t:Tok):(gK prog w).is (.inl i) (.int i t)=true:=LX i t
theorem vT(prog:Program)(w:World)(x:Str)(t:Tok):(gK prog w).is (.inr x) (.str x t)=true:=LW x t
inductive V where
 |non|bl (b:Bool)|int (i:Int)|str (x:Str)|byt (b:Array UInt8)|flt (b:UInt64)|ref (a:Addr)|ty (n:String)
 deriving DecidableEq
noncomputable def bM:V->Value->Prop
 |.non,u=>u=Value.none
 |.bl b,u=>u=Value.bool b
 |.int i,u=>∃t,u=Value.int i t
 |.str x,u=>∃t,u=Value.str x t
 |.byt b,u=>∃t,u=Value.bytes b t
 |.flt b,u=>∃t,u=Value.float b t
 |.ref a,u=>u=Value.ref a
 |.ty n,u=>u=Value.type n
noncomputable abbrev aW:List V->List Value->Prop:=Paired bM
theorem aW.length{xs:List V}{us:List Value}(r:aW xs us):xs.length=us.length:=Paired.length r
theorem aW.get:∀{xs:List V} {us:List Value} {i:Nat} {x:V},aW xs us->xs[i]? =some x->∃u,us[i]? =some u/\bM x u
 |_,_,_,_,.nil,e=>by simp at e
 |_,_,0,_,.cons r _,e=>by simp at e;subst e;exact⟨_,rfl,r⟩
 |_,_,i+1,x,.cons _ t,e=>by
  obtain⟨u,h1,h2⟩:=aW.get (i:=i) (x:=x) t (by simpa using e)
  exact⟨u,by simpa using h1,h2⟩
theorem aW.set{x:V}{u:Value}(r:bM x u):∀{xs:List V} {us:List Value} (i:Nat),aW xs us->aW (xs.set i x) (us.set i u)
 |_,_,_,.nil=>.nil
 |_,_,0,.cons _ t=>.cons r t
 |_,_,i+1,.cons q t=>.cons q (aW.set r i t)
theorem aW.append:∀{xs ys:List V} {us ws:List Value},aW xs us->aW ys ws->aW (xs++ys) (us++ws)
 |_,_,_,_,.nil,s=>s
 |_,_,_,_,.cons r t,s=>.cons r (aW.append t s)
theorem aW.take:∀{xs:List V} {us:List Value} (n:Nat),aW xs us->aW (xs.take n) (us.take n)
 |_,_,0,_=>.nil
 |_,_,_+1,.nil=>.nil
 |_,_,n+1,.cons r t=>.cons r (aW.take n t)
theorem aW.drop:∀{xs:List V} {us:List Value} (n:Nat),aW xs us->aW (xs.drop n) (us.drop n)
 |_,_,0,r=>r
 |_,_,_+1,.nil=>.nil
 |_,_,n+1,.cons _ t=>aW.drop n t
noncomputable def Cz:Option V->Option Value->Prop
 |some v,some u=>bM v u
 |none,none=>True
 |_,_=>False
noncomputable def KV{κ:Type}:List (κ×V)->List (κ×Value)->Prop:=Paired λ (p:κ×V) (q:κ×Value)=>p.1=q.1/\bM p.2 q.2
noncomputable def kV:bP->V
 |.inl i=>.int i
 |.inr x=>.str x
inductive HO where
 |lst (xs:List V)
 |tup (xs:List V)
 |dK (kvs:List (bP×V))|dT (kvs:List (List bP×V))
 |set (S:Int->Bool) (n:Nat)
 |ins (C dx:Addr) (fs:List (Str×V))
 |own (x:Addr)
 |xd (fs:List (Str×V))
 |met (f x:Addr)
 |rng (lo hi:Int)
 |frz (o:Obj) (u:HO)
 |tbl (ps:Array Value)
 |ext (φ:Heap->Prop)
noncomputable abbrev Hp:=Addr->Option HO
noncomputable def aM(H:Hp)(a:Addr)(o:HO):Hp:=λ b=>if b=a then some o else H b
theorem dA{H:Hp}{a:Addr}{o:HO}:aM H a o a=some o:=by unfold aM;rw[if_pos rfl]
theorem aY{H:Hp}{a b:Addr}{o:HO}(h:b≠a):aM H a o b=H b:=by unfold aM;rw[if_neg h]
theorem Eh{H:Hp}{a:Addr}{o u:HO}:aM (aM H a o) a u=aM H a u:=by
 funext b;unfold aM;split<;>rfl
theorem fM{H:Hp}{a b:Addr}{o:HO}(h:H a=some o)(h':H b=none):a≠b:=by
 intro e;subst e;rw[h]at h';cases h'
section
variable(P:Program)(w:World)
noncomputable def dN(H:Hp)(h:Heap)(a:Addr):HO->Prop
 |.lst xs=>xs.length<=sizeLine/\∃(its:List Value) (n:Nat),aW xs its/\h.get? a=some {cls:=.type "list",data:=.seq its.toArray n}
 |.tup xs=>xs.length<=sizeLine/\∃its:List Value,aW xs its/\IsTup h a its.toArray/\∃o,h.get? a=some o/\o.dict=none
 |.dK kvs=>kvs.length<=sizeLine/\(a==sysModules)=false/\∃vs,KV kvs vs/\h.DictOf (gK P w) a vs
 | .dT kvs=>kvs.length<=sizeLine/\(a==sysModules)=false/\∃xs:List (List bP×Addr×Value),
   Paired (λ (p:List bP×V) (q:List bP×Addr×Value)=>p.1=q.1/\H q.2.1=some (.tup (p.1.map kV))/\bM p.2 q.2.2) kvs xs/\
   ∃o es ep,h.get? a=some o/\o.ExactDict/\o.data= .dict es ep/\es.toList=xs.map (entryOfKey (tupleKind (gK P w)))/\(xs.map (·.1)).Nodup
 |.set S n=>h.SetOf (intKind P w) a S n
 | .ins C dx fs=>H dx=some (.own a)/\fs.length<=1000/\dx≠a/\h.get? a=some (PySem.W.instObj C dx)/\
   ∃mA,h.Ns1 dx mA/\(∀f,Cz (fs.lookup f) (mA f))/\PySem.Within mA (fs.map (·.1))
 |.own _=>∃o,h.get? a=some o
 |.xd fs=>∃mA,h.Ns1 a mA/\∀f,Cz (fs.lookup f) (mA f)
 |.rng lo hi=>∃t u v,h.get? a=some {cls:=.type "range",data:=.fields #[.int lo t,.int hi u,.int 1 v]}
 |.frz o u=>h.get? a=some o/\dN H h a u
 |.tbl ps=>h.get? a=some {cls:=.none,data:=.fields ps}
 |.met f x=>h.get? a=some (PySem.W.methodObj (.ref f) (.ref x))
 |.ext φ=>φ h/\(∃o,h.get? a=some o)/\∀h1 h2:Heap,φ h1->(∀o,h1.get? a=some o->h2.get? a=some o)->φ h2
noncomputable def cU(H:Hp)(h:Heap):Prop:=∀a o,H a=some o->dN P w H h a o
end
section
variable{P:Program}{w:World}{H H':Hp}{h h':Heap}{a:Addr}{o:HO}
theorem dN.lt(x:dN P w H h a o):a<h.objs.size:=by
 cases o with
 |lst xs=>obtain⟨_,_,_,_,e⟩:=x;exact Heap.lt_size e
 |tup xs=>obtain⟨_,_,_,p,_⟩:=x;exact p.lt
 |dK kvs=>obtain⟨_,_,_,_,o,_,_,e,_⟩:=x;exact Heap.lt_size e
 |dT kvs=>obtain⟨_,_,_,_,o,_,_,e,_⟩:=x;exact Heap.lt_size e
 |set S n=>obtain⟨o,_,_,_,e,_⟩:=x;exact Heap.lt_size e
 |ins C dx fs=>obtain⟨_,_,_,e,_⟩:=x;exact Heap.lt_size e
 |own y=>obtain⟨_,e⟩:=x;exact Heap.lt_size e
 |xd fs=>obtain⟨_,⟨_,_,_,e,_⟩,_⟩:=x;exact Heap.lt_size e
 |rng lo hi=>obtain⟨_,_,_,e⟩:=x;exact Heap.lt_size e
 |frz ob u=>obtain⟨e,_⟩:=x;exact Heap.lt_size e
 |tbl ps=>exact Heap.lt_size (show h.get? a=some _ from x)
 |met f y=>exact Heap.lt_size (show h.get? a=some _ from x)
 |ext φ=>obtain⟨_,⟨_,e⟩,_⟩:=x;exact Heap.lt_size e
theorem Paired.mapP{α β:Type}{F G:α->β->Prop}:∀{l₁:List α} {l₂:List β},Paired F l₁ l₂->(∀a b,F a b->G a b)->Paired G l₁ l₂
 |_,_,.nil,_=>.nil
 |_,_,.cons r t,f=>.cons (f _ _ r) (Paired.mapP t f)
theorem dN.stay(x:dN P w H h a o)(k:∀b u,(b=a\/H b=some (.own a))->h.get? b=some u->h'.get? b=some u)
  (ho:∀b,H b=some (.own a)->H' b=some (.own a)) (ht:∀b xs,H b=some (.tup xs)->H' b=some (.tup xs)):dN P w H' h' a o:=by
 induction o with
 |lst xs=>obtain⟨z,its,n,r,e⟩:=x;exact⟨z,its,n,r,k _ _ (.inl rfl) e⟩
 |tup xs=>obtain⟨z,its,r,⟨ob,e,c⟩,od,e2,hd⟩:=x;exact⟨z,its,r,⟨ob,k _ _ (.inl rfl) e,c⟩,od,k _ _ (.inl rfl) e2,hd⟩
 |dK kvs=>obtain⟨z,y,vs,r,ob,es,ep,e,c⟩:=x;exact⟨z,y,vs,r,ob,es,ep,k _ _ (.inl rfl) e,c⟩
 |dT kvs=>
  obtain⟨z,y,xs,r,ob,es,ep,e,c⟩:=x
  exact⟨z,y,xs,Paired.mapP r λ p q z=>⟨z.1,ht _ _ z.2.1,z.2.2⟩,ob,es,ep,k _ _ (.inl rfl) e,c⟩
 |set S n=>obtain⟨ob,es,ep,t,e,c⟩:=x;exact⟨ob,es,ep,t,k _ _ (.inl rfl) e,c⟩
 |ins C dx fs=>
  obtain⟨d,z,ne,e,mA,⟨od,es,ep,e2,c⟩,r⟩:=x
  exact⟨ho _ d,z,ne,k _ _ (.inl rfl) e,mA,⟨od,es,ep,k _ _ (.inr d) e2,c⟩,r⟩
 |own y=>obtain⟨ob,e⟩:=x;exact⟨ob,k _ _ (.inl rfl) e⟩
 |xd fs=>obtain⟨mA,⟨od,es,ep,e,c⟩,r⟩:=x;exact⟨mA,⟨od,es,ep,k _ _ (.inl rfl) e,c⟩,r⟩
 |rng lo hi=>obtain⟨t,u,v,e⟩:=x;exact⟨t,u,v,k _ _ (.inl rfl) e⟩
 |frz ob u ih=>obtain⟨e,q⟩:=x;exact⟨k _ _ (.inl rfl) e,ih q⟩
 |tbl ps=>
  have e:h.get? a=some {cls:=.none,data:=.fields ps}:=x
  show h'.get? a=some {cls:=.none,data:=.fields ps}
  exact k a _ (.inl rfl) e
 |met f y=>
  have e:h.get? a=some (PySem.W.methodObj (.ref f) (.ref y)):=x
  show h'.get? a=some (PySem.W.methodObj (.ref f) (.ref y))
  exact k a _ (.inl rfl) e
 |ext φ=>obtain⟨p,⟨o,e⟩,st⟩:=x;exact⟨st _ _ p λ o q=>k _ _ (.inl rfl) q,⟨o,k _ _ (.inl rfl) e⟩,st⟩
theorem cU.lt(x:cU P w H h)(e:H a=some o):a<h.objs.size:=(x a o e).lt
theorem cU.fresh(x:cU P w H h)(e:h.objs.size<=a):H a=none:=by
 cases q:H a with
 |none=>rfl
 |some u=>exact absurd (Nat.lt_of_lt_of_le (x.lt q) e) (Nat.lt_irrefl _)
theorem cU.kept(x:cU P w H h)(k:∀b u,h.get? b=some u->h'.get? b=some u):cU P w H h':=λ a o e=>
 (x a o e).stay (λ b u _ q=>k b u q) (λ _ q=>q) λ _ _ q=>q
theorem cU.laid(x:cU P w H h)(k:∀b u,h.get? b=some u->h'.get? b=some u)(hp:h.objs.size<=a)(new:dN P w (aM H a o) h' a o):cU P w (aM H a o) h':=λ b u e=>by
 have hn:=x.fresh hp
 by_cases hb:b=a
 ·subst hb;rw[dA]at e;cases e;exact new
 ·rw[aY hb]at e
  exact(x b u e).stay (λ c v _ q=>k c v q) (λ c q=>by rw[aY (fM q hn)];exact q) λ c xs q=>by rw[aY (fM q hn)];exact q
end
noncomputable def Rd(H:Hp)(a:Addr)(u:HO):Prop:=H a=some u\/∃o,H a=some (.frz o u)
theorem Rd.ok{P:Program}{w:World}{H:Hp}{h:Heap}{a:Addr}{u:HO}(r:Rd H a u)(x:cU P w H h):dN P w H h a u:=by
 rcases r with r|⟨o,r⟩
 ·exact x a u r
 ·obtain⟨_,q⟩:=x a _ r
  exact q
noncomputable def mQ:Option HO->Prop
 |some (.lst _)=>True
 |some (.dK _)=>True
 |some (.dT _)=>True
 |some (.set _ _)=>True
 |some (.ins _ _ _)=>True
 |some (.ext _)=>True
 |_=>False
section
variable{P:Program}{w:World}{H:Hp}{h h':Heap}{x e:Addr}{o':HO}
theorem cU.write(ok:cU P w H h)(mu:mQ (H x))(he:e=x\/H e=some (.own x))(k:∀b u,b≠e->h.get? b=some u->h'.get? b=some u)(heo:∃u,h'.get? e=some u)
  (new:dN P w (aM H x o') h' x o'):cU P w (aM H x o') h':=λ b u q=>by
 have nown:∀c y,H c=some (.own y)->c≠x:=λ c y r z=>by subst z;rw[r]at mu;exact mu
 have ntup:∀c xs,H c=some (.tup xs)->c≠x:=λ c xs r z=>by subst z;rw[r]at mu;exact mu
 by_cases hb:b=x
 ·subst hb;rw[dA]at q;cases q;exact new
 ·rw[aY hb]at q
  by_cases hbe:b=e
  ·have q':H b=some (.own x):=by
    rcases he with z|z
    ·exact absurd (hbe.trans z) hb
    ·rw[hbe];exact z
   rw[q]at q';cases q'
   obtain⟨v,hv⟩:=heo
   exact⟨v,by rw[hbe];exact hv⟩
  ·refine(ok b u q).stay (λ c v hc r=>k c v ?_ r) (λ c r=>by rw[aY (nown c b r)];exact r) λ c xs r=>by rw[aY (ntup c xs r)];exact r
   rcases hc with rfl|hc
   ·exact hbe
   ·rintro rfl
    rcases he with z|z
    ·exact nown c b hc z
    ·rw[hc]at z;cases z;exact hb rfl
end
structure Un(fs ex:List Addr)(H H':Hp)(h h':Heap):Prop where
 keep:∀b o,h.get? b=some o->H b=none->b∉fs->b∉ex->h'.get? b=some o
 slot:∀b o,h.get? b=some o->H b=none->b∈fs->b∉ex->∃sl,h'.get? b=some {o with slots:=sl}
 free:∀b o,h.get? b=some o->H b=none->b∉ex->H' b=none
 there:∀b o,h.get? b=some o->b∉ex->∃o',h'.get? b=some o'
 tups:∀b xs,H b=some (.tup xs)->H' b=some (.tup xs)
 frzs:∀b o u,H b=some (.frz o u)->H' b=some (.frz o u)
 tbls:∀b ps,H b=some (.tbl ps)->∃more,H' b=some (.tbl (ps++more))
section
variable{fs fs' ex ex':List Addr}{H H1 H2:Hp}{h h1 h2 h':Heap}{a x e:Addr}{o:HO}
theorem Un.any(u:Un fs ex H H1 h h1){b:Addr}{ob:Obj}(q:h.get? b=some ob)(n:H b=none)(hx:b∉ex):∃sl,h1.get? b=some {ob with slots:=sl}:=by
 by_cases hb:b∈fs
 ·exact u.slot b ob q n hb hx
 ·exact⟨ob.slots,u.keep b ob q n hb hx⟩
theorem Un.kept(k:∀b u,h.get? b=some u->h'.get? b=some u):Un fs ex H H h h':=
 ⟨λ b ob q _ _ _=>k b ob q,λ b ob q _ _ _=>⟨ob.slots,k b ob q⟩,λ _ _ _ n _=>n,λ b ob q _=>⟨ob,k b ob q⟩,λ _ _ q=>q,λ _ _ _ q=>q,λ _ ps q=>⟨#[],by rw[q];simp⟩⟩
theorem Un.refl:Un fs ex H H h h:=Un.kept λ _ _ q=>q
theorem Un.laid(k:∀b u,h.get? b=some u->h'.get? b=some u)(hp:h.objs.size<=a)(hn:H a=none):Un fs ex H (aM H a o) h h' where
 keep:=λ b u q _ _ _=>k b u q
 slot:=λ b u q _ _ _=>⟨u.slots,k b u q⟩
 free:=λ b u q n _=>by rw[aY (Nat.ne_of_lt (Nat.lt_of_lt_of_le (Heap.lt_size q) hp))];exact n
 there:=λ b u q _=>⟨u,k b u q⟩
 tups:=λ b xs q=>by rw[aY (fM q hn)];exact q
 frzs:=λ b u xs q=>by rw[aY (fM q hn)];exact q
 tbls:=λ b ps q=>⟨#[],by rw[aY (fM q hn),q];simp⟩
theorem Un.write(mu:mQ (H x))(he:e=x\/H e=some (.own x))(k:∀b u,b≠e->h.get? b=some u->h'.get? b=some u)(heo:∃u,h'.get? e=some u):Un fs ex H (aM H x o) h h':=by
 have hx:∀b,H b=none->b≠x:=λ b n z=>by subst z;rw[n]at mu;exact mu
 have hb:∀b,H b=none->b≠e:=λ b n z=>by
  subst z
  rcases he with r|r
  ·exact hx b n r
  ·rw[n]at r;cases r
 have hm:∀b u,H b=some u->¬mQ (some u)->b≠x:=λ b u q nm z=>by subst z;rw[q]at mu;exact nm mu
 refine⟨λ b u q n _ _=>k b u (hb b n) q,λ b u q n _ _=>⟨u.slots,k b u (hb b n) q⟩,λ b u q n _=>by rw[aY (hx b n)];exact n,λ b u q _=>?_,
  λ b xs q=>by rw[aY (hm b _ q λ z=>z)];exact q,λ b u xs q=>by rw[aY (hm b _ q λ z=>z)];exact q,λ b ps q=>⟨#[],by rw[aY (hm b _ q λ z=>z),q];simp⟩⟩
 by_cases hbe:b=e
 ·subst hbe;exact heo
 ·exact⟨u,k b u hbe q⟩
end
noncomputable def uJ(h:Heap)(H:Hp):List Addr:=(List.range h.objs.size).filter λ a=>(H a).isSome
noncomputable def jS(h:Heap)(H:Hp):Heap:=PySem.W.hideAll h (uJ h H)
theorem NH(h:Heap)(H:Hp):(jS h H).objs.size=h.objs.size:=PySem.W.hideAll_size _ _
theorem NI{h:Heap}{H:Hp}{b:Addr}{o:Obj}(e:h.get? b=some o)(n:H b=none):(jS h H).get? b=some o:=
 PySem.W.hideAll_get _ e λ hm=>by
  have q:(H b).isSome=true:=(List.mem_filter.mp hm).2
  rw[n]at q;simp at q
theorem IE{h:Heap}{H:Hp}{b:Addr}{o:Obj}(e:(jS h H).get? b=some o):h.get? b=some o/\H b=none:=by
 have e':h.get? b=some o:=PySem.W.of_hideAll (uJ h H) e
 refine⟨e',?_⟩
 cases q:H b with
 |none=>rfl
 |some x=>
  have hm:b∈uJ h H:=List.mem_filter.mpr ⟨List.mem_range.mpr (Heap.lt_size e'),by simp[q]⟩
  have z:(jS h H).get? b=none:=PySem.W.hideAll_none (uJ h H) hm
  rw[z]at e;cases e
structure Mod(K:PySem.W.Frag)(mg:Str->Option Value)(base:Heap):Prop where
 kin:K.In base
 glob:base.Ns mainGlobals mg
 blt:∃mb,base.Ns builtinsNs mb/\∀x:Str,x≠ "__name__"->mb x=bootBuiltins x
 nolimit:base.NoLimit
structure Cx where
 prog:Program
 w:World
 K:PySem.W.Frag
 mg:Str->Option Value
 base:Heap
 A:Around
 N:List Str
 s₀:Shared
 H₀:Hp
 env:Env
 outer:List Env
 stack:List Env
 ex:List Addr
 fn:Str->Bool
 calm:Bool
 pn:List (Addr×Obj)
 xe:Value->Shared->Prop
noncomputable def cV(l:List Env):List Addr:=l.filterMap (·.frame)
noncomputable abbrev Cx.fs(X:Cx):List Addr:=cV X.outer
noncomputable def xO(sc:Scope)(x:Str):Prop:=sc.names.lookup x=some .local\/sc.names.lookup x=some .cell\/sc.names.lookup x=some .free
noncomputable def pX(sc:Scope)(x:Str):Prop:=sc.names.lookup x=some .local\/sc.names.lookup x=some .cell
noncomputable def z9(env:Env)(h:Heap)(m:Str->Option Value)(x:Str)(u:Value):Prop:=
 (env.kindOf x=some .local/\m x=some u)\/((env.kindOf x=some .cell\/env.kindOf x=some .free)/\∃c,env.cells.lookup x=some c/\h.IsCell c (some u))
structure Cx.Ok(X:Cx):Prop where
 mod:Mod X.K X.mg X.base
 kind:X.env.scope.kind= .function
 glob:X.env.globals=mainGlobals
 blt:X.env.builtins=builtinsNs
 above:X.s₀.heap.objs.size<=X.env.locals
 inj:∀x y c,X.env.cells.lookup x=some c->X.env.cells.lookup y=some c->x=y
 has:∀x,(X.env.kindOf x=some .cell\/X.env.kindOf x=some .free)->∃c,X.env.cells.lookup x=some c
 cab:∀x c,X.fn x=true->X.env.cells.lookup x=some c->X.s₀.heap.objs.size<=c
 hd:X.calm=true->X.A.handled=none
 frames:X.A.frames=some X.stack
 stk:X.stack=X.outer\/(X.stack=X.env::X.outer/\X.env.frame=some X.env.locals)
 exf:∀b∈X.ex,b≠X.env.locals/\∀x c,X.env.cells.lookup x=some c->c≠b
 bs:∀b o,X.base.get? b=some o->X.s₀.heap.get? b=some o/\X.H₀ b=none
 bsz:X.base.objs.size<=X.s₀.heap.objs.size
 noex:∀b o,X.base.get? b=some o->b∉X.ex
 exfs:∀b∈X.ex,b∉X.fs
 funs:X.s₀.heap.FunFrames X.base X.outer
 frf:∀b∈X.fs,X.H₀ b=none
noncomputable def eK(g₀ g:Array GenState):Prop:=AllBare g/\g₀.size<=g.size
structure aE(X:Cx)(pins:List (Addr×Obj))(σ:List (Option V))(H:Hp)(s:Shared):Prop where
 ok:X.Ok
 os:s.os=X.s₀.os
 bare:eK X.s₀.gens s.gens
 base:Un X.fs X.ex X.H₀ H X.s₀.heap s.heap
 loc:∃m,s.heap.Ns X.env.locals m/\∀(i:Nat) (x:Str) (v:V),X.N[i]? =some x->σ[i]? =some (some v)->xO X.env.scope x->∃u,bM v u/\z9 X.env s.heap m x u
 cell:∀x c,X.env.cells.lookup x=some c->∃v,s.heap.IsCell c v
 free:H X.env.locals=none
 freeC:∀x c,X.env.cells.lookup x=some c->H c=none
 pin:∀p∈X.pn++pins,s.heap.get? p.1=some p.2/\H p.1=none/\p.1≠X.env.locals/\p.1∉X.fs/\∀v,p.2.data≠ .cell v
 hok:cU X.prog X.w H s.heap
 len:σ.length=X.N.length
section
variable{X:Cx}{pins:List (Addr×Obj)}{σ:List (Option V)}{H H':Hp}{s:Shared}{h':Heap}
theorem Cx.Ok.nofr(ok:X.Ok){b:Addr}{o:Obj}(e:X.base.get? b=some o):b∉X.fs:=λ hb=>by
 have:=(ok.funs.mem hb).1
 rw[e]at this;cases this
theorem aE.bs(I:aE X pins σ H s):∀b o,X.base.get? b=some o->s.heap.get? b=some o/\H b=none:=λ b o e=>
 ⟨I.base.keep b o (I.ok.bs b o e).1 (I.ok.bs b o e).2 (I.ok.nofr e) (I.ok.noex b o e),I.base.free b o (I.ok.bs b o e).1 (I.ok.bs b o e).2 (I.ok.noex b o e)⟩
theorem aE.bk(I:aE X pins σ H s):∀b o,X.base.get? b=some o->s.heap.get? b=some o:=λ b o e=>(I.bs b o e).1
theorem aE.mod(I:aE X pins σ H s):Mod X.K X.mg X.base:=I.ok.mod
theorem aE.kIn(I:aE X pins σ H s):X.K.In s.heap:=I.ok.mod.kin.keeps I.bk
theorem aE.nolimit(I:aE X pins σ H s):s.heap.NoLimit:=I.ok.mod.nolimit.keeps I.bk
theorem aE.lt(I:aE X pins σ H s):X.env.locals<s.heap.objs.size:=let⟨_,hn,_⟩:=I.loc;hn.lt
theorem aE.sz(I:aE X pins σ H s):X.s₀.heap.objs.size<=s.heap.objs.size:=Nat.le_trans I.ok.above (Nat.le_of_lt I.lt)
theorem aE.nofs(I:aE X pins σ H s){a:Addr}(h:s.heap.objs.size<=a):a∉X.fs:=λ hb=>by
 obtain⟨_,o,ho,_⟩:=I.ok.funs.mem hb
 exact absurd (Nat.lt_of_lt_of_le (Heap.lt_size ho) (Nat.le_trans I.sz h)) (Nat.lt_irrefl _)
theorem aE.cne(I:aE X pins σ H s):∀x c,X.env.cells.lookup x=some c->c≠X.env.locals:=λ x c e z=>by
 obtain⟨v,o,ho,hd⟩:=I.cell x c e
 obtain⟨m,⟨o',es,ep,ho',hd',_⟩,_⟩:=I.loc
 rw[z,ho']at ho;cases ho;rw[hd']at hd;cases hd
theorem aE.funs(I:aE X pins σ H s):s.heap.FunFrames X.base X.outer:=by
 have all:∀(l:List Env),(∀b∈cV l,b∈X.fs)->X.s₀.heap.FunFrames X.base l->s.heap.FunFrames X.base l:=by
  intro l
  induction l with
  |nil=>intro _ _;trivial
  |cons env r ih=>
   intro hs hl
   obtain⟨hk,⟨L,o,hf,hn,ho,hd⟩,hr⟩:=hl
   have hL:L∈X.fs:=hs L (by unfold cV;rw[List.filterMap_cons,hf];exact List.mem_cons_self)
   obtain⟨sl,e⟩:=I.base.slot L o ho (I.ok.frf L hL) hL λ z=>I.ok.exfs L z hL
   exact⟨hk,⟨L,_,hf,hn,e,hd⟩,ih (λ b hb=>hs b (by unfold cV;rw[List.filterMap_cons,hf];exact List.mem_cons_of_mem _ hb)) hr⟩
 exact all X.outer (λ _ hb=>hb) I.ok.funs
theorem aE.stack(I:aE X pins σ H s):s.heap.FunFrames X.base X.stack:=by
 rcases I.ok.stk with e|⟨e,hf⟩
 ·rw[e];exact I.funs
 ·rw[e]
  obtain⟨m,hn,_⟩:=I.loc
  refine .cons (by rw[I.ok.kind];decide) hf hn ?_ I.funs
  exact Heap.get?_none_of_le (Nat.le_trans I.ok.bsz I.ok.above)
theorem aE.stkSub(I:aE X pins σ H s):∀b∈cV X.stack,b∈X.env.locals::X.fs:=λ b hb=>by
 rcases I.ok.stk with e|⟨e,hf⟩
 ·rw[e]at hb;exact List.mem_cons_of_mem _ hb
 ·rw[e]at hb
  unfold cV at hb
  rw[List.filterMap_cons,hf]at hb
  exact hb
theorem aE.stkFree(I:aE X pins σ H s):∀b∈cV X.stack,H b=none:=λ b hb=>by
 rcases List.mem_cons.mp (I.stkSub b hb)with e|hb
 ·rw[e];exact I.free
 ·obtain⟨_,o,ho,_⟩:=I.ok.funs.mem hb
  exact I.base.free b o ho (I.ok.frf b hb) λ z=>I.ok.exfs b z hb
theorem aE.step{g':Array GenState}{t':Nat}{d':Drawn}{ch:List Addr}(I:aE X pins σ H s)
  (hch:∀b∈ch,(b∈X.ex\/X.s₀.heap.objs.size<=b)/\b≠X.env.locals/\(∀x c,X.env.cells.lookup x=some c->c≠b)/\∀p∈X.pn++pins,p.1≠b)
  (keep:∀b o,b≠X.env.locals->b∉X.fs->b∉ch->s.heap.get? b=some o->H b=none->h'.get? b=some o)
  (slot:∀b o,b≠X.env.locals->b∈X.fs->b∉ch->s.heap.get? b=some o->H b=none->∃sl,h'.get? b=some {o with slots:=sl}) (free:∀b o,b∉ch->s.heap.get? b=some o->H b=none->H' b=none)
  (there:∀b o,b∉ch->s.heap.get? b=some o->∃o',h'.get? b=some o')
  (tups:∀b xs,H b=some (.tup xs)->H' b=some (.tup xs)) (frzs:∀b o u,H b=some (.frz o u)->H' b=some (.frz o u)) (tbls:∀b ps,H b=some (.tbl ps)->∃more,H' b=some (.tbl (ps++more)))
  (ns:∀m,s.heap.Ns X.env.locals m->h'.Ns X.env.locals m) (hok:cU X.prog X.w H' h') (hg:eK s.gens g'):
  aE X pins σ H' {s with heap:=h',gens:=g',drawn:=d',toks:=t'}:=by
 have neL:∀b o,X.s₀.heap.get? b=some o->b≠X.env.locals:=λ b o e=>Nat.ne_of_lt (Nat.lt_of_lt_of_le (Heap.lt_size e) I.ok.above)
 have neC:∀b o,X.s₀.heap.get? b=some o->b∉X.ex->b∉ch:=λ b o e hx hb=>by
  rcases(hch b hb).1 with z|z
  ·exact hx z
  ·exact absurd (Nat.lt_of_lt_of_le (Heap.lt_size e) z) (Nat.lt_irrefl _)
 have cellK:∀x c,X.env.cells.lookup x=some c->∀v,s.heap.IsCell c v->h'.IsCell c v:=λ x c e v ⟨o,ho,hd⟩=>by
  have nch:c∉ch:=λ z=>(hch c z).2.2.1 x c e rfl
  by_cases hc:c∈X.fs
  ·obtain⟨sl,q⟩:=slot c o (I.cne x c e) hc nch ho (I.freeC x c e)
   exact⟨_,q,hd⟩
  ·exact⟨o,keep c o (I.cne x c e) hc nch ho (I.freeC x c e),hd⟩
 refine⟨I.ok,I.os,⟨hg.1,Nat.le_trans I.bare.2 hg.2⟩,⟨λ b o e n hb hx=>?_,λ b o e n hb hx=>?_,λ b o e n hx=>?_,λ b o e hx=>?_,λ b xs e=>tups b xs (I.base.tups b xs e),λ b o xs e=>frzs b o xs (I.base.frzs b o xs e),λ b ps e=>?_⟩,?_,λ x c e=>?_,?_,λ x c e=>?_,λ p hp=>?_,hok,I.len⟩
 ·exact keep b o (neL b o e) hb (neC b o e hx) (I.base.keep b o e n hb hx) (I.base.free b o e n hx)
 ·obtain⟨sl,e1⟩:=I.base.slot b o e n hb hx
  obtain⟨sl',e2⟩:=slot b _ (neL b o e) hb (neC b o e hx) e1 (I.base.free b o e n hx)
  exact⟨sl',e2⟩
 ·obtain⟨o',e1⟩:=I.base.there b o e hx
  exact free b o' (neC b o e hx) e1 (I.base.free b o e n hx)
 ·obtain⟨o',e1⟩:=I.base.there b o e hx
  exact there b o' (neC b o e hx) e1
 ·obtain⟨m1,e1⟩:=I.base.tbls b ps e
  obtain⟨m2,e2⟩:=tbls b _ e1
  exact⟨m1++m2,by rw[e2,Array.append_assoc]⟩
 ·obtain⟨m,hn,hl⟩:=I.loc
  refine⟨m,ns m hn,λ i x v e1 e2 e3=>?_⟩
  obtain⟨u,r,l⟩:=hl i x v e1 e2 e3
  refine⟨u,r,?_⟩
  rcases l with l|⟨k,c,e,z⟩
  ·exact .inl l
  ·exact .inr ⟨k,c,e,cellK x c e _ z⟩
 ·obtain⟨v,z⟩:=I.cell x c e
  exact⟨v,cellK x c e v z⟩
 ·obtain⟨m,⟨o,_,_,ho,_⟩,_⟩:=I.loc
  exact free _ o (λ z=>(hch _ z).2.1 rfl) ho I.free
 ·obtain⟨v,o,ho,hd⟩:=I.cell x c e
  exact free c o (λ z=>(hch c z).2.2.1 x c e rfl) ho (I.freeC x c e)
 ·obtain⟨e,n,ne,nf,d⟩:=I.pin p hp
  have nch:p.1∉ch:=λ z=>(hch p.1 z).2.2.2 p hp rfl
  exact⟨keep p.1 p.2 ne nf nch e n,free p.1 p.2 nch e n,ne,nf,d⟩
theorem aE.un{t':Nat}(I:aE X pins σ H s)(u:Un X.fs [] H H' s.heap h')(hok:cU X.prog X.w H' h'):aE X pins σ H' {s with heap:=h',toks:=t'}:=by
 obtain⟨m,⟨o,es,ep,ho,r⟩,_⟩:=id I.loc
 obtain⟨sl,hL⟩:=u.any ho I.free Qb
 exact I.step (g':=s.gens) (d':=s.drawn) (ch:=[]) (λ _ z=>nomatch z) (λ b o _ hb _ e n=>u.keep b o e n hb Qb) (λ b o _ hb _ e n=>u.slot b o e n hb Qb) (λ b o _ e n=>u.free b o e n Qb) (λ b o _ e=>u.there b o e Qb) u.tups u.frzs u.tbls (λ m' hm=>by
  obtain⟨o',es',ep',ho',r'⟩:=hm
  rw[ho]at ho';cases ho'
  exact⟨_,es',ep',hL,r'⟩) hok ⟨I.bare.1,Nat.le_refl _⟩
theorem aE.call{g':Array GenState}{t':Nat}{d':Drawn}{ch:List Addr}(I:aE X pins σ H s)(u:Un (cV X.stack) ch H H' s.heap h')(hok:cU X.prog X.w H' h')(hg:eK s.gens g')
  (hch:∀b∈ch,(b∈X.ex\/X.s₀.heap.objs.size<=b)/\b≠X.env.locals/\(∀x c,X.env.cells.lookup x=some c->c≠b)/\∀p∈X.pn++pins,p.1≠b):
  aE X pins σ H' {s with heap:=h',gens:=g',drawn:=d',toks:=t'}:=by
 obtain⟨m,⟨o,es,ep,ho,r⟩,_⟩:=id I.loc
 obtain⟨sl,hL⟩:=u.any ho I.free λ z=>(hch _ z).2.1 rfl
 exact I.step (ch:=ch) hch (λ b o hL hb hc e n=>u.keep b o e n (λ z=>(List.mem_cons.mp (I.stkSub b z)).elim hL hb) hc) (λ b o _ _ hc e n=>u.any e n hc) (λ b o hc e n=>u.free b o e n hc) (λ b o hc e=>u.there b o e hc) u.tups u.frzs u.tbls (λ m' hm=>by
  obtain⟨o',es',ep',ho',r'⟩:=hm
  rw[ho]at ho';cases ho'
  exact⟨_,es',ep',hL,r'⟩) hok hg
theorem aE.turned{t':Nat}{it:Addr}(I:aE X pins σ H s)(k:∀b o,b≠it->s.heap.get? b=some o->h'.get? b=some o)(hn:H it=none)(hL:it≠X.env.locals)
  (h1:it∈X.ex\/X.s₀.heap.objs.size<=it) (h2:∀x c,X.env.cells.lookup x=some c->c≠it) (h3:∀p∈X.pn++pins,p.1≠it):aE X pins σ H {s with heap:=h',toks:=t'}:=by
 have nit:∀b u,H b=some u->b≠it:=λ b u e z=>by rw[z,hn]at e;cases e
 refine I.step (g':=s.gens) (d':=s.drawn) (ch:=[it]) (λ b hb=>?_) (λ b o _ _ hc e _=>k b o (λ z=>hc (by simp[z])) e) (λ b o _ _ hc e _=>⟨o.slots,k b o (λ z=>hc (by simp[z])) e⟩) (λ _ _ _ _ n=>n)
  (λ b o hc e=>⟨o,k b o (λ z=>hc (by simp[z])) e⟩) (λ _ _ e=>e) (λ _ _ _ e=>e) (λ b ps e=>⟨#[],by rw[e];simp⟩) (λ m hm=>?_) (λ b u e=>?_) ⟨I.bare.1,Nat.le_refl _⟩
 ·have e:b=it:=by simpa using hb
  subst e
  exact⟨h1,hL,h2,h3⟩
 ·obtain⟨o,es,ep,ho,r⟩:=hm
  exact⟨o,es,ep,k _ o (Ne.symm hL) ho,r⟩
 ·refine(I.hok b u e).stay (λ c v hc q=>k c v ?_ q) (λ _ q=>q) λ _ _ q=>q
  rcases hc with z|z
  ·rw[z];exact nit b u e
  ·exact nit c _ z
theorem aE.tok(I:aE X pins σ H s)(t:Nat):aE X pins σ H {s with toks:=t}:=I.un (h':=s.heap) (t':=t) Un.refl I.hok
theorem aE.kept{t':Nat}(I:aE X pins σ H s)(k:∀b u,s.heap.get? b=some u->h'.get? b=some u):aE X pins σ H {s with heap:=h',toks:=t'}:=I.un (Un.kept k) (I.hok.kept k)
theorem aE.laid{a:Addr}{o:HO}{t':Nat}(I:aE X pins σ H s)(k:∀b u,s.heap.get? b=some u->h'.get? b=some u)(hp:s.heap.objs.size<=a)(new:dN X.prog X.w (aM H a o) h' a o):
  aE X pins σ (aM H a o) {s with heap:=h',toks:=t'}:=I.un (Un.laid k hp (I.hok.fresh hp)) (I.hok.laid k hp new)
theorem aE.write{x e:Addr}{o:HO}{t':Nat}(I:aE X pins σ H s)(mu:mQ (H x))(he:e=x\/H e=some (.own x))(k:∀b u,b≠e->s.heap.get? b=some u->h'.get? b=some u)(heo:∃u,h'.get? e=some u)
  (new:dN X.prog X.w (aM H x o) h' x o):aE X pins σ (aM H x o) {s with heap:=h',toks:=t'}:=I.un (Un.write mu he k heo) (I.hok.write mu he k heo new)
theorem aE.weak{σ':List (Option V)}(I:aE X pins σ H s)(hl:σ'.length=σ.length)(w:∀(i:Nat) v,σ'[i]? =some (some v)->σ[i]? =some (some v)):aE X pins σ' H s:=
 ⟨I.ok,I.os,I.bare,I.base,let⟨m,hn,hl'⟩:=I.loc;⟨m,hn,λ i x v e1 e2 e3=>hl' i x v e1 (w i v e2) e3⟩,I.cell,I.free,I.freeC,I.pin,I.hok,hl.trans I.len⟩
theorem aE.pins_of{pins':List (Addr×Obj)}(I:aE X pins σ H s)(h:∀p∈pins',s.heap.get? p.1=some p.2/\H p.1=none/\p.1≠X.env.locals/\p.1∉X.fs/\∀v,p.2.data≠ .cell v):aE X pins' σ H s:=
 ⟨I.ok,I.os,I.bare,I.base,I.loc,I.cell,I.free,I.freeC,λ p hp=>(List.mem_append.mp hp).elim (λ z=>I.pin p (List.mem_append_left _ z)) (h p),I.hok,I.len⟩
theorem Hv{N:List Str}(hN:N.Nodup){i j:Nat}{x:Str}(a:N[i]? =some x)(b:N[j]? =some x):i=j:=by
 obtain⟨h1,e1⟩:=List.getElem?_eq_some_iff.mp a
 obtain⟨h2,e2⟩:=List.getElem?_eq_some_iff.mp b
 exact(List.getElem_inj hN).mp (e1.trans e2.symm)
theorem Fe{M:Model}{A:Around}{E:Qd}{i:Nat}{x:Str}{v:V}{u:Value}{Q:Unit->Shared->Prop}(I:aE X pins σ H s)(hN:X.N.Nodup)(hi:X.N[i]? =some x)(hx:pX X.env.scope x)(r:bM v u)
  (h:∀s',aE X pins (σ.set i (some v)) H s'->(∃a,Heap.SameBut a s.heap s'.heap/\(a=X.env.locals\/X.env.cells.lookup x=some a))->Q () s') (hf:X.fn x=true\/X.env.scope.names.lookup x=some .local:=by first|exact .inl rfl|exact .inr rfl|assumption):wpAny M A (storeName X.env x u) Q E s:=by
 obtain⟨m,hn,hl⟩:=id I.loc
 have hcls:(X.env.scope.kind== .class||(X.env.scope.kind== .module&&X.env.locals !=X.env.globals))=false:=by rw[I.ok.kind];rfl
 have hiσ:i<σ.length:=by rw[I.len];exact(List.getElem?_eq_some_iff.mp hi).1
 have cne:=I.cne
 have tracked:∀{a:Addr} {h':Heap},(∃o,s.heap.get? a=some o/\H a=none)->Heap.SameBut a s.heap h'->cU X.prog X.w H h':=fun{a h'} ha hs b ob e=>by
  obtain⟨_,_,hfree⟩:=ha
  refine(I.hok b ob e).stay (λ c w' hc q=>(hs.2 c ?_).trans q) (λ _ q=>q) λ _ _ q=>q
  rintro rfl
  rcases hc with rfl|hc
  ·rw[hfree]at e;cases e
  ·rw[hfree]at hc;cases hc
 rcases hx with hk|hk
 ·refine wpAny_storeName_local hk hn (λ h' hn' hs=>?_) hcls
  obtain⟨oL,_,_,hoL,_⟩:=id hn
  refine h _ ⟨I.ok,I.os,I.bare,⟨λ b o e n hb hx=>?_,λ b o e n hb hx=>?_,I.base.free,λ b o e hx=>?_,I.base.tups,I.base.frzs,I.base.tbls⟩,⟨_,hn',λ j y v' e1 e2 e3=>?_⟩,λ y c e=>?_,I.free,I.freeC,λ p hp=>?_,tracked ⟨oL,hoL,I.free⟩ hs,by simpa using I.len⟩ ⟨_,hs,.inl rfl⟩
  ·exact(hs.2 b (Nat.ne_of_lt (Nat.lt_of_lt_of_le (Heap.lt_size e) I.ok.above))).trans (I.base.keep b o e n hb hx)
  ·obtain⟨sl,e1⟩:=I.base.slot b o e n hb hx
   exact⟨sl,(hs.2 b (Nat.ne_of_lt (Nat.lt_of_lt_of_le (Heap.lt_size e) I.ok.above))).trans e1⟩
  ·obtain⟨o',e1⟩:=I.base.there b o e hx
   exact⟨o',(hs.2 b (Nat.ne_of_lt (Nat.lt_of_lt_of_le (Heap.lt_size e) I.ok.above))).trans e1⟩
  ·by_cases hj:j=i
   ·subst hj
    rw[hi]at e1;cases e1
    rw[List.getElem?_set_self hiσ]at e2
    cases e2
    exact⟨u,r,.inl ⟨hk,Qb⟩⟩
   ·rw[List.getElem?_set_ne (Ne.symm hj)]at e2
    obtain⟨u',r',q⟩:=hl j y v' e1 e2 e3
    refine⟨u',r',?_⟩
    rcases q with⟨k,e⟩|⟨k,c,e,z⟩
    ·refine .inl ⟨k,?_⟩
     have:y≠x:=λ e=>hj (Hv hN e1 (e▸hi))
     simp[this,e]
    ·exact .inr ⟨k,c,e,z.sameBut hs (cne y c e)⟩
  ·obtain⟨w',z⟩:=I.cell y c e
   exact⟨w',z.sameBut hs (cne y c e)⟩
  ·obtain⟨e,n,ne,nf,d⟩:=I.pin p hp
   exact⟨(hs.2 p.1 ne).trans e,n,ne,nf,d⟩
 ·have hfn:X.fn x=true:=by
   rcases hf with z|z
   ·exact z
   ·rw[z]at hk;cases hk
  obtain⟨c,hc⟩:=I.ok.has x (.inl hk)
  obtain⟨w',z⟩:=I.cell x c hc
  refine wpAny_storeName_cell I.ok.kind hk hc z (λ h' hc' hs=>?_)
  obtain⟨oc,hoc,hocd⟩:=id z
  refine h {s with heap:=h'} ⟨I.ok,I.os,I.bare,⟨λ b o e n hb hx=>?_,λ b o e n hb hx=>?_,I.base.free,λ b o e hx=>?_,I.base.tups,I.base.frzs,I.base.tbls⟩,⟨m,hn.sameBut hs (Ne.symm (cne x c hc)),λ j y v' e1 e2 e3=>?_⟩,λ y c' e=>?_,I.free,I.freeC,λ p hp=>?_,tracked ⟨oc,hoc,I.freeC x c hc⟩ hs,by simpa using I.len⟩ ⟨c,hs,.inr hc⟩
  ·exact(hs.2 b (Nat.ne_of_lt (Nat.lt_of_lt_of_le (Heap.lt_size e) (I.ok.cab x c hfn hc)))).trans (I.base.keep b o e n hb hx)
  ·obtain⟨sl,e1⟩:=I.base.slot b o e n hb hx
   exact⟨sl,(hs.2 b (Nat.ne_of_lt (Nat.lt_of_lt_of_le (Heap.lt_size e) (I.ok.cab x c hfn hc)))).trans e1⟩
  ·obtain⟨o',e1⟩:=I.base.there b o e hx
   exact⟨o',(hs.2 b (Nat.ne_of_lt (Nat.lt_of_lt_of_le (Heap.lt_size e) (I.ok.cab x c hfn hc)))).trans e1⟩
  ·by_cases hj:j=i
   ·subst hj
    rw[hi]at e1;cases e1
    rw[List.getElem?_set_self hiσ]at e2
    cases e2
    exact⟨u,r,.inr ⟨.inl hk,c,hc,hc'⟩⟩
   ·rw[List.getElem?_set_ne (Ne.symm hj)]at e2
    obtain⟨u',r',q⟩:=hl j y v' e1 e2 e3
    refine⟨u',r',?_⟩
    rcases q with q|⟨k,c',e,z'⟩
    ·exact .inl q
    ·refine .inr ⟨k,c',e,z'.sameBut hs ?_⟩
     rintro rfl
     exact hj (Hv hN e1 (I.ok.inj _ _ _ e hc▸hi))
  ·by_cases hcc:c'=c
   ·subst hcc;exact⟨_,hc'⟩
   ·obtain⟨w2,z2⟩:=I.cell y c' e
    exact⟨w2,z2.sameBut hs hcc⟩
  ·obtain⟨e,n,ne,nf,d⟩:=I.pin p hp
   refine⟨(hs.2 p.1 ?_).trans e,n,ne,nf,d⟩
   intro q
   rw[q,hoc]at e
   have q':oc=p.2:=Option.some.inj e
   exact d w' (by rw[<-q'];exact hocd)
theorem Ff{M:Model}{A:Around}{E:Qd}{i:Nat}{x:Str}{v:V}{u:Value}{Q:Unit->Shared->Prop}(I:aE X pins σ H s)(hN:X.N.Nodup)(hi:X.N[i]? =some x)(hx:pX X.env.scope x)(r:bM v u)
  (h:∀s',aE X pins (σ.set i (some v)) H s'->Q () s') (hf:X.fn x=true\/X.env.scope.names.lookup x=some .local:=by first|exact .inl rfl|exact .inr rfl|assumption):wpAny M A (storeName X.env x u) Q E s:=
 Fe I hN hi hx r (λ s' I' _=>h s' I') hf
theorem aE.call'{s':Shared}{ch:List Addr}(I:aE X pins σ H s)(ho:s'.os=s.os)(u:Un (cV X.stack) ch H H' s.heap s'.heap)(hok:cU X.prog X.w H' s'.heap)(hg:eK s.gens s'.gens)
  (hch:∀b∈ch,(b∈X.ex\/X.s₀.heap.objs.size<=b)/\b≠X.env.locals/\(∀x c,X.env.cells.lookup x=some c->c≠b)/\∀p∈X.pn++pins,p.1≠b):aE X pins σ H' s':=by
 obtain⟨h',g',d',t',o'⟩:=s'
 have e:o'=s.os:=ho
 subst e
 exact I.call (g':=g') (t':=t') (d':=d') u hok hg hch
end
noncomputable abbrev XK:=Value->Option Addr->Hp->Prop
noncomputable abbrev St:=List (Option V)
noncomputable abbrev VK:=V->Hp->Prop
noncomputable abbrev TE:=St->Hp->VK->Prop
noncomputable abbrev TT:=St->Hp->(Bool->Hp->Prop)->Prop
noncomputable abbrev TA:=St->Hp->(List V->Hp->Prop)->Prop
structure jZ where
 nx:St->Hp->Prop
 rt:VK
 bk:St->Hp->Prop:=λ _ _=>False
 ct:St->Hp->Prop:=λ _ _=>False
noncomputable abbrev TS:=jZ->St->Hp->Prop
noncomputable def EP(X:Cx)(pins:List (Addr×Obj))(σ:St)(Q:VK)(u:Value)(s':Shared):Prop:=∃v H',aE X pins σ H' s'/\bM v u/\Q v H'
noncomputable def TP(X:Cx)(pins:List (Addr×Obj))(σ:St)(Q:Bool->Hp->Prop)(b:Bool)(s':Shared):Prop:=∃H',aE X pins σ H' s'/\Q b H'
noncomputable def AP(X:Cx)(pins:List (Addr×Obj))(σ:St)(Q:List V->Hp->Prop)(us:List Value)(s':Shared):Prop:=∃vs H',aE X pins σ H' s'/\aW vs us/\Q vs H'
noncomputable def SP(X:Cx)(pins:List (Addr×Obj))(D:jZ)(f:Flow)(s':Shared):Prop:=
 match f with
 |.next=>∃σ' H',aE X pins σ' H' s'/\D.nx σ' H'
 |.brk=>∃σ' H',aE X pins σ' H' s'/\D.bk σ' H'
 |.cont=>∃σ' H',aE X pins σ' H' s'/\D.ct σ' H'
 |.ret u=>∃v σ' H',aE X pins σ' H' s'/\bM v u/\D.rt v H'
noncomputable def PE(X:Cx)(e:Expr)(t:TE):Prop:=
 ∀(pins:List (Addr×Obj)) (s:Shared) (σ:St) (H:Hp) (Q:VK),aE X pins σ H s->t σ H Q->wpAny (model X.prog X.w) X.A (eval e X.env) (EP X pins σ Q) X.xe s
noncomputable def PT(X:Cx)(e:Expr)(t:TT):Prop:=
 ∀(pins:List (Addr×Obj)) (s:Shared) (σ:St) (H:Hp) (Q:Bool->Hp->Prop),aE X pins σ H s->t σ H Q->wpAny (model X.prog X.w) X.A (isTrue e X.env (eval e X.env)) (TP X pins σ Q) X.xe s
noncomputable def PW(X:Cx)(e:Expr)(t:TT):Prop:=
 ∀(whole:Sem Value) (pins:List (Addr×Obj)) (s:Shared) (σ:St) (H:Hp) (Q:Bool->Hp->Prop),aE X pins σ H s->t σ H Q->wpAny (model X.prog X.w) X.A (isTrue e X.env whole) (TP X pins σ Q) X.xe s
theorem PW.pt{X:Cx}{e:Expr}{t:TT}(h:PW X e t):PT X e t:=h _
noncomputable def PA(X:Cx)(es:List Expr)(t:TA):Prop:=
 ∀(pos:Pos) (pins:List (Addr×Obj)) (s:Shared) (σ:St) (H:Hp) (Q:List V->Hp->Prop),aE X pins σ H s->t σ H Q->wpAny (model X.prog X.w) X.A (spliced (backTo pos (starEach es X.env))) (AP X pins σ Q) X.xe s
noncomputable def PS(X:Cx)(st:Stmt)(t:TS):Prop:=
 ∀(pins:List (Addr×Obj)) (s:Shared) (σ:St) (H:Hp) (D:jZ),aE X pins σ H s->t D σ H->wpAny (model X.prog X.w) X.A (exec st X.env) (SP X pins D) X.xe s
noncomputable def eB(X:Cx)(st:List Stmt)(t:TS):Prop:=
 ∀(pins:List (Addr×Obj)) (s:Shared) (σ:St) (H:Hp) (D:jZ),aE X pins σ H s->t D σ H->wpAny (model X.prog X.w) X.A (execs st X.env) (SP X pins D) X.xe s
theorem aT{α:Type}{t:Sem α}{Q Q':α->Shared->Prop}{M:Model}{A:Around}{E:Qd}{s:Shared}(h:wpAny M A t Q E s)(hQ:∀a s,Q a s->Q' a s):wpAny M A t Q' E s:=wpAny_mono h hQ λ _ _ x=>x
section
variable{X:Cx}
noncomputable def Tq(i:Nat):TE:=λ σ H Q=>∃v,σ[i]? =some (some v)/\Q v H
noncomputable def tC(v:V):TE:=λ _ H Q=>Q v H
theorem EU{i:Nat}{x:Str}{pos:Pos}(hN:X.N[i]? =some x)(hv:xO X.env.scope x)(hd:(x==("__debug__" :Str))=false:=by decide)(hcd:(x==("__classdict__" :Str))=false:=by decide):PE X (.Name x pos) (Tq i):=by
 intro pins s σ H Q I h
 obtain⟨v,e,h⟩:=h
 obtain⟨m,hn,hl⟩:=I.loc
 obtain⟨u,r,l⟩:=hl i x v hN e hv
 have fin:EP X pins σ Q u s:=⟨v,H,I,r,h⟩
 rcases l with⟨hk,hm⟩|⟨hk,c,hc,hcell⟩
 ·exact wpAny_Name (wpAny_loadName_local I.ok.kind hk hn hm fin) hd
 ·rcases hk with hk|hk
  ·exact wpAny_Name (wpAny_loadName_cell I.ok.kind hk hc hcell fin) hd
  ·exact wpAny_Name (wpAny_loadName_free I.ok.kind hk hc hcell fin hcd) hd
theorem FU{i j pos}:PE X (.Constant (.int i) j pos) (tC (.int i)):=λ _ _ _ H _ I h=>wpAny_Constant_int ⟨.int i,H,I.tok _,⟨_,rfl⟩,h⟩
theorem GP{b j pos}:PE X (.Constant (.bool b) j pos) (tC (.bl b)):=λ _ _ _ H _ I h=>Constant_bool ⟨.bl b,H,I,rfl,h⟩
theorem FL{j pos}:PE X (.Constant .none j pos) (tC .non):=λ _ _ _ H _ I h=>Constant_none ⟨.non,H,I,rfl,h⟩
theorem FA{x j pos}:PE X (.Constant (.str x) j pos) (tC (.str x)):=λ _ _ _ H _ I h=>Calls.Constant_str ⟨.str x,H,I.tok _,⟨_,rfl⟩,h⟩
noncomputable def Gl(X:Cx)(x:Str):Prop:=X.env.kindOf x=some .globalImplicit
theorem Iz{E:Qd}{pins:List (Addr×Obj)}{s:Shared}{σ:St}{H:Hp}{x:Str}{u:Value}{pos:Pos}{Q:Qd}(I:aE X pins σ H s)(hg:Gl X x)(hm:X.mg x=some u)(h:Q u s)
  (hd:(x==("__debug__" :Str))=false:=by decide):wpAny (model X.prog X.w) X.A (eval (.Name x pos) X.env) Q E s:=
 Calls.Name_function_global I.ok.kind hg (Calls.loadGlobal_global (by rw[I.ok.glob];exact I.mod.glob.keeps I.bk) hm h) hd
theorem jR{E:Qd}{pins:List (Addr×Obj)}{s:Shared}{σ:St}{H:Hp}{x:Str}{u:Value}{pos:Pos}{Q:Qd}(I:aE X pins σ H s)(hg:Gl X x)(hm:X.mg x=none)(hv:bootBuiltins x=some u)(h:Q u s)
  (hn:x≠ "__name__" :=by decide) (hd:(x==("__debug__" :Str))=false:=by decide):wpAny (model X.prog X.w) X.A (eval (.Name x pos) X.env) Q E s:=by
 obtain⟨mb,h1,h2⟩:=I.mod.blt
 exact Calls.Name_function_global I.ok.kind hg (Calls.loadGlobal_builtin (by rw[I.ok.glob];exact I.mod.glob.keeps I.bk) hm (by rw[I.ok.blt];exact h1.keeps I.bk) ((h2 x hn).trans hv) h) hd
theorem FX{x:Str}{v:V}{u:Value}{pos:Pos}(hg:Gl X x)(hm:X.mg x=some u)(r:bM v u)(hd:(x==("__debug__" :Str))=false:=by decide):PE X (.Name x pos) (tC v):=
 λ _ _ _ H _ I h=>Iz I hg hm ⟨v,H,I,r,h⟩ hd
theorem GO{x:Str}{v:V}{u:Value}{pos:Pos}(hg:Gl X x)(hm:X.mg x=none)(hv:bootBuiltins x=some u)(r:bM v u)(hn:x≠ "__name__" :=by decide)(hd:(x==("__debug__" :Str))=false:=by decide):PE X (.Name x pos) (tC v):=
 λ _ _ _ H _ I h=>jR I hg hm hv ⟨v,H,I,r,h⟩ hn hd
variable{a b:Expr}{ta tb:TE}{pos:Pos}
variable{tA tB':TT}{rest:List Expr}
noncomputable def Ey(t u:TT):TT:=λ σ H Q=>t σ H λ c H1=>if c=true then u σ H1 Q else Q false H1
noncomputable def Eu(t u:TT):TT:=λ σ H Q=>t σ H λ c H1=>if c=true then Q true H1 else u σ H1 Q
noncomputable def Ve(t:TT):TT:=λ σ H Q=>t σ H λ c H1=>Q (!c) H1
theorem BV(ha:PT X a tA):PW X (.BoolOp .And [a] pos) tA:=by
 intro wh pins s σ H Q I h
 refine isTrue_and (aT (ha pins s σ H Q I h) λ c s1 e=>?_)
 cases c with
 |true=>exact isTrue_and_nil e
 |false=>exact e
theorem BR(ha:PT X a tA):PW X (.BoolOp .Or [a] pos) tA:=by
 intro wh pins s σ H Q I h
 refine isTrue_or (aT (ha pins s σ H Q I h) λ c s1 e=>?_)
 cases c with
 |false=>exact isTrue_or_nil e
 |true=>exact e
theorem BW(ha:PT X a tA)(hb:PW X (.BoolOp .And (b::rest) pos) tB'):PW X (.BoolOp .And (a::b::rest) pos) (Ey tA tB'):=by
 intro wh pins s σ H Q I h
 refine isTrue_and (aT (ha pins s σ H _ I h) λ c s1 ⟨H1,I1,q1⟩=>?_)
 cases c with
 |true=>exact hb wh pins s1 σ H1 Q I1 q1
 |false=>exact⟨H1,I1,q1⟩
theorem BS(ha:PT X a tA)(hb:PW X (.BoolOp .Or (b::rest) pos) tB'):PW X (.BoolOp .Or (a::b::rest) pos) (Eu tA tB'):=by
 intro wh pins s σ H Q I h
 refine isTrue_or (aT (ha pins s σ H _ I h) λ c s1 ⟨H1,I1,q1⟩=>?_)
 cases c with
 |true=>exact⟨H1,I1,q1⟩
 |false=>exact hb wh pins s1 σ H1 Q I1 q1
theorem CG(ha:PT X a tA):PT X (.UnaryOp .Not a pos) (Ve tA):=by
 intro pins s σ H Q I h
 exact isTrue_not (ha pins s σ H (λ c H1=>Q (!c) H1) I h)
noncomputable def Vr(ta tb:TE):TE:=λ σ H Q=>ta σ H λ x H1=>∃c,x= .bl c/\if c=true then tb σ H1 Q else Q (.bl false) H1
noncomputable def Vc(ta tb:TE):TE:=λ σ H Q=>ta σ H λ x H1=>∃c,x= .bl c/\if c=true then Q (.bl true) H1 else tb σ H1 Q
theorem FI{op}{t:TE}(h:PE X a t):PE X (.BoolOp op [a] pos) t:=λ pins s σ H Q I hw=>BoolOp_one (h pins s σ H Q I hw)
theorem GT(ha:PE X a ta)(hb:PE X (.BoolOp .And (b::rest) pos) tb):PE X (.BoolOp .And (a::b::rest) pos) (Vr ta tb):=by
 intro pins s σ H Q I h
 refine BoolOp_and (aT (ha pins s σ H _ I h) λ v s1 ⟨x,H1,I1,r1,q1⟩=>?_)
 obtain⟨c,rfl,q1⟩:=q1
 cases r1
 refine wpAny_truthy_bool ?_
 cases c with
 |true=>exact hb pins s1 σ H1 Q I1 q1
 |false=>exact⟨.bl false,H1,I1,rfl,q1⟩
theorem FG(ha:PE X a ta)(hb:PE X (.BoolOp .Or (b::rest) pos) tb):PE X (.BoolOp .Or (a::b::rest) pos) (Vc ta tb):=by
 intro pins s σ H Q I h
 refine BoolOp_or (aT (ha pins s σ H _ I h) λ v s1 ⟨x,H1,I1,r1,q1⟩=>?_)
 obtain⟨c,rfl,q1⟩:=q1
 cases r1
 refine wpAny_truthy_bool ?_
 cases c with
 |false=>exact hb pins s1 σ H1 Q I1 q1
 |true=>exact⟨.bl true,H1,I1,rfl,q1⟩
noncomputable def Vj(t:TT)(ta tb:TE):TE:=λ σ H Q=>t σ H λ c H1=>if c=true then ta σ H1 Q else tb σ H1 Q
theorem FV{c:Expr}(hc:PT X c tA)(ha:PE X a ta)(hb:PE X b tb):PE X (.IfExp c a b pos) (Vj tA ta tb):=by
 intro pins s σ H Q I h
 refine wpAny_IfExp (aT (hc pins s σ H _ I h) λ d s1 ⟨H1,I1,q1⟩=>?_)
 cases d with
 |true=>exact ha pins s1 σ H1 Q I1 q1
 |false=>exact hb pins s1 σ H1 Q I1 q1
end
noncomputable def bA(K:PySem.W.Frag)(H:Hp)(a:Addr)(xs:List V):Prop:=
 Rd H a (.lst xs)\/
  ∃(o:Obj) (its:Array Value) (n:Nat),K.lookup a=some o/\o.cls= .type "list"/\o.dict=none/\o.data= .seq its n/\its.size<=sizeLine/\aW xs its.toList
noncomputable def bE(K:PySem.W.Frag)(H:Hp)(a:Addr)(xs:List V):Prop:=
 Rd H a (.tup xs)\/
  ∃(o:Obj) (its:Array Value) (n:Nat),K.lookup a=some o/\o.cls= .type "tuple"/\o.data= .seq its n/\its.size<=sizeLine/\aW xs its.toList
noncomputable def j7:Value->Option V
 |.none=>some .non
 |.bool b=>some (.bl b)
 |.int i _=>some (.int i)
 |.str x _=>some (.str x)
 |.bytes b _=>some (.byt b)
 |.float b _=>some (.flt b)
 |.ref a=>some (.ref a)
 |.type n=>some (.ty n)
 |_=>none
theorem bM.abs{x:V}{u:Value}(r:bM x u):j7 u=some x:=by
 cases x with
 |non=>cases r;rfl
 |bl _=>cases r;rfl
 |int _=>obtain⟨t,rfl⟩:=r;rfl
 |str _=>obtain⟨t,rfl⟩:=r;rfl
 |byt _=>obtain⟨t,rfl⟩:=r;rfl
 |flt _=>obtain⟨t,rfl⟩:=r;rfl
 |ref _=>cases r;rfl
 |ty _=>cases r;rfl
theorem bM.inj{x y:V}{u:Value}(r:bM x u)(q:bM y u):x=y:=Option.some.inj (r.abs.symm.trans q.abs)
theorem aW.inj:∀{xs ys:List V} {us:List Value},aW xs us->aW ys us->xs=ys
 |_,_,_,.nil,.nil=>rfl
 |_,_,_,.cons r t,.cons r' t'=>by rw[r.inj r',aW.inj t t']
section
variable{X:Cx}{pins:List (Addr×Obj)}{σ:St}{H:Hp}{s:Shared}{a:Addr}{xs ys:List V}
theorem bA.of{K:PySem.W.Frag}(h:H a=some (.lst xs)):bA K H a xs:=.inl (.inl h)
theorem bE.of{K:PySem.W.Frag}(h:H a=some (.tup xs)):bE K H a xs:=.inl (.inl h)
theorem aE.list(I:aE X pins σ H s)(h:bA X.K H a xs):∃its:List Value,aW xs its/\PlainL s.heap a its.toArray/\xs.length<=sizeLine:=by
 rcases h with h|⟨o,its,n,hk,hc,hd,hs,hz,r⟩
 ·obtain⟨z,its,n,r,e⟩:=h.ok I.hok
  exact⟨its,r,⟨_,n,e,rfl,rfl,rfl⟩,z⟩
 ·refine⟨its.toList,r,⟨o,n,I.kIn a o hk,hc,hd,by simpa using hs⟩,?_⟩
  have e:=r.length
  simp only[Array.length_toList]at e
  omega
theorem aE.tuple(I:aE X pins σ H s)(h:bE X.K H a xs):∃its:List Value,aW xs its/\IsTup s.heap a its.toArray/\xs.length<=sizeLine:=by
 rcases h with h|⟨o,its,n,hk,hc,hs,hz,r⟩
 ·obtain⟨z,its,r,p,_⟩:=h.ok I.hok
  exact⟨its,r,p,z⟩
 ·refine⟨its.toList,r,⟨o,I.kIn a o hk,hc,n,by simpa using hs⟩,?_⟩
  have e:=r.length
  simp only[Array.length_toList]at e
  omega
theorem aE.list_inj(I:aE X pins σ H s)(h:bA X.K H a xs)(h':bA X.K H a ys):xs=ys:=by
 obtain⟨its,r,⟨o,n,e,_,_,d⟩,_⟩:=I.list h
 obtain⟨its',r',⟨o',n',e',_,_,d'⟩,_⟩:=I.list h'
 rw[e]at e';cases e'
 rw[d]at d'
 injection d' with d1 _
 have:its=its':=by simpa using congrArg Array.toList d1
 subst this
 exact r.inj r'
theorem aE.tuple_inj(I:aE X pins σ H s)(h:bE X.K H a xs)(h':bE X.K H a ys):xs=ys:=by
 obtain⟨its,r,⟨o,e,_,n,d⟩,_⟩:=I.tuple h
 obtain⟨its',r',⟨o',e',_,n',d'⟩,_⟩:=I.tuple h'
 rw[e]at e';cases e'
 rw[d]at d'
 injection d' with d1 _
 have:its=its':=by simpa using congrArg Array.toList d1
 subst this
 exact r.inj r'
end
section
variable{X:Cx}{pins:List (Addr×Obj)}{σ:St}{H:Hp}{s:Shared}{E:Qd}
end
section
variable{X:Cx}{st:Stmt}{rest:List Stmt}{t u:TS}{e:Expr}{te:TE}{pos:Pos}
noncomputable def Ev:TS:=λ D σ H=>D.nx σ H
noncomputable def Tx(t u:TS):TS:=λ D σ H=>t {D with nx:=u D} σ H
theorem CM:eB X [] Ev:=λ _ _ σ H _ I h=>wpAny_execs_nil ⟨σ,H,I,h⟩
theorem CN(h1:PS X st t)(h2:eB X rest u):eB X (st::rest) (Tx t u):=by
 intro pins s σ H D I h
 refine wpAny_execs_cons (aT (h1 pins s σ H {D with nx:=u D} I h) λ f s1 q=>?_)
 cases f with
 |next=>
  obtain⟨σ',H',I',q⟩:=q
  exact h2 pins s1 σ' H' D I' q
 |ret v=>exact q
 |brk=>exact q
 |cont=>exact q
noncomputable def Vo:TS:=λ D σ H=>D.bk σ H
noncomputable def Vm:TS:=λ D σ H=>D.ct σ H
theorem CY:PS X (.Pass pos) Ev:=λ _ _ σ H _ I h=>wpAny_Pass ⟨σ,H,I,h⟩
theorem DM:PS X (.Break pos) Vo:=λ _ _ σ H _ I h=>wpAny_Break ⟨σ,H,I,h⟩
theorem DJ:PS X (.Continue pos) Vm:=λ _ _ σ H _ I h=>wpAny_Continue ⟨σ,H,I,h⟩
theorem aE.quiet{pins:List (Addr×Obj)}{σ:St}{H:Hp}{s:Shared}(I:aE X pins σ H s):interactive X.env=false:=by simp[interactive,I.ok.kind]
noncomputable def Vl(te:TE):TS:=λ D σ H=>te σ H λ _ H1=>D.nx σ H1
theorem DF(he:PE X e te)(hs:swapsWith e none pos.line X.env=pure false:=by rfl):PS X (.Expr e pos) (Vl te):=by
 intro pins s σ H D I h
 exact wpAny_Expr_any (aT (he pins s σ H _ I h) λ v s1 ⟨x,H1,I1,r1,q1⟩=>⟨σ,H1,I1,q1⟩) I.quiet hs
noncomputable def Va(te:TE):TS:=λ D σ H=>te σ H D.rt
theorem CU(he:PE X e te):PS X (.Return (some e) pos) (Va te):=by
 intro pins s σ H D I h
 exact wpAny_Return_some (aT (he pins s σ H _ I h) λ v s1 ⟨x,H1,I1,r1,q1⟩=>⟨x,σ,H1,I1,r1,q1⟩)
noncomputable def Tz:TS:=λ D _ H=>D.rt .non H
theorem CT:PS X (.Return none pos) Tz:=λ _ _ σ H _ I h=>wpAny_Return_none ⟨.non,σ,H,I,rfl,h⟩
noncomputable def Vi(c:TT)(t u:TS):TS:=λ D σ H=>c σ H λ b H1=>if b=true then t D σ H1 else u D σ H1
theorem DB{c:Expr}{a b:List Stmt}{tc:TT}(hc:PT X c tc)(ha:eB X a t)(hb:eB X b u):PS X (.If c a b pos) (Vi tc t u):=by
 intro pins s σ H D I h
 refine wpAny_If (aT (hc pins s σ H _ I h) λ d s1 ⟨H1,I1,q1⟩=>?_)
 cases d with
 |true=>exact ha pins s1 σ H1 D I1 q1
 |false=>exact hb pins s1 σ H1 D I1 q1
end
noncomputable abbrev TG:=V->St->Hp->(St->Hp->Prop)->Prop
noncomputable abbrev jE:=List V->St->Hp->(St->Hp->Prop)->Prop
noncomputable def PG(X:Cx)(target:Expr)(t:TG):Prop:=
 ∀(pins:List (Addr×Obj)) (s:Shared) (σ:St) (H:Hp) (v:V) (u:Value) (Q:St->Hp->Prop),aE X pins σ H s->bM v u->t v σ H Q->
  wpAny (model X.prog X.w) X.A (assign target X.env u) (λ _ s'=>∃σ' H',aE X pins σ' H' s'/\Q σ' H') X.xe s
noncomputable def tG(X:Cx)(ts:List Expr)(t:jE):Prop:=
 ∀(pins:List (Addr×Obj)) (s:Shared) (σ:St) (H:Hp) (vs:List V) (us:List Value) (Q:St->Hp->Prop),aE X pins σ H s->aW vs us->t vs σ H Q->
  wpAny (model X.prog X.w) X.A (assignInOrder ((assignEach ts X.env).map (·.2)) us) (λ _ s'=>∃σ' H',aE X pins σ' H' s'/\Q σ' H') X.xe s
noncomputable abbrev Cy:=V->V->V->Hp->(Hp->Prop)->Prop
noncomputable def Pr(X:Cx)(t:Cy):Prop:=
 ∀(pins:List (Addr×Obj)) (s:Shared) (σ:St) (H:Hp) (o i v:V) (ov iv u:Value) (Q:Hp->Prop),aE X pins σ H s->bM o ov->bM i iv->bM v u->t o i v H Q->
  wpAny (model X.prog X.w) X.A (setItem ov iv u) (λ _ s'=>∃H',aE X pins σ H' s'/\Q H') X.xe s
section
variable{X:Cx}{pos:Pos}
noncomputable def kP(i:Nat):TG:=λ v σ H Q=>Q (σ.set i (some v)) H
theorem ET{i:Nat}{x:Str}(hN:X.N.Nodup)(hi:X.N[i]? =some x)(hx:pX X.env.scope x)(hf:X.fn x=true\/X.env.scope.names.lookup x=some .local:=by first|exact .inl rfl|exact .inr rfl|assumption):PG X (.Name x pos) (kP i):=by
 intro pins s σ H v u Q I r h
 exact wpAny_assign_Name (Ff I hN hi hx r (λ s' I'=>⟨_,H,I',h⟩) hf)
noncomputable def Bq:jE:=λ vs σ H Q=>vs=[]/\Q σ H
noncomputable def Br(t:TG)(u:jE):jE:=λ vs σ H Q=>∃v r,vs=v::r/\t v σ H λ σ' H'=>u r σ' H' Q
theorem EN:tG X [] Bq:=by
 intro pins s σ H vs us Q I r h
 obtain⟨e,h⟩:=h
 subst e
 cases r
 exact assignInOrder_nil ⟨σ,H,I,h⟩
theorem EO{e:Expr}{es:List Expr}{t:TG}{u:jE}(h1:PG X e t)(h2:tG X es u)
  (hs:(assignEach (e::es) X.env).map (·.2)=assign e X.env::(assignEach es X.env).map (·.2):=by rfl):tG X (e::es) (Br t u):=by
 intro pins s σ H vs us Q I r h
 obtain⟨v,vr,e1,h⟩:=h
 subst e1
 cases r with
 |cons r rr=>
  rw[hs]
  refine assignInOrder_cons (aT (h1 pins s σ H _ _ _ I r h) λ _ s1 ⟨σ1,H1,I1,q1⟩=>?_)
  exact h2 pins s1 σ1 H1 _ _ Q I1 rr q1
noncomputable def Bp(K:PySem.W.Frag)(n:Nat)(t:jE):TG:=λ v σ H Q=>∃a xs,v= .ref a/\bE K H a xs/\xs.length=n/\t xs σ H Q
theorem EQ{es:List Expr}{k:Nat}{t:jE}{n:Nat}(hc:X.calm=true)(h:tG X es t)
  (hn:(assignEach es X.env).length=n:=by rfl) (hst:(assignEach es X.env).findIdx? (·.1)=none:=by rfl):PG X (.Tuple es k pos) (Bp X.K n t):=by
 intro pins s σ H v u Q I r hw
 obtain⟨a,xs,e1,hq,hl,hw⟩:=hw
 subst e1
 cases r
 obtain⟨its,rv,ht,hz⟩:=I.tuple hq
 refine assign_Tuple_tuple (I.ok.hd hc) ht (by simp[hn,<-hl,rv.length]) hst λ h' hx=>?_
 have I1:aE X pins σ H {s with heap:=h'}:=I.kept (t':=s.toks) λ b o e=>hx b o (Nat.ne_of_lt (Heap.lt_size e)) e
 exact h pins _ σ H xs _ Q I1 (by simpa using rv) hw
noncomputable def OA(to ti:TE)(t:Cy):TG:=λ v σ H Q=>to σ H λ o H1=>ti σ H1 λ i H2=>t o i v H2 λ H3=>Q σ H3
theorem ER{o i:Expr}{to ti:TE}{t:Cy}(ho:PE X o to)(hi:PE X i ti)(hs:Pr X t)
  (ha:∀v,assign (.Subscript o i pos) X.env v=(do
   let ov<-holding [v] (eval o X.env)
   let iv<-holding [v,ov] (eval i X.env)
   standAt pos
   holding [v,ov,iv] (setItem ov iv v)
   release [v,ov,iv] []):=by intro _;rfl):PG X (.Subscript o i pos) (OA to ti t):=by
 intro pins s σ H v u Q I r h
 rw[ha]
 refine wpAny_bind (wpAny_holding (aT (ho pins s σ H _ I h) λ ov s1 ⟨x,H1,I1,r1,q1⟩=>?_))
 refine wpAny_bind (wpAny_holding (aT (hi pins s1 σ H1 _ I1 q1) λ iv s2 ⟨y,H2,I2,r2,q2⟩=>?_))
 refine wpAny_bind (wpAny_standAt (wpAny_bind (wpAny_holding (aT (hs pins s2 σ H2 x y v ov iv u _ I2 r1 r2 r q2) λ _ s3 ⟨H3,I3,q3⟩=>?_))))
 exact wpAny_release ⟨σ,H3,I3,q3⟩
noncomputable def qK(te:TE)(g:TG):TS:=λ D σ H=>te σ H λ x H1=>g x σ H1 D.nx
theorem Hd{tg e:Expr}{te:TE}{g:TG}(he:PE X e te)(hg:PG X tg g)(hs:swapsWithSole [tg] e pos.line X.env=pure false:=by rfl)(hw:swappedStores [tg] e X.env=pure none:=by rfl)
  (h1:(assignEach [tg] X.env).map (·.2)=[assign tg X.env]:=by rfl):PS X (.Assign [tg] e pos) (qK te g):=by
 intro pins s σ H D I h
 refine wpAny_Assign_stores (aT (he pins s σ H _ I h) λ v s1 ⟨x,H1,I1,r1,q1⟩=>?_) hs hw
 rw[h1]
 exact aT (hg pins s1 σ H1 x v _ I1 r1 q1) λ _ s2 q=>q
theorem Hb{i:Nat}{x:Str}{e:Expr}{te:TE}{pos':Pos}(hN:X.N.Nodup)(hi:X.N[i]? =some x)(hx:pX X.env.scope x)(he:PE X e te)(hs:swapsWith e (some (.Name x pos')) pos.line X.env=pure false:=by rfl)(hf:X.fn x=true\/X.env.scope.names.lookup x=some .local:=by first|exact .inl rfl|exact .inr rfl|assumption):
  PS X (.Assign [.Name x pos'] e pos) (qK te (kP i)):=by
 intro pins s σ H D I h
 refine wpAny_Assign_Name (aT (he pins s σ H _ I h) λ v s1 ⟨y,H1,I1,r1,q1⟩=>?_) hs
 exact Ff I1 hN hi hx r1 (λ s2 I2=>⟨_,H1,I2,q1⟩) hf
end
section
variable{X:Cx}{pos:Pos}
end
structure It where
 go:Nat->Hp->Prop
 yld:Nat->Hp->V->Hp->Prop
 stop:Nat->Hp->Prop
noncomputable def eL(X:Cx)(pins:List (Addr×Obj))(H:Hp)(b:Addr):Prop:=
 H b=none/\b≠X.env.locals/\b∉X.fs/\(b∈X.ex\/X.s₀.heap.objs.size<=b)/\(∀x c,X.env.cells.lookup x=some c->c≠b)/\∀p∈X.pn++pins,p.1≠b
theorem aE.fpOk{X:Cx}{pins:List (Addr×Obj)}{σ:St}{H H':Hp}{s:Shared}{b:Addr}(I:aE X pins σ H s)(hb:s.heap.objs.size<=b)(hn:H' b=none):eL X pins H' b:=by
 refine⟨hn,Nat.ne_of_gt (Nat.lt_of_lt_of_le I.lt hb),I.nofs hb,.inr (Nat.le_trans I.sz hb),λ x c e z=>?_,λ p hp z=>?_⟩
 ·obtain⟨v,q⟩:=I.cell x c e
  exact absurd (Nat.lt_of_lt_of_le q.lt (by rw[z];exact hb)) (Nat.lt_irrefl _)
 ·exact absurd (Nat.lt_of_lt_of_le (Heap.lt_size (I.pin p hp).1) (by rw[z];exact hb)) (Nat.lt_irrefl _)
structure iR(P:Program)(w:World)(K:PySem.W.Frag)(tg:Expr)(J:It)(fp:List Addr)(it:Addr)(tn:Nat->Heap->Prop):Prop where
 mem:it∈fp
 obj:∀i h,tn i h->∀b∈fp,∃o,h.get? b=some o/\∀v,o.data≠ .cell v
 keep:∀i h h',tn i h->(∀b∈fp,∀o,h.get? b=some o->h'.get? b=some o)->tn i h'
 item:∀(X:Cx),X.prog=P->X.w=w->X.K=K->X.calm=true->∀(i:Nat) (pins:List (Addr×Obj)) (s:Shared) (σ:St) (H:Hp) (E:Qd),aE X pins σ H s->(∀b∈fp,eL X pins H b)->tn i s.heap->J.go i H->
  wpAny (model P w) X.A (pyNext (.ref it)) (λ r s1=>∃u,r=some u/\
   wpAny (model P w) X.A (letOwnedTupleGo tg (.ref it) u) (λ _ s2=>∃x H',aE X pins σ H' s2/\bM x u/\J.yld i H x H'/\tn (i+1) s2.heap/\∀b∈fp,H' b=none) E s1) E s
 done:∀(X:Cx),X.prog=P->X.w=w->X.K=K->X.calm=true->∀(i:Nat) (pins:List (Addr×Obj)) (s:Shared) (σ:St) (H:Hp) (E:Qd),aE X pins σ H s->(∀b∈fp,eL X pins H b)->tn i s.heap->J.stop i H->
  wpAny (model P w) X.A (pyNext (.ref it)) (λ r s1=>r=none/\aE X pins σ H s1) E s
 self:∀(A:Around) (i:Nat) (s:Shared) (Q:Qd) (E:Qd),tn i s.heap->Q (.ref it) s->wpAny (model P w) A (pyIter (.ref it)) Q E s
noncomputable abbrev TI:=St->Hp->(It->Hp->Prop)->Prop
noncomputable def Db(X:Cx)(pins:List (Addr×Obj))(σ:St)(tg:Expr)(R:It->Hp->Prop)(itv:Value)(s2:Shared):Prop:=
 ∃(it:Addr) (fp:List Addr) (tn:Nat->Heap->Prop) (J:It) (H':Hp),itv= .ref it/\aE X pins σ H' s2/\iR X.prog X.w X.K tg J fp it tn/\tn 0 s2.heap/\(∀b∈fp,eL X pins H' b)/\R J H'
noncomputable def PI(X:Cx)(tg iter:Expr)(wi:TI):Prop:=
 ∀(pins:List (Addr×Obj)) (s:Shared) (σ:St) (H:Hp) (R:It->Hp->Prop),aE X pins σ H s->wi σ H R->
  wpAny (model X.prog X.w) X.A (eval iter X.env) (λ v s1=>wpAny (model X.prog X.w) X.A (pyIter v) (Db X pins σ tg R) X.xe s1) X.xe s
theorem wP{M:Model}{A:Around}{E:Value→Shared→Prop}{s:Shared}{tg:Expr}{it:Addr}{u:Value}{o:Obj}{n:String}{vs:Array Value}{Q:Unit→Shared→Prop}(ho:s.heap.get? it=some o)(hc:o.cls= .type n)(hd:o.data= .fields vs)
    (hn:["enumerate", "zip", "dict_itemiterator", "dict_reverseitemiterator", "odict_iterator", "itertools.zip_longest", "itertools.pairwise"].contains n=false) (hQ:Q () s):wpAny M A (letOwnedTupleGo tg (.ref it) u) Q E s:=by
  unfold letOwnedTupleGo
  cases tg <;>first
    |exact wpAny_pure hQ
    |(cases u<;>first
        |exact wpAny_pure hQ
        | (refine wpAny_bind (wpAny_load ho ?_)
           rw[hc,hd]
           show wpAny M A (if(["enumerate", "zip", "dict_itemiterator", "dict_reverseitemiterator", "odict_iterator", "itertools.zip_longest", "itertools.pairwise"].contains n&&vs[0]? ==some (rawInt _))=true then _ else _) Q E s
           rw[if_neg (by intro h;rw[hn,Bool.false_and]at h;cases h)]
           exact wpAny_pure hQ))
noncomputable def xS(K:PySem.W.Frag)(a:Addr):It:=
 ⟨λ i H=>∃xs x,bA K H a xs/\xs[i]? =some x,λ i H x H'=>H'=H/\∀xs,bA K H a xs->xs[i]? =some x,λ i H=>∃xs,bA K H a xs/\xs.length<=i⟩
noncomputable def Dj(K:PySem.W.Frag)(a:Addr):It:=
 ⟨λ i H=>∃xs x,bE K H a xs/\xs[i]? =some x,λ i H x H'=>H'=H/\∀xs,bE K H a xs->xs[i]? =some x,λ i H=>∃xs,bE K H a xs/\xs.length<=i⟩
noncomputable def tH(lo:Int)(n:Nat):It:=⟨λ i _=>i<n,λ i H x H'=>H'=H/\x= .int (lo+i),λ i _=>n<=i⟩
theorem Tc{P:Program}{w:World}{K:PySem.W.Frag}{tg:Expr}(a it:Addr):iR P w K tg (xS K a) [it] it (λ i h=>h.IsListIter it a i) where
 mem:=by simp
 obj:=λ i h st b hb=>by
  have e:b=it:=by simpa using hb
  subst e
  obtain⟨o,e,c,d⟩:=st
  exact⟨o,e,λ v z=>by rw[d]at z;cases z⟩
 keep:=λ i h h' st k=>st.at λ o e=>k it Qb o e
 item:=by
  intro X hP hw hK hc i pins s σ H E I hf st hg
  subst hP hw hK
  obtain⟨xs,x,hq,hx⟩:=hg
  obtain⟨its,rv,p,hz⟩:=I.list hq
  obtain⟨u,hu,ru⟩:=rv.get hx
  obtain⟨f0,f1,f2,f3,f4,f5⟩:=hf it Qb
  refine wpAny_pyNext_list_item st p.isList (x:=u) (by simpa using hu) λ h' st' sb=>?_
  have I1:aE X pins σ H {s with heap:=h'}:=I.turned (t':=s.toks) (λ b o hb e=>(sb.2 b hb).trans e) f0 f1 f3 f4 f5
  obtain⟨o,e,c,d⟩:=id st'
  exact⟨u,rfl,wP (s:={s with heap:=h'}) e c d Qc ⟨x,H,I1,ru,⟨rfl,λ ys hy=>by rw[I.list_inj hy hq];exact hx⟩,st',λ b hb=>(hf b hb).1⟩⟩
 done:=by
  intro X hP hw hK hc i pins s σ H E I hf st hg
  subst hP hw hK
  obtain⟨xs,hq,hx⟩:=hg
  obtain⟨its,rv,p,hz⟩:=I.list hq
  obtain⟨f0,f1,f2,f3,f4,f5⟩:=hf it Qb
  have hl:=rv.length
  exact wpAny_pyNext_list_end (I.ok.hd hc) st p.isList (by simp;omega) λ h' eb=>⟨rfl,I.turned (t':=s.toks) (λ b o hb e=>eb b o hb e) f0 f1 f3 f4 f5⟩
 self:=λ _ _ _ _ _ st h=>wpAny_pyIter_listiter st h
theorem Sz{P:Program}{w:World}{K:PySem.W.Frag}{tg:Expr}(a it:Addr):iR P w K tg (Dj K a) [it] it (λ i h=>h.IsTupleIter it a i) where
 mem:=by simp
 obj:=λ i h st b hb=>by
  have e:b=it:=by simpa using hb
  subst e
  obtain⟨o,e,c,d⟩:=st
  exact⟨o,e,λ v z=>by rw[d]at z;cases z⟩
 keep:=λ i h h' st k=>st.at λ o e=>k it Qb o e
 item:=by
  intro X hP hw hK hc i pins s σ H E I hf st hg
  subst hP hw hK
  obtain⟨xs,x,hq,hx⟩:=hg
  obtain⟨its,rv,p,hz⟩:=I.tuple hq
  obtain⟨u,hu,ru⟩:=rv.get hx
  obtain⟨f0,f1,f2,f3,f4,f5⟩:=hf it Qb
  refine wpAny_pyNext_tuple_item st (show s.heap.IsTuple a its.toArray from p) (x:=u) (by simpa using hu) λ h' st' sb=>?_
  have I1:aE X pins σ H {s with heap:=h'}:=I.turned (t':=s.toks) (λ b o hb e=>(sb.2 b hb).trans e) f0 f1 f3 f4 f5
  obtain⟨o,e,c,d⟩:=id st'
  exact⟨u,rfl,wP (s:={s with heap:=h'}) e c d Qc ⟨x,H,I1,ru,⟨rfl,λ ys hy=>by rw[I.tuple_inj hy hq];exact hx⟩,st',λ b hb=>(hf b hb).1⟩⟩
 done:=by
  intro X hP hw hK hc i pins s σ H E I hf st hg
  subst hP hw hK
  obtain⟨xs,hq,hx⟩:=hg
  obtain⟨its,rv,p,hz⟩:=I.tuple hq
  obtain⟨f0,f1,f2,f3,f4,f5⟩:=hf it Qb
  have hl:=rv.length
  exact wpAny_pyNext_tuple_end (I.ok.hd hc) st (show s.heap.IsTuple a its.toArray from p) (by simp;omega) λ h' eb=>⟨rfl,I.turned (t':=s.toks) (λ b o hb e=>eb b o hb e) f0 f1 f3 f4 f5⟩
 self:=λ _ _ _ _ _ st h=>wpAny_pyIter_tupleiter st h
theorem Ta{P:Program}{w:World}{K:PySem.W.Frag}{tg:Expr}(it:Addr)(lo:Int)(n:Nat):iR P w K tg (tH lo n) [it] it (λ i h=>IsRangeIter h it (lo+(i:Nat)*1) ((n:Int)-(i:Nat)) 1) where
 mem:=by simp
 obj:=λ i h st b hb=>by
  have e:b=it:=by simpa using hb
  subst e
  exact⟨_,st,λ v z=>by
   have z':Data.fields _=Data.cell v:=z
   cases z'⟩
 keep:=λ i h h' st k=>k it Qb _ st
 item:=by
  intro X hP hw hK hc i pins s σ H E I hf st hg
  subst hP hw hK
  obtain⟨f0,f1,f2,f3,f4,f5⟩:=hf it Qb
  have W:=Walks.range (prog:=X.prog) (w:=X.w) (I.ok.hd hc) it lo 1 n
  refine W.item i s _ _ hg st λ v h' tk hv st' kk=>?_
  obtain⟨t,rfl⟩:=hv
  have I1:aE X pins σ H {s with heap:=h',toks:=tk}:=I.turned (λ b o hb e=>kk b o (by simpa using hb) e) f0 f1 f3 f4 f5
  refine⟨_,rfl,wP (s:={s with heap:=h',toks:=tk}) (n:= "range_iterator") st' rfl rfl Qc ⟨.int (lo+i),H,I1,⟨t,?_⟩,⟨rfl,rfl⟩,st',λ b hb=>(hf b hb).1⟩⟩
  rw[Int.mul_one]
 done:=by
  intro X hP hw hK hc i pins s σ H E I hf st hg
  subst hP hw hK
  obtain⟨f0,f1,f2,f3,f4,f5⟩:=hf it Qb
  exact wpAny_pyNext_range_end (I.ok.hd hc) st (by have:n<=i:=hg;omega) λ h' eb=>⟨rfl,I.turned (t':=s.toks) (λ b o hb e=>eb b o hb e) f0 f1 f3 f4 f5⟩
 self:=λ _ _ _ _ _ st h=>wpAny_pyIter_rangeiter st h
section
variable{X:Cx}{tg:Expr}
noncomputable def ND(K:PySem.W.Frag)(tl:TE):TI:=λ σ H R=>tl σ H λ x H1=>∃a,x= .ref a/\(∃xs,bA K H1 a xs)/\R (xS K a) H1
noncomputable def MZ(K:PySem.W.Frag)(tl:TE):TI:=λ σ H R=>tl σ H λ x H1=>∃a,x= .ref a/\(∃xs,bE K H1 a xs)/\R (Dj K a) H1
theorem EJ{l:Expr}{tl:TE}(hl:PE X l tl):PI X tg l (ND X.K tl):=by
 intro pins s σ H R I h
 refine aT (hl pins s σ H _ I h) λ v s1 ⟨x,H1,I1,r1,q1⟩=>?_
 obtain⟨a,e,⟨xs,hq⟩,q⟩:=q1
 subst e
 cases r1
 obtain⟨its,rv,p,hz⟩:=I1.list hq
 refine wpAny_pyIter_list p.isList ?_
 refine⟨s1.heap.objs.size,[s1.heap.objs.size],_,_,H1,rfl,I1.kept (t':=s1.toks) λ b o e=>Heap.get?_push_of_some _ e,Tc a _,⟨_,Heap.get?_push_size _ rfl,rfl,rfl⟩,λ b hb=>?_,q⟩
 have e:b=s1.heap.objs.size:=by simpa using hb
 subst e
 exact I1.fpOk (Nat.le_refl _) (I1.hok.fresh (Nat.le_refl _))
theorem EC{l:Expr}{tl:TE}(hl:PE X l tl):PI X tg l (MZ X.K tl):=by
 intro pins s σ H R I h
 refine aT (hl pins s σ H _ I h) λ v s1 ⟨x,H1,I1,r1,q1⟩=>?_
 obtain⟨a,e,⟨xs,hq⟩,q⟩:=q1
 subst e
 cases r1
 obtain⟨its,rv,p,hz⟩:=I1.tuple hq
 refine wpAny_pyIter_tuple (show s1.heap.IsTuple a its.toArray from p) ?_
 refine⟨s1.heap.objs.size,[s1.heap.objs.size],_,_,H1,rfl,I1.kept (t':=s1.toks) λ b o e=>Heap.get?_push_of_some _ e,Sz a _,⟨_,Heap.get?_push_size _ rfl,rfl,rfl⟩,λ b hb=>?_,q⟩
 have e:b=s1.heap.objs.size:=by simpa using hb
 subst e
 exact I1.fpOk (Nat.le_refl _) (I1.hok.fresh (Nat.le_refl _))
theorem Gr{pins:List (Addr×Obj)}{σ:St}{H:Hp}{s:Shared}{R:It->Hp->Prop}{E:Qd}{lo hi:Int}{t u v:Tok}{tk:Nat}(I:aE X pins σ H s)(h1: -(2^62)<=lo)(h2:lo<2^62)(h3: -(2^62)<=hi)(h4:hi<2^62)
  (q:R (tH lo (hi-lo).toNat) H):wpAny (model X.prog X.w) X.A (pyIter (.ref s.heap.objs.size)) (Db X pins σ tg R) E {s with heap:=s.heap.push {cls:=.type "range",data:=.fields #[.int lo t,.int hi u,.int 1 v]},toks:=tk}:=by
 refine wpAny_pyIter_range (IsRange.new ..) (small_one h1 h2 h3 h4) ?_
 have I1:aE X pins σ H {s with heap:=s.heap.push {cls:=.type "range",data:=.fields #[.int lo t,.int hi u,.int 1 v]},toks:=tk}:=I.kept λ b o e=>Heap.get?_push_of_some _ e
 refine⟨(s.heap.push {cls:=.type "range",data:=.fields #[.int lo t,.int hi u,.int 1 v]}).objs.size,[(s.heap.push {cls:=.type "range",data:=.fields #[.int lo t,.int hi u,.int 1 v]}).objs.size],_,_,H,rfl,
  I1.kept (t':=tk) λ b o e=>Heap.get?_push_of_some _ e,Ta _ lo (hi-lo).toNat,?_,λ b hb=>?_,q⟩
 ·have e1:lo+((0:Nat):Int)*1=lo:=by simp
  have e2:(((hi-lo).toNat:Nat):Int)-((0:Nat):Int)=Builtin.Range.rangeSize lo hi 1:=by rw[rangeSize_one];split<;>omega
  show IsRangeIter _ _ (lo+((0:Nat):Int)*1) ((((hi-lo).toNat:Nat):Int)-((0:Nat):Int)) 1
  rw[e1,e2]
  exact Heap.get?_push_size _ rfl
 ·have e:b=(s.heap.push {cls:=.type "range",data:=.fields #[.int lo t,.int hi u,.int 1 v]}).objs.size:=by simpa using hb
  subst e
  exact I1.fpOk (Nat.le_refl _) (I1.hok.fresh (Nat.le_refl _))
noncomputable def NC(ta:TA):TI:=λ σ H R=>ta σ H λ vs H1=>∃j:Int,vs=[.int j]/\-(2^62)<=j/\j<2^62/\R (tH 0 j.toNat) H1
noncomputable def NB(ta:TA):TI:=λ σ H R=>ta σ H λ vs H1=>∃i j:Int,vs=[.int i,.int j]/\(-(2^62)<=i/\i<2^62/\-(2^62)<=j/\j<2^62)/\R (tH i (j-i).toNat) H1
theorem EI{a:Expr}{ta:TA}{p pos:Pos}(hg:Gl X "range")(hm:X.mg "range" =none)(ha:PA X [a] ta)(hs:starEach [a] X.env=[(false,eval a X.env)]:=by rfl):PI X tg (.Call (.Name "range" p) [a] [] pos) (NC ta):=by
 intro pins s σ H R I h
 refine Call_ (jR I hg hm boot_range (PyProof.Rows.callWith_type1 (aT (ha pos pins s σ H _ I h) λ us s1 ⟨vs,H1,I1,r1,q1⟩=>?_) hs rfl))
 obtain⟨j,e,q1,q2,q⟩:=q1
 subst e
 cases r1 with
 |cons r rr=>
  cases rr
  obtain⟨t,rfl⟩:=r
  exact call_range_1 (Gr I1 Qa Qa q1 q2 (by simpa using q))
theorem EH{a b:Expr}{ta:TA}{p pos:Pos}(hg:Gl X "range")(hm:X.mg "range" =none)(ha:PA X [a,b] ta)(hs:starEach [a,b] X.env=[(false,eval a X.env),(false,eval b X.env)]:=by rfl)(hs2:starEach [b] X.env=[(false,eval b X.env)]:=by rfl):
  PI X tg (.Call (.Name "range" p) [a,b] [] pos) (NB ta):=by
 intro pins s σ H R I h
 refine Call_ (jR I hg hm boot_range (PyProof.Rows.callWith_type1 (aT (ha pos pins s σ H _ I h) λ us s1 ⟨vs,H1,I1,r1,q1⟩=>?_) (by rw[hs,hs2]) (by rw[hs2];rfl)))
 obtain⟨i,j,e,⟨q1,q2,q3,q4⟩,q⟩:=q1
 subst e
 cases r1 with
 | cons r rr=>
  cases rr with
  |cons r' rr=>
   cases rr
   obtain⟨t,rfl⟩:=r
   obtain⟨t',rfl⟩:=r'
   exact call_range_2 (Gr I1 q1 q2 q3 q4 q)
noncomputable def Vk(wi:TI)(g:TG)(tb:TS):TS:=λ D σ H=>wi σ H λ J H1=>∃W:Nat->Nat->St->Hp->Prop,(∃m,W 0 m σ H1)/\∀i m σ H,W i m σ H->
 (J.stop i H/\D.nx σ H)\/(J.go i H/\∃N:St->Hp->Prop,(∀σ' H',N σ' H'->∃m',m'<m/\W (i+1) m' σ' H')/\∀x H',J.yld i H x H'->g x σ H' λ σ2 H2=>tb {D with nx:=N,ct:=N,bk:=D.nx} σ2 H2)
noncomputable def lN(fp:List Addr)(h:Heap):List (Addr×Obj):=fp.filterMap λ b=>(h.get? b).map λ o=>(b,o)
theorem lP{fp:List Addr}{h:Heap}{b:Addr}{o:Obj}(hb:b∈fp)(e:h.get? b=some o):(b,o)∈lN fp h:=List.mem_filterMap.mpr ⟨b,hb,by rw[e];rfl⟩
theorem IB{fp:List Addr}{h:Heap}{p:Addr×Obj}(hp:p∈lN fp h):p.1∈fp/\h.get? p.1=some p.2:=by
 obtain⟨b,hb,e⟩:=List.mem_filterMap.mp hp
 cases q:h.get? b with
 |none=>rw[q]at e;cases e
 |some o=>
  rw[q]at e
  have e':(b,o)=p:=Option.some.inj e
  subst e'
  exact⟨hb,q⟩
theorem aE.pinned{pins:List (Addr×Obj)}{σ:St}{H:Hp}{s:Shared}{fp:List Addr}(I:aE X pins σ H s)(hf:∀b∈fp,eL X pins H b)(ho:∀b∈fp,∃o,s.heap.get? b=some o/\∀v,o.data≠ .cell v):aE X (pins++lN fp s.heap) σ H s:=
 I.pins_of λ p hp=>(List.mem_append.mp hp).elim (λ z=>I.pin p (List.mem_append_right _ z)) λ z=>by
  obtain⟨hb,e⟩:=IB z
  obtain⟨f0,f1,f2,_⟩:=hf p.1 hb
  obtain⟨o,e',d⟩:=ho p.1 hb
  rw[e]at e';cases e'
  exact⟨e,f0,f1,f2,d⟩
theorem aE.unpinned{pins pl:List (Addr×Obj)}{σ:St}{H:Hp}{s:Shared}(I:aE X (pins++pl) σ H s):aE X pins σ H s:=I.pins_of λ p hp=>I.pin p (List.mem_append_right _ (List.mem_append_left _ hp))
theorem DD{iter:Expr}{body:List Stmt}{wi:TI}{g:TG}{tb:TS}{pos:Pos}(hp:PassesOwn (model X.prog X.w) X.A X.env X.xe)(hc:X.calm=true)(hi:PI X tg iter wi)(hg:PG X tg g)(hb:eB X body tb)
  (hs:∀x,foldedSetIterable iter X.env x=pure x:=by intro _;rfl):PS X (.For tg iter body [] pos) (Vk wi g tb):=by
 intro pins s σ H D I h
 refine wpAny_For (aT (hi pins s σ H _ I h) λ v s1 h1=>aT h1 λ itv s2 h2=>?_) hs
 obtain⟨it,fp,tn,J,H2,e,I2,T,st2,f2,W,⟨m0,w0⟩,turn⟩:=h2
 subst e
 have stat:∀{H':Hp},(∀b∈fp,H' b=none)->∀b∈fp,eL X pins H' b:=λ hn b hb=>⟨hn b hb,(f2 b hb).2⟩
 refine codeAny_forLoop_any (λ n s'=>∃i σ' H',aE X pins σ' H' s'/\tn i s'.heap/\(∀b∈fp,H' b=none)/\W i n σ' H') ?_ m0 ⟨0,σ,H2,I2,st2,λ b hb=>(f2 b hb).1,w0⟩
 rintro n s3 ⟨i,σ3,H3,I3,st3,fr3,w3⟩
 rcases turn i n σ3 H3 w3 with⟨stop,qn⟩|⟨go,N,hN,step⟩
 ·refine wpAny_passesOwn hp (aT (T.done X rfl rfl rfl hc i pins s3 σ3 H3 X.xe I3 (stat fr3) st3 stop) λ r s4 ⟨hr,I4⟩=>?_)
  subst hr
  exact wpAny_execs_nil ⟨σ3,H3,I4,qn⟩
 ·refine wpAny_passesOwn hp (aT (T.item X rfl rfl rfl hc i pins s3 σ3 H3 X.xe I3 (stat fr3) st3 go) λ r s4 ⟨u,hr,h4⟩=>?_)
  subst hr
  refine wpAny_passesOwn hp (aT h4 λ _ s5 ⟨x,H5,I5,r5,y5,st5,fr5⟩=>?_)
  have I5':=I5.pinned (stat fr5) (T.obj _ _ st5)
  refine wpAny_passesOwn hp (aT (hg _ s5 σ3 H5 x u _ I5' r5 (step x H5 y5)) λ _ s6 ⟨σ6,H6,I6,q6⟩=>?_)
  refine wpAny_passesOwn hp (aT (hb _ s6 σ6 H6 _ I6 q6) λ f s7 q7=>?_)
  have again:∀{σ7:St} {H7:Hp},aE X (pins++lN fp s5.heap) σ7 H7 s7->N σ7 H7->∃m,m<n/\∃i σ' H',aE X pins σ' H' s7/\tn i s7.heap/\(∀b∈fp,H' b=none)/\W i m σ' H':=fun{σ7 H7} I7 n7=>by
   obtain⟨m',hm,w7⟩:=hN σ7 H7 n7
   refine⟨m',hm,i+1,σ7,H7,I7.unpinned,T.keep _ _ _ st5 λ b hb o e=>(I7.pin (b,o) (List.mem_append_right _ (List.mem_append_right _ (lP hb e)))).1,λ b hb=>?_,w7⟩
   obtain⟨o,e,d⟩:=T.obj _ _ st5 b hb
   exact(I7.pin (b,o) (List.mem_append_right _ (List.mem_append_right _ (lP hb e)))).2.1
  cases f with
  |next=>obtain⟨σ7,H7,I7,n7⟩:=q7;exact again I7 n7
  |cont=>obtain⟨σ7,H7,I7,n7⟩:=q7;exact again I7 n7
  |brk=>obtain⟨σ7,H7,I7,q7⟩:=q7;exact⟨σ7,H7,I7.unpinned,q7⟩
  |ret v=>obtain⟨x7,σ7,H7,I7,r7,q7⟩:=q7;exact⟨x7,σ7,H7,I7.unpinned,r7,q7⟩
end
noncomputable abbrev R2:=V->V->Hp->VK->Prop
noncomputable def bZ(X:Cx)(f:Value->Value->Sem Value)(r:R2):Prop:=
 ∀(pins:List (Addr×Obj)) (s:Shared) (σ:St) (H:Hp) (x y:V) (v u:Value) (Q:VK),aE X pins σ H s->bM x v->bM y u->r x y H Q->
  wpAny (model X.prog X.w) X.A (f v u) (EP X pins σ Q) X.xe s
noncomputable def Cw(X:Cx)(f:Value->Sem Value)(r:V->Hp->VK->Prop):Prop:=
 ∀(pins:List (Addr×Obj)) (s:Shared) (σ:St) (H:Hp) (x:V) (v:Value) (Q:VK),aE X pins σ H s->bM x v->r x H Q->
  wpAny (model X.prog X.w) X.A (f v) (EP X pins σ Q) X.xe s
noncomputable def eW(X:Cx)(f:Value)(r:List V->Hp->VK->Prop):Prop:=
 ∀(pins:List (Addr×Obj)) (s:Shared) (σ:St) (H:Hp) (xs:List V) (us:List Value) (Q:VK),aE X pins σ H s->aW xs us->r xs H Q->
  wpAny (model X.prog X.w) X.A (call f us) (EP X pins σ Q) X.xe s
noncomputable def j8(X:Cx)(r:V->Hp->(Bool->Hp->Prop)->Prop):Prop:=
 ∀(pins:List (Addr×Obj)) (s:Shared) (σ:St) (H:Hp) (x:V) (v:Value) (Q:Bool->Hp->Prop),aE X pins σ H s->bM x v->r x H Q->
  wpAny (model X.prog X.w) X.A (truthy v) (TP X pins σ Q) X.xe s
noncomputable def qJ(r:R2)(ta tb:TE):TE:=λ σ H Q=>ta σ H λ x H1=>tb σ H1 λ y H2=>r x y H2 Q
noncomputable def Tr(r:V->Hp->VK->Prop)(ta:TE):TE:=λ σ H Q=>ta σ H λ x H1=>r x H1 Q
noncomputable def rI(C:Int->Int->Prop)(g:Int->Int->V):R2:=λ x y H Q=>∃i j,x= .int i/\y= .int j/\C i j/\Q (g i j) H
noncomputable def kC(g:Int->Int->V):R2:=λ x y H Q=>∃i j,x= .int i/\y= .int j/\Q (g i j) H
noncomputable def rU(g:Int->V):V->Hp->VK->Prop:=λ x H Q=>∃i,x= .int i/\Q (g i) H
section
variable{X:Cx}{a b c:Expr}{ta tb tc:TE}{pos:Pos}
theorem Cm(ha:PE X a ta)(hb:PE X b tb){pins:List (Addr×Obj)}{s:Shared}{σ:St}{H:Hp}{R:V->V->Hp->Prop}(I:aE X pins σ H s)
  (h:ta σ H λ x H1=>tb σ H1 λ y H2=>R x y H2) {Q:Qd} {f:Value->Value->Sem Value}
  (hf:∀v u s2 x y H2,aE X pins σ H2 s2->bM x v->bM y u->R x y H2->wpAny (model X.prog X.w) X.A (f v u) Q X.xe s2):
  wpAny (model X.prog X.w) X.A (eval a X.env) (λ v s₁=>wpAny (model X.prog X.w) X.A (eval b X.env) (λ u s₂=>wpAny (model X.prog X.w) X.A (f v u) Q X.xe s₂) X.xe s₁) X.xe s:=by
 refine aT (ha pins s σ H _ I h) λ v s1 ⟨x,H1,I1,r1,q1⟩=>?_
 refine aT (hb pins s1 σ H1 _ I1 q1) λ u s2 ⟨y,H2,I2,r2,q2⟩=>?_
 exact hf v u s2 x y H2 I2 r1 r2 q2
theorem FH{op:Operator}{r:R2}(ho:bZ X (binaryOp op) r)(ha:PE X a ta)(hb:PE X b tb):PE X (.BinOp a op b pos) (qJ r ta tb):=by
 intro pins s σ H Q I h
 exact wpAny_BinOp (Cm ha hb I h λ v u s2 x y H2 I2 rx ry q=>ho pins s2 σ H2 x y v u Q I2 rx ry q)
theorem EV{op:UnaryOp}{r:V->Hp->VK->Prop}(ho:Cw X (unaryOp op) r)(ha:PE X a ta):PE X (.UnaryOp op a pos) (Tr r ta):=by
 intro pins s σ H Q I h
 exact UnaryOp_ (aT (ha pins s σ H _ I h) λ v s1 ⟨x,H1,I1,r1,q1⟩=>ho pins s1 σ H1 x v Q I1 r1 q1)
theorem vL{f:Value->Value->Sem Value}{C:Int->Int->Prop}{g:Int->Int->Int}
  (rule:∀(i j:Int) (t u:Tok) (s:Shared) (Q:Qd) (E:Qd),C i j->Q (.int (g i j) s.toks) {s with toks:=s.toks+1}->wpAny (model X.prog X.w) X.A (f (.int i t) (.int j u)) Q E s):
  bZ X f (rI C λ i j=>.int (g i j)):=by
 intro pins s σ H x y v u Q I rx ry h
 obtain⟨i,j,rfl,rfl,hc,q⟩:=h
 obtain⟨t,rfl⟩:=rx
 obtain⟨t',rfl⟩:=ry
 exact rule i j t t' s _ _ hc ⟨.int (g i j),H,I.tok _,⟨_,rfl⟩,q⟩
theorem Hu{f:Value->Value->Sem Value}{g:Int->Int->Int}
  (rule:∀(i j:Int) (t u:Tok) (s:Shared) (Q:Qd) (E:Qd),Q (.int (g i j) s.toks) {s with toks:=s.toks+1}->wpAny (model X.prog X.w) X.A (f (.int i t) (.int j u)) Q E s):
  bZ X f (kC λ i j=>.int (g i j)):=by
 intro pins s σ H x y v u Q I rx ry h
 obtain⟨i,j,rfl,rfl,q⟩:=h
 obtain⟨t,rfl⟩:=rx
 obtain⟨t',rfl⟩:=ry
 exact rule i j t t' s _ _ ⟨.int (g i j),H,I.tok _,⟨_,rfl⟩,q⟩
theorem vM{f:Value->Value->Sem Value}{g:Int->Int->Bool}
  (rule:∀(i j:Int) (t u:Tok) (s:Shared) (Q:Qd) (E:Qd),Q (.bool (g i j)) s->wpAny (model X.prog X.w) X.A (f (.int i t) (.int j u)) Q E s):
  bZ X f (kC λ i j=>.bl (g i j)):=by
 intro pins s σ H x y v u Q I rx ry h
 obtain⟨i,j,rfl,rfl,q⟩:=h
 obtain⟨t,rfl⟩:=rx
 obtain⟨t',rfl⟩:=ry
 exact rule i j t t' s _ _ ⟨.bl (g i j),H,I,rfl,q⟩
noncomputable def bY0(i j:Int):Prop:=0<j/\j<1073741824
noncomputable def bX0(i j:Int):Prop:=0<=j/\j<=1000000/\i.natAbs<2^64
noncomputable def xZ(i j:Int):Prop:=(-(2^64)<i/\i<2^64)\/(-(2^64)<j/\j<2^64)
theorem xZ.ok{i j:Int}(h:xZ i j):IntMulOk i j:=by
 rcases h with⟨h1,h2⟩|⟨h1,h2⟩
 ·exact .of_left (intBits_le_64 h1 h2)
 ·exact .of_right (intBits_le_64 h1 h2)
theorem IA:bZ X (binaryOp .Add) (kC λ i j=>.int (i+j)):=Hu λ _ _ _ _ _ _ _ q=>add_int q
theorem HB:bZ X (binaryOp .Sub) (kC λ i j=>.int (i-j)):=Hu λ _ _ _ _ _ _ _ q=>sub_int q
theorem HG:bZ X (binaryOp .Mult) (rI xZ λ i j=>.int (i*j)):=vL λ _ _ _ _ _ _ _ hc q=>mul_int q hc.ok
theorem HS:bZ X (binaryOp .FloorDiv) (rI bY0 λ i j=>.int (i/j)):=vL λ i j _ _ _ _ _ hc q=>by
 have h1:(0:Int)<j:=hc.1
 have h2:j<1073741824:=hc.2
 exact floordiv_int Qa (by rw[Int.fdiv_eq_ediv_of_nonneg i Qa];exact q) (.inl (PyProof.noPylong_small Qa))
theorem HH:bZ X (binaryOp .Mod) (rI (λ _ j=>0<j) λ i j=>.int (i%j)):=vL λ i j _ _ _ _ _ hc q=>by
 have h1:(0:Int)<j:=hc
 exact mod_int' Qa (by rw[Int.fmod_eq_emod_of_nonneg i Qa];exact q)
theorem HC:bZ X (binaryOp .Pow) (rI bX0 λ i j=>.int (i^j.toNat)):=vL λ _ _ _ _ _ _ _ hc q=>pow_int_small hc.1 hc.2.1 hc.2.2 q
theorem So{f:Value->Sem Value}{g:Int->Int}
  (rule:∀(i:Int) (t:Tok) (s:Shared) (Q:Qd) (E:Qd),Q (.int (g i) s.toks) {s with toks:=s.toks+1}->wpAny (model X.prog X.w) X.A (f (.int i t)) Q E s):
  Cw X f (rU λ i=>.int (g i)):=by
 intro pins s σ H x v Q I rx h
 obtain⟨i,rfl,q⟩:=h
 obtain⟨t,rfl⟩:=rx
 exact rule i t s _ _ ⟨.int (g i),H,I.tok _,⟨_,rfl⟩,q⟩
theorem Sn:Cw X (unaryOp .USub) (rU λ i=>.int (-i)):=So λ _ _ _ _ _ q=>neg_int q
end
section
variable{X:Cx}{a b c:Expr}{ta tb tc:TE}{pos:Pos}
theorem wR{pins:List (Addr×Obj)}{σ:St}{H:Hp}{s:Shared}{Q:VK}{k k':Bool}(I:aE X pins σ H s)(q:Q (.bl k) H)(e:k=k'):EP X pins σ Q (.bool k') s:=by
 subst e
 exact⟨.bl k,H,I,rfl,q⟩
theorem HK:bZ X (compareOp .Lt) (kC λ i j=>.bl (decide (i<j))):=vM λ _ _ _ _ _ _ _ q=>lt_int q
theorem HL:bZ X (compareOp .LtE) (kC λ i j=>.bl (decide (i<=j))):=vM λ _ _ _ _ _ _ _ q=>le_int q
theorem HQ:bZ X (compareOp .Gt) (kC λ i j=>.bl (decide (j<i))):=vM λ _ _ _ _ _ _ _ q=>gt_int q
theorem HR:bZ X (compareOp .GtE) (kC λ i j=>.bl (decide (j<=i))):=vM λ _ _ _ _ _ _ _ q=>ge_int q
theorem HN:bZ X (compareOp .In) (λ x y H Q=>∃i j,x= .str i/\y= .str j/\Q (.bl (!(Builtin.Str.occurrences j i 0 j.length 1).isEmpty)) H):=by
 intro pins s σ H x y v u Q I rx ry h
 obtain⟨i,j,rfl,rfl,q⟩:=h
 obtain⟨t,rfl⟩:=rx
 obtain⟨t',rfl⟩:=ry
 exact in_str (wR I q rfl)
theorem HD:bZ X (compareOp .NotIn) (λ x y H Q=>∃i j,x= .str i/\y= .str j/\Q (.bl (!(!(Builtin.Str.occurrences j i 0 j.length 1).isEmpty))) H):=by
 intro pins s σ H x y v u Q I rx ry h
 obtain⟨i,j,rfl,rfl,q⟩:=h
 obtain⟨t,rfl⟩:=rx
 obtain⟨t',rfl⟩:=ry
 exact notIn_str (wR I q rfl)
theorem GH{op:CmpOp}{r:R2}(ho:bZ X (compareOp op) r)(ha:PE X a ta)(hb:PE X b tb)(hm:behindInMarks op b=false):PE X (.Compare a [op] [b] pos) (qJ r ta tb):=by
 intro pins s σ H Q I h
 exact wpAny_Compare1 (Cm ha hb I h λ v u s2 x y H2 I2 rx ry q=>ho pins s2 σ H2 x y v u Q I2 rx ry q) hm
noncomputable def Er(t:TE):TT:=λ σ H Q=>t σ H λ x H'=>∃k,x= .bl k/\Q k H'
theorem CH{op:CmpOp}{r:R2}(ho:bZ X (compareOp op) r)(ha:PE X a ta)(hb:PE X b tb)(hm:behindInMarks op b=false):PT X (.Compare a [op] [b] pos) (Er (qJ r ta tb)):=by
 intro pins s σ H Q I h
 refine wpAny_isTrue_Compare1 (aT (ha pins s σ H _ I h) λ v s1 ⟨x,H1,I1,r1,q1⟩=>aT (hb pins s1 σ H1 _ I1 q1) λ u s2 ⟨y,H2,I2,r2,q2⟩=>
  aT (ho pins s2 σ H2 x y v u _ I2 r1 r2 q2) λ c s3 ⟨z,H3,I3,r3,k,e,q3⟩=>?_) hm
 subst e
 cases r3
 exact wpAny_truthy_bool ⟨H3,I3,q3⟩
noncomputable def yL(r r':R2)(ta tb tc:TE):TE:=λ σ H Q=>ta σ H λ x H1=>tb σ H1 λ y H2=>r x y H2 λ z H3=>∃k,z= .bl k/\
 (if k=true then tc σ H3 λ w' H4=>r' y w' H4 Q else Q (.bl false) H3)
theorem GK{op op':CmpOp}{r r':R2}(ho:bZ X (compareOp op) r)(ho':bZ X (compareOp op') r')(ha:PE X a ta)(hb:PE X b tb)(hc:PE X c tc)
  (hm:lastMarks [op,op'] [b,c]=false:=by with_unfolding_all rfl):PE X (.Compare a [op,op'] [b,c] pos) (yL r r' ta tb tc):=by
 intro pins s σ H Q I h
 refine Compare_chain (aT (ha pins s σ H _ I h) λ v s1 ⟨x,H1,I1,r1,q1⟩=>chain_link (aT (hb pins s1 σ H1 _ I1 q1) λ u s2 ⟨y,H2,I2,r2,q2⟩=>
  aT (ho pins s2 σ H2 x y v u _ I2 r1 r2 q2) λ d s3 ⟨z,H3,I3,r3,k,e,q3⟩=>?_)) hm
 subst e
 cases r3
 refine wpAny_truthy_bool ?_
 cases k with
 |false=>exact ite_ff ⟨.bl false,H3,I3,rfl,q3⟩
 |true=>exact ite_tt (chain_last (aT (hc pins s3 σ H3 _ I3 q3) λ w' s4 ⟨z',H4,I4,r4,q4⟩=>ho' pins s4 σ H4 y z' u w' Q I4 r2 r4 q4))
theorem CJ{op op':CmpOp}{r r':R2}(ho:bZ X (compareOp op) r)(ho':bZ X (compareOp op') r')(ha:PE X a ta)(hb:PE X b tb)(hc:PE X c tc)
  (hm:lastMarks [op,op'] [b,c]=false:=by with_unfolding_all rfl):PT X (.Compare a [op,op'] [b,c] pos) (Er (yL r r' ta tb tc)):=by
 intro pins s σ H Q I h
 refine isTrue_chain (aT (ha pins s σ H _ I h) λ v s1 ⟨x,H1,I1,r1,q1⟩=>test_link (aT (hb pins s1 σ H1 _ I1 q1) λ u s2 ⟨y,H2,I2,r2,q2⟩=>
  aT (ho pins s2 σ H2 x y v u _ I2 r1 r2 q2) λ d s3 ⟨z,H3,I3,r3,k,e,q3⟩=>?_)) hm
 subst e
 cases r3
 refine wpAny_truthy_bool ?_
 cases k with
 |false=>
  obtain⟨k',e',q'⟩:=q3
  cases e'
  exact ite_ff ⟨H3,I3,q'⟩
 |true=>
  refine ite_tt (test_last (aT (hc pins s3 σ H3 _ I3 q3) λ w' s4 ⟨z',H4,I4,r4,q4⟩=>aT (ho' pins s4 σ H4 y z' u w' _ I4 r2 r4 q4) λ d' s5 ⟨z2,H5,I5,r5,k2,e2,q5⟩=>?_))
  subst e2
  cases r5
  exact wpAny_truthy_bool ⟨H5,I5,q5⟩
noncomputable def nV(K:PySem.W.Frag)(x:V)(H:Hp)(k:Bool):Prop:=
 match x with
 |.non=>k=false
 |.bl b=>k=b
 |.int i=>k=(i !=0)
 |.str y=>y.length<=sizeLine/\k=((y.length:Int) !=0)
 |.byt y=>y.size<=sizeLine/\k=((y.size:Int) !=0)
 |.ref p=>(∃xs,bA K H p xs/\k= !xs.isEmpty)\/(∃xs,bE K H p xs/\k= !xs.isEmpty)\/∃kvs,H p=some (.dK kvs)/\k= !kvs.isEmpty
 |_=>False
theorem MP{κ:Type}{kvs:List (κ×V)}{vs:List (κ×Value)}(r:KV kvs vs):(!vs.isEmpty)= !kvs.isEmpty:=by
 cases r<;>rfl
theorem Kq{xs:List V}{its:List Value}(r:aW xs its):(!its.toArray.isEmpty)= !xs.isEmpty:=by
 cases r<;>simp
theorem lV:(sizeLine:Nat)<2^63:=by rw[sizeLine_eq];decide
theorem Em:j8 X (λ x H Q=>∃k,nV X.K x H k/\Q k H):=by
 intro pins s σ H x v Q I rx h
 obtain⟨k,e,q⟩:=h
 have hl:=lV
 have hs:sizeLine=16777216:=sizeLine_eq
 cases x with
 |non=>
  cases rx
  have e':k=false:=e
  subst e'
  exact truthy_none ⟨H,I,q⟩
 |bl b=>
  cases rx
  have e':k=b:=e
  subst e'
  exact wpAny_truthy_bool ⟨H,I,q⟩
 |int i=>
  obtain⟨t,rfl⟩:=rx
  have e':k=(i !=0):=e
  subst e'
  exact PySem.P.truthy_int ⟨H,I,q⟩
 |str y=>
  obtain⟨t,rfl⟩:=rx
  obtain⟨hy,e'⟩:y.length<=sizeLine/\k=((y.length:Int) !=0):=e
  subst e'
  exact PySem.P.truthy_str Qa ⟨H,I.tok _,q⟩
 |byt y=>
  obtain⟨t,rfl⟩:=rx
  obtain⟨hy,e'⟩:y.size<=sizeLine/\k=((y.size:Int) !=0):=e
  subst e'
  exact PySem.W.truthy_bytes Qa ⟨H,I.tok _,q⟩
 | ref p=>
  cases rx
  have e':(∃xs,bA X.K H p xs/\k= !xs.isEmpty)\/(∃xs,bE X.K H p xs/\k= !xs.isEmpty)\/∃kvs,H p=some (.dK kvs)/\k= !kvs.isEmpty:=e
  rcases e' with⟨xs,hx,e'⟩|⟨xs,hx,e'⟩|⟨kvs,hx,e'⟩
  ·subst e'
   obtain⟨its,r,pl,hz⟩:=I.list hx
   have hlen:=r.length
   exact wpAny_truthy_list pl.isList (by simp only[List.size_toArray];omega) ⟨H,I.tok _,by rw[Kq r];exact q⟩
  ·subst e'
   obtain⟨its,r,pl,hz⟩:=I.tuple hx
   have hlen:=r.length
   exact truthy_tuple pl (by simp only[List.size_toArray];omega) ⟨H,I.tok _,by rw[Kq r];exact q⟩
  ·subst e'
   obtain⟨hz,hS,vs,r,m⟩:kvs.length<=sizeLine/\(p==sysModules)=false/\∃vs,KV kvs vs/\s.heap.DictOf (gK X.prog X.w) p vs:=I.hok p _ hx
   have hlen:kvs.length=vs.length:=Paired.length r
   exact wpAny_truthy_dict hS m Qa ⟨H,I.tok _,by rw[MP r];exact q⟩
 |_=>exact(show False from e).elim
theorem CC(ha:PE X a ta)(he:∀whole,isTrue a X.env whole=(do let v←whole;standAt a.pos;holding [v] (truthy v))):
    PT X a (λ σ H Q=>ta σ H λ x H'=>∃k,nV X.K x H' k∧Q k H'):=by
  intro pins s σ H Q I h
  exact isTrue_plain (aT (ha pins s σ H _ I h) λ v s1 ⟨x,H1,I1,r1,q1⟩=>Em pins s1 σ H1 x v Q I1 r1 q1) (he _)
theorem HY:bZ X (binaryOp .Add) (λ x y H Q=>∃i j,x= .str i/\y= .str j/\i.length+j.length<=sizeLine/\Q (.str (i++j)) H):=by
 intro pins s σ H x y v u Q I rx ry h
 obtain⟨i,j,rfl,rfl,hz,q⟩:=h
 obtain⟨t,rfl⟩:=rx
 obtain⟨t',rfl⟩:=ry
 exact add_str (λ t' tk=>⟨.str (i++j),H,I.tok _,⟨_,rfl⟩,q⟩) hz
theorem oH{x:V}{us:List Value}(r:aW [x] us):∃u,us=[u]/\bM x u:=by
 cases r with
 |cons r1 r2=>cases r2;exact⟨_,rfl,r1⟩
theorem Si{x y:V}{us:List Value}(r:aW [x,y] us):∃u w',us=[u,w']/\bM x u/\bM y w':=by
 cases r with
 |cons r1 r2=>
  cases r2 with
  |cons r3 r4=>cases r4;exact⟨_,_,rfl,r1,r3⟩
theorem SZ(hc:X.calm=true):eW X (.builtin "min") (λ xs H Q=>∃i j,xs=[.int i,.int j]/\Q (.int (if j<i then j else i)) H):=by
 intro pins s σ H xs us Q I r h
 obtain⟨i,j,rfl,q⟩:=h
 obtain⟨u,w',rfl,⟨t,rfl⟩,⟨t',rfl⟩⟩:=Si r
 refine min_two_ints (I.ok.hd hc) λ h' tk k=>⟨_,H,I.kept k,?_,q⟩
 by_cases hj:j<i
 ·rw[if_pos hj,if_pos hj];exact⟨_,rfl⟩
 ·rw[if_neg hj,if_neg hj];exact⟨_,rfl⟩
theorem Oj:eW X (.type "int") (λ xs H Q=>(∃i,xs=[.int i]/\Q (.int i) H)\/∃k,xs=[.bl k]/\Q (.int (if k then 1 else 0)) H):=by
 intro pins s σ H xs us Q I r h
 rcases h with⟨i,rfl,q⟩|⟨k,rfl,q⟩
 ·obtain⟨u,rfl,t,rfl⟩:=oH r
  exact call_int_int ⟨.int i,H,I,⟨_,rfl⟩,q⟩
 ·obtain⟨u,rfl,r1⟩:=oH r
  cases r1
  exact call_int_bool ⟨.int (if k then 1 else 0),H,I.tok _,⟨_,rfl⟩,q⟩
end
structure Dd(h:Heap)(x dx C:Addr)(mA:Str->Option Value):Prop where
 obj:h.get? x=some (PySem.W.instObj C dx)
 ns:h.Ns1 dx mA
 ne:dx≠x
theorem KS{h:Heap}{dx:Addr}{mA:Str->Option Value}(n:h.Ns1 dx mA):∃od,h.get? dx=some od/\∀name,PySem.W.lookIn name od=some (mA name):=by
 obtain⟨o,es,ep,ho,hd,hk,_,hm⟩:=n
 refine⟨o,ho,λ name=>?_⟩
 have e:=hm name
 unfold nsFind findBy at e
 rw[<-Array.find?_toList]at e
 unfold PySem.W.lookIn
 rw[hd]
 dsimp only
 split
 ·rename_i y q
  rw[q]at e
  exact congrArg some e
 ·rename_i q
  rw[q]at e
  have a:es.toList.any (·.refKey)=false:=by
   rw[List.any_eq_false]
   intro y hy
   obtain⟨z,t,hkey⟩:=hk y (Array.mem_toList_iff.mp hy)
   simp[DictEntry.refKey,hkey]
  have a':¬es.toList.any (·.refKey)=true:=by rw[a];exact Bool.false_ne_true
  rw[if_neg a']
  exact congrArg some e
theorem Dd.look{h:Heap}{x dx C:Addr}{mA:Str->Option Value}(I:Dd h x dx C mA):∃od,PySem.W.InstAt h x (PySem.W.instObj C dx) C (some od)/\∀name,PySem.W.lookIn name od=some (mA name):=
 let⟨od,ho,hl⟩:=KS I.ns
 ⟨od,⟨I.obj,rfl,rfl,ho⟩,hl⟩
section
variable{prog:Program}{w:World}{A:Around}{E:Qd}{s:Shared}{K:PySem.W.Frag}{x dx C f:Addr}{mA:Str->Option Value}{name:Str}{v:Value}
end
section
variable{P:Program}{w:World}{H H':Hp}{h h':Heap}{a C dx:Addr}{fs fs':List (Str×V)}
theorem MU(hok:cU P w H h)(e:H a=some (.ins C dx fs)):∃mA,Dd h a dx C mA/\(∀f,Cz (fs.lookup f) (mA f))/\PySem.Within mA (fs.map (·.1))/\fs.length<=1000/\H dx=some (.own a):=by
 obtain⟨d,z,ne,ob,mA,n,r,q⟩:=(show dN P w H h a (.ins C dx fs)from hok a _ e)
 exact⟨mA,⟨ob,n,ne⟩,r,q,z,d⟩
end
structure Dn(K:PySem.W.Frag)(C:Addr):Prop where
 pg:PySem.W.plainGet K C Str.empty=true
 hd:PySem.W.hasDictIn K C=true
 po:PySem.W.plainOver K C=true
 sa:PySem.W.findIn K (.ref C) "__setattr__" =some (some (.builtin "object.__setattr__"))
theorem Dn.get{K:PySem.W.Frag}{C:Addr}(c:Dn K C)(f:Str):PySem.W.plainGet K C f=true:=c.pg
section
variable{X:Cx}{pins:List (Addr×Obj)}{σ:St}{H:Hp}{s:Shared}{a C dx:Addr}{fs:List (Str×V)}{f:Str}{v:V}{A:Around}{E:Qd}
end
section
variable{X:Cx}{o e value:Expr}{f:Str}{pos pos' tpos:Pos}{ta tv:TE}
end
section
variable{X:Cx}{pins:List (Addr×Obj)}{σ:St}{H:Hp}{s:Shared}{A:Around}{E:Qd}{Q:Qd}{c:Value}{b:Bool}
inductive gQ(K:PySem.W.Frag)(H:Hp):V->Value->Prop where
 |non:gQ K H .non (.type "NoneType")
 |bl (x:Bool):gQ K H (.bl x) (.type "bool")
 |int (i:Int):gQ K H (.int i) (.type "int")
 |str (x:Str):gQ K H (.str x) (.type "str")
 |flt (x:UInt64):gQ K H (.flt x) (.type "float")
 |lst {a:Addr} {xs:List V} (e:H a=some (.lst xs)):gQ K H (.ref a) (.type "list")
 |frz {a:Addr} {o:Obj} {xs:List V} (e:H a=some (.frz o (.lst xs))):gQ K H (.ref a) (.type "list")
 |tup {a:Addr} {xs:List V} (e:H a=some (.tup xs)):gQ K H (.ref a) (.type "tuple")
 |dK {a:Addr} {kvs:List (bP×V)} (e:H a=some (.dK kvs)):gQ K H (.ref a) (.type "dict")
 |dT {a:Addr} {kvs:List (List bP×V)} (e:H a=some (.dT kvs)):gQ K H (.ref a) (.type "dict")
 | ins {a C dx:Addr} {fs:List (Str×V)} (e:H a=some (.ins C dx fs)) (cl:Dn K C) (ha:PySem.W.findIn K (.ref C) "__class__" =some (some (.builtin "object.__class__")))
   (hn:PySem.W.specialIn K (.builtin "object.__class__") "__get__" =some (some (.builtin "getset_descriptor.__get__"))) (htk:PySem.W.takesIn K (.builtin "object.__class__")=some true)
   (hm:PySem.W.mroIn K C (.type "object")=some true):gQ K H (.ref a) (.ref C)
theorem MI{x:V}{u t:Value}(I:aE X pins σ H s)(rx:bM x u)(ty:gQ X.K H x t)(e:PySem.W.kitOne X.K t c=some b)(h:∀tk,Q (.bool b) {s with toks:=tk}):
  wpAny (model X.prog X.w) A (call (.builtin "isinstance") [u,c]) Q E s:=by
 cases ty with
 |non=>cases(show u=Value.none from rx);exact PySem.W.kia_one PySem.W.kitx_none I.kIn True.intro e (λ z=>nomatch z) h
 |bl y=>cases(show u=Value.bool y from rx);exact PySem.W.kia_one PySem.W.kitx_bool I.kIn True.intro e (λ z=>nomatch z) h
 |int i=>obtain⟨t,q⟩:=(show∃t,u=Value.int i t from rx);cases q;exact PySem.W.kia_one PySem.W.kitx_int I.kIn True.intro e (λ z=>nomatch z) h
 |str y=>obtain⟨t,q⟩:=(show∃t,u=Value.str y t from rx);cases q;exact PySem.W.kia_one PySem.W.kitx_str I.kIn True.intro e (λ z=>nomatch z) h
 |flt y=>obtain⟨t,q⟩:=(show∃t,u=Value.float y t from rx);cases q;exact PySem.W.kia_one PySem.W.kitx_float I.kIn True.intro e (λ z=>nomatch z) h
 | @lst a xs ea=>
  cases(show u=Value.ref a from rx)
  obtain⟨_,_,n,_,h1⟩:=(show dN X.prog X.w H s.heap a (.lst xs)from I.hok a _ ea)
  exact PySem.W.kia_one PySem.W.kitx_list I.kIn ⟨_,h1,rfl⟩ e (λ z=>nomatch z) h
 | @frz a ob xs ea=>
  cases(show u=Value.ref a from rx)
  obtain⟨_,_,_,n,_,h1⟩:=(show dN X.prog X.w H s.heap a (.frz ob (.lst xs))from I.hok a _ ea)
  exact PySem.W.kia_one PySem.W.kitx_list I.kIn ⟨_,h1,rfl⟩ e (λ z=>nomatch z) h
 | @tup a xs ea=>
  cases(show u=Value.ref a from rx)
  obtain⟨_,_,_,p,_⟩:=(show dN X.prog X.w H s.heap a (.tup xs)from I.hok a _ ea)
  obtain⟨o,h1,h2,_⟩:=p
  exact PySem.W.kia_one PySem.W.kitx_tuple I.kIn ⟨o,h1,h2⟩ e (λ z=>nomatch z) h
 | @dK a kvs ea=>
  cases(show u=Value.ref a from rx)
  obtain⟨_,_,vs,_,p⟩:=(show dN X.prog X.w H s.heap a (.dK kvs)from I.hok a _ ea)
  obtain⟨o,es,ep,h1,h2,_⟩:=p
  exact PySem.W.kia_one PySem.W.kitx_dict I.kIn ⟨o,h1,h2.1⟩ e (λ z=>nomatch z) h
 | @dT a kvs ea=>
  cases(show u=Value.ref a from rx)
  obtain⟨_,_,xs,_,o,es,ep,h1,h2,_⟩:=(show dN X.prog X.w H s.heap a (.dT kvs)from I.hok a _ ea)
  exact PySem.W.kia_one PySem.W.kitx_dict I.kIn ⟨o,h1,h2.1⟩ e (λ z=>nomatch z) h
 | @ins a C dx fs ea cl ha hn htk hm=>
  cases(show u=Value.ref a from rx)
  obtain⟨mA,O,_⟩:=MU I.hok ea
  obtain⟨od,J,_⟩:=O.look
  exact PySem.W.kia_one (PySem.W.kitx_own (cl.get _) cl.hd ha hn htk hm) I.kIn J e (λ z=>nomatch z) h
end
structure dG(k:Nat)(A:Around):Prop where
 hd:A.handled=none
 dp:A.depth+3*k+5<recursionLimit
 un:A.units+16*k+200<cLine
theorem dG.mono{j k:Nat}{A:Around}(r:dG k A)(h:j<=k):dG j A:=⟨r.hd,by have:=r.dp;omega,by have:=r.un;omega⟩
theorem dG.deeper{k:Nat}{A:Around}(r:dG (k+1) A)(env:Env):dG k (A.deeper env):=
 ⟨r.hd,by have:=r.dp;show A.depth+1+3*k+5<_;omega,by have:=r.un;show A.units+3+16*k+200<_;omega⟩
theorem dG.depth{k:Nat}{A:Around}(r:dG k A):A.depth<recursionLimit:=by have:=r.dp;omega
noncomputable def Vg:TA:=λ _ H Q=>Q [] H
noncomputable def Ex(ta:TE)(tr:TA):TA:=λ σ H Q=>ta σ H λ x H1=>tr σ H1 λ xs H2=>Q (x::xs) H2
section
variable{X:Cx}{e:Expr}{es:List Expr}{te:TE}{t:TA}{pos:Pos}
theorem vG:PA X [] Vg:=λ _ _ _ _ H Q I h=>Calls.spliced_nil ⟨[],H,I,.nil,h⟩
theorem GX(ha:PE X e te)(hr:PA X es t)(hs:starEach (e::es) X.env=(false,eval e X.env)::starEach es X.env:=by rfl):PA X (e::es) (Ex te t):=by
 intro pos pins s σ H Q I h
 rw[hs]
 show wpAny _ _ (spliced ((false,eval e X.env)::backTo pos (starEach es X.env))) _ _ s
 refine Calls.spliced_cons (aT (ha pins s σ H _ I h) λ u s1 ⟨x,H1,I1,r1,q1⟩=>?_)
 exact aT (hr pos pins s1 σ H1 _ I1 q1) λ us s2 ⟨xs,H2,I2,r2,q2⟩=>⟨x::xs,H2,I2,.cons r1 r2,q2⟩
noncomputable def Tt(t:TA):TE:=λ σ H Q=>t σ H λ xs H1=>xs.length<=sizeLine/\∀p,H1 p=none->Q (.ref p) (aM H1 p (.tup xs))
noncomputable def Vh(t:TA):TE:=λ σ H Q=>t σ H λ xs H1=>xs.length<=sizeLine/\∀p,H1 p=none->Q (.ref p) (aM H1 p (.lst xs))
theorem EY{x1}(h:PA X es t):PE X (.Tuple es x1 pos) (Tt t):=by
 intro pins s σ H Q I hq
 refine wpAny_Tuple_spliced (aT (h pos pins s σ H _ I hq) λ us s1 ⟨xs,H1,I1,r,z,q⟩=>⟨by rw[<-r.length];exact z,?_⟩)
 have hf:H1 s1.heap.objs.size=none:=I1.hok.fresh (Nat.le_refl _)
 refine⟨.ref s1.heap.objs.size,aM H1 s1.heap.objs.size (.tup xs),I1.laid (t':=s1.toks) (λ b u e=>Heap.get?_push_of_some _ e) (Nat.le_refl _) ?_,rfl,q _ hf⟩
 exact⟨z,us,r,⟨_,Heap.get?_push_size _ rfl,rfl,_,rfl⟩,_,Heap.get?_push_size _ rfl,rfl⟩
theorem Hn(h:PA X es t):PE X (.List es pos) (Vh t):=by
 intro pins s σ H Q I hq
 refine wpAny_List_spliced (aT (h pos pins s σ H _ I hq) λ us s1 ⟨xs,H1,I1,r,z,q⟩=>⟨by rw[<-r.length];exact z,?_⟩)
 have hf:H1 s1.heap.objs.size=none:=I1.hok.fresh (Nat.le_refl _)
 refine⟨.ref s1.heap.objs.size,aM H1 s1.heap.objs.size (.lst xs),I1.laid (t':=s1.toks) (λ b u e=>Heap.get?_push_of_some _ e) (Nat.le_refl _) ?_,rfl,q _ hf⟩
 exact⟨z,us,0,r,Heap.get?_push_size _ rfl⟩
end
noncomputable abbrev Sp:=List V->Hp->VK->XK->Prop
noncomputable abbrev iU:=List Env->Hp->Shared->XK->Value->Shared->Prop
structure xY(P:Program)(w:World)(K:PySem.W.Frag)(mg:Str->Option Value)(base:Heap)(A:Around)(outer:List Env)(s:Shared)(H:Hp):Prop where
 frames:A.frames=some outer
 mod:Mod K mg base
 bs:∀b o,base.get? b=some o->s.heap.get? b=some o/\H b=none
 bsz:base.objs.size<=s.heap.objs.size
 funs:s.heap.FunFrames base outer
 frf:∀b∈cV outer,H b=none
 hok:cU P w H s.heap
 bare:AllBare s.gens
noncomputable def CE(outer:List Env)(P:Program)(w:World)(H:Hp)(s:Shared)(Q:VK)(u:Value)(s':Shared):Prop:=
 ∃v H',s'.os=s.os/\eK s.gens s'.gens/\Un (cV outer) [] H H' s.heap s'.heap/\cU P w H' s'.heap/\bM v u/\Q v H'
noncomputable def CR(CX:iU)(outer:List Env)(P:Program)(w:World)(H:Hp)(s:Shared)(Q:VK)(E:XK)(r:Result)(s':Shared):Prop:=
 match r with
 |.ok (.ret u)=>CE outer P w H s Q u s'
 |.ok _=>False
 |.error e=>CX outer H s E e s'
structure fQ(P:Program)(w:World)(K:PySem.W.Frag)(mg:Str->Option Value)(base:Heap)(CX:iU)(k:Nat)(f:Addr)(fd:FuncData)(ps:List Str)(sp:Sp):Prop where
 len:∀vs H Q E,sp vs H Q E->vs.length=ps.length
 run:∀(A:Around) (outer:List Env) (s:Shared) (H:Hp) (args:Args) (us:List Value) (vs:List V) (Q:VK) (E:XK),dG k A->xY P w K mg base A outer s H->BindsTo s fd args (ps.zip us)->aW vs us->sp vs H Q E->
  codeAny (model P w) A (.call (.ref f) args) (CR CX outer P w H s Q E) s
theorem fQ.imp{P:Program}{w:World}{K:PySem.W.Frag}{mg:Str->Option Value}{base:Heap}{CX:iU}{k:Nat}{f:Addr}{fd:FuncData}{ps:List Str}{sp sp':Sp}(F:fQ P w K mg base CX k f fd ps sp)
  (h:∀vs H Q E,sp' vs H Q E->sp vs H Q E):fQ P w K mg base CX k f fd ps sp':=
 ⟨λ vs H Q E q=>F.len vs H Q E (h _ _ _ _ q),λ A outer s H args us vs Q E hr he hb hv hs=>F.run A outer s H args us vs Q E hr he hb hv (h _ _ _ _ hs)⟩
section
variable{X:Cx}{pins:List (Addr×Obj)}{σ:St}{H:Hp}{s s':Shared}
theorem aE.env0(I:aE X pins σ H s):xY X.prog X.w X.K X.mg X.base X.A X.stack s H:=
 ⟨I.ok.frames,I.ok.mod,I.bs,Nat.le_trans I.ok.bsz I.sz,I.stack,I.stkFree,I.hok,I.bare.1⟩
theorem aE.after{Q:VK}{u:Value}(I:aE X pins σ H s)(h:CE X.stack X.prog X.w H s Q u s'):EP X pins σ Q u s':=by
 obtain⟨v,H',os,bare,un,hok,r,q⟩:=h
 obtain⟨hh,g,d,t,os'⟩:=s'
 obtain rfl:os'=s.os:=os
 exact⟨v,H',I.call (h':=hh) (g':=g) (d':=d) (t':=t) (ch:=[]) un hok bare (λ b z=>absurd z Qb),r,q⟩
end
noncomputable def tR(K:PySem.W.Frag)(fd:FuncData)(ps:List Str)(ds:List Value):Prop:=
 ∀(s:Shared) (us:List Value),K.In s.heap->(us++ds).length=ps.length->BindsTo s fd ⟨us,[]⟩ (ps.zip (us++ds))
theorem tR.all{K:PySem.W.Frag}{fd:FuncData}{ps:List Str}(h:∀us:List Value,us.length=ps.length->bindArgs fd ⟨us,[]⟩=pure (ps.zip us)):tR K fd ps []:=λ s us _ hl=>by
 rw[List.append_nil]at hl⊢
 exact .of_eq (h us hl)
section
variable{X:Cx}{CX:iU}{k:Nat}{f C:Addr}{fd:FuncData}{ps:List Str}{sp:Sp}{dvs:List V}{ds:List Value}{E:XK}{x m:Str}{p pos apos:Pos}{e o:Expr}{es:List Expr}{ta:TE}{t:TA}
end
section
variable{X:Cx}{CX:iU}{k:Nat}{f C:Addr}{fd:FuncData}{ps ks:List Str}{sp:Sp}{E:XK}{x m:Str}{p pos apos kpos:Pos}{e o:Expr}{es:List Expr}{kws:List Keyword}{te ta:TE}{t tk:TA}{nm:Option Str}
variable{g:List Value->List Value->List Value}{gV:List V->List V->List V}
end
structure tL(N P:List Str)(sc:Scope):Prop where
 kind:sc.kind= .function
 co:sc.isCoroutine=false
 gen:sc.isGenerator=false
 nd:N.Nodup
 pre:N.take P.length=P
 par:∀x∈P,sc.names.lookup x=some .local\/sc.names.lookup x=some .cell
 nofree:∀y∈sc.names,y.2≠ .free
theorem Ou{kindOf:Str->Option NameKind}{x:Str}:∀{binds:List (Str×Value)} {m:Str->Option Value},(∀v,(x,v)∉binds)->bindL kindOf binds m x=m x
 |[],_,_=>rfl
 | (n,v)::r,m,h=>by
  unfold bindL
  rw[Ou λ w hw=>h w (List.mem_cons_of_mem _ hw)]
  split
  ·have:x≠n:=by rintro rfl;exact h v List.mem_cons_self
   simp[this]
  ·rfl
theorem Ow{kindOf:Str->Option NameKind}{x:Str}:∀{binds:List (Str×Value)} {m:Str->Option Value},(∀v,(x,v)∉binds)->bindC kindOf binds m x=m x
 |[],_,_=>rfl
 | (n,v)::r,m,h=>by
  unfold bindC
  rw[Ow λ w hw=>h w (List.mem_cons_of_mem _ hw)]
  split
  ·rfl
  ·have:x≠n:=by rintro rfl;exact h v List.mem_cons_self
   simp[this]
theorem Ov{kindOf:Str->Option NameKind}{x:Str}{v:Value}:∀{P:List Str} {vs:List Value} {i:Nat} {m:Str->Option Value},P.Nodup->P[i]? =some x->vs[i]? =some v->kindOf x=some .local->
  bindL kindOf (P.zip vs) m x=some v
 |[],_,_,_,_,h,_,_=>by simp at h
 |_::_,[],_,_,_,_,h,_=>by simp at h
 |p::P,w::vs,0,m,nd,h1,h2,hk=>by
  simp at h1 h2;subst h1;subst h2
  show bindL kindOf ((p,w)::P.zip vs) m p=_
  unfold bindL
  rw[Ou λ v hv=>(List.nodup_cons.mp nd).1 (List.of_mem_zip hv).1,if_pos hk]
  simp
 |p::P,w::vs,i+1,m,nd,h1,h2,hk=>by
  show bindL kindOf ((p,w)::P.zip vs) m x=_
  unfold bindL
  exact Ov (i:=i) (List.nodup_cons.mp nd).2 (by simpa using h1) (by simpa using h2) hk
theorem Ox{kindOf:Str->Option NameKind}{x:Str}{v:Value}:∀{P:List Str} {vs:List Value} {i:Nat} {m:Str->Option Value},P.Nodup->P[i]? =some x->vs[i]? =some v->kindOf x≠some .local->
  bindC kindOf (P.zip vs) m x=some v
 |[],_,_,_,_,h,_,_=>by simp at h
 |_::_,[],_,_,_,_,h,_=>by simp at h
 |p::P,w::vs,0,m,nd,h1,h2,hk=>by
  simp at h1 h2;subst h1;subst h2
  show bindC kindOf ((p,w)::P.zip vs) m p=_
  unfold bindC
  rw[Ow λ v hv=>(List.nodup_cons.mp nd).1 (List.of_mem_zip hv).1,if_neg hk]
  simp
 |p::P,w::vs,i+1,m,nd,h1,h2,hk=>by
  show bindC kindOf ((p,w)::P.zip vs) m x=_
  unfold bindC
  exact Ox (i:=i) (List.nodup_cons.mp nd).2 (by simpa using h1) (by simpa using h2) hk
noncomputable def start(N:List Str)(vs:List V):St:=vs.map some++List.replicate (N.length-vs.length) none
noncomputable def mH(CX:iU)(P:Program)(w:World)(K:PySem.W.Frag)(mg:Str->Option Value)(base:Heap)(N:List Str)(qual:Str)(scope:Scope)(f:Addr)(cd:Value)(A:Around)(outer:List Env)(s:Shared)(H:Hp)(E:XK):Cx where
 prog:=P
 w:=w
 K:=K
 mg:=mg
 base:=base
 A:=A.deeper (envOfC qual scope s.heap.objs.size f cd)
 N:=N
 s₀:=s
 H₀:=H
 env:=envOfC qual scope s.heap.objs.size f cd
 outer:=outer
 stack:=envOfC qual scope s.heap.objs.size f cd::outer
 ex:=[]
 calm:=true
 fn:=λ _=>true
 pn:=[]
 xe:=λ e s'=>wpAny (model P w) (A.deeper (envOfC qual scope s.heap.objs.size f cd)) (leaving (envOfC qual scope s.heap.objs.size f cd) e) (λ _ s''=>CX outer H s E e s'') (λ e' s''=>CX outer H s E e' s'') s'
theorem Og{sc:Scope}{n:Nat}{x:Str}(h:sc.names.lookup x=some .cell):∃c,(cellsFrom n sc.names []).lookup x=some c:=by
 have q:=PySem.W.cellsFrom_some sc.names n [] (.inl h)
 exact Option.isSome_iff_exists.mp q
theorem MQ{CX:iU}{P:Program}{w:World}{K:PySem.W.Frag}{mg:Str->Option Value}{base:Heap}{N ps:List Str}{qual:Str}{scope:Scope}{f:Addr}{cd:Value}{A:Around}{outer:List Env}{s s1:Shared}{H:Hp}{E:XK}{us:List Value}{vs:List V}
  (S:tL N ps scope) (hd:A.handled=none) (e0:xY P w K mg base A outer s H) (hl:vs.length=ps.length) (r:aW vs us)
  (x:InCallC s s.heap.objs.size (bindL (envOfC qual scope s.heap.objs.size f cd).kindOf (ps.zip us) λ _=>none) (cellsFrom (s.heap.objs.size+1) scope.names []) (bindC (envOfC qual scope s.heap.objs.size f cd).kindOf (ps.zip us) λ _=>none) s1):
  aE (mH CX P w K mg base N qual scope f cd A outer s H E) [] (start N vs) H s1:=by
 have hpl:ps.length<=N.length:=by have:=congrArg List.length S.pre;rw[List.length_take]at this;omega
 obtain⟨h1,tk,rfl,hk⟩:=x.done
 have noA:∀b:Addr,b∉(mH CX P w K mg base N qual scope f cd A outer s H E).ex:=λ b z=>absurd (show b∈([]:List Addr)from z) Qb
 refine⟨⟨e0.mod,S.kind,rfl,rfl,Nat.le_refl _,λ y z c h1 h2=>?_,λ y hy=>?_,λ y c _ h=>?_,λ _=>hd,Around.frames_deeper e0.frames,.inr ⟨rfl,rfl⟩,λ b z=>absurd z (noA b),e0.bs,e0.bsz,λ b _ _=>noA b,λ b z=>absurd z (noA b),e0.funs,e0.frf⟩,
  rfl,⟨e0.bare,Nat.le_refl _⟩,Un.kept hk,⟨_,x.toInCall.ns,λ i y v h1 h2 h3=>?_⟩,λ y c h=>⟨_,x.cell y c h⟩,e0.hok.fresh (Nat.le_refl _),λ y c h=>?_,λ p hp=>absurd (show p∈([]:List (Addr×Obj))from hp) Qb,e0.hok.kept hk,?_⟩
 ·exact name_of_addr x.apart (PySem.mem_of_lookup h1) (PySem.mem_of_lookup h2)
 ·have hy:scope.names.lookup y=some .cell\/scope.names.lookup y=some .free:=hy
  rcases hy with hy|hy
  ·exact Og hy
  ·exact absurd rfl (S.nofree _ (PySem.mem_of_lookup hy))
 ·exact Nat.le_of_lt (x.above y c (PySem.mem_of_lookup h))
 ·have hi:i<vs.length:=by
   unfold start at h2
   by_cases hi:i<vs.length
   ·exact hi
   ·rw[List.getElem?_append_right (by simpa using hi)]at h2
    rw[List.getElem?_replicate]at h2
    split at h2<;>cases h2
  have ha:vs[i]? =some v:=by
   unfold start at h2
   rw[List.getElem?_append_left (by simpa using hi),List.getElem?_map]at h2
   cases e:vs[i]? with
   |none=>rw[e]at h2;cases h2
   |some a=>rw[e]at h2;cases h2;rfl
  obtain⟨u,hu,rv⟩:=r.get ha
  have hp:ps[i]? =some y:=by
   rw[<-S.pre,List.getElem?_take_of_lt Qa];exact h1
  have ndP:ps.Nodup:=by rw[<-S.pre];exact S.nd.sublist (List.take_sublist _ _)
  refine⟨u,rv,?_⟩
  rcases S.par y (List.mem_of_getElem? hp)with k|k
  ·exact .inl ⟨k,Ov ndP hp hu k⟩
  ·obtain⟨c,e⟩:=Og (n:=s.heap.objs.size+1) k
   refine .inr ⟨.inl k,c,e,?_⟩
   have q:=x.cell y c e
   rw[Ox ndP hp hu (by show scope.names.lookup y≠_;rw[k];decide)]at q
   exact q
 ·exact e0.hok.fresh (Nat.le_of_lt (x.above y c (PySem.mem_of_lookup h)))
 ·unfold start
  show _=N.length
  rw[List.length_append,List.length_map,List.length_replicate]
  omega
theorem Mv{CX:iU}{P:Program}{w:World}{K:PySem.W.Frag}{mg:Str->Option Value}{base:Heap}{k:Nat}{f:Addr}{name qual:Str}{params:Arguments}{body:List Stmt}{scope:Scope}{dV kV doc pm cdv ct oc:Value}{an od:Option Addr}
  {osl:Array (Option Value)} {N ps:List Str} {sp:Sp} (lk:K.lookup f=some ⟨oc,od,.func (PySem.W.fnOf name qual params body scope dV kV doc pm an cdv ct),osl⟩) (hcd:PySem.W.codeIn K cdv qual=true) (S:tL N ps scope)
  (len:∀vs H Q E,sp vs H Q E->vs.length=ps.length)
  (hbody:∀(A:Around) (outer:List Env) (s:Shared) (H:Hp) (vs:List V) (Q:VK) (E:XK),dG k (A.deeper (envOfC qual scope s.heap.objs.size f cdv))->sp vs H Q E->
   ∃t,eB (mH CX P w K mg base N qual scope f cdv A outer s H E) body t/\t {nx:=λ _ H'=>Q .non H',rt:=Q} (start N vs) H):
  fQ P w K mg base CX (k+1) f (PySem.W.fnOf name qual params body scope dV kV doc pm an cdv ct) ps sp:=by
 refine⟨len,λ A outer s H args us vs Q E hr e0 hb r hsp=>?_⟩
 have hl:=len _ _ _ _ hsp
 have KX:K.In s.heap:=e0.mod.kin.keeps λ b o e=>(e0.bs b o e).1
 have lim:s.heap.NoLimit:=e0.mod.nolimit.keeps λ b o e=>(e0.bs b o e).1
 have hkind:∀y∈ps.zip us,scope.names.lookup y.1=some .local\/(scope.names.lookup y.1=some .cell/\((cellsFrom (s.heap.objs.size+1) scope.names []).lookup y.1).isSome=true):=λ ⟨n,v⟩ hy=>by
  rcases S.par n (List.of_mem_zip hy).1 with q|q
  ·exact .inl q
  ·exact .inr ⟨q,PySem.W.cellsFrom_some _ _ _ (.inl q)⟩
 refine codeAny_call_function hr.depth (KX _ _ lk) rfl S.co S.gen rfl (PySem.W.codeRec_of KX hcd) (hb _ _ _ _ ?_)
 refine wpAny_newFunctionEnv_cells S.kind hkind λ env he s1 x=>?_
 subst he
 refine⟨lim.keeps x.toInCall.keep,codeAny_func ?_⟩
 obtain⟨t,ht,hq⟩:=hbody A outer s H vs Q E (hr.deeper _) hsp
 have I:aE (mH CX P w K mg base N qual scope f cdv A outer s H E) [] (start N vs) H s1:=MQ S hr.hd e0 hl r x
 refine wpAny_mono (ht [] s1 (start N vs) H _ I hq) (λ fl s' hs=>?_) λ e s' hs=>hs
 have fin:∀{σ':St} {H':Hp} {v:V} {u:Value},aE (mH CX P w K mg base N qual scope f cdv A outer s H E) [] σ' H' s'->bM v u->Q v H'->CE outer P w H s Q u s':=
  fun{σ' H' v u} J rv q=>⟨v,H',J.os,J.bare,J.base,J.hok,rv,q⟩
 cases fl with
 |ret u=>
  obtain⟨v,σ',H',J,rv,q⟩:=hs
  exact fin J rv q
 |next=>
  obtain⟨σ',H',J,q⟩:=hs
  exact fin (v:=V.non) (u:=Value.none) J rfl q
 |brk=>
  obtain⟨_,_,_,q⟩:=hs
  exact False.elim q
 |cont=>
  obtain⟨_,_,_,q⟩:=hs
  exact False.elim q
section
variable{X:Cx}{x:Str}{p pos:Pos}{e:Expr}{es:List Expr}{t:TA}{id T:String}{r:List V->Hp->VK->Prop}
noncomputable def yM(r:List V->Hp->VK->Prop)(t:TA):TE:=λ σ H Q=>t σ H λ vs H1=>r vs H1 Q
theorem oW(hc:eW X (.builtin id) r)(hg:Gl X x)(hm:X.mg x=none)(hv:bootBuiltins x=some (.builtin id))(ha:PA X (e::es) t)(hn:x≠ "__name__" :=by decide)(hdb:(x==("__debug__" :Str))=false:=by decide)
  (he:starEach (e::es) X.env=(false,eval e X.env)::starEach es X.env:=by rfl) (hpl:(backTo pos (starEach es X.env)).any (·.1)=false:=by rfl):PE X (.Call (.Name x p) (e::es) [] pos) (yM r t):=by
 intro pins s σ H Q I h
 refine wpAny_Call_Name_kw (jR I hg hm hv ?_ hn hdb)
 exact PyProof.Rows.callWith_builtin1 (aT (ha pos pins s σ H _ I h) λ us s1 ⟨vs,H1,I1,r1,q1⟩=>hc pins s1 σ H1 vs us Q I1 r1 q1) he hpl
theorem vD(hc:eW X (.type T) r)(hg:Gl X x)(hm:X.mg x=none)(hv:bootBuiltins x=some (.type T))(ha:PA X (e::es) t)(hn:x≠ "__name__" :=by decide)(hdb:(x==("__debug__" :Str))=false:=by decide)
  (he:starEach (e::es) X.env=(false,eval e X.env)::starEach es X.env:=by rfl) (hpl:(backTo pos (starEach es X.env)).any (·.1)=false:=by rfl):PE X (.Call (.Name x p) (e::es) [] pos) (yM r t):=by
 intro pins s σ H Q I h
 refine wpAny_Call_Name_kw (jR I hg hm hv ?_ hn hdb)
 exact PyProof.Rows.callWith_type1 (aT (ha pos pins s σ H _ I h) λ us s1 ⟨vs,H1,I1,r1,q1⟩=>hc pins s1 σ H1 vs us Q I1 r1 q1) he hpl
end
end L2
namespace HT
open PySem PyProof.Rows
section
open PySem.SeqAt
open PySem.AutoSeq1 (wpAny_loadPart')
open PySem.MeetsSeq PySem.MeetsSeq2 PySem.MeetsSeq3
end
section
variable{prog:Program}{w:World}{A:Around}{E:Qd}{s:Shared}
theorem cat_tup{t b:Addr}{vs ws:List Value}{Q:Qd}(ht:IsTup s.heap t vs.toArray)(hb:IsTup s.heap b ws.toArray)(hv:vs≠[])
  (h1:ws=[]->Q (.ref t) s) (h2:ws≠[]->Q (.ref s.heap.objs.size) {s with heap:=s.heap.push {cls:=.type "tuple",data:=.seq (vs++ws).toArray}})
  (hsz:vs.length+ws.length<=sizeLine):wpAny (model prog w) A (binaryOp .Add (.ref t) (.ref b)) Q E s:=by
 obtain⟨⟨cls,dd,data,sl⟩,ho,hc,n,hd⟩:=id ht
 obtain⟨⟨cls2,dd2,data2,sl2⟩,ho2,hc2,n2,hd2⟩:=id hb
 simp only at hc hd hc2 hd2
 subst hc hd hc2 hd2
 have e:vs.toArray++ws.toArray=(vs++ws).toArray:=by simp
 by_cases hw:ws=[]
 ·exact concat_meets ⟨_,ho,rfl⟩ ⟨_,ho2,rfl⟩ noFill_tuple_add seq_tuple_add PySem.F.slot_tuple_add PySem.F.entry_tuple_add (PySem.F.args_tuple_add_2 _ _)
   (tuple_addW1 t b vs.toArray ws.toArray n n2 dd dd2 sl sl2 (by simpa using hv) (by simp[hw])) ⟨ho,ho2,h1 hw⟩
 ·refine concat_meets ⟨_,ho,rfl⟩ ⟨_,ho2,rfl⟩ noFill_tuple_add seq_tuple_add PySem.F.slot_tuple_add PySem.F.entry_tuple_add (PySem.F.args_tuple_add_2 _ _)
   (tuple_addW2 t b vs.toArray ws.toArray n n2 dd dd2 sl sl2 (by simpa using hv) (by simpa using hw) (by rw[List.size_toArray,List.size_toArray];exact hsz)) ⟨ho,ho2,?_⟩
  rw[e]
  exact h2 hw
noncomputable def sIx(n d:Nat):Option Int->Nat
 |none=>d
 |some v=>if v<0 then(v+(n:Int)).toNat else min v.toNat n
theorem sIx_none(n d:Nat):sIx n d none=d:=rfl
theorem sIx_nat(n d k:Nat):sIx n d (some (k:Int))=min k n:=by
 show(if(k:Int)<0 then((k:Int)+(n:Int)).toNat else min (k:Int).toNat n)=min k n
 rw[if_neg Qa,Int.toNat_natCast]
theorem AN(n d:Nat)(hd:d<=n)(o:Option Int):sIx n d o<=n:=by
 cases o with
 |none=>exact hd
 |some v=>
  show(if v<0 then(v+(n:Int)).toNat else min v.toNat n)<=n
  by_cases hv:v<0
  ·rw[if_pos hv];omega
  ·rw[if_neg hv];exact Nat.min_le_right _ _
theorem Oe(v:Int)(n d:Nat):(if v<0 then max (v+(n:Int)) 0 else min v (n:Int))=((sIx n d (some v):Nat):Int):=by
 show(if v<0 then max (v+(n:Int)) 0 else min v (n:Int))=(((if v<0 then(v+(n:Int)).toNat else min v.toNat n):Nat):Int)
 by_cases hv:v<0
 ·simp only[if_pos hv];omega
 ·simp only[if_neg hv];omega
theorem j6(lo hi:Option Int)(n:Nat):Builtin.Slice.sliceAdjust lo hi 1 (n:Int)=(((sIx n 0 lo:Nat):Int),((sIx n n hi:Nat):Int)):=by
 have h1:¬((1:Int)<0):=by omega
 unfold Builtin.Slice.sliceAdjust
 simp only[h1,if_false]
 refine Prod.ext ?_ ?_
 ·cases lo with
  |none=>rfl
  |some v=>exact Oe v n 0
 ·cases hi with
  |none=>rfl
  |some v=>exact Oe v n n
theorem DV(i j:Nat):Builtin.Slice.slicePlaces (i:Int) (j:Int) 1=j-i:=by
 unfold Builtin.Slice.slicePlaces
 have h1:(1:Int)>0:=by omega
 simp only[h1,if_true,Int.ediv_one]
 split<;>omega
theorem Fs{v:Value}{o:Option Int}{Q:Option Int->Shared->Prop}(p:IsPart v o)(h:Q o s):wpAny (model prog w) A (Builtin.Slice.slicePartIndex v) Q E s:=by
 cases p with
 |none=>exact slicePart_none h
 |int i t=>exact slicePart_int h
theorem Ft{sl:Addr}{vl vu:Value}{lo hi:Option Int}{n:Nat}{Q:Int×Int×Nat->Shared->Prop}(hs:s.heap.IsSliceOf sl vl vu .none)(pl:IsPart vl lo)(pu:IsPart vu hi)
  (h:Q (((sIx n 0 lo:Nat):Int),1,sIx n n hi-sIx n 0 lo) s):wpAny (model prog w) A (Builtin.Slice.sliceApplied (.ref sl) (pure (n:Int))) Q E s:=by
 obtain⟨os,hos,hcs,hds⟩:=id hs
 unfold Builtin.Slice.sliceApplied Builtin.Slice.sliceFields
 refine wpAny_bind (wpAny_bind (wpAny_field hos hds (x:=vl) rfl (wpAny_bind (wpAny_field hos hds (x:=vu) rfl (wpAny_bind (wpAny_field hos hds (x:=.none) rfl (wpAny_pure ?_)))))))
 refine wpAny_bind (slicePart_none ?_)
 show wpAny _ _ (if((1:Int)==0)=true then _ else _) _ _ s
 rw[if_neg Qc]
 refine wpAny_bind (Fs pl (wpAny_bind (Fs pu (wpAny_bind (wpAny_pure ?_)))))
 show wpAny _ _ (match Builtin.Slice.sliceAdjust lo hi 1 (n:Int)with|(lo,hi)=>pure (lo,(1:Int),Builtin.Slice.slicePlaces lo hi 1)) _ _ s
 rw[j6 lo hi n]
 show wpAny _ _ (pure (((sIx n 0 lo:Nat):Int),(1:Int),Builtin.Slice.slicePlaces ((sIx n 0 lo:Nat):Int) ((sIx n n hi:Nat):Int) 1)) _ _ s
 rw[DV]
 exact wpAny_pure h
theorem DX(xs:Array Value)(i k:Nat):((List.range k).filterMap λ (m:Nat)=>xs[((i:Int)+(m:Int)*1).toNat]?).toArray=((xs.toList.drop i).take k).toArray:=by
 have e:(λ (m:Nat)=>xs[((i:Int)+(m:Int)*1).toNat]?)=λ m=>xs[i+m]?:=by
  funext m
  have:((i:Int)+(m:Int)*1).toNat=i+m:=by omega
  rw[this]
 rw[e]
 have:=pick_run xs i k
 rw[List.filterMap_map]at this
 have e2:((λ x=>xs[x]?)∘λ x=>i+x)=λ m=>xs[i+m]?:=rfl
 rw[e2]at this
 rw[this]
theorem getItem_tuple_cut{t sl:Addr}{items:Array Value}{vl vu:Value}{lo hi:Option Int}{Q:Qd}(ht:IsTup s.heap t items)(hs:s.heap.IsSliceOf sl vl vu .none)(pl:IsPart vl lo)(pu:IsPart vu hi)
  (hw:¬(sIx items.size 0 lo=0/\sIx items.size items.size hi=items.size))
  (h:Q (.ref s.heap.objs.size) {s with heap:=s.heap.push {cls:=.type "tuple",data:=.seq ((items.toList.drop (sIx items.size 0 lo)).take (sIx items.size items.size hi-sIx items.size 0 lo)).toArray}})
  (hsz:items.size<=sizeLine):wpAny (model prog w) A (getItem (.ref t) (.ref sl)) Q E s:=by
 have htake:sizeOk (.seq ((items.toList.drop (sIx items.size 0 lo)).take (sIx items.size items.size hi-sIx items.size 0 lo)).toArray):=by
  show((items.toList.drop (sIx items.size 0 lo)).take (sIx items.size items.size hi-sIx items.size 0 lo)).toArray.size<=sizeLine
  rw[List.size_toArray,List.length_take,List.length_drop,Array.length_toList]
  exact Nat.le_trans (Nat.min_le_right _ _) (Nat.le_trans (Nat.sub_le _ _) hsz)
 have hj:sIx items.size items.size hi<=items.size:=AN _ _ (Nat.le_refl _) hi
 obtain⟨os,hos,hcs,hds⟩:=id hs
 have hTs:s.TypeIs (.ref sl) "slice" :=⟨os,hos,hcs⟩
 unfold getItem
 try with_reducible refine wpAny_holding ?_
 first|refine wpAny_bind (wpAny_pure ?_)|skip
 refine wpAny_bind (wpAny_sequenceKey ht.typeIs Qc ?_)
 refine wpAny_bind (wpAny_callSpecial?_slot (name:=Str.ofString "__getitem__") ht.typeIs PyProof.Rows.slot_tuple_getitem
  (wpAny_call_entry PyProof.Rows.slot_tuple_getitem ht.typeIs entry_tuple_getitem ?_ (args_tuple_getitem _ _)))
 show wpAny _ _ (Builtin.Tuple.tupleItemsOf (.ref t)>>=_) _ _ s
 refine wpAny_bind (tupleItemsOf_ ht ?_)
 refine wpAny_bind (wpAny_typeOf hTs ?_)
 rw[if_pos Qc]
 refine wpAny_bind (Ft hs pl pu ?_)
 have hno:¬((((sIx items.size 0 lo:Nat):Int)==0&&(1:Int)==1&&(sIx items.size items.size hi-sIx items.size 0 lo)==items.size)=true):=by
  intro q
  rw[Bool.and_eq_true,Bool.and_eq_true]at q
  have q1:((sIx items.size 0 lo:Nat):Int)=0:=eq_of_beq q.1.1
  have q2:sIx items.size items.size hi-sIx items.size 0 lo=items.size:=eq_of_beq q.2
  exact hw ⟨Qa,Qa⟩
 show wpAny _ _ (if(((sIx items.size 0 lo:Nat):Int)==0&&(1:Int)==1&&(sIx items.size items.size hi-sIx items.size 0 lo)==items.size)=true then _ else _) _ _ s
 rw[if_neg hno,DX]
 first
  |exact wpAny_bind (m:=Builtin.Tuple.tupleExact _) (wpAny_newObj_type (wpAny_pure ⟨_,rfl,wpAny_pure h⟩) htake)
  |exact wpAny_bind (m:=Builtin.Tuple.tupleExact _) (wpAny_newObj_type (wpAny_bind (wpAny_pure (wpAny_pure ⟨_,rfl,wpAny_pure h⟩))) htake)
  |exact wpAny_bind (wpAny_bind (m:=Builtin.Tuple.tupleExact _) (wpAny_newObj_type (wpAny_pure (wpAny_pure ⟨_,rfl,wpAny_pure h⟩)) htake))
  |exact wpAny_bind (wpAny_bind (m:=Builtin.Tuple.tupleExact _) (wpAny_newObj_type (wpAny_pure ⟨_,rfl,wpAny_pure h⟩) htake))
end
end HT
namespace L2
open PySem PySem.Spec PyProof.Rows
noncomputable abbrev TO:=St->Hp->(Option Int->Hp->Prop)->Prop
noncomputable def PO(X:Cx)(e:Option Expr)(t:TO):Prop:=
 ∀(pins:List (Addr×Obj)) (s:Shared) (σ:St) (H:Hp) (Q:Option Int->Hp->Prop),aE X pins σ H s->t σ H Q->
  wpAny (model X.prog X.w) X.A (evalPart e X.env) (λ u s'=>∃o H',aE X pins σ H' s'/\IsPart u o/\Q o H') X.xe s
noncomputable def Vf:TO:=λ _ H Q=>Q none H
noncomputable def Vb(t:TE):TO:=λ σ H Q=>t σ H λ x H1=>∃i,x= .int i/\Q (some i) H1
section
variable{X:Cx}{e:Expr}{te:TE}{lo hi:Option Expr}{tl th:TO}{pos p2:Pos}
theorem DQ:PO X none Vf:=by
 intro pins s σ H Q I h
 rw[evalPart_none]
 exact wpAny_pure ⟨none,H,I,.none,h⟩
theorem DO(h:PE X e te):PO X (some e) (Vb te):=by
 intro pins s σ H Q I hw
 rw[evalPart_some]
 refine aT (h pins s σ H _ I hw) λ u s1 ⟨x,H1,I1,r1,q1⟩=>?_
 obtain⟨i,rfl,q⟩:=q1
 obtain⟨t,rfl⟩:=r1
 exact⟨some i,H1,I1,.int i t,q⟩
noncomputable def sZ(X:Cx)(r:V->Option Int->Option Int->Hp->VK->Prop):Prop:=
 ∀(pins:List (Addr×Obj)) (s:Shared) (σ:St) (H:Hp) (x:V) (v vl vu:Value) (lo hi:Option Int) (sl:Addr) (Q:VK),aE X pins σ H s->bM x v->s.heap.IsSliceOf sl vl vu .none->IsPart vl lo->IsPart vu hi->r x lo hi H Q->
  ∃T id,typeLookup (.type T) "__getitem__" =pure (some (.builtin id))/\s.TypeIs v T/\wpAny (model X.prog X.w) X.A (getItem v (.ref sl)) (EP X pins σ Q) X.xe s
noncomputable def Tw(r:V->Option Int->Option Int->Hp->VK->Prop)(te:TE)(tl th:TO):TE:=λ σ H Q=>te σ H λ x H1=>tl σ H1 λ l H2=>th σ H2 λ u H3=>r x l u H3 Q
theorem FD{r:V->Option Int->Option Int->Hp->VK->Prop}(hr:sZ X r)(he:PE X e te)(hl:PO X lo tl)(hu:PO X hi th):PE X (.Subscript e (.Slice lo hi none p2) pos) (Tw r te tl th):=by
 intro pins s σ H Q I h
 refine Subscript_ (aT (he pins s σ H _ I h) λ v s1 ⟨x,H1,I1,r1,q1⟩=>?_)
 refine wpAny_Slice (aT (hl pins s1 σ H1 _ I1 q1) λ vl s2 ⟨l,H2,I2,pl,q2⟩=>aT (hu pins s2 σ H2 _ I2 q2) λ vu s3 ⟨u,H3,I3,pu,q3⟩=>?_)
 rw[evalPart_none]
 refine wpAny_pure ?_
 have I4:aE X pins σ H3 {s3 with heap:=s3.heap.push {cls:=.type "slice",data:=.fields #[vl,vu,.none]}}:=I3.kept (t':=s3.toks) λ b ob q=>Heap.get?_push_of_some _ q
 obtain⟨T,id,hT,ht,hg⟩:=hr pins {s3 with heap:=s3.heap.push {cls:=.type "slice",data:=.fields #[vl,vu,.none]}} σ H3 x v vl vu l u s3.heap.objs.size Q I4 r1 (Heap.IsSliceOf.new ..) pl pu q3
 show wpAny (model X.prog X.w) X.A (subscriptTail e (.Slice lo hi none p2) v (.ref s3.heap.objs.size)) (EP X pins σ Q) X.xe {s3 with heap:=s3.heap.push {cls:=.type "slice",data:=.fields #[vl,vu,.none]}}
 exact tail_any (ops:=[.ref s3.heap.objs.size,v]) ht hT hg (by with_unfolding_all rfl)
noncomputable def mI(xs:List V)(lo hi:Option Int):List V:=(xs.drop (HT.sIx xs.length 0 lo)).take (HT.sIx xs.length xs.length hi-HT.sIx xs.length 0 lo)
theorem Nt(xs:List V)(lo hi:Option Int):(mI xs lo hi).length<=xs.length:=by
 unfold mI
 rw[List.length_take,List.length_drop]
 omega
noncomputable def BB(K:PySem.W.Frag):V->Option Int->Option Int->Hp->VK->Prop:=λ x lo hi H Q=>∃a xs,x= .ref a/\bE K H a xs/\
 ¬(HT.sIx xs.length 0 lo=0/\HT.sIx xs.length xs.length hi=xs.length)/\∀p,H p=none->Q (.ref p) (aM H p (.tup (mI xs lo hi)))
theorem Xs:sZ X (BB X.K):=by
 intro pins s σ H x v vl vu lo hi sl Q I rx hs pl pu h
 obtain⟨a,xs,rfl,hx,hw,q⟩:=h
 cases rx
 obtain⟨its,r,ht,hz⟩:=I.tuple hx
 have hlen:its.toArray.size=xs.length:=by rw[List.size_toArray];exact r.length.symm
 refine⟨"tuple",_,PyProof.Rows.slot_tuple_getitem.lookup,ht.typeIs,?_⟩
 refine HT.getItem_tuple_cut ht hs pl pu (by rw[hlen];exact hw) ?_ (by rw[hlen];exact hz)
 rw[hlen]
 refine⟨.ref s.heap.objs.size,_,I.laid (t':=s.toks) (o:=.tup (mI xs lo hi)) (λ b ob q=>Heap.get?_push_of_some _ q) (Nat.le_refl _) ?_,rfl,q _ (I.hok.fresh (Nat.le_refl _))⟩
 exact⟨Nat.le_trans (Nt xs lo hi) hz,_,(r.drop (HT.sIx xs.length 0 lo)).take (HT.sIx xs.length xs.length hi-HT.sIx xs.length 0 lo),IsTup.new _ _,_,Heap.get?_push_size _ rfl,rfl⟩
noncomputable def BN(K:PySem.W.Frag):R2:=λ x y H Q=>∃a b xs ys,x= .ref a/\y= .ref b/\bE K H a xs/\bE K H b ys/\xs≠[]/\xs.length+ys.length<=sizeLine/\
 (ys=[]->Q (.ref a) H)/\(ys≠[]->∀p,H p=none->Q (.ref p) (aM H p (.tup (xs++ys))))
theorem aW.nil_iff{xs:List V}{us:List Value}(r:aW xs us):us=[]↔xs=[]:=by
 cases r with
 |nil=>simp
 |cons _ _=>simp
theorem HV:bZ X (binaryOp .Add) (BN X.K):=by
 intro pins s σ H x y v u Q I rx ry h
 obtain⟨a,b,xs,ys,rfl,rfl,ha,hb,hx,hz,q1,q2⟩:=h
 cases rx
 cases ry
 obtain⟨its,r1,p1,_⟩:=I.tuple ha
 obtain⟨its2,r2,p2,_⟩:=I.tuple hb
 refine HT.cat_tup p1 p2 (λ z=>hx (r1.nil_iff.mp z)) (λ z=>⟨.ref a,H,I,rfl,q1 (r2.nil_iff.mp z)⟩) (λ z=>?_) (by rw[<-r1.length,<-r2.length];exact hz)
 refine⟨.ref s.heap.objs.size,_,I.laid (t':=s.toks) (o:=.tup (xs++ys)) (λ b ob q=>Heap.get?_push_of_some _ q) (Nat.le_refl _) ?_,rfl,q2 (λ w=>z (r2.nil_iff.mpr w)) _ (I.hok.fresh (Nat.le_refl _))⟩
 exact⟨by rw[List.length_append];exact hz,_,r1.append r2,IsTup.new _ _,_,Heap.get?_push_size _ rfl,rfl⟩
end
noncomputable def kM(n:Nat)(i:Int):Option Nat:=if 0<=i then(if i<n then some i.toNat else none)else if-(n:Int)<=i then some (i+n).toNat else none
noncomputable def atI{α:Type}(xs:List α)(i:Int):Option α:=(kM xs.length i).bind λ j=>xs[j]?
theorem Kj{n:Nat}{i:Int}{j:Nat}(h:kM n i=some j):seqIndex? i n=some j/\j<n/\-(n:Int)<=i/\i<n:=by
 unfold kM at h
 by_cases h0:0<=i
 ·rw[if_pos h0]at h
  by_cases h1:i<n
  ·rw[if_pos h1]at h
   have e:i.toNat=j:=Option.some.inj h
   exact⟨by rw[seqIndex_of h0 h1,e],Qa,Qa,h1⟩
  ·rw[if_neg h1]at h;cases h
 ·rw[if_neg h0]at h
  by_cases h1: -(n:Int)<=i
  ·rw[if_pos h1]at h
   have e:(i+n).toNat=j:=Option.some.inj h
   exact⟨by rw[seqIndex_neg Qa h1,e],Qa,h1,Qa⟩
  ·rw[if_neg h1]at h;cases h
theorem Ct{α:Type}{xs:List α}{i:Int}{v:α}(h:atI xs i=some v):∃j,seqIndex? i xs.length=some j/\xs[j]? =some v/\j<xs.length/\-(xs.length:Int)<=i/\i<xs.length:=by
 unfold atI at h
 cases e:kM xs.length i with
 |none=>rw[e]at h;cases h
 |some j=>
  rw[e]at h
  obtain⟨h1,h2,h3,h4⟩:=Kj e
  exact⟨j,h1,h,h2,h3,h4⟩
noncomputable def Da(b:Expr):Prop:=∀o i,subscripted b false o i=operate [o,i] (getItem o i)
noncomputable def gT(X:Cx)(r:R2):Prop:=
 ∀(value slice:Expr) (pins:List (Addr×Obj)) (s:Shared) (σ:St) (H:Hp) (x y:V) (v u:Value) (Q:VK),aE X pins σ H s->bM x v->bM y u->r x y H Q->
  subscripted slice false v u=operate [v,u] (getItem v u)->wpAny (model X.prog X.w) X.A (subscriptTail value slice v u) (EP X pins σ Q) X.xe s
noncomputable def hZ(X:Cx)(id:String)(r:V->List V->Hp->VK->Prop):Prop:=
 ∀(pins:List (Addr×Obj)) (s:Shared) (σ:St) (H:Hp) (x:V) (xs:List V) (v:Value) (us:List Value) (Q:VK),aE X pins σ H s->bM x v->aW xs us->r x xs H Q->
  wpAny (model X.prog X.w) X.A (call (.builtin id) (v::us)) (EP X pins σ Q) X.xe s
section
variable{X:Cx}{a b:Expr}{ta tb:TE}{pos:Pos}
theorem gT.or{r r':R2}(h:gT X r)(h':gT X r'):gT X (λ x y H Q=>r x y H Q\/r' x y H Q):=by
 intro value slice pins s σ H x y v u Q I rx ry q hs
 rcases q with q|q
 ·exact h value slice pins s σ H x y v u Q I rx ry q hs
 ·exact h' value slice pins s σ H x y v u Q I rx ry q hs
theorem FS{r:R2}(hr:gT X r)(ha:PE X a ta)(hb:PE X b tb)(hs:Da b):PE X (.Subscript a b pos) (qJ r ta tb):=by
 intro pins s σ H Q I h
 exact Subscript_ (Cm ha hb I h λ v u s2 x y H2 I2 rx ry q=>hr a b pins s2 σ H2 x y v u Q I2 rx ry q (hs _ _))
noncomputable def Gw(K:PySem.W.Frag):R2:=λ x y H Q=>∃p xs i v,x= .ref p/\y= .int i/\bA K H p xs/\atI xs i=some v/\Q v H
noncomputable def Gs(K:PySem.W.Frag):R2:=λ x y H Q=>∃p xs i v,x= .ref p/\y= .int i/\bE K H p xs/\atI xs i=some v/\Q v H
noncomputable def Gu:R2:=λ x y H Q=>∃z i c,x= .str z/\y= .int i/\z.length<=sizeLine/\atI z.cps.toList i=some c/\Q (.str ⟨#[c]⟩) H
theorem ix_list:gT X (Gw X.K):=by
 intro value slice pins s σ H x y v u Q I rx ry h hs
 obtain⟨p,xs,i,z,rfl,rfl,hq,he,q⟩:=h
 cases rx
 obtain⟨t,rfl⟩:=ry
 obtain⟨its,r,pl,hz⟩:=I.list hq
 obtain⟨j,h1,h2,h3,h4,h5⟩:=Ct he
 obtain⟨w,ew,rw'⟩:=r.get h2
 have hl:=r.length
 have hn:=lV
 have fin:EP X pins σ Q w s:=⟨z,H,I,rw',q⟩
 by_cases h0:0<=i
 ·have hj:i.toNat=j:=by
   rw[seqIndex_of h0 h5]at h1
   exact Option.some.inj h1
  exact item_listR pl.isList h0 Qa (by rw[hj];simpa using ew) fin hs
 ·have hj:(i+(its.toArray.size:Int)).toNat=j:=by
   rw[seqIndex_neg Qa h4]at h1
   rw[List.size_toArray,<-hl]
   exact Option.some.inj h1
  exact subscriptTail_builtinR (x:=w) pl.isList.typeIs slot_list_getitem.lookup
   (wpAny_getItem_list_neg (Q:=λ r s'=>r=w/\EP X pins σ Q r s') pl.isList Qa (by rw[List.size_toArray]<;>omega) Qa (by rw[hj];simpa using ew) ⟨rfl,fin⟩) hs
theorem MC:gT X (Gs X.K):=by
 intro value slice pins s σ H x y v u Q I rx ry h hs
 obtain⟨p,xs,i,z,rfl,rfl,hq,he,q⟩:=h
 cases rx
 obtain⟨t,rfl⟩:=ry
 obtain⟨its,r,pl,hz⟩:=I.tuple hq
 obtain⟨j,h1,h2,h3,h4,h5⟩:=Ct he
 obtain⟨w,ew,rw'⟩:=r.get h2
 have hl:=r.length
 have hn:=lV
 have fin:EP X pins σ Q w s:=⟨z,H,I,rw',q⟩
 exact subscriptTail_builtinR (x:=w) pl.typeIs slot_tuple_getitem.lookup
  (getItem_tuple (j:=j) (Q:=λ r s'=>r=w/\EP X pins σ Q r s') pl Qa Qa (by rw[List.size_toArray,<-hl];exact h1) (by simpa using ew) ⟨rfl,fin⟩) hs
theorem MD:gT X Gu:=by
 intro value slice pins s σ H x y v u Q I rx ry h hs
 obtain⟨z,i,c,rfl,rfl,hz,he,q⟩:=h
 obtain⟨t,rfl⟩:=rx
 obtain⟨t',rfl⟩:=ry
 obtain⟨j,h1,h2,h3,h4,h5⟩:=Ct he
 have hl:z.cps.toList.length=z.length:=by simp[Str.length]
 rw[hl]at h1 h4 h5
 have hn:=lV
 exact tail_any (typeIs_str s z t) slot_str_getitem.lookup (getItem_str (c:=c) (by
  have e1:decide (i< -(2^63:Int))=false:=decide_eq_false Qa
  have e2:decide (i≥2^63)=false:=decide_eq_false Qa
  rw[e1,e2,Bool.or_false]) (by rw[h1];simpa using h2) ⟨.str ⟨#[c]⟩,H,I.tok _,⟨_,rfl⟩,q⟩) hs
theorem KN(its:List Value)(n j:Nat)(u:Value):Obj.mapSeq (·.setIfInBounds j u) {cls:=.type "list",data:=.seq its.toArray n}={cls:=.type "list",data:=.seq (its.set j u).toArray n}:=by
 simp[Obj.mapSeq]
theorem aE.lst{pins:List (Addr×Obj)}{σ:St}{H:Hp}{s:Shared}{p:Addr}{xs:List V}(I:aE X pins σ H s)(h:H p=some (.lst xs)):
  ∃(its:List Value) (n:Nat),aW xs its/\s.heap.get? p=some {cls:=.type "list",data:=.seq its.toArray n}/\xs.length<=sizeLine:=by
 obtain⟨z,its,n,r,e⟩:=I.hok p _ h
 exact⟨its,n,r,e,z⟩
theorem aE.lstUpd{pins:List (Addr×Obj)}{σ:St}{H:Hp}{s:Shared}{p:Addr}{xs ys:List V}{its its':List Value}{n n':Nat}{f:Obj->Obj}(I:aE X pins σ H s)(h:H p=some (.lst xs))
  (ho:s.heap.get? p=some {cls:=.type "list",data:=.seq its.toArray n}) (hf:f {cls:=.type "list",data:=.seq its.toArray n}={cls:=.type "list",data:=.seq its'.toArray n'}) (r:aW ys its') (hz:ys.length<=sizeLine) (t:Nat):
  aE X pins σ (aM H p (.lst ys)) {s with heap:=s.heap.update p f,toks:=t}:=by
 have e:(s.heap.update p f).get? p=some {cls:=.type "list",data:=.seq its'.toArray n'}:=by
  rw[Heap.get?_update_self f ho (by rw[hf]<;>rfl),hf]
 refine I.write (x:=p) (e:=p) (by rw[h];trivial) (.inl rfl) (λ b u hb q=>(Heap.get?_update_other _ _ (Ne.symm hb)).trans q) ⟨_,e⟩ ?_
 exact⟨hz,its',n',r,e⟩
noncomputable def BG:V->V->V->Hp->(Hp->Prop)->Prop:=λ o i v H Q=>∃p xs k j,o= .ref p/\i= .int k/\H p=some (.lst xs)/\kM xs.length k=some j/\Q (aM H p (.lst (xs.set j v)))
theorem AB:Pr X BG:=by
 intro pins s σ H o i v ov iv u Q I ro ri rv h
 obtain⟨p,xs,k,j,rfl,rfl,hp,hj,q⟩:=h
 cases ro
 obtain⟨t,rfl⟩:=ri
 obtain⟨its,n,r,ho,hz⟩:=I.lst hp
 obtain⟨h1,h2,h3,h4⟩:=Kj hj
 have hl:=r.length
 have hn:=lV
 have I':aE X pins σ (aM H p (.lst (xs.set j v))) {s with heap:=s.heap.update p (Obj.mapSeq (·.setIfInBounds j u))}:=
  I.lstUpd hp ho (KN its n j u) (r.set rv j) (by rw[List.length_set];exact hz) s.toks
 by_cases h0:0<=k
 ·have hk:k.toNat=j:=by
   rw[seqIndex_of h0 h4]at h1
   exact Option.some.inj h1
  exact PySem.W.ki_setAt ho h0 Qa (by rw[List.size_toArray,<-hl];exact h4) (by rw[hk];exact⟨_,I',q⟩)
 ·have hk:(k+(its.toArray.size:Int)).toNat=j:=by
   rw[seqIndex_neg Qa h3]at h1
   rw[List.size_toArray,<-hl]
   exact Option.some.inj h1
  exact PySem.W.ki_setBack ho Qa (by rw[List.size_toArray,<-hl];exact h3) Qa (by rw[hk];exact⟨_,I',q⟩)
theorem Xq(lo hi:Option Int)(n:Nat):(sliceBounds lo hi none n).1=((HT.sIx n 0 lo:Nat):Int)/\(sliceBounds lo hi none n).2.1=((HT.sIx n n hi:Nat):Int)/\(sliceBounds lo hi none n).2.2=1:=by
 refine⟨?_,?_,rfl⟩
 ·cases lo with
  |none=>simp[sliceBounds,HT.sIx]
  |some i=>
   simp only[sliceBounds,HT.sIx,Option.getD_none,show(1:Int)>0 from Qc,if_true]
   by_cases h:i<0
   ·simp only[h,if_true]<;>omega
   ·simp only[h,if_false]<;>omega
 ·cases hi with
  |none=>simp[sliceBounds,HT.sIx]
  |some i=>
   simp only[sliceBounds,HT.sIx,Option.getD_none,show(1:Int)>0 from Qc,if_true]
   by_cases h:i<0
   ·simp only[h,if_true]<;>omega
   ·simp only[h,if_false]<;>omega
theorem Xr(its:List Value)(lo hi:Option Int):slicePick its.toArray lo hi none=((its.drop (HT.sIx its.length 0 lo)).take (HT.sIx its.length its.length hi-HT.sIx its.length 0 lo)).toArray:=by
 obtain⟨h1,h2,h3⟩:=Xq lo hi its.toArray.size
 unfold slicePick
 rw[h1,h2,h3]
 simp only[sliceRange_one,pick_run,List.size_toArray]<;>rfl
noncomputable def BE(K:PySem.W.Frag):V->Option Int->Option Int->Hp->VK->Prop:=λ x lo hi H Q=>∃a xs,x= .ref a/\bA K H a xs/\∀p,H p=none->Q (.ref p) (aM H p (.lst (mI xs lo hi)))
theorem Xu:sZ X (BE X.K):=by
 intro pins s σ H x v vl vu lo hi sl Q I rx hs pl pu h
 obtain⟨a,xs,rfl,hx,q⟩:=h
 cases rx
 obtain⟨its,r,ht,hz⟩:=I.list hx
 have hlen:=r.length
 refine⟨"list",_,slot_list_getitem.lookup,ht.isList.typeIs,?_⟩
 refine wpAny_getItem_list_slice ht.isList hs pl pu .none Qb ?_ (by rw[List.size_toArray]<;>omega)
 rw[Xr,<-hlen]
 refine⟨.ref s.heap.objs.size,_,I.laid (t':=s.toks) (o:=.lst (mI xs lo hi)) (λ b ob q=>Heap.get?_push_of_some _ q) (Nat.le_refl _) ?_,rfl,q _ (I.hok.fresh (Nat.le_refl _))⟩
 exact⟨Nat.le_trans (Nt xs lo hi) hz,_,0,(r.drop (HT.sIx xs.length 0 lo)).take (HT.sIx xs.length xs.length hi-HT.sIx xs.length 0 lo),Heap.get?_push_size _ rfl⟩
noncomputable def dF:V->Bool
 |.non=>true
 |.bl _=>true
 |.int _=>true
 |.str _=>true
 |_=>false
noncomputable def dX:V->V->Bool
 |.non,.non=>true
 |.bl a,.bl b=>a==b
 |.bl a,.int b=>(if a then 1 else 0)==b
 |.int a,.bl b=>a==(if b then 1 else 0)
 |.int a,.int b=>a==b
 |.str a,.str b=>a==b
 |_,_=>false
theorem Nn{A:Around}{s:Shared}{y x:V}{u v:Value}(ry:bM y u)(rx:bM x v)(fy:dF y=true)(fx:dF x=true):SeqAt.EqAt A s u v (dX y x):=by
 cases y with
 |non=>
  cases ry
  cases x with
  |non=>cases rx;exact SeqAt.EqAt.same _
  |bl b=>cases rx;exact SeqAt.EqAt.none_bool b
  |int b=>obtain⟨t,rfl⟩:=rx;exact SeqAt.EqAt.none_int b t
  |str b=>obtain⟨t,rfl⟩:=rx;exact SeqAt.EqAt.none_str b t
  |_=>exact absurd (show false=true from fx) Bool.false_ne_true
 |bl a=>
  cases ry
  cases x with
  |non=>cases rx;exact SeqAt.EqAt.bool_none a
  |bl b=>cases rx;exact SeqAt.EqAt.bool_bool a b
  |int b=>obtain⟨t,rfl⟩:=rx;exact SeqAt.EqAt.bool_int a b t
  |str b=>obtain⟨t,rfl⟩:=rx;exact SeqAt.EqAt.bool_str a b t
  |_=>exact absurd (show false=true from fx) Bool.false_ne_true
 |int a=>
  obtain⟨t',rfl⟩:=ry
  cases x with
  |non=>cases rx;exact SeqAt.EqAt.int_none a t'
  |bl b=>cases rx;exact SeqAt.EqAt.int_bool a t' b
  |int b=>obtain⟨t,rfl⟩:=rx;exact SeqAt.EqAt.int_int a t' b t
  |str b=>obtain⟨t,rfl⟩:=rx;exact SeqAt.EqAt.int_str a t' b t
  |_=>exact absurd (show false=true from fx) Bool.false_ne_true
 |str a=>
  obtain⟨t',rfl⟩:=ry
  cases x with
  |non=>cases rx;exact SeqAt.EqAt.str_none a t'
  |bl b=>cases rx;exact SeqAt.EqAt.str_bool a t' b
  |int b=>obtain⟨t,rfl⟩:=rx;exact SeqAt.EqAt.str_int a t' b t
  |str b=>obtain⟨t,rfl⟩:=rx;exact SeqAt.EqAt.str_str a t' b t
  |_=>exact absurd (show false=true from fx) Bool.false_ne_true
 |_=>exact absurd (show false=true from fy) Bool.false_ne_true
noncomputable def dM(x:V)(u:Value):Bool:=match u with
 |.none=>dX .non x
 |.bool b=>dX (.bl b) x
 |.int i _=>dX (.int i) x
 |.str z _=>dX (.str z) x
 |_=>false
theorem wW{x y:V}{u:Value}(r:bM y u)(f:dF y=true):dM x u=dX y x:=by
 cases y with
 |non=>cases r;rfl
 |bl b=>cases r;rfl
 |int i=>obtain⟨t,rfl⟩:=r;rfl
 |str z=>obtain⟨t,rfl⟩:=r;rfl
 |_=>exact absurd (show false=true from f) Bool.false_ne_true
theorem sW{x:V}:∀{xs:List V} {us:List Value},aW xs us->xs.all dF=true->us.any (dM x)=xs.any λ y=>dX y x
 |_,_,.nil,_=>rfl
 |y::xs,u::us,.cons r t,f=>by
  rw[List.all_cons,Bool.and_eq_true]at f
  rw[List.any_cons,List.any_cons,wW r f.1,sW t f.2]
theorem lQ{A:Around}{s:Shared}{x:V}{v:Value}(rx:bM x v)(fx:dF x=true):∀{xs:List V} {us:List Value},aW xs us->xs.all dF=true->∀u∈us,SeqAt.EqAt A s u v (dM x u)
 |_,_,.nil,_=>λ u hu=>by cases hu
 |y::xs,u::us,.cons r t,f=>λ u' hu=>by
  rw[List.all_cons,Bool.and_eq_true]at f
  rcases List.mem_cons.mp hu with rfl|hu
  ·rw[wW r f.1];exact Nn r rx f.1 fx
  ·exact lQ rx fx t f.2 u' hu
noncomputable def kN(x:V)(xs:List V):Bool:=xs.any λ y=>dX y x
noncomputable def Gx(K:PySem.W.Frag)(neg:Bool):R2:=λ x y H Q=>∃p xs,y= .ref p/\(bA K H p xs\/bE K H p xs)/\dF x=true/\xs.all dF=true/\Q (.bl (if neg then !kN x xs else kN x xs)) H
theorem HP:bZ X (compareOp .In) (Gx X.K false):=by
 intro pins s σ H x y v u Q I rx ry h
 obtain⟨p,xs,rfl,hq,fx,fs,q⟩:=h
 cases ry
 rcases hq with hq|hq
 ·obtain⟨its,r,pl,hz⟩:=I.list hq
  refine SeqAt.in_listAt (dM x) pl.isList (λ w hw=>lQ rx fx r fs w (by simpa using hw)) ⟨.bl _,H,I,rfl,?_⟩
  rw[show its.toArray.any (dM x)=its.any (dM x)from Qb,sW r fs]
  exact q
 ·obtain⟨its,r,pl,hz⟩:=I.tuple hq
  refine SeqAt.in_tupleAt (dM x) pl (λ w hw=>lQ rx fx r fs w (by simpa using hw)) ⟨.bl _,H,I,rfl,?_⟩
  rw[show its.toArray.any (dM x)=its.any (dM x)from Qb,sW r fs]
  exact q
theorem HE:bZ X (compareOp .NotIn) (Gx X.K true):=by
 intro pins s σ H x y v u Q I rx ry h
 obtain⟨p,xs,rfl,hq,fx,fs,q⟩:=h
 cases ry
 rcases hq with hq|hq
 ·obtain⟨its,r,pl,hz⟩:=I.list hq
  refine SeqAt.notIn_listAt (dM x) pl.isList (λ w hw=>lQ rx fx r fs w (by simpa using hw)) ⟨.bl _,H,I,rfl,?_⟩
  rw[show its.toArray.any (dM x)=its.any (dM x)from Qb,sW r fs]
  exact q
 ·obtain⟨its,r,pl,hz⟩:=I.tuple hq
  refine SeqAt.notIn_tupleAt (dM x) pl (λ w hw=>lQ rx fx r fs w (by simpa using hw)) ⟨.bl _,H,I,rfl,?_⟩
  rw[show its.toArray.any (dM x)=its.any (dM x)from Qb,sW r fs]
  exact q
theorem TF:eW X (.builtin "len") (λ xs H Q=>∃p ys,xs=[.ref p]/\(bA X.K H p ys\/bE X.K H p ys)/\Q (.int ys.length) H):=by
 intro pins s σ H xs us Q I r h
 obtain⟨p,ys,rfl,hq,q⟩:=h
 obtain⟨u,rfl,rx⟩:=oH r
 cases rx
 have hn:=lV
 rcases hq with hq|hq
 ·obtain⟨its,r',pl,hz⟩:=I.list hq
  have hlen:=r'.length
  exact Calls.call_len_list pl.isList (by simp only[List.size_toArray]<;>omega) ⟨.int ys.length,H,I.tok _,⟨s.toks+1,by rw[List.size_toArray,hlen]⟩,q⟩
 ·obtain⟨its,r',pl,hz⟩:=I.tuple hq
  have hlen:=r'.length
  exact len_tuple pl (by simp only[List.size_toArray]<;>omega) ⟨.int ys.length,H,I.tok _,⟨s.toks+1,by rw[List.size_toArray,hlen]⟩,q⟩
theorem TD:eW X (.builtin "len") (λ xs H Q=>∃z,xs=[.str z]/\z.length<=sizeLine/\Q (.int z.length) H):=by
 intro pins s σ H xs us Q I r h
 obtain⟨z,rfl,hz,q⟩:=h
 obtain⟨u,rfl,t,rfl⟩:=oH r
 have hn:=lV
 exact len_str Qa ⟨.int z.length,H,I.tok _,⟨_,rfl⟩,q⟩
theorem TC:eW X (.type "list") (λ xs H Q=>∃p ys,xs=[.ref p]/\(bA X.K H p ys\/bE X.K H p ys)/\∀l,H l=none->Q (.ref l) (aM H l (.lst ys))):=by
 intro pins s σ H xs us Q I r h
 obtain⟨p,ys,rfl,hq,q⟩:=h
 obtain⟨u,rfl,rx⟩:=oH r
 cases rx
 have fin:∀(its:List Value),aW ys its->ys.length<=sizeLine->∀(h':Heap) (c':Nat),(∀b o',s.heap.get? b=some o'->h'.get? b=some o')->
   h'.get? s.heap.objs.size=some {cls:=.type "list",dict:=none,data:=.seq its.toArray c',slots:= #[]}->EP X pins σ Q (.ref s.heap.objs.size) {s with heap:=h'}:=λ its r' hz h' c' kp e=>
  ⟨.ref s.heap.objs.size,_,I.laid (t':=s.toks) kp (Nat.le_refl _) (show dN X.prog X.w _ h' _ (.lst ys)from⟨hz,its,c',r',e⟩),rfl,q _ (I.hok.fresh (Nat.le_refl _))⟩
 rcases hq with hq|hq
 ·obtain⟨its,r',pl,hz⟩:=I.list hq
  have hlen:=r'.length
  obtain⟨o,ho,hc,n,hd⟩:=pl.isList
  exact call_list_seq p (.inl rfl) ho hc hd (λ h' c' kp e=>fin its r' hz h' c' kp e) (by simp only[List.size_toArray]<;>omega)
 ·obtain⟨its,r',pl,hz⟩:=I.tuple hq
  have hlen:=r'.length
  obtain⟨o,ho,hc,n,hd⟩:=pl
  exact call_list_seq p (.inr rfl) ho hc hd (λ h' c' kp e=>fin its r' hz h' c' kp e) (by simp only[List.size_toArray]<;>omega)
theorem Oi:eW X (.type "tuple") (λ xs H Q=>∃p ys,xs=[.ref p]/\((bA X.K H p ys/\∀l,H l=none->Q (.ref l) (aM H l (.tup ys)))\/(bE X.K H p ys/\Q (.ref p) H))):=by
 intro pins s σ H xs us Q I r h
 obtain⟨p,ys,rfl,h⟩:=h
 obtain⟨u,rfl,rx⟩:=oH r
 cases rx
 rcases h with⟨hq,q⟩|⟨hq,q⟩
 ·obtain⟨its,r',pl,hz⟩:=I.list hq
  have hlen:=r'.length
  refine call_tuple_list pl.isList (λ h' kp=>?_) (by simp only[List.size_toArray]<;>omega)
  have I1:aE X pins σ H {s with heap:=h'}:=I.kept (t':=s.toks) kp
  have I2:aE X pins σ (aM H h'.objs.size (.tup ys)) {s with heap:=h'.push {cls:=.type "tuple",data:=.seq its.toArray}}:=
   I1.laid (t':=s.toks) (λ b o e=>Heap.get?_push_of_some _ e) (Nat.le_refl _) (show dN X.prog X.w _ _ _ (.tup ys)from⟨hz,its,r',IsTup.new _ _,_,Heap.get?_push_size _ rfl,rfl⟩)
  exact⟨.ref h'.objs.size,_,I2,rfl,q _ (I1.hok.fresh (Nat.le_refl _))⟩
 ·obtain⟨its,r',pl,hz⟩:=I.tuple hq
  exact call_tuple_same pl ⟨.ref p,H,I,rfl,q⟩
noncomputable def uG(K:PySem.W.Frag)(T:String)(x:V)(H:Hp):Prop:=match x with
 |.str _=>T= "str"
 |.int _=>T= "int"
 | .ref p=>(T= "list"/\∃xs,bA K H p xs)\/(T= "tuple"/\∃o,K.lookup p=some o/\o.cls= .type "tuple"/\o.dict=none)\/
   (T= "dict"/\((∃kvs,H p=some (.dK kvs))\/∃kvs,H p=some (.dT kvs)))\/(T= "set"/\∃S n,H p=some (.set S n))
 |_=>False
theorem Ss{pins:List (Addr×Obj)}{σ:St}{H:Hp}{s:Shared}{T:String}{x:V}{v:Value}(I:aE X pins σ H s)(r:bM x v)(ty:uG X.K T x H):
  s.TypeIs v T/\∀a,v= .ref a->∃ob,s.heap.get? a=some ob/\ob.dict=none:=by
 cases x with
 |str z=>
  obtain⟨t,rfl⟩:=r
  cases(show T= "str" from ty)
  exact⟨typeIs_str s z t,λ _ e=>nomatch e⟩
 |int i=>
  obtain⟨t,rfl⟩:=r
  cases(show T= "int" from ty)
  exact⟨typeIs_int s i t,λ _ e=>nomatch e⟩
 | ref p=>
  cases r
  rcases ty with⟨rfl,xs,hq⟩|⟨rfl,o,hk,hc,hd⟩|⟨rfl,hk⟩|⟨rfl,S,n,hk⟩
  ·obtain⟨its,_,pl,_⟩:=I.list hq
   refine⟨pl.isList.typeIs,λ a e=>?_⟩
   cases e
   obtain⟨o,n,e,c,hd,_⟩:=pl
   exact⟨o,e,hd⟩
  ·refine⟨⟨o,I.kIn p o hk,hc⟩,λ a e=>?_⟩
   cases e
   exact⟨o,I.kIn _ o hk,hd⟩
  ·have z:∃o,s.heap.get? p=some o/\o.ExactDict:=by
    rcases hk with⟨kvs,hk⟩|⟨kvs,hk⟩
    ·obtain⟨_,_,_,_,o,_,_,e,ex,_⟩:=I.hok p _ hk
     exact⟨o,e,ex⟩
    ·obtain⟨_,_,_,_,o,_,_,e,ex,_⟩:=I.hok p _ hk
     exact⟨o,e,ex⟩
   obtain⟨o,e,ex⟩:=z
   refine⟨⟨o,e,ex.1⟩,λ a e2=>?_⟩
   cases e2
   exact⟨o,e,ex.2.1⟩
  ·obtain⟨o,_,_,_,e,ex,_⟩:=I.hok p _ hk
   refine⟨⟨o,e,ex.1⟩,λ a e2=>?_⟩
   cases e2
   exact⟨o,e,ex.2.1⟩
 |_=>exact False.elim ty
noncomputable def Vq(K:PySem.W.Frag)(T:String)(r:V->List V->Hp->VK->Prop)(to:TE)(t:TA):TE:=λ σ H Q=>to σ H λ x H1=>uG K T x H1/\t σ H1 λ xs H2=>r x xs H2 Q
variable{o e:Expr}{es:List Expr}{to:TE}{t:TA}{name:Str}{apos cpos:Pos}{T id:String}{r:V->List V->Hp->VK->Prop}
theorem vF(pa:PlainAttrs T)(slot:Slot T name id)(hty:typeOf (.builtin id)=pure (.type "method_descriptor"))(hm:hZ X id r)(ho:PE X o to)(ha:PA X (e::es) t)
  (hbase:attributeBase o name X.env (eval o X.env)=eval o X.env:=by rfl)
  (hfew:((backTo cpos (starEach (e::es) X.env)).all (λ x=>!x.1)&&(backToKw cpos (keywordEach [] X.env)).all (λ x=>x.1.isSome)
   &&decide ((e::es).length+([]:List Keyword).length+(if([]:List Keyword).isEmpty then 0 else 1)<30))=true:=by rfl)
  (hline:(apos.endLine==cpos.line)=true:=by rfl) (hs:starEach (e::es) X.env=(false,eval e X.env)::starEach es X.env:=by rfl) (hplain:(backTo cpos (starEach es X.env)).any (·.1)=false:=by rfl):
  PE X (.Call (.Attribute o name apos) (e::es) [] cpos) (Vq X.K T r to t):=by
 intro pins s σ H Q I h
 refine wpAny_Call_method_late hbase hfew hline rfl (aT (ho pins s σ H _ I h) λ v s1 ⟨x,H1,I1,r1,ty,q1⟩=>?_)
 obtain⟨h1,h2⟩:=Ss I1 r1 ty
 refine⟨T,id,pa,slot,hty,h1,h2,?_⟩
 have hA:=ha cpos pins s1 σ H1 _ I1 q1
 rw[hs]at hA⊢
 refine Calls.callWith_builtin (by show(false||(backTo cpos (starEach es X.env)).any (·.1))=false;rw[hplain]<;>rfl) (Calls.evalArgs_plain ?_)
 exact aT hA λ us s2 ⟨vs,H2,I2,r2,q2⟩=>hm pins s2 σ H2 x vs v us Q I2 r1 r2 q2
end
noncomputable def z8(X:Cx)(id:String)(r:V->List V->Hp->VK->Prop):Prop:=
 ∀(pins:List (Addr×Obj)) (s:Shared) (σ:St) (H:Hp) (x:V) (xs:List V) (v:Value) (us:List Value) (Q:VK),aE X pins σ H s->bM x v->aW xs us->r x xs H Q->
  wpAny (model X.prog X.w) X.A (call (.builtin id) (v::us)) (EP X pins σ Q) X.xe s
theorem aW.one:∀{x:V} {us:List Value},aW [x] us->∃u,us=[u]/\bM x u
 |_,_,.cons r .nil=>⟨_,rfl,r⟩
theorem aW.two:∀{x y:V} {us:List Value},aW [x,y] us->∃u v,us=[u,v]/\bM x u/\bM y v
 | _,_,_,h=>by
  cases h with
  |cons r t=>
   cases t with
   |cons q u=>cases u;exact⟨_,_,rfl,r,q⟩
section
variable{X:Cx}{pins:List (Addr×Obj)}{σ:St}{H:Hp}{s:Shared}{l b:Addr}{xs ys zs:List V}
theorem aE.lset{its its':List Value}{n:Nat}{f:Array Value->Array Value}{t':Nat}(I:aE X pins σ H s)(hH:H l=some (.lst xs))
  (e:s.heap.get? l=some {cls:=.type "list",data:=.seq its.toArray n}) (hf:f its.toArray=its'.toArray) (hv:aW ys its') (hz:ys.length<=sizeLine):
  aE X pins σ (aM H l (.lst ys)) {s with heap:=s.heap.update l (Obj.mapSeq f),toks:=t'}:=by
 have q:=PySem.IsL.update e f
 rw[hf]at q
 refine I.write (x:=l) (e:=l) (by rw[hH];exact trivial) (.inl rfl) (λ b' u hb hu=>(Heap.get?_update_other s.heap (Obj.mapSeq f) (Ne.symm hb)).trans hu) ⟨_,q⟩ ?_
 exact⟨hz,its',_,hv,q⟩
theorem aE.lnew{its:List Value}{t':Nat}(I:aE X pins σ H s)(hv:aW ys its)(hz:ys.length<=sizeLine):
  aE X pins σ (aM H s.heap.objs.size (.lst ys)) {s with heap:=s.heap.push {cls:=.type "list",data:=.seq its.toArray},toks:=t'}:=
 I.laid (λ _ _ q=>Heap.get?_push_of_some _ q) (Nat.le_refl _) ⟨hz,its,0,hv,Heap.get?_push_size _ rfl⟩
theorem aE.fresh(I:aE X pins σ H s):H s.heap.objs.size=none:=I.hok.fresh (Nat.le_refl _)
theorem aE.lstM(I:aE X pins σ H s)(hH:H l=some (.lst xs)):xs.length<=sizeLine/\∃(its:List Value) (n:Nat),aW xs its/\xs.length=its.length/\s.heap.get? l=some {cls:=.type "list",data:=.seq its.toArray n}:=by
 obtain⟨z,its,n,r,e⟩:=I.hok l _ hH
 exact⟨z,its,n,r,r.length,e⟩
end
section
variable{X:Cx}
noncomputable def BP:V->List V->Hp->VK->Prop:=λ x vs H Q=>∃l xs y,x= .ref l/\vs=[y]/\H l=some (.lst xs)/\xs.length<sizeLine/\Q .non (aM H l (.lst (xs++[y])))
theorem KI:z8 X "list.append" BP:=by
 intro pins s σ H x vs v us Q I rx rv h
 obtain⟨l,xs,y,rfl,rfl,hH,hz,q⟩:=h
 cases rx
 obtain⟨u,rfl,ru⟩:=rv.one
 obtain⟨z,its,n,r,hl,e⟩:=I.lstM hH
 refine call_meets F.slot_list_append ⟨_,e,rfl⟩ F.entry_list_append (F.args_list_append_2 _ _) (PySem.list_append l its.toArray n u (by rw[List.size_toArray];omega)) ⟨e,?_⟩
 refine⟨.non,_,I.lset (its':=its++[u]) hH e Qb (r.append (.cons ru .nil)) ?_,rfl,q⟩
 rw[List.length_append,List.length_singleton]
 omega
noncomputable def BO:R2:=λ x y H Q=>∃l b xs zs,x= .ref l/\y= .ref b/\H l=some (.lst xs)/\H b=some (.lst zs)/\xs.length+zs.length<=sizeLine/\∀p,H p=none->Q (.ref p) (aM H p (.lst (xs++zs)))
theorem HW:bZ X (binaryOp .Add) BO:=by
 intro pins s σ H x y v u Q I rx ry h
 obtain⟨l,b,xs,zs,rfl,rfl,hH,hB,hz,q⟩:=h
 cases rx
 cases ry
 obtain⟨z,its,n,r,hl,e⟩:=I.lstM hH
 obtain⟨z2,its2,n2,r2,hl2,e2⟩:=I.lstM hB
 refine PySem.P.add_list e e2 ?_ (by rw[List.size_toArray,List.size_toArray];omega)
 have ea:its.toArray++its2.toArray=(its++its2).toArray:=by simp
 rw[ea]
 exact⟨.ref _,_,I.lnew (t':=s.toks) (r.append r2) (by rw[List.length_append];omega),rfl,q _ I.fresh⟩
end
section
variable{prog:Program}{w:World}{A:Around}{E:Qd}{s:Shared}
end
section
variable{X:Cx}
end
end L2
namespace Att
open PySem PySem.W PySem.Calls PyProof.Rows
theorem MS{P:Params}{h:Heap}:∀(ns:List Int) (vs:List Value),WellAll P h vs (ns.map WData.int)->IntsAre vs ns:=by
 intro ns
 induction ns with
 |nil=>
  intro vs w
  rw[List.map_nil]at w
  cases w
  exact .nil
 | cons n ns ih=>
  intro vs w
  rw[List.map_cons]at w
  cases w with
  |cons a b=>
   cases a
   exact .cons _ _ (ih _ b)
theorem AL{l:OpenLaw}{n:Nat}(hn:l.most=some n){P:Params}{h:Heap}{args:List WData}{vals:List Value}
  (hpre:l.row.toRowW.claim.pre args=true) (hwl:WellAll P h vals args):
  ∃a vs ns,vals=[Value.ref a]/\args=[WData.list (ns.map WData.int)]/\h.get? a=some {cls:=.type "list",data:=.seq vs.toArray}/\IntsAre vs ns/\ns.length<=n:=by
 have hsh:WShape.hasAll [] args [.list .int]=true:=(pre_splitW hpre).1
 have hc:l.pre.holds [] {args:=args}=true:=(pre_splitW hpre).2
 obtain⟨d,r,rfl,h1,h2⟩:=hasAllW_cons hsh
 obtain rfl:=hasAllW_nil h2
 obtain⟨xs,rfl,h3⟩:=hasW_list h1
 obtain⟨ns,rfl⟩:=items_int h3
 have hlen:ns.length<=n:=by
  unfold OpenLaw.pre at hc
  have h4:(WTm.not (.lt (.lit (.int (n:Int))) (.len (.arg 0)))).holds [] {args:=[.list (ns.map .int)]}=true:=by
   have h4:=(holds_andW hc).1
   rw[hn]at h4
   exact h4
  have h5:=condW_of h4 (w_not (w_lt w_lit (w_len_list (w_arg rfl))))
  rw[List.length_map]at h5
  refine Nat.le_of_not_lt λ q=>?_
  have q':(n:Int)<((ns.length:Nat):Int):=by omega
  first
   |(rw[decide_eq_true q']at h5;exact absurd h5 Qc)
   |(simp at h5;omega)
 cases hwl with
 |cons w1 w2=>
  cases w2
  cases w1 with
  |list ho hall=>exact⟨_,_,ns,rfl,rfl,ho,MS ns _ hall,hlen⟩
theorem DN(l:OpenLaw)(args:List WData):l.row.toRowW.claim.post args (.bool true) args=true:=
 postW_of (r:=l.row.toRowW) (X:=(true==true))
  (show WShape.has [] (.bool true) .bool=true by first|rfl|decide|simp[WShape.has,WShape.arms,WShape.armsAll])
  (show(WTm.eq .res (.lit (.bool true))).value [] {args:=args,res:=some (.bool true),after:=args}=some (.bool (true==true))from w_eq_bool (w_res rfl) w_lit) rfl
theorem attach_call{l:OpenLaw}{n:Nat}{q:Program}{loose:List Str}{XP:(Str->Option Value)->Heap->Prop}{YP:World->Heap->Prop}{d:DefRec}
  (hn:l.most=some n) (hdf:d.params.defaults=[])
  (call:∀(w:World) (s₀ s₁:Shared) (mg mb:Str->Option Value) (fa:Addr) (o:Obj) (pm cd doc:Value) (a:Addr) (vs:List Value) (ns:List Int),
   Ground q loose [] XP w s₀ mg mb s₁.heap->YP w s₁.heap->
   s₁.heap.get? fa=some o->o.data= .func (docDef d.name d.params d.body d.scope pm cd doc)->s₁.heap.CodeRec cd d.name->mg d.name=some (.ref fa)->
   s₁.heap.get? a=some {cls:=.type "list",data:=.seq vs.toArray}->IntsAre vs ns->ns.length<=n->s₁.gens= #[]->
   codeAny (model l.prog w) callerA (.call (.ref fa) ⟨[.ref a],[]⟩) (λ r s'=>r= .ok (.ret (.bool true))/\OldK s₁.heap s'.heap/\s'.os=s₁.os/\AllBare s'.gens) s₁):
  WalkO q loose XP YP l.row.toRowW d [] (λ f vs=>PySem.call f vs):=by
 intro w s₀ s₁ mg mb G Y fa o pm cd doc dV kV ho hd hcd hD hmg hg args vals as hpre hlay hrd hwl hlo
 obtain rfl:dV= .none:=Dflts.none hD hdf
 obtain rfl:kV= .none:=Dflts.noKw hD
 obtain⟨a,vs,ns,rfl,rfl,hobj,hints,hlen⟩:=AL hn hpre hwl
 refine enter_call (codeAny_mono (call w s₀ s₁ mg mb fa o pm cd doc a vs ns G Y ho (fd_plain hd) hcd hmg hobj hints hlen hg) λ r s' hq=>?_)
 obtain⟨rfl,h2,h3,h4⟩:=hq
 exact⟨.inl ⟨.bool true,.bool true,[],rfl,λ _=>rfl,.bool true,DN l _,λ _=>⟨List.Pairwise.nil,λ _ hm=>(nomatch hm)⟩⟩,h2,h3,h4⟩
section
variable{prog:Program}{w:World}{A:Around}{E:Qd}{s:Shared}{K:Frag}
end
end Att
namespace L2
open PySem PySem.Spec PyProof.Rows
theorem Eg:∀{vs:List Value} {ns:List Int},IntsAre vs ns->aW (ns.map V.int) vs
 |_,_,.nil=>.nil
 |_,_,.cons n t h=>.cons ⟨t,rfl⟩ (Eg h)
noncomputable def mG(s:Stmt):Arguments:=match s with
 |.FunctionDef _ a _ _ _ _ _ _ _ _=>a
 |_=>{posonlyargs:=[],args:=[],vararg:=none,kwonlyargs:=[],kw_defaults:=[],kwarg:=none,defaults:=[]}
noncomputable def bO(s:Stmt):List Stmt:=match s with
 |.FunctionDef _ _ b _ _ _ _ _ _ _=>b
 |_=>[]
noncomputable def aP(s:Stmt):Scope:=match s with
 |.FunctionDef _ _ _ _ _ _ sc _ _ _=>sc
 |_=>{kind:=.function,names:=[],isGenerator:=false,isCoroutine:=false}
structure jY(K:PySem.W.Frag)(x qual:Str)(st:Stmt)(f:Addr)(fd:FuncData):Prop where
 ex:∃(oc:Value) (od:Option Addr) (kV doc pm:Value) (an:Option Addr) (cdv ct:Value) (osl:Array (Option Value)),
  fd=PySem.W.fnOf x qual (mG st) (bO st) (aP st) .none kV doc pm an cdv ct/\K.lookup f=some ⟨oc,od,.func fd,osl⟩/\PySem.W.codeIn K cdv qual=true
 kp:PySem.W.keepIn K (.ref f)=true
section
variable{P:Program}{w:World}{K:PySem.W.Frag}{mg:Str->Option Value}{base:Heap}
theorem jY.binds{x qual:Str}{st:Stmt}{f:Addr}{fd:FuncData}{ps:List Str}(F:jY K x qual st f fd)
  (h:∀(kV doc pm:Value) (an:Option Addr) (cdv ct:Value) (us:List Value),us.length=ps.length->bindArgs (PySem.W.fnOf x qual (mG st) (bO st) (aP st) .none kV doc pm an cdv ct) ⟨us,[]⟩=pure (ps.zip us)):tR K fd ps []:=by
 obtain⟨oc,od,kV,doc,pm,an,cdv,ct,osl,rfl,lk,hcd⟩:=F.ex
 exact .all (h kV doc pm an cdv ct)
theorem OF{x qual:Str}{st:Stmt}{f:Addr}{oc:Value}{od an:Option Addr}{osl:Array (Option Value)}{kV doc pm cdv ct:Value}(l:K.lookup f=some ⟨oc,od,.func (PySem.W.fnOf x qual (mG st) (bO st) (aP st) .none kV doc pm an cdv ct),osl⟩)
  (c:PySem.W.codeIn K cdv qual=true) (k:PySem.W.keepIn K (.ref f)=true):jY K x qual st f (PySem.W.fnOf x qual (mG st) (bO st) (aP st) .none kV doc pm an cdv ct):=⟨⟨oc,od,kV,doc,pm,an,cdv,ct,osl,rfl,l,c⟩,k⟩
end
theorem Fm{n:Nat}(h:n<=1000):n<sizeLine:=Nat.lt_of_le_of_lt h Qc
section
variable{X:Cx}
end
theorem Mu{α β:Type}{f:α->β->Sem (ForInStep β)}(g:β->α->β):∀{l:List α} (c:β),(∀x∈l,∀c,f x c=pure (.yield (g c x)))->forIn l c f=pure (l.foldl g c)
 |[],_,_=>rfl
 |x::l,c,h=>by
  rw[List.forIn_cons,h x List.mem_cons_self,pure_bind]
  exact Mu g (g c x) λ y hy=>h y (List.mem_cons_of_mem _ hy)
noncomputable def fP(env:Env)(names:List (Str×NameKind)):List (Str×Addr):=
 names.foldl (λ cs y=>if y.2== .free then(y.1,(env.cells.lookup y.1).getD 0)::cs else cs) []
theorem xG{scope:Scope}{env:Env}(h:∀y∈scope.names,y.2= .free->∃c,env.cells.lookup y.1=some c):closureFor scope env=pure (fP env scope.names):=by
 simp only[closureFor]
 rw[Mu (λ cs y=>if y.2== .free then(y.1,(env.cells.lookup y.1).getD 0)::cs else cs) [] (λ x hx c=>by
  obtain⟨n,kind⟩:=x
  cases e:(kind==NameKind.free)with
  |false=>simp only[e,Bool.false_eq_true,if_false]
  |true=>
   obtain⟨a,ha⟩:=h (n,kind) hx (by simpa using e)
   have ha':env.cells.lookup n=some a:=ha
   simp only[e,if_true,cellOf,ha',Option.getD_some]
   rfl)]
 rfl
theorem Of{env:Env}(P:List (Str×Addr)->Prop):∀(names:List (Str×NameKind)) (cs:List (Str×Addr)),P cs->(∀y∈names,∀cs,P cs->P (if y.2== .free then(y.1,(env.cells.lookup y.1).getD 0)::cs else cs))->
  P (names.foldl (λ cs y=>if y.2== .free then(y.1,(env.cells.lookup y.1).getD 0)::cs else cs) cs)
 |[],_,h,_=>h
 |y::r,cs,h,k=>by
  rw[List.foldl_cons]
  exact Of P r _ (k y List.mem_cons_self cs h) λ z hz=>k z (List.mem_cons_of_mem _ hz)
theorem fX{env:Env}{names:List (Str×NameKind)}(h:∀y∈names,y.2= .free->∃c,env.cells.lookup y.1=some c){n:Str}{c:Addr}(e:(fP env names).lookup n=some c):env.cells.lookup n=some c:=by
 have q:∀n c,(fP env names).lookup n=some c->env.cells.lookup n=some c:=Of (λ cs=>∀n c,cs.lookup n=some c->env.cells.lookup n=some c) names [] (λ _ _ z=>by simp at z) λ y hy cs ih n c z=>by
  cases e:(y.2==NameKind.free)with
  |false=>rw[e]at z;exact ih n c z
  | true=>
   rw[e,if_pos rfl]at z
   obtain⟨a,ha⟩:=h y hy (by simpa using e)
   rw[ha,Option.getD_some]at z
   rw[List.lookup_cons]at z
   cases e2:(n==y.1)with
   |false=>rw[e2]at z;exact ih n c z
   |true=>
    rw[e2]at z
    have e3:n=y.1:=by simpa using e2
    rw[e3,ha]
    exact z
 exact q n c e
theorem xH{env:Env}{names:List (Str×NameKind)}{n:Str}(h:(n,NameKind.free)∈names):∃c,(fP env names).lookup n=some c:=by
 have gen:∀(names:List (Str×NameKind)) (cs:List (Str×Addr)),((n,NameKind.free)∈names\/∃c,cs.lookup n=some c)->∃c,(names.foldl (λ cs y=>if y.2== .free then(y.1,(env.cells.lookup y.1).getD 0)::cs else cs) cs).lookup n=some c:=by
  intro names
  induction names with
  |nil=>intro cs z;exact z.elim (λ z=>by simp at z) id
  | cons y r ih=>
   intro cs z
   rw[List.foldl_cons]
   refine ih _ ?_
   rcases z with z|⟨c,z⟩
   ·rcases List.mem_cons.mp z with z|z
    ·subst z
     exact .inr ⟨(env.cells.lookup n).getD 0,Qb⟩
    ·exact .inl z
   ·refine .inr ?_
    split
    ·rw[List.lookup_cons]
     cases n==y.1 with
     |false=>exact⟨c,z⟩
     |true=>exact⟨_,rfl⟩
    ·exact⟨c,z⟩
 exact gen names [] (.inl h)
theorem Ao{env:Env}{x:Str}:∀{names:List (Str×NameKind)},
  (names.map λ (n,k)=>if(k==NameKind.free&&env.scope.kind== .function&&env.kindOf n==some .cell)then(n,NameKind.cell)else(n,k)).lookup x=
   (names.lookup x).map λ k=>if(k==NameKind.free&&env.scope.kind== .function&&env.kindOf x==some .cell)then NameKind.cell else k
 |[]=>rfl
 | (n,k)::r=>by
  have ih:= @Ao env x r
  show List.lookup x ((if(k==NameKind.free&&env.scope.kind== .function&&env.kindOf n==some .cell)=true then(n,NameKind.cell)else(n,k))::_)=_
  cases hx:x==n with
  |true=>
   have e:x=n:=by simpa using hx
   subst e
   by_cases hc:(k==NameKind.free&&env.scope.kind== .function&&env.kindOf x==some .cell)=true
   ·rw[if_pos hc];simp only[List.lookup_cons,beq_self_eq_true,Option.map_some];rw[if_pos hc]
   ·rw[if_neg hc];simp only[List.lookup_cons,beq_self_eq_true,Option.map_some];rw[if_neg hc]
  |false=>
   by_cases hc:(k==NameKind.free&&env.scope.kind== .function&&env.kindOf n==some .cell)=true
   ·rw[if_pos hc];simp only[List.lookup_cons,hx];exact ih
   ·rw[if_neg hc];simp only[List.lookup_cons,hx];exact ih
structure tN(env:Env)(scope:Scope):Prop where
 kind:scope.kind= .function
 cell:∀y∈scope.names,y.2≠ .cell
 loc:∀y∈scope.names,y.2= .local->scope.names.lookup y.1=some .local
 free:∀y∈scope.names,y.2= .free->env.scope.names.lookup y.1=some .cell\/env.scope.names.lookup y.1=some .free
noncomputable abbrev dB(X:Cx)(scope:Scope)(Nc:List Str)(C:Addr)(s₂:Shared)(H₂:Hp)(ex:List Addr):Cx where
 prog:=X.prog
 w:=X.w
 K:=X.K
 mg:=X.mg
 base:=X.base
 A:=X.A
 N:=Nc
 s₀:=s₂
 H₀:=H₂
 env:=compEnvC scope (fP X.env scope.names) C X.env
 outer:=X.stack
 stack:=X.stack
 ex:=ex
 fn:=λ _=>false
 calm:=true
 pn:=[]
 xe:=λ _ _=>False
section
variable{X:Cx}
noncomputable def cJ(k:Nat)(js:List Nat)(σ:St):St:=List.replicate k none++js.map λ j=>(σ[j]?).getD none
theorem sN{k:Nat}{js:List Nat}{σ:St}{i:Nat}{v:V}(h:(cJ k js σ)[i]? =some (some v)):∃t j,i=k+t/\js[t]? =some j/\σ[j]? =some (some v):=by
 unfold cJ at h
 by_cases hi:i<k
 ·rw[List.getElem?_append_left (by simpa using hi),List.getElem?_replicate,if_pos hi]at h
  cases h
 ·rw[List.getElem?_append_right (by simpa using hi),List.length_replicate,List.getElem?_map]at h
  cases e:js[i-k]? with
  |none=>rw[e]at h;cases h
  |some j=>
   rw[e]at h
   have h':(σ[j]?).getD none=some v:=Option.some.inj h
   refine⟨i-k,j,Qa,e,?_⟩
   cases e2:σ[j]? with
   |none=>rw[e2]at h';cases h'
   |some o=>rw[e2]at h';exact congrArg some h'
theorem sO{k:Nat}{js:List Nat}{σ:St}:(cJ k js σ).length=k+js.length:=by
 unfold cJ
 rw[List.length_append,List.length_replicate,List.length_map]
theorem MR{pins:List (Addr×Obj)}{σ:St}{H:Hp}{s s4:Shared}{scope:Scope}{Nc:List Str}{k:Nat}{js:List Nat}{C:Addr}{fp:List Addr}(I:aE X pins σ H s)(hc:X.calm=true)(S:tN X.env scope)
  (hjs:(Nc.drop k).map some=js.map (X.N[·]?)) (hfr:∀x∈Nc.drop k,scope.names.lookup x=some .free) (hk:k<=Nc.length)
  (hfp:∀b∈fp,eL X pins H b) (hlt:∀b∈fp,b<s.heap.objs.size) (hC:s.heap.objs.size<=C) (hn:s4.heap.Ns C λ _=>none) (hkeep:∀b o,s.heap.get? b=some o->s4.heap.get? b=some o)
  (ho:s4.os=s.os) (hg:s4.gens=s.gens):aE (dB X scope Nc C s H fp) [] (cJ k js σ) H s4:=by
 have fr:∀y∈scope.names,y.2= .free->∃c,X.env.cells.lookup y.1=some c:=λ y hy e=>I.ok.has y.1 (S.free y hy e)
 have kinds:∀x,(relabel scope X.env).names.lookup x=some .cell\/(relabel scope X.env).names.lookup x=some .free->(x,NameKind.free)∈scope.names:=λ x hx=>by
  have q:(relabel scope X.env).names.lookup x=(scope.names.lookup x).map λ k=>if(k==NameKind.free&&X.env.scope.kind== .function&&X.env.kindOf x==some .cell)then NameKind.cell else k:=Ao
  cases e:scope.names.lookup x with
  |none=>rw[q,e]at hx;rcases hx with z|z<;>cases z
  |some kd=>
   have mem:=PySem.mem_of_lookup e
   cases kd with
   |free=>exact mem
   |cell=>exact absurd rfl (S.cell _ mem)
   |_=>rw[q,e]at hx;rcases hx with z|z<;>cases z
 have lenJ:js.length=Nc.length-k:=by
  have:=congrArg List.length hjs
  simpa using this.symm
 refine⟨⟨I.ok.mod,S.kind,I.ok.glob,I.ok.blt,hC,λ x y c h1 h2=>I.ok.inj x y c (fX fr h1) (fX fr h2),λ x hx=>xH (kinds x hx),λ x c z=>(by cases z),λ _=>I.ok.hd hc,I.ok.frames,.inl rfl,λ b hb=>⟨?_,λ x c e=>?_⟩,I.bs,Nat.le_trans I.ok.bsz I.sz,λ b o e hb=>?_,λ b hb z=>?_,I.stack,I.stkFree⟩,
  ho,?_,Un.kept hkeep,⟨_,hn,λ i x v e1 e2 e3=>?_⟩,λ x c e=>?_,I.hok.fresh hC,λ x c e=>I.freeC x c (fX fr e),λ p hp=>absurd (show p∈([]:List (Addr×Obj))from hp) Qb,I.hok.kept hkeep,?_⟩
 ·exact Nat.ne_of_lt (Nat.lt_of_lt_of_le (hlt b hb) hC)
 ·exact(hfp b hb).2.2.2.2.1 x c (fX fr e)
 ·rcases(hfp b hb).2.2.2.1 with z|z
  ·exact I.ok.noex b o e z
  ·exact absurd (Nat.lt_of_lt_of_le (Heap.lt_size e) (Nat.le_trans I.ok.bsz z)) (Nat.lt_irrefl _)
 ·rcases List.mem_cons.mp (I.stkSub b z)with z|z
  ·exact(hfp b hb).2.1 z
  ·exact(hfp b hb).2.2.1 z
 ·rw[hg];exact⟨I.bare.1,Nat.le_refl _⟩
 ·obtain⟨t,j,rfl,hj,hv⟩:=sN e2
  have ex:X.N[j]? =some x:=by
   have q:=congrArg (λ l=>l[t]?) hjs
   simp only[List.getElem?_map,List.getElem?_drop,hj,Option.map_some]at q
   have e1':Nc[k+t]? =some x:=e1
   rw[e1']at q
   exact(Option.some.inj q).symm
  have hx:scope.names.lookup x=some .free:=hfr x (by
   have:(Nc.drop k)[t]? =some x:=by rw[List.getElem?_drop];exact e1
   exact List.mem_of_getElem? this)
  have kx:=S.free (x,.free) (PySem.mem_of_lookup hx) rfl
  obtain⟨m,_,hl⟩:=I.loc
  obtain⟨u,r,l⟩:=hl j x v ex hv (.inr kx)
  obtain⟨c',hc'⟩:=xH (env:=X.env) (PySem.mem_of_lookup hx)
  have q:(relabel scope X.env).names.lookup x=(scope.names.lookup x).map λ k=>if(k==NameKind.free&&X.env.scope.kind== .function&&X.env.kindOf x==some .cell)then NameKind.cell else k:=Ao
  refine⟨u,r,.inr ⟨?_,c',hc',?_⟩⟩
  ·show(relabel scope X.env).names.lookup x=some .cell\/(relabel scope X.env).names.lookup x=some .free
   rw[q,hx,Option.map_some]
   split
   ·exact .inl rfl
   ·exact .inr rfl
  ·rcases l with⟨k1,_⟩|⟨_,c,hcc,z⟩
   ·have k1':X.env.scope.names.lookup x=some .local:=k1
    have kx':X.env.scope.names.lookup x=some .cell\/X.env.scope.names.lookup x=some .free:=kx
    rw[k1']at kx'
    rcases kx' with z|z<;>cases z
   ·have e:c=c':=by
     have:=fX fr hc'
     rw[hcc]at this
     exact Option.some.inj this
    subst e
    exact z.keeps hkeep
 ·obtain⟨v,z⟩:=I.cell x c (fX fr e)
  exact⟨v,z.keeps hkeep⟩
 ·rw[sO]
  show _=Nc.length
  omega
noncomputable def gG(X:Cx)(ifs:List Expr)(t:TT):Prop:=
  ∀ (pins:List (Addr×Obj)) (s:Shared) (σ:St) (H:Hp) (Q:Bool→Hp→Prop),aE X pins σ H s→t σ H Q→
    wpAny (model X.prog X.w) X.A (forIn ifs true λ c r=>if r=true then do let ok←isTrue c X.env (eval c X.env);pure (ForInStep.yield ok)else pure (ForInStep.yield r)) (TP X pins σ Q) X.xe s
noncomputable def Tp:TT:=λ _ H Q=>Q true H
theorem CA:gG X [] Tp:=λ _ _ _ H _ I h=>wpAny_tests_nil ⟨H,I,h⟩
theorem BZ{c:Expr}{t:TT}(h:PT X c t):gG X [c] t:=λ pins s σ H Q I q=>wpAny_tests_one (h pins s σ H Q I q)
noncomputable def jX(k:Nat)(g:TG):Prop:=∀x σ H Q,k<=σ.length->g x σ H Q->g x σ H λ σ2 H2=>Q σ2 H2/\σ2.length=σ.length/\∀j,k<=j->σ2[j]? =σ[j]?
noncomputable def tJ(k:Nat)(g:jE):Prop:=∀x σ H Q,k<=σ.length->g x σ H Q->g x σ H λ σ2 H2=>Q σ2 H2/\σ2.length=σ.length/\∀j,k<=j->σ2[j]? =σ[j]?
theorem NU{i k:Nat}(h:i<k):jX k (kP i):=λ x σ H Q _ q=>⟨q,Qb,λ j hj=>List.getElem?_set_ne Qa⟩
theorem NR{k:Nat}:tJ k Bq:=λ x σ H Q _ ⟨e,q⟩=>⟨e,q,rfl,λ _ _=>rfl⟩
theorem NS{i k:Nat}{gs:jE}(h1:i<k)(h2:tJ k gs):tJ k (Br (kP i) gs):=by
 rintro x σ H Q hl ⟨v,r,rfl,q⟩
 refine⟨v,r,rfl,?_⟩
 show gs r (σ.set i (some v)) H _
 have q':=h2 r (σ.set i (some v)) H Q (by simpa using hl) q
 have e:(λ (σ2:St) (H2:Hp)=>Q σ2 H2/\σ2.length=(σ.set i (some v)).length/\∀j,k<=j->σ2[j]? =(σ.set i (some v))[j]?)=λ σ2 H2=>Q σ2 H2/\σ2.length=σ.length/\∀j,k<=j->σ2[j]? =σ[j]?:=by
  funext σ2 H2
  rw[List.length_set]
  refine congrArg (Q σ2 H2/\·) (congrArg (σ2.length=σ.length/\·) ?_)
  refine forall_congr λ j=>?_
  refine propext ⟨λ z hj=>?_,λ z hj=>?_⟩
  ·rw[z hj,List.getElem?_set_ne Qa]
  ·rw[z hj,List.getElem?_set_ne Qa]
 rw[e]at q'
 exact q'
theorem NT{K:PySem.W.Frag}{n k:Nat}{gs:jE}(h:tJ k gs):jX k (Bp K n gs):=by
 rintro x σ H Q hl ⟨a,xs,rfl,hq,hn,q⟩
 exact⟨a,xs,rfl,hq,hn,h xs σ H Q hl q⟩
noncomputable def Ps(J:It)(g:TG)(tt:TT)(te:TE)(σc:St)(Q:VK)(H1:Hp):Prop:=∃W:Nat->Nat->List V->Hp->Prop,(∃m,W 0 m [] H1)/\∀i m xs H,W i m xs H->
 (J.stop i H/\∀p,H p=none->Q (.ref p) (aM H p (.lst xs)))\/
 (J.go i H/\∀x H',J.yld i H x H'->g x σc H' λ σ2 H2=>tt σ2 H2 λ b H3=>if b=true then te σ2 H3 λ v H4=>xs.length<sizeLine/\∃m',m'<m/\W (i+1) m' (xs++[v]) H4 else∃m',m'<m/\W (i+1) m' xs H3)
noncomputable def yK(k:Nat)(js:List Nat)(wi:TI)(g:TG)(tt:TT)(te:TE):TE:=λ σ H Q=>wi σ H λ J H1=>Ps J g tt te (cJ k js σ) Q H1
end
section
variable{X:Cx}
theorem SB{prog:Program}{w:World}{A:Around}{R:Result→Shared→Prop}{s:Shared}{elt target iter:Expr}{ifs:List Expr}{scope:Scope}{pos:Pos}{it acc:Value}{env:Env}(I:Nat→Shared→Prop)
    (turn : ∀ n s,I n s→wpAny (model prog w) A (pyNext it) (λ r s₁=>match r with
      |none=>R (.ok .next) s₁
      |some v=>wpAny (model prog w) A (letOwnedTupleGo target it v) (λ _ s₁'=>wpAny (model prog w) A (assign target env v) (λ _ s₂=>
          wpAny (model prog w) A (forIn ifs true λ c r=>if r=true then do let ok←isTrue c env (eval c env);pure (ForInStep.yield ok)else pure (ForInStep.yield r)) (λ ok s₃=>
            if ok=true then wpAny (model prog w) A (eval elt env) (λ x s₄=>
              wpAny (model prog w) A (call (.builtin "list.append") [acc,x]) (λ _ s₅=>∃m,m<n∧I m s₅) (λ _ _=>False) s₄) (λ _ _=>False) s₃
            else∃m,m<n∧I m s₃) (λ _ _=>False) s₂) (λ _ _=>False) s₁') (λ _ _=>False) s₁) (λ _ _=>False) s)
    (n:Nat) (h:I n s):
    codeAny (model prog w) A (.compLoop (.ListComp elt [⟨target,iter,ifs,0⟩] scope pos) 0 it acc env) R s:=by
  refine codeAny_loop rfl I (λ n s hI=>?_) n h
  show wpAny _ A ((compTurn (.ListComp elt [⟨target,iter,ifs,0⟩] scope pos) 0 it acc env).onRaise (λ x=>do noteFrame x env;theTreesLotGoes x)) _ _ s
  refine wpAny_noted ?_
  rw[compTurn_list]
  refine wpAny_bind (wpAny_standAt (wpAny_bind (wpAny_mono (turn n s hI) (λ r s₁ h₁=>?_) λ _ _ h'=>h'.elim)))
  cases r with
  |none=>exact wpAny_pure h₁
  | some v=>
    refine wpAny_bind (wpAny_mono h₁ (λ _ s₁' h₁'=>?_) λ _ _ h'=>h'.elim)
    refine wpAny_bind (wpAny_mono h₁' (λ _ s₂ h₂=>wpAny_bind (wpAny_mono h₂ (λ ok s₃ h₃=>?_) λ _ _ h'=>h'.elim)) λ _ _ h'=>h'.elim)
    cases ok with
    |false=>exact wpAny_pure ⟨rfl,h₃⟩
    | true=>
      exact wpAny_bind (wpAny_bind (wpAny_mono h₃ (λ x s₄ h₄=>wpAny_bind (wpAny_mono h₄ (λ _ s₅ h₅=>wpAny_pure (wpAny_pure ⟨rfl,h₅⟩)) λ _ _ h'=>h'.elim)) λ _ _ h'=>h'.elim))
theorem Oa{elt tg iter:Expr}{ifs:List Expr}{scope:Scope}{pos:Pos}{Nc:List Str}{k:Nat}{js:List Nat}{wi:TI}{g:TG}{tt:TT}{te:TE}(hc:X.calm=true)(S:tN X.env scope)
  (hjs:(Nc.drop k).map some=js.map (X.N[·]?)) (hfr:∀x∈Nc.drop k,scope.names.lookup x=some .free) (hk:k<=Nc.length) (hi:PI X tg iter wi)
  (hg:∀C s H ex,PG (dB X scope Nc C s H ex) tg g) (gk:jX k g) (ht:∀C s H ex,gG (dB X scope Nc C s H ex) ifs tt) (he:∀C s H ex,PE (dB X scope Nc C s H ex) elt te)
  {pins:List (Addr×Obj)} {s:Shared} {σ:St} {H:Hp} {Q:VK} (I:aE X pins σ H s) (h:yK k js wi g tt te σ H Q):
  wpAny (model X.prog X.w) X.A (eval iter X.env) (λ x s₁=>wpAny (model X.prog X.w) X.A (pyIter x) (λ itv s₂=>wpAny (model X.prog X.w) X.A (newList []) (λ acc s₃=>
   wpAny (model X.prog X.w) X.A (newFunctionEnv scope X.env.globals (fP X.env scope.names) [] X.env.qual none .none (some X.env)) (λ cenv s₄=>
    codeAny (model X.prog X.w) X.A (.compStart (.ListComp elt [⟨tg,iter,ifs,0⟩] scope pos) 0 itv acc {cenv with scope:=relabel scope X.env})
     (λ r s'=>∃fl D H' m,r= .ok fl/\acc= .ref D/\aE X pins σ H' s'/\s'.heap.Ns cenv.locals m/\eL X pins H' cenv.locals/\Q (.ref D) H') s₄) X.xe s₃) X.xe s₂) X.xe s₁) X.xe s:=by
 refine aT (hi pins s σ H _ I h) λ v s1 h1=>aT h1 λ itv s2 h2=>?_
 obtain⟨it,fp,tn,J,H2,e,I2,T,st2,f2,W,⟨m0,w0⟩,turn⟩:=h2
 subst e
 refine wpAny_newObj_type (wpAny_newFunctionEnv S.cell (by intro y hy;simp at hy) (λ h₁ hns₁ hsb₁=>?_) S.kind)
 dsimp only at hns₁ hsb₁⊢
 generalize hH3:s2.heap.push {cls:=.type "list",dict:=none,data:=.seq ([]:List Value).toArray}=H3 at hns₁ hsb₁⊢
 have hC:H3.objs.size=s2.heap.objs.size+1:=by rw[<-hH3,Heap.size_push]
 generalize eC:H3.objs.size=C at hns₁ hsb₁ hC⊢
 generalize eD:s2.heap.objs.size=D at hC⊢
 have hDC:D≠C:=by omega
 have hle:D<=C:=by omega
 have hlt':D<C:=by omega
 have hltD:∀b o,s2.heap.get? b=some o->b<D:=λ b o e=>by rw[<-eD];exact Heap.lt_size e
 have keep:∀b o,s2.heap.get? b=some o->h₁.get? b=some o:=λ b o e=>hsb₁.extBut b o (Nat.ne_of_lt (Nat.lt_trans (hltD b o e) hlt')) (Heap.get?_push_of_some _ (hH3▸Heap.get?_push_of_some _ e))
 have hD1:∃nn,h₁.get? D=some {cls:=.type "list",data:=.seq (([]:List Value).toArray) nn}:=
  ⟨_,hsb₁.extBut _ _ hDC (Heap.get?_push_of_some _ (hH3▸eD▸Heap.get?_push_size _ rfl))⟩
 have ltf:∀b∈fp,b<s2.heap.objs.size:=λ b hb=>by
  obtain⟨o,e,_⟩:=T.obj 0 _ st2 b hb
  exact Heap.lt_size e
 have I4:aE (dB X scope Nc C s2 H2 fp) [] (cJ k js σ) H2 {s2 with heap:=h₁,toks:=s2.toks+([]:List (Str×Value)).length}:=
  MR (s4:={s2 with heap:=h₁,toks:=s2.toks+([]:List (Str×Value)).length}) I2 hc S hjs hfr hk f2 ltf Qa hns₁ keep rfl rfl
 have frz:∀y∈scope.names,y.2= .free->∃c,X.env.cells.lookup y.1=some c:=λ y hy e=>I2.ok.has y.1 (S.free y hy e)
 have Dcell:∀x c,(fP X.env scope.names).lookup x=some c->c≠D:=λ x c e z=>by
  obtain⟨v,q⟩:=I2.cell x c (fX frz e)
  have l:=q.lt
  rw[z,eD]at l
  exact Nat.lt_irrefl _ l
 have Dstk:D∉cV X.stack:=λ z=>by
  rcases List.mem_cons.mp (I2.stkSub D z)with z|z
  ·have l:=I2.lt
   rw[<-z,eD]at l
   exact Nat.lt_irrefl _ l
  ·exact I2.nofs (Nat.le_of_eq eD) z
 have Dfp:∀b∈fp,D≠b:=λ b hb z=>by have l:=ltf b hb;rw[<-z,eD]at l;exact Nat.lt_irrefl _ l
 have fpok:∀{H':Hp} {o:Obj},(∀b∈fp,H' b=none)->∀b∈fp,eL (dB X scope Nc C s2 H2 fp) [(D,o)] H' b:=fun{H' o} hn b hb=>by
  refine⟨hn b hb,?_,?_,.inl hb,λ x c e=>(f2 b hb).2.2.2.2.1 x c (fX frz e),λ p hp=>?_⟩
  ·have l:=ltf b hb
   rw[eD]at l
   exact Nat.ne_of_lt (Nat.lt_trans l hlt')
  ·intro z
   rcases List.mem_cons.mp (I2.stkSub b z)with z|z
   ·exact(f2 b hb).2.1 z
   ·exact(f2 b hb).2.2.1 z
  ·have e:p=(D,o):=by simpa using hp
   subst e
   exact Dfp b hb
 have loop:codeAny (model X.prog X.w) X.A (.compLoop (.ListComp elt [⟨tg,iter,ifs,0⟩] scope pos) 0 (.ref it) (.ref D) (compEnvC scope (fP X.env scope.names) C X.env))
   (λ r s'=>∃fl D' H' m,r= .ok fl/\Value.ref D= .ref D'/\aE X pins σ H' s'/\s'.heap.Ns C m/\eL X pins H' C/\Q (.ref D') H') {s2 with heap:=h₁,toks:=s2.toks+([]:List (Str×Value)).length}:=by
  refine SB (λ n s'=>∃(i:Nat) (xs:List V) (H':Hp) (its:List Value) (nn:Nat),aE (dB X scope Nc C s2 H2 fp) [] (cJ k js σ) H' s'/\tn i s'.heap/\(∀b∈fp,H' b=none)/\H' D=none/\
   s'.heap.get? D=some {cls:=.type "list",data:=.seq its.toArray nn}/\aW xs its/\xs.length<=sizeLine/\W i n xs H') ?_ m0 ?_
  ·rintro n s3 ⟨i,xs,H3',its,nn,I3,st3,fr3,fD3,oD3,rv,hz,w3⟩
   have I3':aE (dB X scope Nc C s2 H2 fp) [(D,{cls:=.type "list",data:=.seq its.toArray nn})] (cJ k js σ) H3' s3:=I3.pins_of λ p hp=>by
    have e:p=(D,{cls:=.type "list",data:=.seq its.toArray nn}):=by simpa using hp
    subst e
    refine⟨oD3,fD3,hDC,Dstk,λ v z=>?_⟩
    cases z
   rcases turn i n xs H3' w3 with⟨stop,qn⟩|⟨go,step⟩
   ·refine aT (T.done (dB X scope Nc C s2 H2 fp) rfl rfl rfl rfl i _ s3 (cJ k js σ) H3' _ I3' (fpok fr3) st3 stop) λ r s4 ⟨hr,I5⟩=>?_
    subst hr
    obtain⟨oD5,fD5,_⟩:=I5.pin (D,{cls:=.type "list",data:=.seq its.toArray nn}) Qb
    obtain⟨mC,nC,_⟩:=I5.loc
    have hu:Un (cV X.stack) fp H2 H3' s2.heap s4.heap:=I5.base
    have neD:∀b o,H3' b=some o->b≠D:=λ b o e=>fM e fD3
    have neDh:∀b o,s2.heap.get? b=some o->b≠D:=λ b o e=>Nat.ne_of_lt (hltD b o e)
    have hok':cU X.prog X.w (aM H3' D (.lst xs)) s4.heap:=λ b u e=>by
     by_cases hb:b=D
     ·subst hb
      rw[dA]at e
      cases e
      exact⟨hz,its,nn,rv,oD5⟩
     ·rw[aY hb]at e
      exact(I5.hok b u e).stay (λ c v _ q=>q) (λ c q=>by rw[aY (neD c _ q)];exact q) λ c ys q=>by rw[aY (neD c _ q)];exact q
    have hu':Un (cV X.stack) fp H2 (aM H3' D (.lst xs)) s2.heap s4.heap:=⟨hu.keep,hu.slot,λ b o e n hx=>by rw[aY (neDh b o e)];exact hu.free b o e n hx,hu.there,
     λ b ys e=>by rw[aY (neD b _ (hu.tups b ys e))];exact hu.tups b ys e,λ b o u e=>by rw[aY (neD b _ (hu.frzs b o u e))];exact hu.frzs b o u e,
     λ b ps e=>by obtain⟨more,q⟩:=hu.tbls b ps e;exact⟨more,by rw[aY (neD b _ q)];exact q⟩⟩
    have IX:aE X pins σ (aM H3' D (.lst xs)) s4:=I2.call' I5.os hu' hok' I5.bare λ b hb=>⟨(f2 b hb).2.2.2.1,(f2 b hb).2.1,(f2 b hb).2.2.2.2.1,(f2 b hb).2.2.2.2.2⟩
    refine⟨_,D,_,mC,rfl,rfl,IX,nC,I2.fpOk Qa ?_,qn D fD3⟩
    rw[aY (Ne.symm hDC)]
    exact I5.free
   ·refine aT (T.item (dB X scope Nc C s2 H2 fp) rfl rfl rfl rfl i _ s3 (cJ k js σ) H3' _ I3' (fpok fr3) st3 go) λ r s4 ⟨u,hr,h4⟩=>?_
    subst hr
    refine aT h4 λ _ s5 ⟨x,H5,I5,r5,y5,st5,fr5⟩=>?_
    have I5':=I5.pinned (fpok fr5) (T.obj _ _ st5)
    have lenS:k<=(cJ k js σ).length:=by rw[sO];omega
    refine aT (hg C s2 H2 fp _ s5 (cJ k js σ) H5 x u _ I5' r5 (gk _ _ _ _ lenS (step x H5 y5))) λ _ s6 ⟨σ6,H6,I6,q6,l6,a6⟩=>?_
    have weak6:∀{H':Hp} {s':Shared} {ps:List (Addr×Obj)},aE (dB X scope Nc C s2 H2 fp) ps σ6 H' s'->aE (dB X scope Nc C s2 H2 fp) ps (cJ k js σ) H' s':=fun{H' s' ps} I'=>I'.weak l6.symm λ j v e=>by
     obtain⟨t,j',rfl,_,_⟩:=sN e
     rw[a6 _ (Nat.le_add_right _ _)]
     exact e
    refine aT (ht C s2 H2 fp _ s6 σ6 H6 _ I6 q6) λ b s7 ⟨H7,I7,q7⟩=>?_
    have pinD:∀{H':Hp} {s':Shared},aE (dB X scope Nc C s2 H2 fp) ([(D,{cls:=.type "list",data:=.seq its.toArray nn})]++lN fp s5.heap) σ6 H' s'->s'.heap.get? D=some {cls:=.type "list",data:=.seq its.toArray nn}/\H' D=none:=fun{H' s'} I'=>by
     obtain⟨e1,e2,_⟩:=I'.pin (D,{cls:=.type "list",data:=.seq its.toArray nn}) Qb
     exact⟨e1,e2⟩
    have pinF:∀{H':Hp} {s':Shared},aE (dB X scope Nc C s2 H2 fp) ([(D,{cls:=.type "list",data:=.seq its.toArray nn})]++lN fp s5.heap) σ6 H' s'->(∀b∈fp,∀o,s5.heap.get? b=some o->s'.heap.get? b=some o)/\∀b∈fp,H' b=none:=fun{H' s'} I'=>by
     refine⟨λ b hb o e=>(I'.pin (b,o) (List.mem_append_right _ (List.mem_append_right _ (lP hb e)))).1,λ b hb=>?_⟩
     obtain⟨o,e,d⟩:=T.obj _ _ st5 b hb
     exact(I'.pin (b,o) (List.mem_append_right _ (List.mem_append_right _ (lP hb e)))).2.1
    cases b with
    |false=>
     obtain⟨m',hm,w7⟩:=q7
     obtain⟨d1,d2⟩:=pinD I7
     obtain⟨p1,p2⟩:=pinF I7
     refine⟨m',hm,i+1,xs,H7,its,nn,weak6 (I7.pins_of λ p hp=>absurd (show p∈([]:List (Addr×Obj))from hp) Qb),T.keep _ _ _ st5 p1,p2,d2,d1,rv,hz,w7⟩
    | true=>
     refine aT (he C s2 H2 fp _ s7 σ6 H7 _ I7 q7) λ y s8 ⟨vv,H8,I8,r8,hz8,m',hm,w8⟩=>?_
     obtain⟨d1,d2⟩:=pinD I8
     obtain⟨p1,p2⟩:=pinF I8
     refine wpAny_list_append_plain (items:=its.toArray) ⟨nn,d1⟩ (λ h' ⟨nn',hp'⟩ hsb=>?_) (by have:=rv.length;rw[List.size_toArray];omega)
     have I8':aE (dB X scope Nc C s2 H2 fp) [] (cJ k js σ) H8 s8:=weak6 (I8.pins_of λ p hp=>absurd (show p∈([]:List (Addr×Obj))from hp) Qb)
     have I9:aE (dB X scope Nc C s2 H2 fp) [] (cJ k js σ) H8 {s8 with heap:=h'}:=I8'.turned (it:=D) (t':=s8.toks) (λ b o hb e=>(hsb.2 b hb).trans e) d2 hDC (.inr (Nat.le_of_eq eD)) (λ x c e=>Dcell x c e) λ p hp=>absurd (show p∈([]:List (Addr×Obj))from hp) Qb
     refine⟨m',hm,i+1,xs++[vv],H8,its++[y],nn',I9,T.keep _ _ _ st5 (λ b hb o e=>(hsb.2 b (Ne.symm (Dfp b hb))).trans (p1 b hb o e)),p2,d2,?_,rv.append (.cons r8 .nil),?_,w8⟩
     ·rw[<-List.push_toArray]
      exact hp'
     ·rw[List.length_append,List.length_singleton]
      omega
  ·obtain⟨nn,e⟩:=hD1
   exact⟨0,[],H2,[],nn,I4,T.keep _ _ _ st2 (λ b _ o e=>keep b o e),λ b hb=>(f2 b hb).1,I2.hok.fresh (Nat.le_of_eq eD),e,.nil,Nat.zero_le _,w0⟩
 exact codeAny_compStart_list loop (wpAny_mono (T.self _ 0 _ _ (λ _ _=>False) (T.keep _ _ _ st2 λ b _ o e=>keep b o e) loop) (λ _ _ q=>q) λ _ _ z=>z.elim)
theorem FP{elt tg iter:Expr}{ifs:List Expr}{scope:Scope}{pos:Pos}{Nc:List Str}{k:Nat}{js:List Nat}{wi:TI}{g:TG}{tt:TT}{te:TE}(hc:X.calm=true)(S:tN X.env scope)
  (hjs:(Nc.drop k).map some=js.map (X.N[·]?)) (hfr:∀x∈Nc.drop k,scope.names.lookup x=some .free) (hk:k<=Nc.length) (hi:PI X tg iter wi)
  (hg:∀C s H ex,PG (dB X scope Nc C s H ex) tg g) (gk:jX k g) (ht:∀C s H ex,gG (dB X scope Nc C s H ex) ifs tt) (he:∀C s H ex,PE (dB X scope Nc C s H ex) elt te)
  (hs:∀x,foldedSetIterable iter X.env x=pure x:=by intro _;rfl):PE X (.ListComp elt [⟨tg,iter,ifs,0⟩] scope pos) (yK k js wi g tt te):=by
 intro pins s σ H Q I h
 rw[eval_ListComp]
 refine wpAny_comprehension_free (use:=none) rfl hs (xG λ y hy e=>I.ok.has y.1 (S.free y hy e)) S.kind S.loc (aT (Oa hc S hjs hfr hk hi hg gk ht he I h) λ x s1 h1=>aT h1 λ itv s2 h2=>aT h2 λ acc s3 h3=>aT h3 λ cenv s4 h4=>codeAny_mono h4 λ r s' hr=>?_)
 obtain⟨fl,D,H',m,rfl,rfl,I',nC,fC,q⟩:=hr
 refine⟨m,nC,λ h' sb=>⟨.ref D,H',I'.turned (it:=cenv.locals) (t':=s'.toks) (λ b o hb e=>(sb.2 b hb).trans e) fC.1 fC.2.1 fC.2.2.2.1 fC.2.2.2.2.1 fC.2.2.2.2.2,rfl,q⟩⟩
theorem CQ{elt tg iter:Expr}{ifs:List Expr}{scope:Scope}{cpos pos pos':Pos}{Nc:List Str}{k:Nat}{js:List Nat}{wi:TI}{g:TG}{tt:TT}{te:TE}{i:Nat}{x:Str}(hN:X.N.Nodup)(hxi:X.N[i]? =some x)(hx:pX X.env.scope x)(hc:X.calm=true)(S:tN X.env scope)
    (hjs:(Nc.drop k).map some=js.map (X.N[·]?)) (hfr:∀x∈Nc.drop k,scope.names.lookup x=some .free) (hk:k≤Nc.length) (hi:PI X tg iter wi)
    (hg:∀C s H ex,PG (dB X scope Nc C s H ex) tg g) (gk:jX k g) (ht:∀C s H ex,gG (dB X scope Nc C s H ex) ifs tt) (he:∀C s H ex,PE (dB X scope Nc C s H ex) elt te)
    (hs:∀x,foldedSetIterable iter X.env x=pure x:=by intro _;rfl) (hsw:swapsWith (.ListComp elt [⟨tg,iter,ifs,0⟩] scope cpos) (some (.Name x pos')) pos.line X.env=pure true:=by rfl)
    (hf:X.fn x=true∨X.env.scope.names.lookup x=some .local:=by first|exact .inl rfl|exact .inr rfl|assumption):
    PS X (.Assign [.Name x pos'] (.ListComp elt [⟨tg,iter,ifs,0⟩] scope cpos) pos) (qK (yK k js wi g tt te) (kP i)):=by
  intro pins s σ H D I h
  rw[exec_Assign_Name_used _ _ _ _ hsw]
  refine wpAny_bind (wpAny_standAt (wpAny_bind ?_))
  show wpAny _ X.A (do let _←comprehension (.ListComp elt [⟨tg,iter,ifs,0⟩] scope cpos) scope X.env _ (newList []) false (eval iter X.env) (some (assign (.Name x pos') X.env))) _ _ s
  refine wpAny_bind (wpAny_mono (wpAny_comprehension_free (use:=some (assign (.Name x pos') X.env)) (Q:=λ _ s'=>SP X pins D .next s') rfl hs (xG λ y hy e=>I.ok.has y.1 (S.free y hy e)) S.kind S.loc
    (aT (Oa hc S hjs hfr hk hi hg gk ht he I h) λ xv s1 h1=>aT h1 λ itv s2 h2=>aT h2 λ acc s3 h3=>aT h3 λ cenv s4 h4=>codeAny_mono h4 λ r s' hr=>?_)) (λ _ s' hq=>wpAny_pure (wpAny_pure hq)) λ _ _ e=>e)
  obtain⟨fl,Dl,H',m,rfl,rfl,I',nC,fC,q⟩:=hr
  show wpAny _ X.A (assign (.Name x pos') X.env (.ref Dl)) _ _ _
  refine wpAny_assign_Name (Fe (v:= .ref Dl) I' hN hxi hx rfl (λ s'' I'' ⟨a,sa,ha⟩=>?_) hf)
  have na:cenv.locals≠a:=by
    rcases ha with rfl|ha
    ·exact fC.2.1
    ·exact λ z=>fC.2.2.2.2.1 x a ha z.symm
  refine⟨m,nC.sameBut sa na,λ h' sb=>⟨_,H',I''.turned (it:=cenv.locals) (t':=s''.toks) (λ b o hb e=>(sb.2 b hb).trans e) fC.1 fC.2.1 fC.2.2.2.1 fC.2.2.2.2.1 fC.2.2.2.2.2,q⟩⟩
end
noncomputable abbrev dL(X:Cx)(scope:Scope)(Nc:List Str)(C:Addr)(code:Value)(e:Expr)(it:Addr)(s₂:Shared)(H₂:Hp)(ex:List Addr):Cx where
 prog:=X.prog
 w:=X.w
 K:=X.K
 mg:=X.mg
 base:=X.base
 A:=(X.A.in1.in1).over (.compLoop e 0 (.ref it) .none (genEnv scope (fP X.env scope.names) C code builtinsNs X.env)) []
 N:=Nc
 s₀:=s₂
 H₀:=H₂
 env:=genEnv scope (fP X.env scope.names) C code builtinsNs X.env
 outer:=X.stack
 stack:=genEnv scope (fP X.env scope.names) C code builtinsNs X.env::X.stack
 ex:=ex
 fn:=λ _=>false
 calm:=true
 pn:=[]
 xe:=λ _ _=>False
section
variable{X:Cx}
theorem aE.setGens{pins:List (Addr×Obj)}{σ:St}{H:Hp}{s:Shared}{g':Array GenState}(I:aE X pins σ H s)(hg:eK s.gens g'):aE X pins σ H {s with gens:=g'}:=
 ⟨I.ok,I.os,⟨hg.1,Nat.le_trans I.bare.2 hg.2⟩,I.base,I.loc,I.cell,I.free,I.freeC,I.pin,I.hok,I.len⟩
theorem iK{gens:Array GenState}{g:Nat}{x:GenState}(h:AllBare gens)(hx:x.bare=true):eK gens (gens.setIfInBounds g x):=by
 refine⟨λ y hy=>?_,Qb⟩
 rcases Array.mem_or_eq_of_mem_setIfInBounds hy with z|z
 ·exact h y z
 ·rw[z];exact hx
theorem Bi{k:Nat}{A:Around}(r:dG (k+1) A){elt:Expr}{gens:List Comprehension}{scope:Scope}{pos:Pos}{it acc:Value}{env:Env}:dG k ((A.in1.in1).over (.compLoop (.GeneratorExp elt gens scope pos) 0 it acc env) []):=
 ⟨r.hd,by have:=r.dp;show A.depth+0+1+3*k+5<_;omega,by have:=r.un;show A.units+1+1+0+3+16*k+200<_;omega⟩
theorem NZ{A:Around}{l:List Env}(h:A.frames=some l){elt:Expr}{gens:List Comprehension}{scope:Scope}{pos:Pos}{it acc:Value}{env:Env}:
  ((A.in1.in1).over (.compLoop (.GeneratorExp elt gens scope pos) 0 it acc env) []).frames=some (env::l):=by
 show pushEnvs [env] (pushEnvs [] A.frames)=_
 rw[h]
 rfl
structure xV(env:Env)(scope:Scope):Prop where
 kind:scope.kind= .function
 co:scope.isCoroutine=false
 cell:∀y∈scope.names,y.2≠ .cell
 zero:scope.names.lookup (".0" :Str)=some .local
 free:∀y∈scope.names,y.2= .free->env.scope.names.lookup y.1=some .cell\/env.scope.names.lookup y.1=some .free
theorem Kr{pins:List (Addr×Obj)}{σ:St}{H:Hp}{s s4:Shared}{scope:Scope}{Nc:List Str}{k:Nat}{js:List Nat}{C it:Addr}{code:Value}{elt:Expr}{gens:List Comprehension}{pos:Pos}{fp:List Addr}{m0:Str->Option Value}(I:aE X pins σ H s)(hc:X.calm=true)(S:xV X.env scope)
  (hjs:(Nc.drop k).map some=js.map (X.N[·]?)) (hfr:∀x∈Nc.drop k,scope.names.lookup x=some .free) (hk:k<=Nc.length)
  (hfp:∀b∈fp,eL X pins H b) (hlt:∀b∈fp,b<s.heap.objs.size) (hC:s.heap.objs.size<=C) (hn:s4.heap.Ns C m0) (hkeep:∀b o,s.heap.get? b=some o->s4.heap.get? b=some o)
  (ho:s4.os=s.os) (hg:eK s.gens s4.gens):aE (dL X scope Nc C code (.GeneratorExp elt gens scope pos) it s H fp) [] (cJ k js σ) H s4:=by
 have fr:∀y∈scope.names,y.2= .free->∃c,X.env.cells.lookup y.1=some c:=λ y hy e=>I.ok.has y.1 (S.free y hy e)
 have kinds:∀x,scope.names.lookup x=some .cell\/scope.names.lookup x=some .free->(x,NameKind.free)∈scope.names:=λ x hx=>by
  rcases hx with e|e
  ·exact absurd rfl (S.cell _ (PySem.mem_of_lookup e))
  ·exact PySem.mem_of_lookup e
 have lenJ:js.length=Nc.length-k:=by
  have:=congrArg List.length hjs
  simpa using this.symm
 refine⟨⟨I.ok.mod,S.kind,I.ok.glob,rfl,hC,λ x y c h1 h2=>I.ok.inj x y c (fX fr h1) (fX fr h2),λ x hx=>xH (kinds x hx),λ x c z=>(by cases z),λ _=>I.ok.hd hc,NZ I.ok.frames,.inr ⟨rfl,rfl⟩,λ b hb=>⟨?_,λ x c e=>?_⟩,I.bs,Nat.le_trans I.ok.bsz I.sz,λ b o e hb=>?_,λ b hb z=>?_,I.stack,I.stkFree⟩,
  ho,hg,Un.kept hkeep,⟨_,hn,λ i x v e1 e2 e3=>?_⟩,λ x c e=>?_,I.hok.fresh hC,λ x c e=>I.freeC x c (fX fr e),λ p hp=>absurd (show p∈([]:List (Addr×Obj))from hp) Qb,I.hok.kept hkeep,?_⟩
 ·exact Nat.ne_of_lt (Nat.lt_of_lt_of_le (hlt b hb) hC)
 ·exact(hfp b hb).2.2.2.2.1 x c (fX fr e)
 ·rcases(hfp b hb).2.2.2.1 with z|z
  ·exact I.ok.noex b o e z
  ·exact absurd (Nat.lt_of_lt_of_le (Heap.lt_size e) (Nat.le_trans I.ok.bsz z)) (Nat.lt_irrefl _)
 ·rcases List.mem_cons.mp (I.stkSub b z)with z|z
  ·exact(hfp b hb).2.1 z
  ·exact(hfp b hb).2.2.1 z
 ·obtain⟨t,j,rfl,hj,hv⟩:=sN e2
  have ex:X.N[j]? =some x:=by
   have q:=congrArg (λ l=>l[t]?) hjs
   simp only[List.getElem?_map,List.getElem?_drop,hj,Option.map_some]at q
   have e1':Nc[k+t]? =some x:=e1
   rw[e1']at q
   exact(Option.some.inj q).symm
  have hx:scope.names.lookup x=some .free:=hfr x (by
   have:(Nc.drop k)[t]? =some x:=by rw[List.getElem?_drop];exact e1
   exact List.mem_of_getElem? this)
  have kx:=S.free (x,.free) (PySem.mem_of_lookup hx) rfl
  obtain⟨m,_,hl⟩:=I.loc
  obtain⟨u,r,l⟩:=hl j x v ex hv (.inr kx)
  obtain⟨c',hc'⟩:=xH (env:=X.env) (PySem.mem_of_lookup hx)
  refine⟨u,r,.inr ⟨.inr hx,c',hc',?_⟩⟩
  rcases l with⟨k1,_⟩|⟨_,c,hcc,z⟩
  ·have k1':X.env.scope.names.lookup x=some .local:=k1
   have kx':X.env.scope.names.lookup x=some .cell\/X.env.scope.names.lookup x=some .free:=kx
   rw[k1']at kx'
   rcases kx' with z|z<;>cases z
  ·have e:c=c':=by
    have:=fX fr hc'
    rw[hcc]at this
    exact Option.some.inj this
   subst e
   exact z.keeps hkeep
 ·obtain⟨v,z⟩:=I.cell x c (fX fr e)
  exact⟨v,z.keeps hkeep⟩
 ·rw[sO]
  show _=Nc.length
  omega
noncomputable def mM(H:Hp)(P:Addr)(ps:Array Value):Prop:=H P=some (.tbl ps)/\TriplesOk ps.toList
theorem aE.table{pins:List (Addr×Obj)}{σ:St}{H:Hp}{s:Shared}{P:Addr}{ps more:Array Value}{h':Heap}{t':Nat}(I:aE X pins σ H s)(hP:H P=some (.tbl ps))(hx:Heap.ExtBut P s.heap h')(hp:h'.get? P=some {cls:=.none,data:=.fields (ps++more)}):
  aE X pins σ (aM H P (.tbl (ps++more))) {s with heap:=h',toks:=t'}:=by
 have ne:∀b o,H b=some o->(∀q,o≠ .tbl q)->b≠P:=λ b o e n z=>by
  subst z
  rw[hP]at e
  exact n ps (Option.some.inj e).symm
 have ne0:∀b,H b=none->b≠P:=λ b n z=>by subst z;rw[hP]at n;cases n
 refine I.un ⟨λ b o e n _ _=>hx b o (ne0 b n) e,λ b o e n _ _=>⟨o.slots,hx b o (ne0 b n) e⟩,λ b o e n _=>by rw[aY (ne0 b n)];exact n,λ b o e _=>?_,λ b xs e=>by rw[aY (ne b _ e (by intro q z;cases z))];exact e,
  λ b o u e=>by rw[aY (ne b _ e (by intro q z;cases z))];exact e,λ b qs e=>?_⟩ λ b u e=>?_
 ·by_cases hb:b=P
  ·subst hb;exact⟨_,hp⟩
  ·exact⟨o,hx b o hb e⟩
 ·by_cases hb:b=P
  ·subst hb
   rw[hP]at e;cases e
   exact⟨more,dA⟩
  ·exact⟨#[],by rw[aY hb,e];simp⟩
 ·by_cases hb:b=P
  ·subst hb
   rw[dA]at e;cases e
   exact hp
  ·rw[aY hb]at e
   refine(I.hok b u e).stay (λ c v hc q=>hx c v ?_ q) (λ c q=>by rw[aY (ne c _ q (by intro q z;cases z))];exact q) λ c ys q=>by rw[aY (ne c _ q (by intro q z;cases z))];exact q
   rcases hc with z|z
   ·rw[z];exact hb
   ·exact ne c _ z (by intro q z;cases z)
theorem Lg{pins:List (Addr×Obj)}{σ:St}{H:Hp}{s:Shared}{E:Qd}{env:Env}{c P:Addr}{ps:Array Value}{pos:Pos}{qualname:Str}{scope:Scope}{Q:Qd}(I:aE X pins σ H s)(hc:env.code= .ref c)(hd:PySem.W.CodeHd X.base c P)(hP:mM H P ps)
  (hQ:∀code s' more,aE X pins σ (aM H P (.tbl (ps++more))) s'->TriplesOk (ps++more).toList->s'.gens=s.gens->s'.os=s.os->s.heap.objs.size<=s'.heap.objs.size->Heap.ExtBut P s.heap s'.heap->Q code s'):wpAny (model X.prog X.w) X.A (genexprCode env pos qualname scope) Q E s:=by
 have hd':PySem.W.CodeHd s.heap c P:=hd.keeps λ b o e=>(I.bs b o e).1
 have hop:s.heap.get? P=some (PySem.W.tabObj ps):=I.hok P _ hP.1
 have hcode:=hd'.code hop hP.2
 have htab:=hd'.tab hop
 cases hnf:codeAmong pos ps.toList with
 |none=>
  refine wpAny_genexprCodeX hc hcode htab hnf λ c' h' tk hx h1 h2 hc3 _ ht3 _=>?_
  refine hQ _ {s with heap:=h',toks:=tk} _ (I.table hP.1 hx ht3.2) ?_ rfl rfl (Nat.le_trans h1 (Nat.le_of_lt h2)) hx
  obtain⟨_,_,_,_,_,_,_,_,_,_,_,_,_,_,_,_,_,_,_,tr,_⟩:=hc3
  exact tr
 | some cv=>
  obtain⟨o,vs,file,tf,flags,tg,inF,text,tt,op,ho,hdd,h11,h2,h7,h9,h10,hop',hpd,htr,hne⟩:=id hcode
  unfold genexprCode codeAt
  rw[hc,if_neg (show¬((Value.ref c==Value.none)=true)from Bool.false_ne_true)]
  refine wpAny_bind (wpAny_fieldsOf ho hdd ?_)
  rw[h11]
  refine wpAny_bind (wpAny_fieldsOf hop' hpd ?_)
  rw[hnf]
  refine wpAny_pure (hQ cv s #[] ?_ (by simpa using hP.2) rfl rfl (Nat.le_refl _) (Heap.ExtBut.refl _ _))
  have e:aM H P (.tbl (ps++ #[]))=H:=by
   funext b
   by_cases hb:b=P
   ·subst hb;rw[dA,hP.1];simp
   ·rw[aY hb]
  rw[e]
  exact I
end
noncomputable def Li(Fin:Bool->Shared->Prop):GenEnd:=λ _ _ r s₁=>r= .ok .next/\Fin true s₁
noncomputable def Lh(Ok:Shared->Prop)(Fin:Bool->Shared->Prop):Protocol:=λ _ _ v s₁ kap=>∃c,v= .bool c/\Ok s₁/\(c=false->Fin false s₁)/\(c=true->∀gq,eK s₁.gens gq->kap (.send .none) {s₁ with gens:=gq})
section
variable{Xg:Cx}{A:Around}{elt tg iter:Expr}{ifs:List Expr}{scope:Scope}{pos:Pos}{it:Addr}{J:It}{fp:List Addr}{tn:Nat->Heap->Prop}{g:TG}{tt:TT}{te:TE}{k:Nat}{σg:St}{pa:List (Addr×Obj)}
theorem AJ(hA:Xg.A=A.over (.compLoop (.GeneratorExp elt [⟨tg,iter,ifs,0⟩] scope pos) 0 (.ref it) .none Xg.env) [])(hxe:Xg.xe=λ _ _=>False)(hco:Xg.env.scope.isCoroutine=false)(hc:Xg.calm=true)
  (hg:PG Xg tg g) (gk:jX k g) (ht:gG Xg ifs tt) (he:PE Xg elt te) (T:iR Xg.prog Xg.w Xg.K tg J fp it tn) (hk:k<=σg.length) (hown:∀(j:Nat) (v:V),σg[j]? =some (some v)->k<=j)
  (fpok:∀H':Hp,(∀b∈fp,H' b=none)->∀b∈fp,eL Xg pa H' b) (W:Nat->Nat->Hp->Prop) (Qt:Bool->Hp->Prop)
  (turn:∀i m H,W i m H->(J.stop i H/\Qt true H)\/(J.go i H/\∀x H',J.yld i H x H'->g x σg H' λ σ2 H2=>tt σ2 H2 λ b H3=>if b=true then te σ2 H3 λ v H4=>∃c,v= .bl c/\if c=true then∃m',m'<m/\W (i+1) m' H4 else Qt false H4 else∃m',m'<m/\W (i+1) m' H3)):
  ∀ (m n:Nat),m<n->∀(i:Nat) (H:Hp) (s s₀:Shared),W i m H->aE Xg pa σg H s->tn i s.heap->(∀b∈fp,H b=none)->
   Seg (model Xg.prog Xg.w) A (Li λ c s'=>∃H',aE Xg pa σg H' s'/\Qt c H') (Lh (λ s'=>∃H',aE Xg pa σg H' s') λ c s'=>∃H',aE Xg pa σg H' s'/\Qt c H') n s₀
    (.compLoop (.GeneratorExp elt [⟨tg,iter,ifs,0⟩] scope pos) 0 (.ref it) .none Xg.env) ((model Xg.prog Xg.w).den (.compLoop (.GeneratorExp elt [⟨tg,iter,ifs,0⟩] scope pos) 0 (.ref it) .none Xg.env)) [] s:=by
 intro m
 induction m using Nat.strongRecOn with
 | _ m ih=>
  intro n hmn i H s s₀ w I st hfr
  show Seg _ A _ _ _ s₀ _ ((compTurn (.GeneratorExp elt [⟨tg,iter,ifs,0⟩] scope pos) 0 (.ref it) .none Xg.env).onRaise (leaving Xg.env)) [] s
  rw[compTurn_gen,Sem.onRaise_eq_wrap]
  refine seg_bind_wrap (wpAny_standAt ?_)
  rcases turn i m H w with⟨stop,q⟩|⟨go,step⟩
  ·have d:=T.done Xg rfl rfl rfl hc i pa s σg H (λ _ _=>False) I (fpok H hfr) st stop
   rw[hA]at d
   refine seg_bind_wrap (wpAny_mono d (λ r s4 ⟨hr,I5⟩=>?_) λ _ _ z=>z.elim)
   subst hr
   exact seg_end (.ok .next) ⟨rfl,H,I5,q⟩
  ·have d:=T.item Xg rfl rfl rfl hc i pa s σg H (λ _ _=>False) I (fpok H hfr) st go
   rw[hA]at d
   refine seg_bind_wrap (wpAny_mono d (λ r s4 ⟨u,hr,h4⟩=>?_) λ _ _ z=>z.elim)
   subst hr
   refine seg_bind_wrap (wpAny_mono h4 (λ _ s5 ⟨x,H5,I5,r5,y5,st5,fr5⟩=>?_) λ _ _ z=>z.elim)
   have I5':=I5.pinned (fpok H5 fr5) (T.obj _ _ st5)
   have d2:=hg _ s5 σg H5 x u _ I5' r5 (gk _ _ _ _ hk (step x H5 y5))
   rw[hA,hxe]at d2
   refine seg_bind_wrap (wpAny_mono d2 (λ _ s6 ⟨σ6,H6,I6,q6,l6,a6⟩=>?_) λ _ _ z=>z.elim)
   have back:∀{H':Hp} {s':Shared},aE Xg (pa++lN fp s5.heap) σ6 H' s'->aE Xg pa σg H' s'/\tn (i+1) s'.heap/\∀b∈fp,H' b=none:=fun{H' s'} I'=>by
    refine⟨I'.unpinned.weak l6.symm λ j v e=>by rw[a6 j (hown j v e)];exact e,T.keep _ _ _ st5 λ b hb o e=>(I'.pin (b,o) (List.mem_append_right _ (List.mem_append_right _ (lP hb e)))).1,λ b hb=>?_⟩
    obtain⟨o,e,d⟩:=T.obj _ _ st5 b hb
    exact(I'.pin (b,o) (List.mem_append_right _ (List.mem_append_right _ (lP hb e)))).2.1
   have d3:=ht _ s6 σ6 H6 _ I6 q6
   rw[hA,hxe]at d3
   refine seg_bind_wrap (wpAny_mono d3 (λ ok s7 ⟨H7,I7,q7⟩=>?_) λ _ _ z=>z.elim)
   cases ok with
   |false=>
    obtain⟨m',hm,w7⟩:=q7
    obtain⟨J1,J2,J3⟩:=back I7
    simp only[Bool.false_eq_true,if_false]
    exact seg_again rfl (ih m' hm n Qa (i+1) H7 s7 s₀ w7 J1 J2 J3)
   | true=>
    simp only[if_true]
    have hy:∀v,yieldOut Xg.env v=yieldValue v:=λ v=>by simp only[yieldOut,hco,Bool.false_eq_true,if_false]
    simp only[hy]
    rw[Sem.bind_eq_wrap',Sem.bind_eq_wrap',Sem.wrap_wrap,Sem.wrap_wrap]
    have d4:=he _ s7 σ6 H7 _ I7 q7
    rw[hA,hxe]at d4
    refine seg_wrap (wpAny_mono d4 (λ y s8 ⟨v,H8,I8,r8,c,e8,q8⟩=>?_) λ _ _ z=>z.elim)
    subst e8
    obtain rfl:y=Value.bool c:=r8
    obtain⟨J1,J2,J3⟩:=back I8
    obtain⟨n',rfl⟩:∃n',n=n'+1:=⟨n-1,Qa⟩
    refine seg_at (seg_yield rfl rfl rfl ⟨c,rfl,⟨H8,J1⟩,λ hc0=>?_,λ hc1 gq hgq=>?_⟩)
    ·subst hc0
     exact⟨H8,J1,q8⟩
    ·subst hc1
     obtain⟨m',hm,w8⟩:=q8
     exact seg_again rfl (ih m' hm n' Qa (i+1) H8 _ _ w8 (J1.setGens hgq) J2 J3)
end
section
variable{prog:Program}{w:World}{A:Around}{a:Addr}{gi:Nat}
theorem i7{Ok:Shared->Prop}{Fin:Bool->Shared->Prop}(hh:A.handled=none)(hroom:A.depth<recursionLimit)(hok:∀s,Ok s->s.heap.NoLimit/\s.heap.IsGen a gi/\gi<s.gens.size/\AllBare s.gens)
  (hokg:∀s gq,Ok s->eK s.gens gq->Ok {s with gens:=gq})
  (hfin:∀c s h' gq,Fin c s->eK s.gens gq->(∀b o,s.heap.get? b=some o->h'.get? b=some o)->Fin c {s with heap:=h',gens:=gq}) (hfo:∀c s,Fin c s->AllBare s.gens):
  ∀(n:Nat) (s:Shared) (gs:GenState),Ok s->s.gens[gi]? =some gs->gs.Goes (model prog w) A.in1.in1 (Li Fin) (Lh Ok Fin) n (.send .none) (s.setGen gi .running)->
   codeAny (model prog w) A (.builtin "all.loop" ⟨[.ref a],[]⟩) (λ r s'=>∃c,r= .ok (.ret (.bool c))/\Fin c s') s:=by
 intro n
 induction n with
 | zero=>
  intro s gs ok hgs hgo
  obtain⟨hl,hg,_,hb⟩:=hok s ok
  refine codeAny_builtin F.entry_all_loop ?_
  rw[Around.under_plainId F.plain_all_loop _]
  show wpAny _ A.in1 (pyNext (.ref a)>>=_) _ _ s
  refine wpAny_bind (wpAny_pyNext_genexpQ (A:=A.in1) (P:=λ _ _ s₁=>Fin true s₁) hh hl hroom hg hgs hgo (λ v s₁ gs' hbr hv=>?_) (λ s₁ hp h' hk=>?_))
  ·obtain⟨c,rfl,ok1,f0,f1⟩:=hv
   cases c with
   |true=>exact(f1 rfl s₁.gens ⟨(hok _ ok1).2.2.2,Nat.le_refl _⟩).elim
   |false=>
    refine wpAny_bind (wpAny_holding (wpAny_truthy_bool (wpAny_bind (wpAny_letGo ?_))))
    simp only[Bool.false_eq_true,if_false]
    exact wpAny_bind (wpAny_rule (wpAny_pure ⟨false,rfl,hfin false s₁ s₁.heap _ (f0 rfl) (iK (hok _ ok1).2.2.2 hbr) λ _ _ e=>e⟩))
  ·exact wpAny_bind (wpAny_rule (wpAny_pure ⟨true,rfl,hfin true s₁ h' _ hp (iK (hfo _ _ hp) rfl) hk⟩))
 | succ n ih=>
  intro s gs ok hgs hgo
  obtain⟨hl,hg,_,hb⟩:=hok s ok
  refine codeAny_builtin F.entry_all_loop ?_
  rw[Around.under_plainId F.plain_all_loop _]
  show wpAny _ A.in1 (pyNext (.ref a)>>=_) _ _ s
  refine wpAny_bind (wpAny_pyNext_genexpQ (A:=A.in1) (P:=λ _ _ s₁=>Fin true s₁) hh hl hroom hg hgs hgo (λ v s₁ gs' hbr hv=>?_) (λ s₁ hp h' hk=>?_))
  ·obtain⟨c,rfl,ok1,f0,f1⟩:=hv
   cases c with
   | true=>
    refine wpAny_bind (wpAny_holding (wpAny_truthy_bool (wpAny_bind (wpAny_letGo ?_))))
    simp only[if_true]
    have g1:eK s₁.gens (s₁.gens.setIfInBounds gi gs'):=iK (hok _ ok1).2.2.2 hbr
    have g2:(s₁.gens.setIfInBounds gi gs')[gi]? =some gs':=by
     have:=(hok _ ok1).2.2.1
     simp[this]
    refine wpAny_pure ⟨plainId_quiet F.plain_all_loop _,ih _ gs' (hokg s₁ _ ok1 g1) g2 ?_⟩
    exact f1 rfl _ (show eK s₁.gens ((s₁.gens.setIfInBounds gi gs').setIfInBounds gi .running)from⟨(iK g1.1 rfl).1,Nat.le_trans g1.2 (iK g1.1 rfl).2⟩)
   |false=>
    refine wpAny_bind (wpAny_holding (wpAny_truthy_bool (wpAny_bind (wpAny_letGo ?_))))
    simp only[Bool.false_eq_true,if_false]
    exact wpAny_bind (wpAny_rule (wpAny_pure ⟨false,rfl,hfin false s₁ s₁.heap _ (f0 rfl) (iK (hok _ ok1).2.2.2 hbr) λ _ _ e=>e⟩))
  ·exact wpAny_bind (wpAny_rule (wpAny_pure ⟨true,rfl,hfin true s₁ h' _ hp (iK (hfo _ _ hp) rfl) hk⟩))
end
noncomputable def jF(mg:Str->Option Value)(base:Heap):Prop:=∃bm ob,mg "__builtins__" =some (.ref bm)/\bm≠builtinsNs/\base.get? bm=some ob/\ob.cls= .type "module"/\ob.dict=some builtinsNs/\ob.data= .plain
section
variable{X:Cx}
noncomputable def Pz(J:It)(g:TG)(tt:TT)(te:TE)(σc:St)(Q:VK)(H1:Hp):Prop:=∃W:Nat->Nat->Hp->Prop,(∃m,W 0 m H1)/\∀i m H,W i m H->
 (J.stop i H/\Q (.bl true) H)\/
 (J.go i H/\∀x H',J.yld i H x H'->g x σc H' λ σ2 H2=>tt σ2 H2 λ b H3=>if b=true then te σ2 H3 λ v H4=>∃c,v= .bl c/\if c=true then∃m',m'<m/\W (i+1) m' H4 else Q (.bl false) H4 else∃m',m'<m/\W (i+1) m' H3)
noncomputable def Vs(P:Addr)(k:Nat)(js:List Nat)(wi:TI)(g:TG)(tt:TT)(te:TE):TE:=λ σ H Q=>wi σ H λ J H1=>(∃ps,mM H1 P ps)/\∀ps',mM (aM H1 P (.tbl ps')) P ps'->Pz J g tt te (cJ k js σ) Q (aM H1 P (.tbl ps'))
theorem GU{elt tg iter:Expr}{ifs:List Expr}{scope:Scope}{p pos gpos:Pos}{Nc:List Str}{kk k:Nat}{js:List Nat}{wi:TI}{g:TG}{tt:TT}{te:TE}{c P:Addr}(hr:dG kk X.A)(hc:X.calm=true)(hcode:X.env.code= .ref c)(hd:PySem.W.CodeHd X.base c P)(hbm:jF X.mg X.base)
  (hgl:Gl X "all") (hm:X.mg "all" =none) (S:xV X.env scope)
  (hjs:(Nc.drop k).map some=js.map (X.N[·]?)) (hfr:∀x∈Nc.drop k,scope.names.lookup x=some .free) (hk:k<=Nc.length) (hi:PI X tg iter wi)
  (hg:∀C code it s H ex,PG (dL X scope Nc C code (.GeneratorExp elt [⟨tg,iter,ifs,0⟩] scope gpos) it s H ex) tg g) (gk:jX k g) (ht:∀C code it s H ex,gG (dL X scope Nc C code (.GeneratorExp elt [⟨tg,iter,ifs,0⟩] scope gpos) it s H ex) ifs tt)
  (he:∀C code it s H ex,PE (dL X scope Nc C code (.GeneratorExp elt [⟨tg,iter,ifs,0⟩] scope gpos) it s H ex) elt te)
  (hs:∀x,genFold iter X.env x=pure x:=by intro _;rfl):
  PE X (.Call (.Name "all" p) [.GeneratorExp elt [⟨tg,iter,ifs,0⟩] scope gpos] [] pos) (Vs P k js wi g tt te):=by
 intro pins s σ H Q I h
 refine wpAny_Call_Name_kw (jR I hgl hm boot_all ?_ Qc Qc)
 refine PyProof.Rows.callWith_builtin1 (Q:=EP X pins σ Q) (Calls.spliced_cons (wpAny_GeneratorExp_make S.co (xG λ y hy e=>I.ok.has y.1 (S.free y hy e)) S.cell S.zero S.kind hr.depth ?_ hs)) rfl rfl
 refine aT (hi pins s σ H _ I h) λ v s1 h1=>aT h1 λ itv s2 h2=>?_
 obtain⟨it,fp,tn,J,H2,e,I2,T,st2,f2,⟨ps,tb⟩,rest⟩:=h2
 subst e
 refine⟨I2.nolimit,Lg I2 hcode hd tb λ code s3 more I3 tr g3 o3 z3 x3=>?_⟩
 obtain⟨bm,ob,b1,b2,b3,b4,b5,b6⟩:=hbm
 refine wpAny_builtinsFor (globals:=X.env.globals) (by rw[I3.ok.glob];exact I3.mod.glob.keeps I3.bk) b1 b2 (I3.bk _ _ b3) b4 b5 b6 ?_
 intro h4 hn4 hs4
 obtain⟨W,⟨m0,w0⟩,turn⟩:=rest (ps++more) ⟨dA,tr⟩
 have neP:∀b∈fp,b≠P:=λ b hb z=>by
  have:=(f2 b hb).1
  rw[z,tb.1]at this
  cases this
 have f3:∀b∈fp,eL X pins (aM H2 P (.tbl (ps++more))) b:=λ b hb=>⟨by rw[aY (neP b hb)];exact(f2 b hb).1,(f2 b hb).2⟩
 have st3:tn 0 s3.heap:=T.keep _ _ _ st2 λ b hb o e=>x3 b o (neP b hb) e
 have lt3:∀b∈fp,b<s3.heap.objs.size:=λ b hb=>by
  obtain⟨o,e,_⟩:=T.obj 0 _ st3 b hb
  exact Heap.lt_size e
 have keep4:∀b o,s3.heap.get? b=some o->h4.get? b=some o:=λ b o e=>hs4.extBut b o (Nat.ne_of_lt (Heap.lt_size e)) (Heap.get?_push_of_some _ e)
 have sz4:h4.objs.size=s3.heap.objs.size+1:=by rw[hs4.1,Heap.size_push]
 generalize eG:s3.gens.push (.fresh (.compStart (.GeneratorExp elt [⟨tg,iter,ifs,0⟩] scope gpos) 0 (.ref it) .none (genEnv scope (fP X.env scope.names) s3.heap.objs.size code builtinsNs X.env)))=gens5
 have gok5:eK s3.gens gens5:=by
  rw[<-eG]
  exact⟨I3.bare.1.push rfl,Qb⟩
 have I3':aE X pins σ (aM H2 P (.tbl (ps++more))) {s3 with gens:=gens5}:=I3.setGens gok5
 generalize eO:({cls:=.type "generator",data:=.fields #[.int s3.gens.size 0,.str "<genexpr>" (s3.toks+1),.str (X.env.qual++ "<genexpr>") (s3.toks+1+1)]}:Obj)=gobj
 have keep5:∀b o,h4.get? b=some o->(h4.push gobj).get? b=some o:=λ b o e=>Heap.get?_push_of_some _ e
 have I5:aE (dL X scope Nc s3.heap.objs.size code (.GeneratorExp elt [⟨tg,iter,ifs,0⟩] scope gpos) it {s3 with gens:=gens5} (aM H2 P (.tbl (ps++more))) fp) [] (cJ k js σ) (aM H2 P (.tbl (ps++more)))
   {s3 with gens:=gens5,toks:=s3.toks+1+1+1,heap:=h4.push gobj}:=
  Kr (s:={s3 with gens:=gens5}) (s4:={s3 with gens:=gens5,toks:=s3.toks+1+1+1,heap:=h4.push gobj}) I3' hc S hjs hfr hk f3 lt3 (Nat.le_refl _) (hn4.push _) (λ b o e=>keep5 b o (keep4 b o e)) rfl ⟨gok5.1,Nat.le_refl _⟩
 have aC:h4.objs.size≠s3.heap.objs.size:=by omega
 have aS:s3.heap.objs.size<=h4.objs.size:=by omega
 have aF:h4.objs.size∉cV X.stack:=λ z=>by
  rcases List.mem_cons.mp (I3.stkSub _ z)with z|z
  ·have l:=I3.lt
   rw[<-z]at l
   exact absurd (Nat.lt_of_lt_of_le l aS) (Nat.lt_irrefl _)
  ·exact I3.nofs aS z
 have aH:(aM H2 P (.tbl (ps++more))) h4.objs.size=none:=I3.hok.fresh aS
 have I6:aE (dL X scope Nc s3.heap.objs.size code (.GeneratorExp elt [⟨tg,iter,ifs,0⟩] scope gpos) it {s3 with gens:=gens5} (aM H2 P (.tbl (ps++more))) fp) [(h4.objs.size,gobj)] (cJ k js σ) (aM H2 P (.tbl (ps++more)))
   {s3 with gens:=gens5,toks:=s3.toks+1+1+1,heap:=h4.push gobj}:=I5.pins_of λ q hq=>by
  have e:q=(h4.objs.size,gobj):=by simpa using hq
  subst e
  refine⟨Heap.get?_push_size _ (by rw[<-eO];rfl),aH,aC,aF,λ v z=>?_⟩
  rw[<-eO]at z
  cases z
 have afp:∀b∈fp,h4.objs.size≠b:=λ b hb z=>by have:=lt3 b hb;rw[<-z]at this;exact absurd (Nat.lt_of_lt_of_le this aS) (Nat.lt_irrefl _)
 have frz:∀y∈scope.names,y.2= .free->∃c,X.env.cells.lookup y.1=some c:=λ y hy e=>I2.ok.has y.1 (S.free y hy e)
 have fpok:∀H':Hp,(∀b∈fp,H' b=none)->∀b∈fp,eL (dL X scope Nc s3.heap.objs.size code (.GeneratorExp elt [⟨tg,iter,ifs,0⟩] scope gpos) it {s3 with gens:=gens5} (aM H2 P (.tbl (ps++more))) fp) [(h4.objs.size,gobj)] H' b:=λ H' hn b hb=>by
  refine⟨hn b hb,Nat.ne_of_lt (lt3 b hb),λ z=>?_,.inl hb,λ x c e=>(f2 b hb).2.2.2.2.1 x c (fX frz e),λ q hq=>?_⟩
  ·rcases List.mem_cons.mp (I2.stkSub b z)with z|z
   ·exact(f2 b hb).2.1 z
   ·exact(f2 b hb).2.2.1 z
  ·have e:q=(h4.objs.size,gobj):=by simpa using hq
   subst e
   exact afp b hb
 have lenS:k<=(cJ k js σ).length:=by rw[sO];omega
 have own:∀(j:Nat) (v:V),(cJ k js σ)[j]? =some (some v)->k<=j:=λ j v e=>by
  obtain⟨t,j',rfl,_⟩:=sN e
  omega
 have seg:=AJ (Xg:=dL X scope Nc s3.heap.objs.size code (.GeneratorExp elt [⟨tg,iter,ifs,0⟩] scope gpos) it {s3 with gens:=gens5} (aM H2 P (.tbl (ps++more))) fp) (A:=X.A.in1.in1) rfl rfl S.co rfl (hg _ _ _ _ _ _) gk (ht _ _ _ _ _ _) (he _ _ _ _ _ _) T lenS own fpok W (λ c H'=>Q (.bl c) H') turn
 have hh:X.A.handled=none:=I.ok.hd hc
 refine Calls.spliced_nil (call_function_tree F.kind_all F.plain_all F.entry_all (F.args_all1 _) ?_)
 unfold Builtin.«all»
 refine wpAny_bind (m:=oneArg "all" _) (wpAny_pure ?_)
 have hIsGen:(h4.push gobj).IsGen h4.objs.size s3.gens.size:=⟨gobj,_,_,Heap.get?_push_size _ (by rw[<-eO];rfl),by rw[<-eO],by rw[<-eO],by rw[<-eO]⟩
 refine wpAny_bind (wpAny_pyIter_gen hIsGen ?_)
 refine wpAny_pure ⟨plainId_quiet F.plain_all_loop _,?_⟩
 have g5lt:s3.gens.size<gens5.size:=by rw[<-eG];simp
 refine codeAny_mono (i7 (gi:=s3.gens.size) (Ok:=λ s'=>∃H',aE (dL X scope Nc s3.heap.objs.size code (.GeneratorExp elt [⟨tg,iter,ifs,0⟩] scope gpos) it {s3 with gens:=gens5} (aM H2 P (.tbl (ps++more))) fp) [(h4.objs.size,gobj)] (cJ k js σ) H' s')
  (Fin:=λ c s'=>∃H',aE (dL X scope Nc s3.heap.objs.size code (.GeneratorExp elt [⟨tg,iter,ifs,0⟩] scope gpos) it {s3 with gens:=gens5} (aM H2 P (.tbl (ps++more))) fp) [(h4.objs.size,gobj)] (cJ k js σ) H' s'/\Q (.bl c) H') hh hr.depth ?_ ?_ ?_ ?_ (m0+1) _
   (.fresh (.compStart (.GeneratorExp elt [⟨tg,iter,ifs,0⟩] scope gpos) 0 (.ref it) .none (genEnv scope (fP X.env scope.names) s3.heap.objs.size code builtinsNs X.env))) ⟨_,I6⟩ ?_ ⟨rfl,?_⟩) ?_
 ·rintro s' ⟨H',I'⟩
  obtain⟨p1,_⟩:=I'.pin (h4.objs.size,gobj) Qb
  exact⟨I'.nolimit,⟨gobj,_,_,p1,by rw[<-eO],by rw[<-eO],by rw[<-eO]⟩,Nat.lt_of_lt_of_le g5lt I'.bare.2,I'.bare.1⟩
 ·rintro s' gq ⟨H',I'⟩ hq
  exact⟨H',I'.setGens hq⟩
 ·rintro c' s' h' gq ⟨H',I',q'⟩ hq hk'
  exact⟨H',(I'.kept (t':=s'.toks) hk').setGens hq,q'⟩
 ·rintro c' s' ⟨H',I',_⟩
  exact I'.bare.1
 ·rw[<-eG]
  exact Array.getElem?_push_size ..
 ·
  have gset:eK gens5 (gens5.setIfInBounds s3.gens.size .running):=iK gok5.1 rfl
  have I7:=I6.setGens (g':=gens5.setIfInBounds s3.gens.size .running) gset
  have loop:=seg m0 (m0+1) (Nat.lt_succ_self _) 0 (aM H2 P (.tbl (ps++more))) _ ({s3 with gens:=gens5,toks:=s3.toks+1+1+1,heap:=h4.push gobj}.setGen s3.gens.size .running) w0 I7 (T.keep _ _ _ st3 λ b _ o e=>keep5 b o (keep4 b o e)) λ b hb=>(f3 b hb).1
  show Seg _ X.A.in1.in1 _ _ _ _ _ ((compStart (.GeneratorExp elt [⟨tg,iter,ifs,0⟩] scope gpos) 0 (.ref it) .none (genEnv scope (fP X.env scope.names) s3.heap.objs.size code builtinsNs X.env)).onRaise (leaving _)) [] _
  unfold compStart
  rw[Sem.onRaise_eq_wrap]
  show Seg _ X.A.in1.in1 _ _ _ _ _ ((ask>>=_).wrap _ _ _ _) [] _
  refine seg_bind_wrap (wpAny_askSetting ?_)
  have self:∀(A':Around) (Q':Qd) (E':Qd) (s':Shared),tn 0 s'.heap->Q' (.ref it) s'->wpAny (model X.prog X.w) A' (pyIter (.ref it)) Q' E' s':=λ A' Q' E' s' st q=>T.self A' 0 s' Q' E' st q
  split
  ·exact seg_again rfl loop
  ·first
    |exact seg_bind_wrap (wpAny_rule (seg_bind_wrap (wpAny_standAt (seg_bind_wrap (self _ _ _ _ (T.keep _ _ _ st3 λ b _ o e=>keep5 b o (keep4 b o e)) (seg_again rfl loop))))))
    |(refine seg_bind_wrap (wpAny_rule ?_);show Seg _ X.A.in1.in1 _ _ _ _ _ ((standAt iter.pos>>=_).wrap _ _ _ _) [] _;exact seg_bind_wrap (wpAny_standAt (seg_bind_wrap (self _ _ _ _ (T.keep _ _ _ st3 λ b _ o e=>keep5 b o (keep4 b o e)) (seg_again rfl loop)))))
 ·rintro r s' ⟨c',rfl,H',I',q'⟩
  have hu:Un (cV X.stack) fp (aM H2 P (.tbl (ps++more))) H' s3.heap s'.heap:=I'.base
  exact⟨.bl c',H',I3'.call' I'.os hu I'.hok I'.bare λ b hb=>⟨(f3 b hb).2.2.2.1,(f3 b hb).2.1,(f3 b hb).2.2.2.2.1,(f3 b hb).2.2.2.2.2⟩,rfl,q'⟩
end
mutual
noncomputable def dO(ex:List Addr)(H:Hp):PyData->V->Prop
 |.none,v=>v= .non
 |.bool b,v=>v= .bl b
 |.int i,v=>v= .int i
 |.str x,v=>v= .str x
 |.tuple ds,v=>∃a vs,v= .ref a/\a∉ex/\H a=some (.tup vs)/\dY ex H ds vs
 |.list ds,v=>∃a vs,v= .ref a/\a∉ex/\H a=some (.lst vs)/\dY ex H ds vs
 |.dict _,_=>False
noncomputable def dY(ex:List Addr)(H:Hp):List PyData->List V->Prop
 |[],vs=>vs=[]
 |d::ds,vs=>∃v r,vs=v::r/\dO ex H d v/\dY ex H ds r
end
structure dI(ex:List Addr)(H H':Hp):Prop where
 old:∀b o,b∉ex->H b=some o->(∀ps,o≠ .tbl ps)->H' b=some o
 tab:∀b ps,b∉ex->H b=some (.tbl ps)->∃ps',H' b=some (.tbl ps')/\(TriplesOk ps.toList->TriplesOk ps'.toList)
theorem dI.refl{ex:List Addr}{H:Hp}:dI ex H H:=⟨λ _ _ _ h _=>h,λ _ ps _ h=>⟨ps,h,id⟩⟩
theorem dI.free{ex:List Addr}{H H':Hp}(a:dI ex H H'){l:Addr}(hx:l∉ex)(h:H' l=none):H l=none:=by
 cases q:H l with
 |none=>rfl
 | some o=>
  cases o with
  |tbl ps=>
   obtain⟨p',h',_⟩:=a.tab l ps hx q
   rw[h]at h';cases h'
  |_=>rw[a.old l _ hx q (by intro ps z;cases z)]at h;cases h
theorem dI.new{ex:List Addr}{H:Hp}{p:Addr}(h:H p=none)(o:HO):dI ex H (aM H p o):=
 ⟨λ b u _ q _=>by rw[aY (fM q h)];exact q,λ b ps _ q=>⟨ps,by rw[aY (fM q h)];exact q,id⟩⟩
theorem dI.put{ex:List Addr}{H:Hp}{p:Addr}(h:p∈ex)(o:HO):dI ex H (aM H p o):=
 ⟨λ b u hb q _=>by rw[aY (λ z:b=p=>hb (z▸h))];exact q,λ b ps hb q=>⟨ps,by rw[aY (λ z:b=p=>hb (z▸h))];exact q,id⟩⟩
theorem dI.tbl{ex:List Addr}{H:Hp}{p:Addr}{ps ps':Array Value}(h:H p=some (.tbl ps))(t:TriplesOk ps'.toList):dI ex H (aM H p (.tbl ps')):=by
 refine⟨λ b u _ q n=>?_,λ b qs _ q=>?_⟩
 ·rw[aY]
  ·exact q
  ·rintro rfl
   rw[h]at q
   exact n ps (Option.some.inj q).symm
 ·by_cases hb:b=p
  ·subst hb
   exact⟨ps',dA,λ _=>t⟩
  ·exact⟨qs,by rw[aY hb];exact q,id⟩
theorem dI.lst{ex:List Addr}{H H':Hp}(a:dI ex H H'){p:Addr}{xs:List V}(hp:p∉ex)(h:H p=some (.lst xs)):H' p=some (.lst xs):=a.old p _ hp h (by intro ps z;cases z)
theorem dI.tup{ex:List Addr}{H H':Hp}(a:dI ex H H'){p:Addr}{xs:List V}(hp:p∉ex)(h:H p=some (.tup xs)):H' p=some (.tup xs):=a.old p _ hp h (by intro ps z;cases z)
noncomputable def Tb(ts:List Addr)(H:Hp):Prop:=∀P∈ts,∃ps,mM H P ps
theorem dI.tb{ex ts:List Addr}{H H':Hp}(a:dI ex H H')(h:Tb ts H)(hx:∀P∈ts,P∉ex):Tb ts H':=λ P hP=>by
 obtain⟨ps,h1,h2⟩:=h P hP
 obtain⟨ps',q1,q2⟩:=a.tab P ps (hx P hP) h1
 exact⟨ps',q1,q2 h2⟩
mutual
theorem dO.ext{ex:List Addr}{H H':Hp}(e:dI ex H H'):∀{d:PyData} {v:V},dO ex H d v->dO ex H' d v
 |.none,_,h=>h
 |.bool _,_,h=>h
 |.int _,_,h=>h
 |.str _,_,h=>h
 |.tuple ds,v,h=>by
  obtain⟨a,vs,h1,h2,h3,h4⟩:=h
  exact⟨a,vs,h1,h2,e.tup h2 h3,dY.ext e h4⟩
 |.list ds,v,h=>by
  obtain⟨a,vs,h1,h2,h3,h4⟩:=h
  exact⟨a,vs,h1,h2,e.lst h2 h3,dY.ext e h4⟩
 |.dict _,_,h=>h.elim
theorem dY.ext{ex:List Addr}{H H':Hp}(e:dI ex H H'):∀{ds:List PyData} {vs:List V},dY ex H ds vs->dY ex H' ds vs
 |[],_,h=>h
 |d::ds,vs,h=>by
  obtain⟨v,r,h1,h2,h3⟩:=h
  exact⟨v,r,h1,dO.ext e h2,dY.ext e h3⟩
end
theorem dY.length{ex:List Addr}{H:Hp}:∀{ds:List PyData} {vs:List V},dY ex H ds vs->vs.length=ds.length
 |[],_,h=>by cases h;rfl
 |d::ds,vs,h=>by
  obtain⟨v,r,rfl,h2,h3⟩:=h
  simp[dY.length h3]
section
variable{X:Cx}{pins:List (Addr×Obj)}{σ:St}{H:Hp}{s:Shared}{ex:List Addr}
mutual
theorem dO.reads(I:aE X pins σ H s):∀{d:PyData} {v:V} {u:Value},dO ex H d v->bM v u->∃as,Reads s.heap u d as
 |.none,_,_,h,r=>by cases h;cases r;exact⟨_,.none⟩
 |.bool b,_,_,h,r=>by cases h;cases r;exact⟨_,.bool b⟩
 |.int i,_,_,h,r=>by cases h;obtain⟨t,rfl⟩:=r;exact⟨_,.int i t⟩
 |.str x,_,_,h,r=>by cases h;obtain⟨t,rfl⟩:=r;exact⟨_,.str x t⟩
 |.tuple ds,v,u,h,r=>by
  obtain⟨a,vs,rfl,_,h3,h4⟩:=h
  cases r
  obtain⟨_,its,rv,⟨ob,e1,e2,n,e3⟩,_⟩:vs.length<=sizeLine/\∃its:List Value,aW vs its/\IsTup s.heap a its.toArray/\∃o,s.heap.get? a=some o/\o.dict=none:=I.hok a _ h3
  obtain⟨as,q⟩:=dY.reads I h4 rv
  exact⟨as,reads_tuple_at e1 e2 e3 (by simpa using q)⟩
 |.list ds,v,u,h,r=>by
  obtain⟨a,vs,rfl,_,h3,h4⟩:=h
  cases r
  obtain⟨_,its,n,rv,e1⟩:vs.length<=sizeLine/\∃(its:List Value) (n:Nat),aW vs its/\s.heap.get? a=some {cls:=.type "list",data:=.seq its.toArray n}:=I.hok a _ h3
  obtain⟨as,q⟩:=dY.reads I h4 rv
  exact⟨_,reads_list_at e1 rfl rfl (by simpa using q)⟩
 |.dict _,_,_,h,_=>h.elim
theorem dY.reads(I:aE X pins σ H s):∀{ds:List PyData} {vs:List V} {us:List Value},dY ex H ds vs->aW vs us->∃as,ReadsAll s.heap us ds as
 |[],_,_,h,r=>by cases h;cases r;exact⟨_,.nil⟩
 | d::ds,vs,us,h,r=>by
  obtain⟨v,rs,rfl,h2,h3⟩:=h
  cases r with
  |cons r1 r2=>
   obtain⟨as,q1⟩:=dO.reads I h2 r1
   obtain⟨bs,q2⟩:=dY.reads I h3 r2
   exact⟨_,.cons q1 q2⟩
end
end
section
variable{X:Cx}
open SeqAt (shaped)
noncomputable def BL:R2:=λ x y H Q=>∃dx dy,dO [] H dx x/\dO [] H dy y/\shaped dx=true/\shaped dy=true/\Q (.bl (PyData.eqv dx dy)) H
noncomputable def BI:R2:=λ x y H Q=>∃dx dy,dO [] H dx x/\dO [] H dy y/\shaped dx=true/\shaped dy=true/\Q (.bl (!PyData.eqv dx dy)) H
theorem HU(hu:X.A.units+64<cLine):bZ X (compareOp .Eq) BL:=by
 intro pins s σ H x y v u Q I rx ry h
 obtain⟨dx,dy,h1,h2,s1,s2,q⟩:=h
 obtain⟨as,r1⟩:=h1.reads I rx
 obtain⟨bs,r2⟩:=h2.reads I ry
 exact eq_dataH r1 r2 s1 s2 hu ⟨.bl _,H,I,rfl,q⟩
theorem HF(hu:X.A.units+64<cLine):bZ X (compareOp .NotEq) BI:=by
 intro pins s σ H x y v u Q I rx ry h
 obtain⟨dx,dy,h1,h2,s1,s2,q⟩:=h
 obtain⟨as,r1⟩:=h1.reads I rx
 obtain⟨bs,r2⟩:=h2.reads I ry
 exact ne_dataH r1 r2 s1 s2 hu ⟨.bl _,H,I,rfl,q⟩
theorem HM:bZ X (compareOp .IsNot) (λ x y H Q=>∃b c,x= .bl b/\y= .bl c/\Q (.bl (b !=c)) H):=by
 intro pins s σ H x y v u Q I rx ry h
 obtain⟨b,c,rfl,rfl,q⟩:=h
 cases rx
 cases ry
 exact isnot_bool ⟨.bl _,H,I,rfl,q⟩
noncomputable def BK(K:PySem.W.Frag):List V->Hp->VK->Prop:=λ vs H Q=>∃x T t b,vs=[x,.ty T]/\gQ K H x t/\PySem.W.kitOne K t (.type T)=some b/\Q (.bl b) H
theorem TK:eW X (.builtin "isinstance") (BK X.K):=by
 intro pins s σ H xs us Q I r h
 obtain⟨x,T,t,b,rfl,ty,e,q⟩:=h
 obtain⟨u1,u2,rfl,r1,r2⟩:=r.two
 cases r2
 exact MI I r1 ty e λ tk=>⟨.bl b,H,I.tok tk,rfl,q⟩
noncomputable def BD:V->Option Int->Option Int->Hp->VK->Prop:=λ x lo hi H Q=>∃z,x= .str z/\z.length<=sizeLine/\Q (.str (Txt.slice z lo hi)) H
theorem Xt:sZ X BD:=by
 intro pins s σ H x v vl vu lo hi sl Q I rx hs pl pu h
 obtain⟨z,rfl,hz,q⟩:=h
 obtain⟨t,rfl⟩:=rx
 have fin:∀t' k,EP X pins σ Q (.str (Txt.slice z lo hi) t') {s with toks:=k}:=λ t' k=>⟨.str _,H,I.tok k,⟨_,rfl⟩,q⟩
 cases pl with
 |none=>
  cases pu with
  |none=>exact⟨"str",_,F.slot_str_getitem.lookup,typeIs_str _ _ _,wpAny_getItem_str_slice (l:=none) (u:=none) (st:=none) hs rfl (post_val_or_str ⟨Nat.le_trans (Txt.slice_le z _ _) hz,fin⟩)⟩
  |int j t'=>exact⟨"str",_,F.slot_str_getitem.lookup,typeIs_str _ _ _,wpAny_getItem_str_slice (l:=none) (u:=some (j,t')) (st:=none) hs rfl (post_val_or_str ⟨Nat.le_trans (Txt.slice_le z _ _) hz,fin⟩)⟩
 |int i t''=>
  cases pu with
  |none=>exact⟨"str",_,F.slot_str_getitem.lookup,typeIs_str _ _ _,wpAny_getItem_str_slice (l:=some (i,t'')) (u:=none) (st:=none) hs rfl (post_val_or_str ⟨Nat.le_trans (Txt.slice_le z _ _) hz,fin⟩)⟩
  |int j t'=>exact⟨"str",_,F.slot_str_getitem.lookup,typeIs_str _ _ _,wpAny_getItem_str_slice (l:=some (i,t'')) (u:=some (j,t')) (st:=none) hs rfl (post_val_or_str ⟨Nat.le_trans (Txt.slice_le z _ _) hz,fin⟩)⟩
theorem strs_of:∀{ys:List Str} {us:List Value},aW (ys.map V.str) us->StrsAre us ys
 |[],_,.nil=>.nil
 |y::ys,_,.cons ⟨t,e⟩ r=>by subst e;exact .cons y t (strs_of r)
noncomputable def BJ(K:PySem.W.Frag):V->List V->Hp->VK->Prop:=λ x vs H Q=>∃z a ys,x= .str z/\vs=[.ref a]/\bA K H a (ys.map V.str)/\(ys.map (·.length)).sum+ys.length*z.length<=16777216/\Q (.str (Txt.join z ys)) H
theorem KD:hZ X "str.join" (BJ X.K):=by
 intro pins s σ H x vs v us Q I rx rv h
 obtain⟨z,a,ys,rfl,rfl,hq,hl,q⟩:=h
 obtain⟨t,rfl⟩:=rx
 obtain⟨u,rfl,ru⟩:=rv.one
 cases ru
 obtain⟨its,r,pl,_⟩:=I.list hq
 exact join_list pl.isList (by simpa using strs_of r) hl λ t' k=>⟨.str _,H,I.tok k,⟨_,rfl⟩,q⟩
end
noncomputable def Dc(tabs:List Addr)(H:Hp):Prop:=(∀b,H b=none\/(∃o xs,H b=some (.frz o (.lst xs)))\/(b∈tabs/\H b=some (.tbl #[])))/\∀b∈tabs,H b=some (.tbl #[])
theorem LM{P:Program}{w:World}{K:PySem.W.Frag}{mg mb:Str->Option Value}{CX:iU}{k:Nat}{fa a:Addr}{fd:FuncData}{x:Str}{sp:Sp}{s₁:Shared}{vs:List Value}{ns:List Int}{tabs:List Addr}
  (KX:K.In s₁.heap) (hns:s₁.heap.Ns mainGlobals mg) (hb:s₁.heap.Ns builtinsNs mb) (hbb:∀x:Str,x≠ "__name__"->mb x=bootBuiltins x) (hlim:s₁.heap.NoLimit) (hg:s₁.gens= #[]) (hbm:jF mg s₁.heap)
  (htab:∀p∈tabs,s₁.heap.get? p=some (PySem.W.tabObj #[])/\isCodeTable s₁.heap p/\K.lookup p=none)
  (ha:s₁.heap.get? a=some {cls:=.type "list",data:=.seq vs.toArray}) (hi:IntsAre vs ns) (hl:ns.length<=sizeLine) (hr:dG k callerA)
  (F:∀base:Heap,K.In base->base.Ns mainGlobals mg->jF mg base->fQ P w K mg base CX k fa fd [x] sp) (hbind:∀(s:Shared) (u:Value),BindsTo s fd ⟨[u],[]⟩ [(x,u)])
  (hsp:∀H:Hp,Dc tabs H->bA K H a (ns.map V.int)->sp [.ref a] H (λ v _=>v= .bl true) λ _ _ _=>False)
  (hCX:∀H e s',CX [] H s₁ (λ _ _ _=>False) e s'->False):
  codeAny (model P w) callerA (.call (.ref fa) ⟨[.ref a],[]⟩) (λ r s'=>r= .ok (.ret (.bool true))/\OldK s₁.heap s'.heap/\s'.os=s₁.os/\AllBare s'.gens) s₁:=by
 have rv:=Eg hi
 have lenV:=hi.length
 have anT:a∉tabs:=λ z=>by
  have e:=(htab a z).1
  rw[ha]at e
  cases e
 have core:∀H:Hp,Dc tabs H->bA K H a (ns.map V.int)->cU P w H s₁.heap->(∀b,H b≠none->b=a\/b∈tabs)->(H a≠none->K.lookup a=none)->
   codeAny (model P w) callerA (.call (.ref fa) ⟨[.ref a],[]⟩) (λ r s'=>r= .ok (.ret (.bool true))/\OldK s₁.heap s'.heap/\s'.os=s₁.os/\AllBare s'.gens) s₁:=by
  intro H hO hS hok hA hK
  have base_of:∀{b:Addr} {o:Obj},s₁.heap.get? b=some o->H b=none->(jS s₁.heap H).get? b=some o:=λ e n=>NI e n
  have noT:∀{b:Addr} {o:Obj},s₁.heap.get? b=some o->(∀(vs:Array Value) n,o.data≠ .seq vs n)->(∀vs:Array Value,o.data≠ .fields vs)->H b=none:=fun{b o} e d1 d2=>by
   cases q:H b with
   |none=>rfl
   | some u=>
    rcases hA b (by rw[q];simp)with e'|e'
    ·subst e'
     rw[ha]at e;cases e
     exact absurd rfl (d1 _ _)
    ·rw[(htab b e').1]at e;cases e
     exact absurd rfl (d2 _)
  have nsK:∀{b:Addr} {m:Str->Option Value},s₁.heap.Ns b m->(jS s₁.heap H).Ns b m:=fun{b m} ⟨o,es,ep,e,d,r⟩=>⟨o,es,ep,base_of e (noT e (by intro _ _ z;rw[d]at z;cases z) (by intro _ z;rw[d]at z;cases z)),d,r⟩
  have hKb:K.In (jS s₁.heap H):=λ b o e=>base_of (KX b o e) (by
   cases q:H b with
   |none=>rfl
   | some u=>
    rcases hA b (by rw[q];simp)with e'|e'
    ·subst e'
     rw[hK (by rw[q];simp)]at e;cases e
    ·rw[(htab b e').2.2]at e;cases e)
  have hM:Mod K mg (jS s₁.heap H):=⟨hKb,nsK hns,⟨mb,nsK hb,hbb⟩,let⟨mc,h1,h2⟩:=hlim;⟨mc,nsK h1,h2⟩⟩
  have hB:jF mg (jS s₁.heap H):=by
   obtain⟨bm,ob,b1,b2,b3,b4,b5,b6⟩:=hbm
   exact⟨bm,ob,b1,b2,base_of b3 (noT b3 (by intro _ _ z;rw[b6]at z;cases z) (by intro _ z;rw[b6]at z;cases z)),b4,b5,b6⟩
  have e0:xY P w K mg (jS s₁.heap H) callerA [] s₁ H:=⟨rfl,hM,λ b o e=>IE e,Nat.le_of_eq (NH _ _),trivial,λ b hb=>absurd (show b∈([]:List Addr)from hb) Qb,hok,.of_eq hg⟩
  refine codeAny_mono ((F _ hKb (nsK hns) hB).run callerA [] s₁ H ⟨[.ref a],[]⟩ [.ref a] [.ref a] _ _ hr e0 (hbind s₁ (.ref a)) (.cons rfl .nil) (hsp H hO hS)) λ r s' h=>?_
  cases r with
  |error e=>exact(hCX H e s' h).elim
  | ok fl=>
   cases fl with
   |next=>exact False.elim h
   |brk=>exact False.elim h
   |cont=>exact False.elim h
   | ret u=>
    obtain⟨v,H',os,bare,un,hok',r',q⟩:=h
    have q':v= .bl true:=q
    subst q'
    obtain rfl:u=Value.bool true:=r'
    have no:∀b:Addr,b∉cV []:=λ b z=>absurd (show b∈([]:List Addr)from z) Qb
    refine⟨rfl,⟨λ b o e=>?_,λ b o e=>un.there b o e Qb⟩,os,bare.1⟩
    rcases hO.1 b with z|⟨ob,xs,z⟩|⟨zt,z⟩
    ·exact .inl (un.keep b o e z (no b) Qb)
    ·have z2:=un.frzs b ob _ z
     obtain⟨e1,_⟩:=hok b _ z
     obtain⟨e2,_⟩:=hok' b _ z2
     rw[e]at e1;cases e1
     exact .inl e2
    ·obtain⟨more,z2⟩:=un.tbls b _ z
     have e2:s'.heap.get? b=some {cls:=.none,data:=.fields (#[]++more)}:=hok' b _ z2
     have e1:=(htab b zt).1
     rw[e]at e1;cases e1
     exact .inr (.inl ⟨(htab b zt).2.1,rfl,#[],more,rfl,e2⟩)
 have tabOk:∀b∈tabs,s₁.heap.get? b=some {cls:=.none,data:=.fields #[]}:=λ b hb=>(htab b hb).1
 cases hk:K.lookup a with
 | some o=>
  have e:=KX a o hk
  rw[ha]at e
  cases e
  refine core (λ b=>if b∈tabs then some (.tbl #[])else none) ⟨λ b=>?_,λ b hb=>if_pos hb⟩ (.inr ⟨_,vs.toArray,_,hk,rfl,rfl,rfl,by rw[List.size_toArray,lenV];exact hl,by simpa using rv⟩) (λ b u z=>?_) (λ b z=>?_) (λ z=>absurd (if_neg anT) z)
  ·by_cases hb:b∈tabs
   ·exact .inr (.inr ⟨hb,if_pos hb⟩)
   ·exact .inl (if_neg hb)
  ·by_cases hb:b∈tabs
   ·have z':=(if_pos hb).symm.trans z
    cases z'
    exact tabOk b hb
   ·have z':=(if_neg hb).symm.trans z
    cases z'
  ·by_cases hb:b∈tabs
   ·exact .inr hb
   ·exact absurd (if_neg hb) z
 | none=>
  refine core (λ b=>if b=a then some (.frz {cls:=.type "list",data:=.seq vs.toArray} (.lst (ns.map V.int)))else if b∈tabs then some (.tbl #[])else none) ⟨λ b=>?_,λ b hb=>?_⟩ (.inl (.inr ⟨{cls:=.type "list",data:=.seq vs.toArray},if_pos rfl⟩)) (λ b u z=>?_) (λ b z=>?_) λ _=>hk
  ·by_cases hb:b=a
   ·exact .inr (.inl ⟨_,_,if_pos hb⟩)
   ·by_cases hb':b∈tabs
    ·exact .inr (.inr ⟨hb',(if_neg hb).trans (if_pos hb')⟩)
    ·exact .inl ((if_neg hb).trans (if_neg hb'))
  ·have hne:b≠a:=λ z=>anT (z▸hb)
   exact(if_neg hne).trans (if_pos hb)
  ·by_cases hb:b=a
   ·have z':=(if_pos hb).symm.trans z
    cases z'
    subst hb
    exact⟨ha,by rw[List.length_map];exact hl,vs,_,rv,ha⟩
   ·have z1:(if b∈tabs then some (HO.tbl #[])else none)=some u:=(if_neg hb).symm.trans z
    by_cases hb':b∈tabs
    ·have z':=(if_pos hb').symm.trans z1
     cases z'
     exact tabOk b hb'
    ·have z':=(if_neg hb').symm.trans z1
     cases z'
  ·by_cases hb:b=a
   ·exact .inl hb
   ·by_cases hb':b∈tabs
    ·exact .inr hb'
    ·exact absurd ((if_neg hb).trans (if_neg hb')) z
noncomputable def mX(K:PySem.W.Frag)(gn:List Str):List Addr:=gn.filterMap λ x=>(PySem.W.tabIn K x).map (·.2)
theorem Se{l:PySem.W.OpenLaw}{n k:Nat}{q:Program}{loose:List Str}{XP:(Str->Option Value)->Heap->Prop}{YP:World->Heap->Prop}{d:DefRec}{K:Params->PySem.W.Frag}{CX:World->iU}{sp:World->Sp}{x:Str}(gn:List Str)
  (hn:l.most=some n) (hn2:n<=sizeLine) (hdf:d.params.defaults=[]) (hr:dG k callerA)
  (hY:∀(w:World) (h:Heap),YP w h->(K w.params).In h)
  (hgn:∀y∈gn,((recsOf q).find? (λ e=>e.name==y)).isSome=true)
  (hT:∀(w:World) (h:Heap),(K w.params).In h->∀y∈gn,∀c P,PySem.W.tabIn (K w.params) y=some (c,P)->(K w.params).lookup P=none)
  (F:∀(w:World) (mg:Str->Option Value) (fa:Addr) (h:Heap),(K w.params).In h->h.Ns mainGlobals mg->mg d.name=some (.ref fa)->
   ∃fd:FuncData,(∀(s:Shared) (u:Value),BindsTo s fd ⟨[u],[]⟩ [(x,u)])/\
    ∀base:Heap,(K w.params).In base->base.Ns mainGlobals mg->jF mg base->fQ l.prog w (K w.params) mg base (CX w) k fa fd [x] (sp w))
  (hsp:∀(w:World) (H:Hp) (a:Addr) (ns:List Int),ns.length<=n->Dc (mX (K w.params) gn) H->bA (K w.params) H a (ns.map V.int)->sp w [.ref a] H (λ v _=>v= .bl true) λ _ _ _=>False)
  (hCX:∀(w:World) (H:Hp) (s:Shared) (e:Value) (s':Shared),CX w [] H s (λ _ _ _=>False) e s'->False):
  PySem.W.WalkO q loose XP YP l.row.toRowW d [] (λ f vs=>PySem.call f vs):=by
 refine Att.attach_call hn hdf λ w s₀ s₁ mg mb fa o pm cd doc a vs ns G Y ho hd hcd hmg hobj hints hlen hg=>?_
 have KX:=hY w _ Y
 obtain⟨fd,hb,hF⟩:=F w mg fa _ KX G.T.g hmg
 refine LM (tabs:=mX (K w.params) gn) KX G.T.g G.T.b G.T.builtins G.T.nolimit hg G.T.bmain (λ p hp=>?_) hobj hints (Nat.le_trans hlen hn2) hr hF hb (λ H hO hS=>hsp w H a ns hlen hO hS) λ H e s'=>hCX w H s₁ e s'
 obtain⟨y,hy,e⟩:=List.mem_filterMap.mp hp
 cases et:PySem.W.tabIn (K w.params) y with
 |none=>rw[et]at e;cases e
 |some cP=>
  obtain⟨c,P⟩:=cP
  rw[et]at e
  have e':P=p:=Option.some.inj e
  subst e'
  obtain⟨d',hd'⟩:=Option.isSome_iff_exists.mp (hgn y hy)
  obtain⟨t1,t2⟩:=PySem.W.tab_of G.T KX hd' et
  exact⟨t2,(t1.tab t2).isCodeTable,hT w _ KX y hy c P et⟩
noncomputable def xR(z:Str):It:=⟨λ i _=>i<z.cps.size,λ i H x H'=>H'=H/\∃c,z.cps[i]? =some c/\x= .str ⟨#[c]⟩,λ i _=>i=z.cps.size⟩
theorem El{P:Program}{w:World}{K:PySem.W.Frag}{tg:Expr}(it:Addr)(z:Str)(t:Tok)(ty:String)
  (hty:["enumerate","zip","dict_itemiterator","dict_reverseitemiterator","odict_iterator","itertools.zip_longest","itertools.pairwise"].contains ty=false)
  (W:∀A:Around,A.handled=none->Walks P w A it [it] [it] z.cps.size (SignAt z) (λ i h=>h.IsStrIter it ty z t i))
  (self:∀(A:Around) (i:Nat) (s:Shared) (Q:Qd) (E:Qd),s.heap.IsStrIter it ty z t i->Q (.ref it) s->wpAny (model P w) A (pyIter (.ref it)) Q E s):
  iR P w K tg (xR z) [it] it (λ i h=>h.IsStrIter it ty z t i) where
 mem:=by simp
 obj:=λ i h st b hb=>by
  have e:b=it:=by simpa using hb
  subst e
  obtain⟨o,e,c,d⟩:=st
  exact⟨o,e,λ v z=>by rw[d]at z;cases z⟩
 keep:=λ i h h' st k=>let⟨o,ho,r⟩:=st;⟨o,k it Qb o ho,r⟩
 item:=by
  intro X hP hw hK hc i pins s σ H E I hf st hg
  subst hP hw hK
  obtain⟨f0,f1,f2,f3,f4,f5⟩:=hf it Qb
  refine(W X.A (I.ok.hd hc)).item i s _ _ hg st λ v h' tk hv st' kk=>?_
  obtain⟨c,u,hc',rfl⟩:=hv
  have I1:aE X pins σ H {s with heap:=h',toks:=tk}:=I.turned (λ b o hb e=>kk b o (by simpa using hb) e) f0 f1 f3 f4 f5
  obtain⟨o,e,oc,d⟩:=id st'
  exact⟨_,rfl,wP (s:={s with heap:=h',toks:=tk}) e oc d hty ⟨.str ⟨#[c]⟩,H,I1,⟨_,rfl⟩,⟨rfl,c,hc',rfl⟩,st',λ b hb=>(hf b hb).1⟩⟩
 done:=by
  intro X hP hw hK hc i pins s σ H E I hf st hg
  subst hP hw hK
  obtain⟨f0,f1,f2,f3,f4,f5⟩:=hf it Qb
  obtain rfl:i=z.cps.size:=hg
  exact(W X.A (I.ok.hd hc)).done s _ _ st λ h' tk kk=>⟨rfl,I.turned (λ b o hb e=>kk b o (by simpa using hb) e) f0 f1 f3 f4 f5⟩
 self:=λ A i s Q E st h=>self A i s Q E st h
section
variable{X:Cx}{tg:Expr}
noncomputable def NA(tl:TE):TI:=λ σ H R=>tl σ H λ x H1=>∃z,x= .str z/\R (xR z) H1
theorem ED{l:Expr}{tl:TE}(hl:PE X l tl):PI X tg l (NA tl):=by
 intro pins s σ H R I h
 refine aT (hl pins s σ H _ I h) λ v s1 ⟨x,H1,I1,r1,q1⟩=>?_
 obtain⟨z,e,q⟩:=q1
 subst e
 obtain⟨t,rfl⟩:=r1
 have fin:∀(ty:String) (T:iR X.prog X.w X.K tg (xR z) [s1.heap.objs.size] s1.heap.objs.size (λ i h=>h.IsStrIter s1.heap.objs.size ty z t i)),
   Db X pins σ tg R (.ref s1.heap.objs.size) {s1 with heap:=s1.heap.push {cls:=.type ty,data:=.fields #[.str z t,.int 0 0]}}:=λ ty T=>by
  refine⟨s1.heap.objs.size,[s1.heap.objs.size],_,_,H1,rfl,I1.kept (t':=s1.toks) λ b o e=>Heap.get?_push_of_some _ e,T,⟨_,Heap.get?_push_size _ rfl,rfl,rfl⟩,λ b hb=>?_,q⟩
  have e:b=s1.heap.objs.size:=by simpa using hb
  subst e
  exact I1.fpOk (Nat.le_refl _) (I1.hok.fresh (Nat.le_refl _))
 cases ha:z.cps.all (· <128)
 ·exact wpAny_pyIter_wide ha (fin _ (El _ z t _ Qc (λ A hA=>Walks.strWide hA _ z t) λ A i s Q E st h=>wpAny_pyIter_striter_wide st h))
 ·exact wpAny_pyIter_ascii ha (fin _ (El _ z t _ Qc (λ A hA=>Walks.strAscii hA _ z t) λ A i s Q E st h=>wpAny_pyIter_striter_ascii st h))
theorem XT{bs:List Bool}{its:List Value}(r:aW (bs.map V.bl) its){i:Nat}{v:Value}(h:its[i]? =some v):∃b,bs[i]? =some b/\v= .bool b:=by
 have hi:i<its.length:=(List.getElem?_eq_some_iff.mp h).1
 have hl:=r.length
 rw[List.length_map]at hl
 have hb:i<bs.length:=by omega
 obtain⟨u,hu,ru⟩:=r.get (i:=i) (x:=.bl bs[i]) (by simp[hb])
 rw[h]at hu
 cases hu
 exact⟨bs[i],by simp[hb],ru⟩
theorem i6(bs:List Bool):(List.range bs.length).all (λ i=>(bs[i]?).getD true)=bs.all id:=by
 rw[Bool.eq_iff_iff,List.all_eq_true,List.all_eq_true]
 constructor
 ·intro h b hb
  obtain⟨j,hj,rfl⟩:=List.getElem_of_mem hb
  simpa[List.getElem?_eq_getElem hj]using h j (List.mem_range.mpr hj)
 ·intro h j hj
  have hj':=List.mem_range.mp hj
  have:=h _ (List.getElem_mem hj')
  simpa[List.getElem?_eq_getElem hj']using this
theorem TN(hc:X.calm=true):eW X (.builtin "all") (λ xs H Q=>∃(a:Addr) (bs:List Bool),xs=[.ref a]/\bA X.K H a (bs.map V.bl)/\Q (.bl (bs.all id)) H):=by
 intro pins s σ H xs us Q I r h
 obtain⟨a,bs,rfl,hq,q⟩:=h
 obtain⟨u,rfl,ru⟩:=r.one
 cases ru
 obtain⟨its,rv,pl,hz⟩:=I.list hq
 have hl:=rv.length
 rw[List.length_map]at hl
 have hlt:a<s.heap.objs.size:=by obtain⟨_,e,_⟩:=pl.isList;exact Heap.lt_size e
 refine call_all_walk (wpAny_pyIter_list pl.isList ⟨s.heap.objs.size,[s.heap.objs.size,a],[s.heap.objs.size],its.toArray.size,_,_,λ i=>(bs[i]?).getD true,rfl,Walks.list (A:=X.A.in1) (show X.A.in1.handled=none from I.ok.hd hc) s.heap.objs.size a (Nat.ne_of_lt hlt) its.toArray,⟨⟨_,Heap.get?_push_size _ rfl,rfl,rfl⟩,pl.isList.push _⟩,?_,?_⟩)
 ·intro i v s' Q' E' hv hQ
  have hv':its[i]? =some v:=by simpa using hv
  obtain⟨b,hb,rfl⟩:=XT rv hv'
  have hQ':Q' ((bs[i]?).getD true) s':=hQ
  rw[hb]at hQ'
  exact wpAny_truthy_bool hQ'
 ·intro h' tk hk
  have e:its.toArray.size=bs.length:=by rw[List.size_toArray];omega
  rw[e,i6]
  refine⟨.bl _,H,I.kept λ b o e=>hk b o (λ z=>?_) (Heap.get?_push_of_some _ e),rfl,q⟩
  have z':b=s.heap.objs.size:=by simpa using z
  subst z'
  exact absurd (Heap.lt_size e) (Nat.lt_irrefl _)
end
structure oB(K:PySem.W.Frag)(x qual:Str)(st:Stmt)(f:Addr)(fd:FuncData)(c:Addr):Prop where
 ex:∃(oc:Value) (od:Option Addr) (kV doc pm:Value) (an:Option Addr) (ct:Value) (osl:Array (Option Value)),
  fd=PySem.W.fnOf x qual (mG st) (bO st) (aP st) .none kV doc pm an (.ref c) ct/\K.lookup f=some ⟨oc,od,.func fd,osl⟩/\PySem.W.codeIn K (.ref c) qual=true
 kp:PySem.W.keepIn K (.ref f)=true
section
variable{P:Program}{w:World}{K:PySem.W.Frag}{mg:Str->Option Value}{base:Heap}
theorem oB.fn{x qual:Str}{st:Stmt}{f:Addr}{fd:FuncData}{c:Addr}(F:oB K x qual st f fd c):jY K x qual st f fd:=by
 obtain⟨oc,od,kV,doc,pm,an,ct,osl,h⟩:=F.ex
 exact⟨⟨oc,od,kV,doc,pm,an,.ref c,ct,osl,h⟩,F.kp⟩
end
section
variable{X:Cx}{x:Str}{k j:Nat}{ps:List Str}{sp:Sp}{e:Expr}{es:List Expr}{p pos:Pos}{t:TA}
end
noncomputable def bT:Expr->Bool
 |.Starred _ _=>false
 |_=>true
theorem mZ:∀(e:Expr) (rest:List Expr) (env:Env),bT e=true->starEach (e::rest) env=(false,eval e env)::starEach rest env:=by
 intro e rest env h
 cases e<;>first|rfl|(cases h)
theorem qR{X:Cx}{e:Expr}{es:List Expr}{te:TE}{t:TA}(ha:PE X e te)(hr:PA X es t)(h:bT e=true:=by rfl):PA X (e::es) (Ex te t):=GX ha hr (mZ e es X.env h)
theorem XJ:bootBuiltins ("str" :Str)=some (.type "str"):=by decide+kernel
theorem Oo:bootBuiltins ("int" :Str)=some (.type "int"):=by decide+kernel
theorem XM:bootBuiltins ("bool" :Str)=some (.type "bool"):=by decide+kernel
theorem Ck:bootBuiltins ("tuple" :Str)=some (.type "tuple"):=by decide+kernel
theorem On:bootBuiltins ("list" :Str)=some (.type "list"):=by decide+kernel
theorem XO:bootBuiltins ("isinstance" :Str)=some (.builtin "isinstance"):=by decide+kernel
theorem XR:bootBuiltins ("min" :Str)=some (.builtin "min"):=by decide+kernel
theorem XS:bootBuiltins ("all" :Str)=some (.builtin "all"):=by decide+kernel
section
variable{X:Cx}
end
end L2
namespace L2
open PySem PySem.Spec PyProof.Rows HT
theorem Fu:1000<=sizeLine:=Nat.le_of_lt (Fm (Nat.le_refl _))
section
variable{X:Cx}{es:List Expr}{t:TA}{pos:Pos}
theorem SJ{prog:Program}{w:World}{A:Around}{E:Qd}{s:Shared}{t b:Addr}{ws:List Value}{Q:Qd}(ht:IsTup s.heap t #[])(hb:IsTup s.heap b ws.toArray)(h1:Q (.ref b) s):wpAny (model prog w) A (binaryOp .Add (.ref t) (.ref b)) Q E s:=by
 obtain⟨⟨cls,dd,data,sl⟩,ho,hc,n,hd⟩:=id ht
 obtain⟨⟨cls2,dd2,data2,sl2⟩,ho2,hc2,n2,hd2⟩:=id hb
 simp only at hc hd hc2 hd2
 subst hc hd hc2 hd2
 exact concat_meets ⟨_,ho,rfl⟩ ⟨_,ho2,rfl⟩ noFill_tuple_add seq_tuple_add PySem.F.slot_tuple_add PySem.F.entry_tuple_add (PySem.F.args_tuple_add_2 _ _)
  (tuple_addW0 t b #[] ws.toArray n n2 dd dd2 sl sl2 rfl) ⟨ho,ho2,h1⟩
theorem NX{prog:Program}{w:World}{A:Around}{E:Qd}{s:Shared}{t sl:Addr}{items:Array Value}{vl vu:Value}{lo hi:Option Int}{Q:Qd}(ht:IsTup s.heap t items)(hs:s.heap.IsSliceOf sl vl vu .none)(pl:IsPart vl lo)(pu:IsPart vu hi)
  (hw:sIx items.size 0 lo=0/\sIx items.size items.size hi=items.size) (h:Q (.ref t) s):wpAny (model prog w) A (getItem (.ref t) (.ref sl)) Q E s:=by
 obtain⟨os,hos,hcs,hds⟩:=id hs
 have hTs:s.TypeIs (.ref sl) "slice" :=⟨os,hos,hcs⟩
 unfold getItem
 try with_reducible refine wpAny_holding ?_
 first|refine wpAny_bind (wpAny_pure ?_)|skip
 refine wpAny_bind (wpAny_sequenceKey ht.typeIs Qc ?_)
 refine wpAny_bind (wpAny_callSpecial?_slot (name:=Str.ofString "__getitem__") ht.typeIs PyProof.Rows.slot_tuple_getitem
  (wpAny_call_entry PyProof.Rows.slot_tuple_getitem ht.typeIs entry_tuple_getitem ?_ (args_tuple_getitem _ _)))
 show wpAny _ _ (Builtin.Tuple.tupleItemsOf (.ref t)>>=_) _ _ s
 refine wpAny_bind (tupleItemsOf_ ht ?_)
 refine wpAny_bind (wpAny_typeOf hTs ?_)
 rw[if_pos Qc]
 refine wpAny_bind (Ft hs pl pu ?_)
 have hyes:(((sIx items.size 0 lo:Nat):Int)==0&&(1:Int)==1&&(sIx items.size items.size hi-sIx items.size 0 lo)==items.size)=true:=by
  rw[hw.1,hw.2]
  simp
 show wpAny _ _ (if(((sIx items.size 0 lo:Nat):Int)==0&&(1:Int)==1&&(sIx items.size items.size hi-sIx items.size 0 lo)==items.size)=true then _ else _) _ _ s
 rw[if_pos hyes]
 refine wpAny_bind (wpAny_bind (wpAny_typeOf ht.typeIs (wpAny_pure ?_)))
 rw[if_pos Qc]
 exact wpAny_bind (wpAny_rule (wpAny_pure ⟨_,rfl,wpAny_pure h⟩))
theorem gT.mono{r r':R2}(h:gT X r)(k:∀x y H Q,r' x y H Q->r x y H Q):gT X r':=by
 intro a1 a2 a3 a4 a5 a6 a7 a8 a9 a10 a11 a12 a13 a14 q
 exact h a1 a2 a3 a4 a5 a6 a7 a8 a9 a10 a11 a12 a13 a14 (k _ _ _ _ q)
end
end L2
namespace L2
open PySem PySem.Spec PyProof.Rows
noncomputable def pF:V->V->Option Bool
 |.int a,.int b=>some (decide (a<b))
 |.str a,.str b=>some (decide (a.cps.toList<b.cps.toList))
 |_,_=>none
noncomputable def iZ:List V->List V->Option Bool
 |[],[]=>some false
 |[],_::_=>some true
 |_::_,[]=>some false
 |x::xs,y::ys=>if dX x y=true then iZ xs ys else pF x y
theorem AY{prog:Program}{w:World}{A:Around}{E:Qd}{s:Shared}{p q:V}{u v:Value}{r:Bool}{Q:Qd}(ru:bM p u)(rv:bM q v)(h:pF p q=some r)(hq:Q (.bool r) s):
  wpAny (model prog w) A (compareOp .Lt u v) Q E s:=by
 unfold pF at h
 split at h
 ·cases h
  obtain⟨t,rfl⟩:=ru
  obtain⟨t',rfl⟩:=rv
  exact PyProof.Rows.lt_int hq
 ·cases h
  obtain⟨t,rfl⟩:=ru
  obtain⟨t',rfl⟩:=rv
  exact PyProof.Rows.lt_str hq
 ·cases h
section
open PySem.SeqAt
open PySem.AutoSeq1 (wpAny_loadPart')
open PySem.MeetsSeq PySem.MeetsSeq2 PySem.MeetsSeq3
theorem Te(l b:Addr)(items items2:Array Value)(n n2:Nat)(dd dd2:Option Addr)(sl sl2:Array (Option Value))(ps qs:List V)(r:Bool)(hi:aW ps items.toList)(hj:aW qs items2.toList)(fp:ps.all dF=true)(fq:qs.all dF=true)(hr:iZ ps qs=some r):
  Meets (Builtin.«tuple.__lt__» ⟨[.ref l,.ref b],[]⟩)
   (λ _ R s=>s.heap.get? l=some {cls:=.type "tuple",dict:=dd,data:=.seq items n,slots:=sl}/\s.heap.get? b=some {cls:=.type "tuple",dict:=dd2,data:=.seq items2 n2,slots:=sl2}/\
    R (.ok (.ret (.bool r))) s):=
 .of_wp λ prog w A R s h=>by
  obtain⟨hp,g,d,tk,os⟩:=s;obtain⟨hl,hb,h⟩:=h
  have f2:=AutoSeq1.sub_tuple_tuple
  have z1:items.size=ps.length:=by rw[hi.length];simp
  have z2:items2.size=qs.length:=by rw[hj.length];simp
  wp_walk using wpAny_loadPart' hl,wpAny_loadPart' hb,wpAny_forIn_list _ (λ rest b s'=>b.1=none/\s'=⟨hp,g,d,tk,os⟩/\∃(vs ws:List Value) (ps' qs':List V),rest=vs.zip ws/\
   aW ps' vs/\aW qs' ws/\ps'.all dF=true/\qs'.all dF=true/\ps'.length+items2.size=qs'.length+items.size/\iZ ps' qs'=some r) _
  case turn=>
   rintro⟨y,x⟩ rest b s' ⟨hb',rfl,vs,ws,ps',qs',hz,hvi,hwi,f1,f2',hlen,hR⟩
   cases hvi with
   |nil=>rw[List.zip_nil_left]at hz;cases hz
   | cons a hvi'=>
    cases hwi with
    |nil=>rw[List.zip_nil_right]at hz;cases hz
    | cons c hwi'=>
     rw[List.zip_cons_cons]at hz
     injection hz with hyx hrest
     injection hyx with hy hx
     subst hy hx
     simp only[List.length_cons]at hlen
     rw[List.all_cons,Bool.and_eq_true]at f1 f2'
     have he:=Nn (A:=A.in1) (s:=⟨hp,g,d,tk,os⟩) a c f1.1 f2'.1
     simp only[iZ]at hR
     refine wpAny_bind (he prog w _ _ ?_)
     split at hR
     ·rename_i e
      rw[e]
      wp_walk
      exact⟨rfl,rfl,_,_,_,_,hrest,hvi',hwi',f1.2,f2'.2,Qa,hR⟩
     ·rename_i e
      rw[Bool.not_eq_true]at e
      rw[e]
      have hri:∀(E:Qd) (Q:Qd),Q (.bool r) ⟨hp,g,d,tk,os⟩->wpAny (model prog w) A.in1 (richCompare .Lt y x) Q E ⟨hp,g,d,tk,os⟩:=λ E Q hq=>AY a c hR hq
      wp_walk using hri
      exact⟨_,rfl,by simpa using h⟩
  case fin=>
   rintro⟨b1,b2⟩ s' ⟨hb',rfl,vs,ws,ps',qs',hz,hvi,hwi,f1,f2',hlen,hR⟩
   simp only at hb'
   subst hb'
   have hv:r=decide (items.size<items2.size):=by
    cases hvi with
    | nil=>
     cases hwi with
     |nil=>
      simp only[List.length_nil]at hlen
      cases hR
      exact(decide_eq_false Qa).symm
     |cons c hw=>
      simp only[List.length_nil,List.length_cons]at hlen
      cases hR
      exact(decide_eq_true Qa).symm
    | cons a hv=>
     cases hwi with
     |nil=>
      simp only[List.length_nil,List.length_cons]at hlen
      cases hR
      exact(decide_eq_false Qa).symm
     |cons c hw=>
      rw[List.zip_cons_cons]at hz
      cases hz
   rw[hv]at h
   wp_walk
   exact⟨_,rfl,by simpa[Builtin.Tuple.tupleCompareSizes]using h⟩
  case h=>
   exact⟨rfl,rfl,items.toList,items2.toList,ps,qs,rfl,hi,hj,fp,fq,Qa,hr⟩
end
section
variable{prog:Program}{w:World}{A:Around}{E:Qd}{s:Shared}
theorem KQ{l b:Addr}{items items2:Array Value}{ps qs:List V}{r:Bool}{Q:Qd}(hl:IsTup s.heap l items)(hb:IsTup s.heap b items2)(hi:aW ps items.toList)(hj:aW qs items2.toList)(fp:ps.all dF=true)(fq:qs.all dF=true)(hr:iZ ps qs=some r)
  (hu:A.units<cLine) (h:Q (.bool r) s):wpAny (model prog w) A (compareOp .Lt (.ref l) (.ref b)) Q E s:=by
 obtain⟨⟨cls,dd,data,sl⟩,ho,hc,n,hd⟩:=id hl
 obtain⟨⟨cls2,dd2,data2,sl2⟩,ho2,hc2,n2,hd2⟩:=id hb
 simp only at hc hd hc2 hd2
 subst hc hd hc2 hd2
 exact richCompare_meets_room (op:=.Lt) ⟨_,ho,rfl⟩ ⟨_,ho2,rfl⟩ PySem.F.slot_tuple_lt PySem.F.entry_tuple_lt (PySem.F.args_tuple_lt_2 _ _) (Te l b items items2 n n2 dd dd2 sl sl2 ps qs r hi hj fp fq hr)
  ⟨ho,ho2,show Value.bool r≠Value.notImplemented/\Q (.bool r) s from⟨(λ x=>nomatch x),h⟩⟩ hu
end
section
variable{X:Cx}
theorem HJ:bZ X (compareOp .Lt) (λ x y H Q=>∃a b,x= .str a/\y= .str b/\Q (.bl (decide (a.cps.toList<b.cps.toList))) H):=by
 intro pins s σ H x y v u Q I rx ry h
 obtain⟨a,b,rfl,rfl,q⟩:=h
 obtain⟨t,rfl⟩:=rx
 obtain⟨t',rfl⟩:=ry
 exact PyProof.Rows.lt_str (wR I q rfl)
theorem HI(hu:X.A.units+64<cLine):bZ X (compareOp .Lt) (λ x y H Q=>∃a b ps qs r,x= .ref a/\y= .ref b/\bE X.K H a ps/\bE X.K H b qs/\ps.all dF=true/\qs.all dF=true/\iZ ps qs=some r/\Q (.bl r) H):=by
 intro pins s σ H x y v u Q I rx ry h
 obtain⟨a,b,ps,qs,r,rfl,rfl,h1,h2,f1,f2,e,q⟩:=h
 cases rx
 cases ry
 obtain⟨its,r1,t1,_⟩:=I.tuple h1
 obtain⟨its2,r2,t2,_⟩:=I.tuple h2
 exact KQ t1 t2 (by simpa using r1) (by simpa using r2) f1 f2 e Qa (wR I q rfl)
end
noncomputable def tx(l:List Nat):Str:=⟨l.toArray⟩
theorem iV(l:List Nat):(tx l).length=l.length:=by show l.toArray.size=_;simp
theorem lI(a b:List Nat):tx a++tx b=tx (a++b):=by
 show(⟨a.toArray++b.toArray⟩:Str)=⟨(a++b).toArray⟩
 simp
theorem oJ{a b:List Nat}(h:tx a=tx b):a=b:=by
 have h2:a.toArray=b.toArray:=congrArg Str.cps h
 simpa using h2
theorem Ei{l:List Nat}{i:Int}(h0:0<=i)(h1:i<=l.length):Txt.slice (tx l) none (some i)=tx (l.take i.toNat):=by
 have h:=eq_of_beq (slice_closes_to (x:=tx l) (j:=i) ⟨h0,by simpa[tx]using h1⟩)
 rw[h]
 simp[tx]
theorem Ej{l:List Nat}{i:Int}(h0:0<=i)(h1:i<=l.length):Txt.slice (tx l) (some i) none=tx (l.drop i.toNat):=by
 have h:=eq_of_beq (slice_closes_from (x:=tx l) (i:=i) ⟨h0,by simpa[tx]using h1⟩)
 rw[h]
 have e:((tx l).cps.toList.drop i.toNat).take (((tx l).cps.toList.length:Int)-i).toNat=l.drop i.toNat:=by
  rw[List.take_of_length_le]
  ·simp[tx]
  ·simp[tx]
   omega
 rw[e]
 rfl
theorem Sw:∀l:List Nat,Txt.join ("" :Str) (l.map λ c=>tx [c])=tx l:=by
 intro l
 rw[show Txt.join ("" :Str) (l.map λ c=>tx [c])=Str.join ("" :Str) (l.map λ c=>tx [c])from PySem.StrLaws.glued_eq_join _ _]
 induction l with
 |nil=>rfl
 | cons c l ih=>
  cases l with
  |nil=>rfl
  |cons d r=>
   have e0:("" :Str)=tx []:=by decide+kernel
   show tx [c]++("" :Str)++Str.join ("" :Str) ((d::r).map λ c=>tx [c])=_
   rw[ih,e0,lI,lI]
   rfl
theorem KM(l:List Nat):((l.map λ c=>tx [c]).map (·.length)).sum=l.length:=by
 induction l with
 |nil=>rfl
 |cons c l ih=>
  rw[List.map_cons,List.map_cons,List.sum_cons,ih,iV]
  simp
  omega
section
variable{X:Cx}{e v₁ v₂:Expr}{es rest:List Expr}{te:TE}{r:TJ}{pos:Pos}
end
noncomputable def jC(h:Heap)(e:Addr)(o:Obj)(T:Addr)(fl:Value):Prop:=
 ∃vs oT ts,h.get? e=some {o with data:=.fields vs}/\(vs[1]?:Option Value)=some (.ref T)/\T≠e/\h.get? T=some oT/\oT.data= .fields ts/\(ts[3]?:Option Value)=some fl
structure Fk(ch fs:List Addr)(h h':Heap):Prop where
 keep:∀b o,b∉ch->b∉fs->h.get? b=some o->h'.get? b=some o
 slot:∀b o,b∉ch->h.get? b=some o->∃sl,h'.get? b=some {o with slots:=sl}
 size:h.objs.size<=h'.objs.size
theorem Fk.of_same{a:Addr}{fs:List Addr}{h h':Heap}(x:Heap.SameBut a h h'):Fk [a] fs h h':=
 ⟨λ b o hb _ e=>(x.2 b (by simpa using hb)).trans e,λ b o hb e=>⟨o.slots,(x.2 b (by simpa using hb)).trans e⟩,Nat.le_of_eq x.1.symm⟩
theorem Fk.trans{ch ch' fs:List Addr}{h h1 h2:Heap}(x:Fk ch fs h h1)(y:Fk ch' fs h1 h2):Fk (ch++ch') fs h h2:=
  ⟨λ b o hb hf e=>y.keep b o (λ z=>hb (by simp[z])) hf (x.keep b o (λ z=>hb (by simp[z])) hf e),
   λ b o hb e=>by
    obtain⟨sl,e1⟩:=x.slot b o (λ z=>hb (by simp[z])) e
    obtain⟨sl2,e2⟩:=y.slot b _ (λ z=>hb (by simp[z])) e1
    exact⟨sl2,e2⟩,Nat.le_trans x.size y.size⟩
section
variable{M:Model}{A:Around}{E:Qd}{s:Shared}{Q:Unit->Shared->Prop}
theorem zI{a:Addr}{o:Obj}{vs:Array Value}{i:Nat}{x:Value}(ho:s.heap.get? a=some {o with data:=.fields vs})(hi:i<vs.size)
  (h:∀h',h'.get? a=some {o with data:=.fields (vs.setIfInBounds i x)}->Heap.SameBut a s.heap h'->Q () {s with heap:=h'}):wpAny M A (setField (.ref a) i x) Q E s:=by
 refine wpAny_setField ho rfl hi (h _ ?_ (Heap.SameBut.update ..))
 exact Heap.get?_update_self _ ho rfl
variable{base:Heap}{env:Env}{outer:List Env}{L e T:Addr}{o:Obj}{vs:Array Value}{head fl:Value}{hadNext:Bool}
theorem No(hfr : A.frames=some (env::outer))(hl:s.heap.FunFrames base (env::outer))(hf:env.frame=some L)(he:s.heap.get? e=some {o with data:= .fields vs})(hsz:1<vs.size)
    (h:∀h' T,s.heap.objs.size≤T→jC h' e o T (rawInt L)→Fk [e] (cV (env::outer)) s.heap h'→Q () {s with heap:=h'}):
    wpAny M A (do let a←frameOf env
                  let pl←entryPlaceOf L hadNext
                  let b←EntryCells.newEntry head a .none (rawInt L) .none pl
                  setField (.ref e) 1 b) Q E s:=by
  have nfr:e∉cV (env::outer):=λ z=>by
    obtain⟨_,ob,hob,nf⟩:=hl.mem z
    rw[he]at hob
    cases hob
    exact nf vs rfl
  refine wpAny_bind (wpAny_frameOf_fun hfr hl hf λ h1 ⟨z1,z2,z3⟩=>wpAny_bind (wpAny_entryPlaceOf λ pl hpl=>?_))
  unfold EntryCells.newEntry newFields
  refine wpAny_bind (wpAny_newObj_type ?_ (hpl.sizeOk5 _ _ _ _ _))
  have e1:h1.get? e=some {o with data:= .fields vs}:=(z2 e nfr).trans he
  refine zI (o:=o) (Heap.get?_push_of_some _ e1) hsz λ h2 e2 sb=>h h2 h1.objs.size (Nat.le_of_eq z1.symm) ?_ ?_
  · have nT:h1.objs.size≠e:=Nat.ne_of_gt (Heap.lt_size e1)
    refine⟨_,_,_,e2,by simp[hsz],nT,(sb.2 _ nT).trans (Heap.get?_push_size h1 rfl),rfl,?_⟩
    first|(simp;done)|(rcases hpl with rfl|⟨_,_,_,_,_,_,_,rfl⟩<;>simp)
  · refine⟨λ b ob hb hfb eb=>?_,λ b ob hb eb=>?_,?_⟩
    ·exact(sb.2 b (by simpa using hb)).trans (Heap.get?_push_of_some _ ((z2 b hfb).trans eb))
    · obtain⟨sl,q⟩:=z3 b ob eb
      exact⟨sl,(sb.2 b (by simpa using hb)).trans (Heap.get?_push_of_some _ q)⟩
    · rw[sb.1,Heap.size_push,z1]
      exact Nat.le_succ _
theorem Kg(ht:jC s.heap e o T fl){fs:List Addr}(h:∀h',jC h' e o T .none->Fk [T] fs s.heap h'->Q () {s with heap:=h'}):wpAny M A (setFlight (.ref e) none) Q E s:=by
 obtain⟨vs,oT,ts,he,h1,nT,hT,hd,h3⟩:=ht
 unfold setFlight
 refine wpAny_bind (wpAny_field he rfl h1 ?_)
 rw[if_pos (show(Value.ref T !=Value.none)=true from Qb)]
 obtain⟨c,d,dt,sl⟩:=oT
 have hd':dt= .fields ts:=hd
 subst hd'
 have h3':3<ts.size:=(Array.getElem?_eq_some_iff.mp h3).1
 refine zI (o:=⟨c,d,.fields ts,sl⟩) hT h3' λ h' e' sb=>h h' ⟨vs,_,_,(sb.2 e (Ne.symm nT)).trans he,h1,nT,e',rfl,by simp[h3']⟩ (.of_same sb)
theorem IH(hfr:A.frames=some (env::outer))(hl:s.heap.FunFrames base (env::outer))(hf:env.frame=some L)(he:s.heap.get? e=some {o with data:=.fields vs})(h1:(vs[1]?:Option Value)=some .none)
  (h:∀h' T,s.heap.objs.size<=T->jC h' e o T (rawInt L)->Fk [e] (cV (env::outer)) s.heap h'->Q () {s with heap:=h'}):wpAny M A (noteFrame (.ref e) env) Q E s:=by
 unfold noteFrame
 simp only[hf]
 refine wpAny_bind (wpAny_field he rfl h1 ?_)
 rw[if_neg Qc]
 exact No hfr hl hf he (Array.getElem?_eq_some_iff.mp h1).1 h
theorem IG(hfr:A.frames=some (env::outer))(hl:s.heap.FunFrames base (env::outer))(hf:env.frame=some L)(ht:jC s.heap e o T .none)
  (h:∀h' T',s.heap.objs.size<=T'->jC h' e o T' (rawInt L)->Fk [T,e] (cV (env::outer)) s.heap h'->Q () {s with heap:=h'}):wpAny M A (noteFrame (.ref e) env) Q E s:=by
 obtain⟨vs,oT,ts,he,h1,nT,hT,hd,h3⟩:=ht
 unfold noteFrame
 simp only[hf]
 refine wpAny_bind (wpAny_field he rfl h1 ?_)
 rw[if_pos (show(Value.ref T !=Value.none)=true from Qb)]
 refine wpAny_bind (wpAny_field hT hd h3 ?_)
 rw[if_neg (show¬((Value.none==rawInt L)=true) by simp[rawInt])]
 obtain⟨c,d,dt,sl⟩:=oT
 have hd':dt= .fields ts:=hd
 subst hd'
 have nF:T∉cV (env::outer):=λ z=>by
  obtain⟨_,ob,hob,nf⟩:=hl.mem z
  rw[hT]at hob
  cases hob
  exact nf ts rfl
 refine wpAny_bind (zI (o:=⟨c,d,.fields ts,sl⟩) hT (Array.getElem?_eq_some_iff.mp h3).1 λ h2 e2 sb=>?_)
 have k2:Fk [T] (cV (env::outer)) s.heap h2:=.of_same sb
 refine No (s:={s with heap:=h2}) (o:=o) (vs:=vs) hfr (hl.of_keeps λ b ob hb nf=>⟨ob,(sb.2 b λ z=>by subst z;rw[hT]at hb;cases hb;exact nf ts rfl).trans hb,rfl⟩) hf ((sb.2 e (Ne.symm nT)).trans he) (Array.getElem?_eq_some_iff.mp h1).1 λ h3 T' z1 z2 z3=>h h3 T' (by rw[<-sb.1];exact z1) z2 (k2.trans z3)
theorem LG(hfr:A.frames=some (env::outer))(hl:s.heap.FunFrames base (env::outer))(hf:env.frame=some L)(he:s.heap.get? e=some {o with data:=.fields vs})(h1:(vs[1]?:Option Value)=some .none)
  (h:∀h' T,s.heap.objs.size<=T->jC h' e o T .none->Fk [e] (cV (env::outer)) s.heap h'->Q () {s with heap:=h'}):wpAny M A (leaving env (.ref e)) Q E s:=by
 unfold leaving
 refine wpAny_bind (IH hfr hl hf he h1 λ h' T z1 z2 z3=>Kg (fs:=cV (env::outer)) z2 λ h2 y1 y2=>h h2 T z1 y1 ?_)
 have nT:∀b ob,s.heap.get? b=some ob->b≠T:=λ b ob q z=>absurd (Heap.lt_size q) (Nat.not_lt.mpr (z▸z1))
 exact⟨λ b ob hb hfb q=>y2.keep b ob (by simpa using nT b ob q) hfb (z3.keep b ob hb hfb q),λ b ob hb q=>by
  obtain⟨sl,q1⟩:=z3.slot b ob hb q
  obtain⟨sl2,q2⟩:=y2.slot b _ (by simpa using nT b ob q) q1
  exact⟨sl2,q2⟩,Nat.le_trans z3.size y2.size⟩
theorem LF(hfr:A.frames=some (env::outer))(hl:s.heap.FunFrames base (env::outer))(hf:env.frame=some L)(ht:jC s.heap e o T .none)
  (h:∀h' T',s.heap.objs.size<=T'->jC h' e o T' .none->Fk [T,e] (cV (env::outer)) s.heap h'->Q () {s with heap:=h'}):wpAny M A (leaving env (.ref e)) Q E s:=by
 unfold leaving
 refine wpAny_bind (IG hfr hl hf ht λ h' T' z1 z2 z3=>Kg (fs:=cV (env::outer)) z2 λ h2 y1 y2=>h h2 T' z1 y1 ?_)
 have nT:∀b ob,s.heap.get? b=some ob->b≠T':=λ b ob q z=>absurd (Heap.lt_size q) (Nat.not_lt.mpr (z▸z1))
 exact⟨λ b ob hb hfb q=>y2.keep b ob (by simpa using nT b ob q) hfb (z3.keep b ob hb hfb q),λ b ob hb q=>by
  obtain⟨sl,q1⟩:=z3.slot b ob hb q
  obtain⟨sl2,q2⟩:=y2.slot b _ (by simpa using nT b ob q) q1
  exact⟨sl2,q2⟩,Nat.le_trans z3.size y2.size⟩
end
noncomputable def fW(C:Addr)(d:Option Addr)(vs:Array Value):Obj:={cls:=.ref C,dict:=d,data:=.fields vs}
noncomputable def fO(e C:Addr)(d:Option Addr):HO:=.ext λ h=>∃vs,h.get? e=some (fW C d vs)
noncomputable def Ni(e C:Addr)(d:Option Addr):HO:=.ext λ h=>∃vs,h.get? e=some (fW C d vs)/\(vs[1]?:Option Value)=some .none
section
variable{P:Program}{w:World}{H H':Hp}{h h':Heap}{e C:Addr}{d:Option Addr}
theorem fO.ok{vs:Array Value}(q:h.get? e=some (fW C d vs)):dN P w H h e (fO e C d):=⟨⟨vs,q⟩,⟨_,q⟩,λ _ _ ⟨us,z⟩ k=>⟨us,k _ z⟩⟩
theorem cU.exn(k:cU P w H h)(q:H e=some (Ni e C d)):∃vs,h.get? e=some (fW C d vs)/\(vs[1]?:Option Value)=some .none:=(k e _ q).1
theorem cU.fly{ch fs:List Addr}{u:HO}(k:cU P w H h)(f:Fk ch fs h h')(hc:∀b∈ch,b=e\/H b=none)(hf:∀b∈fs,H b=none)(hm:mQ (H e))(new:dN P w (aM H e u) h' e u):cU P w (aM H e u) h':=λ b ob q=>by
 by_cases hb:b=e
 ·subst hb
  rw[dA]at q
  cases q
  exact new
 ·rw[aY hb]at q
  refine(k b ob q).stay (λ c v hcb z=>f.keep c v (λ y=>?_) (λ y=>?_) z) (λ c z=>?_) (λ c xs z=>?_)
  ·rcases hc c y with rfl|n
   ·rcases hcb with rfl|n
    ·exact hb rfl
    ·rw[n]at hm;exact hm
   ·rcases hcb with rfl|n'
    ·rw[n]at q;cases q
    ·rw[n]at n';cases n'
  ·have n:=hf c y
   rcases hcb with rfl|n'
   ·rw[n]at q;cases q
   ·rw[n]at n';cases n'
  ·rw[aY (λ y=>by subst y;rw[z]at hm;exact hm)];exact z
  ·rw[aY (λ y=>by subst y;rw[z]at hm;exact hm)];exact z
end
theorem Sl{H:Hp}{a:Addr}{o:HO}(h:H a=some o):aM H a o=H:=by
 funext b
 by_cases hb:b=a
 ·subst hb;rw[dA,h]
 ·rw[aY hb]
noncomputable def fZ(P:Program)(w:World):iU:=λ outer H s E ev s'=>∃(e C:Addr) (d:Option Addr) (T:Addr) (H':Hp),ev= .ref e/\s'.os=s.os/\eK s.gens s'.gens/\Un (cV outer) [] H H' s.heap s'.heap/\cU P w H' s'.heap/\
 s.heap.objs.size<=T/\H' T=none/\jC s'.heap e (fW C d #[]) T .none/\H' e=some (fO e C d)/\E (.ref e) d H'
theorem Un.fly{fs fs' ch:List Addr}{H H':Hp}{h h1 h2:Heap}{e:Addr}{u:HO}(x:Un fs [] H H' h h1)(f:Fk ch fs' h1 h2)(hm:mQ (H' e))(he:∃o,h2.get? e=some o)
  (hc:∀b∈ch,b=e\/h.objs.size<=b) (hf:∀b∈fs',b∈fs\/h.objs.size<=b):Un fs [] H (aM H' e u) h h2:=by
 have big:∀{b o},h.get? b=some o->¬h.objs.size<=b:=λ q=>Nat.not_le.mpr (Heap.lt_size q)
 have ne:∀{b o},h.get? b=some o->H b=none->b≠e:=fun{b o} q n z=>by
  have:=x.free b o q n Qb
  rw[z]at this
  rw[this]at hm
  exact hm
 have nch:∀{b o},h.get? b=some o->b≠e->b∉ch:=fun{b o} q n z=>(hc b z).elim n (big q)
 refine⟨λ b o q n hb _=>?_,λ b o q n hb _=>?_,λ b o q n _=>?_,λ b o q _=>?_,λ b xs q=>?_,λ b o v q=>?_,λ b ps q=>?_⟩
 ·exact f.keep b o (nch q (ne q n)) (λ z=>(hf b z).elim hb (big q)) (x.keep b o q n hb Qb)
 ·obtain⟨sl,q1⟩:=x.slot b o q n hb Qb
  obtain⟨sl2,q2⟩:=f.slot b _ (nch q (ne q n)) q1
  exact⟨sl2,q2⟩
 ·rw[aY (ne q n)];exact x.free b o q n Qb
 ·by_cases hb:b=e
  ·rw[hb];exact he
  ·obtain⟨o1,q1⟩:=x.there b o q Qb
   obtain⟨sl2,q2⟩:=f.slot b _ (nch q hb) q1
   exact⟨_,q2⟩
 ·have:=x.tups b xs q
  rw[aY (λ z=>by rw[z]at this;rw[this]at hm;exact hm)];exact this
 ·have:=x.frzs b o v q
  rw[aY (λ z=>by rw[z]at this;rw[this]at hm;exact hm)];exact this
 ·obtain⟨more,this⟩:=x.tbls b ps q
  exact⟨more,by rw[aY (λ z=>by rw[z]at this;rw[this]at hm;exact hm)];exact this⟩
structure Fly(X:Cx)(pins:List (Addr×Obj))(H:Hp)(s:Shared)(e C:Addr)(d:Option Addr)(T:Addr):Prop where
 tr:jC s.heap e (fW C d #[]) T .none
 at_:H e=some (fO e C d)
 big:X.s₀.heap.objs.size<=T
 free:H T=none
 loc:T≠X.env.locals
 cell:∀x c,X.env.cells.lookup x=some c->c≠T
 pin:∀p∈X.pn++pins,p.1≠T
noncomputable abbrev SK:=St->Addr->Addr->Option Addr->Hp->Prop
structure pR(X:Cx)(S:SK):Prop where
 new:∀(pins:List (Addr×Obj)) (σ:St) (H:Hp) (s:Shared) (e C:Addr) (d:Option Addr),aE X pins σ H s->H e=some (Ni e C d)->S σ e C d (aM H e (fO e C d))->X.xe (.ref e) s
 fly:∀(pins:List (Addr×Obj)) (σ:St) (H:Hp) (s:Shared) (e C:Addr) (d:Option Addr) (T:Addr),aE X pins σ H s->Fly X pins H s e C d T->S σ e C d H->X.xe (.ref e) s
section
variable{CX:iU}{P:Program}{w:World}{K:PySem.W.Frag}{mg:Str->Option Value}{base:Heap}{N:List Str}{qual:Str}{scope:Scope}{f:Addr}{cdv:Value}{A:Around}{outer:List Env}{s₀:Shared}{H₀:Hp}{E:XK}
theorem Dt:pR (mH (fZ P w) P w K mg base N qual scope f cdv A outer s₀ H₀ E) (λ _ e _ d H=>E (.ref e) d H) where
 new:=λ pins σ H s e C d I he hS=>by
  obtain⟨vs,q,q1⟩:=I.hok.exn he
  show wpAny _ _ (leaving _ _) _ _ _
  refine LG (base:=base) (o:=fW C d #[]) (vs:=vs) I.ok.frames I.stack rfl q q1 λ h' T z1 z2 z3=>?_
  have hT:H T=none:=I.hok.fresh z1
  have hm:mQ (H e):=by rw[he];trivial
  obtain⟨vs',_,_,q',_⟩:=id z2
  have neT:T≠e:=z2.elim λ _ ⟨_,_,_,_,n,_⟩=>n
  exact⟨e,C,d,T,aM H e (fO e C d),rfl,I.os,I.bare,I.base.fly z3 hm ⟨_,q'⟩ (λ b hb=>.inl (by simpa using hb)) (λ b hb=>(List.mem_cons.mp (I.stkSub b hb)).elim (λ z=>.inr (z▸I.ok.above)) .inl),
   I.hok.fly z3 (λ b hb=>.inl (by simpa using hb)) I.stkFree hm (fO.ok q'),Nat.le_trans I.sz z1,by rw[aY neT];exact hT,z2,dA,hS⟩
 fly:=λ pins σ H s e C d T I F hS=>by
  show wpAny _ _ (leaving _ _) _ _ _
  refine LF (base:=base) I.ok.frames I.stack rfl F.tr λ h' T' z1 z2 z3=>?_
  have hT:H T'=none:=I.hok.fresh z1
  have hm:mQ (H e):=by rw[F.at_];trivial
  obtain⟨vs',_,_,q',_⟩:=id z2
  have u:=Sl F.at_
  exact⟨e,C,d,T',H,rfl,I.os,I.bare,u▸(I.base.fly (u:=fO e C d) z3 hm ⟨_,q'⟩ (λ b hb=>by
    rcases List.mem_cons.mp hb with rfl|hb
    ·exact .inr F.big
    ·exact .inl (by simpa using hb)) (λ b hb=>(List.mem_cons.mp (I.stkSub b hb)).elim (λ z=>.inr (z▸I.ok.above)) .inl)),
   u▸(I.hok.fly (u:=fO e C d) z3 (λ b hb=>by
    rcases List.mem_cons.mp hb with rfl|hb
    ·exact .inr F.free
    ·exact .inl (by simpa using hb)) I.stkFree hm (fO.ok q')),Nat.le_trans I.sz z1,hT,z2,F.at_,hS⟩
end
section
variable{X:Cx}{S:SK}
theorem pR.pass(hX:pR X S){pins:List (Addr×Obj)}{σ:St}{H:Hp}{s:Shared}{ev:Value}{s':Shared}(I:aE X pins σ H s)
  (h:fZ X.prog X.w X.stack H s (λ v d H'=>∀e C,v= .ref e->H' e=some (fO e C d)->S σ e C d H') ev s'):X.xe ev s':=by
 obtain⟨e,C,d,T,H',rfl,os,g,un,hok,hT,hTn,tr,he,hE⟩:=h
 have I':aE X pins σ H' s':=I.call' (ch:=[]) os un hok g Qb
 refine hX.fly pins σ H' s' e C d T I' ⟨tr,he,Nat.le_trans I.sz hT,hTn,λ z=>?_,λ x c q z=>?_,λ p hp z=>?_⟩ (hE e C rfl he)
 ·exact absurd I.lt (Nat.not_lt.mpr (z▸hT))
 ·obtain⟨v,o,ho,_⟩:=I.cell x c q
  exact absurd (Heap.lt_size ho) (Nat.not_lt.mpr (z▸hT))
 ·exact absurd (Heap.lt_size (I.pin p hp).1) (Nat.not_lt.mpr (z▸hT))
variable{k j:Nat}{f:Addr}{fd:FuncData}{ps:List Str}{sp:Sp}{x:Str}{p pos:Pos}{e:Expr}{es:List Expr}{t:TA}
noncomputable def Vn(sp:Sp)(S:SK)(t:TA):TE:=λ σ H Q=>t σ H λ vs H1=>sp vs H1 Q λ v d H'=>∀e C,v= .ref e->H' e=some (fO e C d)->S σ e C d H'
noncomputable def lC(P:Program)(w:World)(K:PySem.W.Frag)(mg:Str->Option Value)(base:Heap)(x:Str)(k:Nat)(ps:List Str)(sp:Sp):Prop:=
 ∃f fd,fQ P w K mg base (fZ P w) k f fd ps sp/\mg x=some (.ref f)/\PySem.W.keepIn K (.ref f)=true/\tR K fd ps []
theorem GJ(hX:pR X S)(C:lC X.prog X.w X.K X.mg X.base x k ps sp)(hr:dG j X.A)(ha:PA X (e::es) t)(hg:Gl X x:=by rfl)(hj:k<=j:=by decide)(hdb:(x==("__debug__" :Str))=false:=by decide)
  (he:starEach (e::es) X.env=(false,eval e X.env)::starEach es X.env:=by rfl) (hpl:(backTo pos (starEach es X.env)).any (·.1)=false:=by rfl):PE X (.Call (.Name x p) (e::es) [] pos) (Vn sp S t):=by
 obtain⟨f,fd,F,hm,hk,hb⟩:=C
 intro pins s σ H Q I h
 refine wpAny_Call_Name_kw (Iz I hg hm ?_ hdb)
 refine PySem.W.callWith_K (h₀:=X.base) I.ok.mod.kin hk (aT (ha pos pins s σ H _ I h) λ us s1 ⟨vs,H1,I1,r,q⟩=>⟨I1.kIn,?_⟩) he hpl
 have hl:us.length=ps.length:=by rw[<-r.length];exact F.len _ _ _ _ q
 have hb':=hb s1 us I1.kIn (by simpa using hl)
 rw[List.append_nil]at hb'
 refine wpAny_call (codeAny_mono (F.run X.A X.stack s1 H1 ⟨us,[]⟩ us vs Q _ (hr.mono hj) I1.env0 hb' r q) λ r s' hq=>?_)
 cases r with
 |error ev=>exact hX.pass I1 hq
 |ok fl=>
  cases fl with
  |ret u=>exact I1.after hq
  |next=>exact False.elim hq
  |brk=>exact False.elim hq
  |cont=>exact False.elim hq
end
section
variable{P:Program}{w:World}{K:PySem.W.Frag}{mg:Str->Option Value}{base:Heap}
theorem jY.okX{x qual:Str}{st:Stmt}{f:Addr}{fd:FuncData}{N ps:List Str}{k:Nat}{sp:Sp}(F:jY K x qual st f fd)(S:tL N ps (aP st))(len:∀vs H Q E,sp vs H Q E->vs.length=ps.length)
  (hbody:∀(cdv:Value) (A:Around) (outer:List Env) (s:Shared) (H:Hp) (vs:List V) (Q:VK) (E:XK),dG k (A.deeper (envOfC qual (aP st) s.heap.objs.size f cdv))->sp vs H Q E->
   ∃t,eB (mH (fZ P w) P w K mg base N qual (aP st) f cdv A outer s H E) (bO st) t/\t {nx:=λ _ H'=>Q .non H',rt:=Q} (start N vs) H):fQ P w K mg base (fZ P w) (k+1) f fd ps sp:=by
 obtain⟨oc,od,kV,doc,pm,an,cdv,ct,osl,rfl,lk,hcd⟩:=F.ex
 exact Mv lk hcd S len λ A outer s H vs Q E hr hsp=>hbody cdv A outer s H vs Q E hr hsp
end
inductive D where
 |non|bl (b:Bool)|int (i:Int)|str (x:Str)
 |tup (ds:List D)|lst (ds:List D)
 |ref (i:Nat)
 |exc (c:Str) (ns:List Str) (ds:List D)
 |scr (ns:List Int)
 |kt (xs:List Str)
inductive Ob where
 |lst (ds:List D)
 |ins (c:Str) (ns:List Str) (ds:List D)
noncomputable abbrev aD:=List Ob
noncomputable abbrev En:=List (Option D)
inductive Rs(α:Type) where
 |ok (a:α) (S:aD)
 |exc (e:D) (S:aD)
 |bad
noncomputable abbrev EM(α:Type):=aD->Rs α
@[simp] noncomputable def EM.ret{α:Type}(a:α):EM α:=λ S=>.ok a S
noncomputable def EM.bad{α:Type}:EM α:=λ _=>.bad
noncomputable def Rs.bind{α β:Type}(r:Rs α)(k:α->EM β):Rs β:=match r with
 |.ok a S=>k a S
 |.exc e S=>.exc e S
 |.bad=>.bad
inductive Fl where
 |nx|rt (d:D)|bk|ct
inductive Rw where
 |ok (f:Fl) (η:En) (S:aD)
 |exc (e:D) (η:En) (S:aD)
 |bad
noncomputable abbrev ES:=En->aD->Rw
noncomputable abbrev EE:=En->EM D
structure Gd where
 K:PySem.W.Frag
 cl:Str->Option Addr
 ts:List Addr
structure Wo where
 st:List Addr
 av:List Addr
noncomputable def Wo.all(ρ:Wo):List Addr:=ρ.av++ρ.st
instance:Membership Addr Wo:=⟨λ ρ a=>a∈ρ.all⟩
noncomputable def Wo.add(ρ:Wo)(p:Addr):Wo:=⟨ρ.st++[p],ρ.av⟩
theorem Wo.mem_add{ρ:Wo}{p a:Addr}:a∈ρ.add p↔a∈ρ\/a=p:=by
 show a∈ρ.av++(ρ.st++[p])↔a∈ρ.av++ρ.st\/a=p
 simp[or_assoc]
theorem Wo.mem_st{ρ:Wo}{i:Nat}{a:Addr}(h:ρ.st[i]? =some a):a∈ρ:=List.mem_append_right _ (List.mem_of_getElem? h)
mutual
noncomputable def aU(G:Gd)(ρ:Wo)(H:Hp):D->V->Prop
 |.non,v=>v= .non
 |.bl b,v=>v= .bl b
 |.int i,v=>v= .int i
 |.str x,v=>v= .str x
 |.tup ds,v=>∃a vs,v= .ref a/\a∉ρ/\H a=some (.tup vs)/\aN G ρ H ds vs
 |.lst ds,v=>∃a vs,v= .ref a/\a∉ρ/\H a=some (.lst vs)/\aN G ρ H ds vs
 |.ref i,v=>∃a,v= .ref a/\ρ.st[i]? =some a
 |.exc c ns ds,v=>∃a C d vs,v= .ref a/\a∉ρ/\d∉ρ/\G.cl c=some C/\H a=some (fO a C (some d))/\H d=some (.xd (ns.zip vs))/\ns.length=ds.length/\aN G ρ H ds vs
 |.scr ns,v=>∃a,v= .ref a/\((a∉ρ/\∃o,H a=some (.frz o (.lst (ns.map V.int))))\/∀H',bA G.K H' a (ns.map V.int))
 |.kt xs,v=>∃a,v= .ref a/\∀H',bE G.K H' a (xs.map V.str)
noncomputable def aN(G:Gd)(ρ:Wo)(H:Hp):List D->List V->Prop
 |[],vs=>vs=[]
 |d::ds,vs=>∃v r,vs=v::r/\aU G ρ H d v/\aN G ρ H ds r
end
noncomputable def oA(G:Gd)(ρ:Wo)(H:Hp)(a:Addr):Ob->Prop
 |.lst ds=>∃vs,H a=some (.lst vs)/\aN G ρ H ds vs
 |.ins c ns ds=>∃C dx vs,G.cl c=some C/\H a=some (.ins C dx (ns.zip vs))/\ns.length=ds.length/\aN G ρ H ds vs
structure Wd(G:Gd)(ρ:Wo)(S:aD)(H:Hp):Prop where
 len:ρ.st.length=S.length
 nd:ρ.all.Nodup
 at':∀(i:Nat) o,S[i]? =some o->∃a,ρ.st[i]? =some a/\oA G ρ H a o
 tb:Tb G.ts H
 to:∀P∈G.ts,P∉ρ
 an:∀a∈ρ.av,∃xs,H a=some (.lst xs)
structure bG(ρ:Wo)(H:Hp)(ρ':Wo)(H':Hp):Prop where
 pre:∃r,ρ'.st=ρ.st++r
 av:∃r,ρ'.av=r++ρ.av
 new:∀a∈ρ',a∉ρ->H a=none
 ext:dI ρ.all H H'
 kp:∀a∈ρ.av,a∉ρ'.st->H' a=H a
theorem bG.refl{ρ:Wo}{H:Hp}:bG ρ H ρ H:=⟨⟨[],Qb⟩,⟨[],rfl⟩,λ _ h n=>(n h).elim,.refl,λ _ _ _=>rfl⟩
theorem bG.out{ρ ρ':Wo}{H H':Hp}(s:bG ρ H ρ' H'){a:Addr}{o:HO}(h:a∉ρ)(e:H a=some o):a∉ρ':=λ z=>by
 have:=s.new a z h
 rw[e]at this;cases this
theorem bG.trans{ρ ρ1 ρ2:Wo}{H H1 H2:Hp}(s:bG ρ H ρ1 H1)(t:bG ρ1 H1 ρ2 H2):bG ρ H ρ2 H2:=by
 obtain⟨r,e⟩:=s.pre
 obtain⟨r2,e2⟩:=t.pre
 obtain⟨q,f⟩:=s.av
 obtain⟨q2,f2⟩:=t.av
 refine⟨⟨r++r2,by rw[e2,e,List.append_assoc]⟩,⟨q2++q,by rw[f2,f,List.append_assoc]⟩,λ a h n=>?_,⟨λ b o hb h n=>?_,λ b ps hb h=>?_⟩,?_⟩
 ·by_cases h1:a∈ρ1
  ·exact s.new a h1 n
  ·exact s.ext.free n (t.new a h h1)
 ·exact t.ext.old b o (s.out hb h) (s.ext.old b o hb h n) n
 ·obtain⟨p1,h1,t1⟩:=s.ext.tab b ps hb h
  obtain⟨p2,h2,t2⟩:=t.ext.tab b p1 (s.out hb h) h1
  exact⟨p2,h2,λ z=>t2 (t1 z)⟩
 ·intro a ha hn
  have h1:a∈ρ1.av:=by rw[f];exact List.mem_append_right _ ha
  rw[t.kp a h1 hn]
  exact s.kp a ha λ z=>hn (by rw[e2];exact List.mem_append_left _ z)
theorem bG.get{ρ ρ':Wo}{H H':Hp}(s:bG ρ H ρ' H'){i:Nat}{a:Addr}(h:ρ.st[i]? =some a):ρ'.st[i]? =some a:=by
 obtain⟨r,e⟩:=s.pre
 rw[e,List.getElem?_append_left]
 ·exact h
 ·exact(List.getElem?_eq_some_iff.mp h).1
theorem bG.keep{ρ ρ':Wo}{H H':Hp}(s:bG ρ H ρ' H'){a:Addr}{o:HO}(h:a∉ρ)(e:H a=some o)(n:∀ps,o≠ .tbl ps):H' a=some o:=s.ext.old a o h e n
structure pU(ρ:Wo)(H:Hp)(ρ':Wo)(H':Hp):Prop where
 get:∀{i:Nat} {a:Addr},ρ.st[i]? =some a->ρ'.st[i]? =some a
 out:∀{a:Addr} {o:HO},a∉ρ->H a=some o->a∉ρ'
 keep:∀{a:Addr} {o:HO},a∉ρ->H a=some o->(∀ps,o≠ .tbl ps)->H' a=some o
theorem bG.to0{ρ ρ':Wo}{H H':Hp}(s:bG ρ H ρ' H'):pU ρ H ρ' H':=⟨s.get,s.out,s.keep⟩
mutual
theorem aU.ext0{G:Gd}{ρ ρ':Wo}{H H':Hp}(s:pU ρ H ρ' H'):∀{d:D} {v:V},aU G ρ H d v->aU G ρ' H' d v
 |.non,_,h=>h
 |.bl _,_,h=>h
 |.int _,_,h=>h
 |.str _,_,h=>h
 |.tup ds,v,h=>by
  obtain⟨a,vs,h1,h2,h3,h4⟩:=h
  exact⟨a,vs,h1,s.out h2 h3,s.keep h2 h3 (by intro ps z;cases z),aN.ext0 s h4⟩
 |.lst ds,v,h=>by
  obtain⟨a,vs,h1,h2,h3,h4⟩:=h
  exact⟨a,vs,h1,s.out h2 h3,s.keep h2 h3 (by intro ps z;cases z),aN.ext0 s h4⟩
 |.ref i,v,h=>by
  obtain⟨a,h1,h2⟩:=h
  exact⟨a,h1,s.get h2⟩
 |.exc c ns ds,v,h=>by
  obtain⟨a,C,d,vs,h1,h2,h3,h4,h5,h6,h7,h8⟩:=h
  exact⟨a,C,d,vs,h1,s.out h2 h5,s.out h3 h6,h4,s.keep h2 h5 (by intro ps z;cases z),s.keep h3 h6 (by intro ps z;cases z),h7,aN.ext0 s h8⟩
 |.scr ns,v,h=>by
  obtain⟨a,h1,h2⟩:=h
  refine⟨a,h1,h2.elim (λ ⟨n,o,e⟩=>.inl ⟨s.out n e,o,s.keep n e (by intro ps z;cases z)⟩) .inr⟩
 |.kt _,_,h=>h
theorem aN.ext0{G:Gd}{ρ ρ':Wo}{H H':Hp}(s:pU ρ H ρ' H'):∀{ds:List D} {vs:List V},aN G ρ H ds vs->aN G ρ' H' ds vs
 |[],_,h=>h
 |d::ds,vs,h=>by
  obtain⟨v,r,h1,h2,h3⟩:=h
  exact⟨v,r,h1,aU.ext0 s h2,aN.ext0 s h3⟩
end
theorem aU.ext{G:Gd}{ρ ρ':Wo}{H H':Hp}{d:D}{v:V}(s:bG ρ H ρ' H')(h:aU G ρ H d v):aU G ρ' H' d v:=aU.ext0 s.to0 h
theorem aN.ext{G:Gd}{ρ ρ':Wo}{H H':Hp}{ds:List D}{vs:List V}(s:bG ρ H ρ' H')(h:aN G ρ H ds vs):aN G ρ' H' ds vs:=aN.ext0 s.to0 h
section
variable{G:Gd}{ρ ρ':Wo}{H H':Hp}{S:aD}
theorem aN.length:∀{ds:List D} {vs:List V},aN G ρ H ds vs->vs.length=ds.length
 |[],_,h=>by cases h;rfl
 |d::ds,vs,h=>by
  obtain⟨v,r,rfl,h2,h3⟩:=h
  simp[aN.length h3]
theorem aN.append:∀{ds es:List D} {vs ws:List V},aN G ρ H ds vs->aN G ρ H es ws->aN G ρ H (ds++es) (vs++ws)
 |[],_,_,_,h,h'=>by cases h;exact h'
 |d::ds,es,vs,ws,h,h'=>by
  obtain⟨v,r,rfl,h2,h3⟩:=h
  exact⟨v,r++ws,rfl,h2,aN.append h3 h'⟩
theorem aN.one{d:D}{v:V}(h:aU G ρ H d v):aN G ρ H [d] [v]:=⟨v,[],rfl,h,rfl⟩
theorem aN.get:∀{ds:List D} {vs:List V} {i:Nat} {d:D},aN G ρ H ds vs->ds[i]? =some d->∃v,vs[i]? =some v/\aU G ρ H d v
 |[],_,_,_,_,e=>by simp at e
 |d::ds,vs,0,d',h,e=>by
  obtain⟨v,r,rfl,h2,h3⟩:=h
  simp at e
  subst e
  exact⟨v,rfl,h2⟩
 |d::ds,vs,i+1,d',h,e=>by
  obtain⟨v,r,rfl,h2,h3⟩:=h
  obtain⟨w,h4,h5⟩:=aN.get (i:=i) h3 (by simpa using e)
  exact⟨w,by simpa using h4,h5⟩
theorem aN.got:∀{ds:List D} {vs:List V} {i:Nat} {v:V},aN G ρ H ds vs->vs[i]? =some v->∃d,ds[i]? =some d/\aU G ρ H d v:=fun{ds vs i v} h e=>by
 have hi:i<ds.length:=by rw[<-h.length];exact(List.getElem?_eq_some_iff.mp e).1
 obtain⟨w,h1,h2⟩:=h.get (List.getElem?_eq_getElem hi)
 rw[e]at h1;cases h1
 exact⟨_,List.getElem?_eq_getElem hi,h2⟩
theorem aN.take:∀{ds:List D} {vs:List V} (n:Nat),aN G ρ H ds vs->aN G ρ H (ds.take n) (vs.take n)
 |[],_,n,h=>by cases h;simp[aN]
 |d::ds,vs,0,h=>by simp[aN]
 |d::ds,vs,n+1,h=>by
  obtain⟨v,r,rfl,h2,h3⟩:=h
  exact⟨v,r.take n,rfl,h2,aN.take n h3⟩
theorem aN.drop:∀{ds:List D} {vs:List V} (n:Nat),aN G ρ H ds vs->aN G ρ H (ds.drop n) (vs.drop n)
 |[],_,n,h=>by cases h;simp[aN]
 |d::ds,vs,0,h=>h
 |d::ds,vs,n+1,h=>by
  obtain⟨v,r,rfl,h2,h3⟩:=h
  exact aN.drop n h3
theorem aN.set{d:D}{v:V}(hv:aU G ρ H d v):∀{ds:List D} {vs:List V} (i:Nat),aN G ρ H ds vs->aN G ρ H (ds.set i d) (vs.set i v)
 |[],_,_,h=>by cases h;simp[aN]
 |d'::ds,vs,0,h=>by
  obtain⟨w,r,rfl,h2,h3⟩:=h
  exact⟨v,r,rfl,hv,h3⟩
 |d'::ds,vs,i+1,h=>by
  obtain⟨w,r,rfl,h2,h3⟩:=h
  exact⟨w,r.set i v,rfl,h2,aN.set hv i h3⟩
theorem aN.strs:∀(xs:List Str),aN G ρ H (xs.map .str) (xs.map .str)
 |[]=>rfl
 |x::xs=>⟨_,_,rfl,rfl,aN.strs xs⟩
theorem aN.strs_of:∀{xs:List Str} {vs:List V},aN G ρ H (xs.map .str) vs->vs=xs.map .str
 |[],_,h=>h
 |x::xs,vs,h=>by
  obtain⟨v,r,rfl,h2,h3⟩:=h
  rw[aN.strs_of h3,show v=V.str x from h2]
  rfl
theorem Wd.tout(w:Wd G ρ S H){P:Addr}(h:P∈G.ts):P∉ρ:=w.to P h
theorem oA.ext0(s:pU ρ H ρ' H'){a:Addr}(k:∀o,H a=some o->H' a=some o):∀{o:Ob},oA G ρ H a o->oA G ρ' H' a o
 |.lst ds,⟨vs,h1,h2⟩=>⟨vs,k _ h1,h2.ext0 s⟩
 |.ins c ns ds,⟨C,dx,vs,h0,h1,h3,h2⟩=>⟨C,dx,vs,h0,k _ h1,h3,h2.ext0 s⟩
theorem oA.ext'(s:bG ρ H ρ' H'){a:Addr}(k:∀o,H a=some o->H' a=some o):∀{o:Ob},oA G ρ H a o->oA G ρ' H' a o
 |.lst ds,⟨vs,h1,h2⟩=>⟨vs,k _ h1,h2.ext s⟩
 |.ins c ns ds,⟨C,dx,vs,h0,h1,h3,h2⟩=>⟨C,dx,vs,h0,k _ h1,h3,h2.ext s⟩
theorem Wd.ane(w:Wd G ρ S H){a p:Addr}(ha:a∈ρ.av)(h:H p=none):a≠p:=by
 obtain⟨xs,q⟩:=w.an a ha
 exact fM q h
theorem Wd.sside(w:Wd G ρ S H){p:Addr}{o:HO}(h:H p=none):bG ρ H ρ (aM H p o):=⟨⟨[],Qb⟩,⟨[],rfl⟩,λ _ h n=>(n h).elim,.new h o,λ a ha _=>aY (w.ane ha h)⟩
theorem Wd.side(w:Wd G ρ S H){p:Addr}{o:HO}(h:H p=none):Wd G ρ S (aM H p o):=by
 refine⟨w.len,w.nd,λ i ob e=>?_,(dI.new (ex:=[]) h o).tb w.tb Qb,w.to,λ a ha=>?_⟩
 rotate_left
 ·obtain⟨xs,q⟩:=w.an a ha
  exact⟨xs,by rw[aY (fM q h)];exact q⟩
 obtain⟨a,h1,h2⟩:=w.at' i ob e
 exact⟨a,h1,h2.ext' (w.sside h) λ u q=>by rw[aY (fM q h)];exact q⟩
theorem Wd.notin(w:Wd G ρ S H){p:Addr}(h:H p=none):p∉ρ:=λ z=>by
 rcases List.mem_append.mp (show p∈ρ.av++ρ.st from z)with z|z
 ·obtain⟨xs,q⟩:=w.an p z
  rw[h]at q;cases q
 obtain⟨i,hi⟩:=List.getElem?_of_mem z
 have hl:i<S.length:=by rw[<-w.len];exact(List.getElem?_eq_some_iff.mp hi).1
 obtain⟨a,h1,h2⟩:=w.at' i _ (List.getElem?_eq_getElem hl)
 rw[hi]at h1;cases h1
 cases q:S[i]with
 |lst ds=>rw[q]at h2;obtain⟨vs,h4,_⟩:=h2;rw[h]at h4;cases h4
 |ins c ns ds=>rw[q]at h2;obtain⟨C,dx,vs,_,h4,_⟩:=h2;rw[h]at h4;cases h4
theorem Wd.stup(w:Wd G ρ S H){p:Addr}{ds:List D}{vs:List V}(h:H p=none)(hv:aN G ρ H ds vs):aU G ρ (aM H p (.tup vs)) (.tup ds) (.ref p):=
 ⟨p,vs,rfl,w.notin h,dA,hv.ext (w.sside h)⟩
theorem Wd.slst(w:Wd G ρ S H){p:Addr}{ds:List D}{vs:List V}(h:H p=none)(hv:aN G ρ H ds vs):aU G ρ (aM H p (.lst vs)) (.lst ds) (.ref p):=
 ⟨p,vs,rfl,w.notin h,dA,hv.ext (w.sside h)⟩
theorem Wd.smore(w:Wd G ρ S H){p:Addr}{o:HO}(h:H p=none):bG ρ H (ρ.add p) (aM H p o):=⟨⟨[p],rfl⟩,⟨[],rfl⟩,λ a z n=>by
 rcases Wo.mem_add.mp z with z|z
 ·exact(n z).elim
 ·rw[z];exact h,.new h o,λ a ha _=>aY (w.ane ha h)⟩
theorem Wd.more(w:Wd G ρ S H){p:Addr}{ds:List D}{vs:List V}(h:H p=none)(hv:aN G ρ H ds vs):Wd G (ρ.add p) (S++[.lst ds]) (aM H p (.lst vs)):=by
 have s:bG ρ H (ρ.add p) (aM H p (.lst vs)):=w.smore h
 refine⟨by simp[w.len,Wo.add],?_,λ i ob e=>?_,(dI.new (ex:=[]) h _).tb w.tb Qb,λ P hP z=>?_,λ a ha=>?_⟩
 ·show(ρ.av++(ρ.st++[p])).Nodup
  rw[<-List.append_assoc,List.nodup_append]
  refine⟨w.nd,Qb,λ a ha b hb z=>?_⟩
  rw[List.mem_singleton.mp hb]at z
  exact w.notin h (z▸ha)
 rotate_left
 ·rcases Wo.mem_add.mp z with z|z
  ·exact w.to P hP z
  ·obtain⟨ps,q,_⟩:=w.tb P hP
   rw[z,h]at q;cases q
 ·obtain⟨xs,q⟩:=w.an a ha
  exact⟨xs,by rw[aY (fM q h)];exact q⟩
 ·by_cases hi:i<S.length
  ·rw[List.getElem?_append_left hi]at e
   obtain⟨a,h1,h2⟩:=w.at' i ob e
   exact⟨a,s.get h1,h2.ext' s λ u q=>by rw[aY (fM q h)];exact q⟩
  ·rw[List.getElem?_append_right Qa]at e
   have h0:i-S.length=0:=by
    have:=(List.getElem?_eq_some_iff.mp e).1
    simp at this;omega
   rw[h0]at e
   simp at e
   subst e
   refine⟨p,?_,vs,dA,hv.ext s⟩
   show(ρ.st++[p])[i]? =some p
   rw[List.getElem?_append_right (by rw[w.len];omega),w.len,h0]
   rfl
theorem bG.put{i:Nat}{p:Addr}{o:HO}(h:ρ.st[i]? =some p):bG ρ H ρ (aM H p o):=⟨⟨[],Qb⟩,⟨[],rfl⟩,λ _ h n=>(n h).elim,.put (Wo.mem_st h) o,λ a _ hn=>aY λ z=>hn (z▸List.mem_of_getElem? h)⟩
theorem Wd.put(w:Wd G ρ S H){p:Addr}{i:Nat}{ds:List D}{vs:List V}(hp:ρ.st[i]? =some p)(hv:aN G ρ H ds vs):Wd G ρ (S.set i (.lst ds)) (aM H p (.lst vs)):=by
 have s:bG ρ H ρ (aM H p (.lst vs)):=.put hp
 refine⟨by simp[w.len],w.nd,λ j ob e=>?_,(dI.put (ex:=ρ.all) (Wo.mem_st hp) _).tb w.tb λ P hP=>w.tout hP,w.to,λ a ha=>?_⟩
 rotate_left
 ·obtain⟨xs,q⟩:=w.an a ha
  by_cases e:a=p
  ·exact⟨vs,by rw[e,dA]⟩
  ·exact⟨xs,by rw[aY e];exact q⟩
 rw[List.getElem?_set]at e
 by_cases hj:i=j
 ·subst hj
  rw[if_pos rfl]at e
  have hi:i<S.length:=by rw[<-w.len];exact(List.getElem?_eq_some_iff.mp hp).1
  rw[if_pos hi]at e
  cases e
  exact⟨p,hp,vs,dA,hv.ext s⟩
 ·rw[if_neg hj]at e
  obtain⟨a,h1,h2⟩:=w.at' j ob e
  refine⟨a,h1,h2.ext' s λ u q=>?_⟩
  rw[aY]
  ·exact q
  ·rintro rfl
   have e1:=List.getElem?_eq_some_iff.mp h1
   have e2:=List.getElem?_eq_some_iff.mp hp
   obtain⟨l1,e1⟩:=e1
   obtain⟨l2,e2⟩:=e2
   exact hj ((List.getElem_inj (List.nodup_append.mp w.nd).2.1).mp (e2.trans e1.symm))
end
section
variable{G:Gd}{ρ:Wo}{H H':Hp}{S:aD}
theorem Wd.odd(w:Wd G ρ S H){a:Addr}{o:HO}(h:H a=some o)(h1:∀xs,o≠ .lst xs)(h2:∀C dx fs,o≠ .ins C dx fs):a∉ρ:=λ z=>by
 rcases List.mem_append.mp (show a∈ρ.av++ρ.st from z)with z|z
 ·obtain⟨xs,q⟩:=w.an a z
  rw[h]at q;cases q;exact h1 _ rfl
 ·obtain⟨i,hi⟩:=List.getElem?_of_mem z
  have hl:i<S.length:=by rw[<-w.len];exact(List.getElem?_eq_some_iff.mp hi).1
  obtain⟨b,k1,k2⟩:=w.at' i _ (List.getElem?_eq_getElem hl)
  rw[hi]at k1;cases k1
  cases q:S[i]with
  |lst ds=>rw[q]at k2;obtain⟨vs,h4,_⟩:=k2;rw[h]at h4;cases h4;exact h1 _ rfl
  |ins c ns ds=>rw[q]at k2;obtain⟨C,dx,vs,_,h4,_⟩:=k2;rw[h]at h4;cases h4;exact h2 _ _ _ rfl
end
noncomputable def cO(G:Gd)(ρ:Wo)(H:Hp)(η:En)(σ:St):Prop:=η.length=σ.length/\∀(i:Nat) d,η[i]? =some (some d)->∃v,σ[i]? =some (some v)/\aU G ρ H d v
theorem cO.ext{G:Gd}{ρ ρ':Wo}{H H':Hp}{η:En}{σ:St}(s:bG ρ H ρ' H')(h:cO G ρ H η σ):cO G ρ' H' η σ:=⟨h.1,λ i d e=>by
 obtain⟨v,h1,h2⟩:=h.2 i d e
 exact⟨v,h1,h2.ext s⟩⟩
theorem cO.set{G:Gd}{ρ:Wo}{H:Hp}{η:En}{σ:St}{i:Nat}{d:D}{v:V}(h:cO G ρ H η σ)(hv:aU G ρ H d v):cO G ρ H (η.set i (some d)) (σ.set i (some v)):=⟨by simp[h.1],λ j d' e=>by
 rw[List.getElem?_set]at e⊢
 by_cases hj:i=j
 ·subst hj
  rw[if_pos rfl]at e⊢
  by_cases hi:i<η.length
  ·rw[if_pos hi]at e
   cases e
   rw[if_pos (by rw[<-h.1];exact hi)]
   exact⟨v,rfl,hv⟩
  ·rw[if_neg hi]at e;cases e
 ·rw[if_neg hj]at e⊢
  exact h.2 j d' e⟩
noncomputable def Pt(G:Gd)(ρ:Wo)(H:Hp)(x:D)(e C:Addr)(dd:Option Addr):Prop:=aU G ρ H x (.ref e)/\H e=some (fO e C dd)/\∃c ns ds,x= .exc c ns ds/\G.cl c=some C
noncomputable def Af{α β:Type}(G:Gd)(U:SK)(ρ:Wo)(σ:St)(H:Hp)(R:Wo->Hp->α->β->Prop)(Q:β->Hp->Prop):Rs α->Prop
 |.ok d S'=>∀ρ' H' v,bG ρ H ρ' H'->Wd G ρ' S' H'->R ρ' H' d v->Q v H'
 |.exc x S'=>∀ρ' H' e C dd,bG ρ H ρ' H'->Wd G ρ' S' H'->Pt G ρ' H' x e C dd->U σ e C dd H'
 |.bad=>False
noncomputable def tE(G:Gd)(U:SK)(g:EE):TE:=λ σ H Q=>∃ρ S η,Wd G ρ S H/\cO G ρ H η σ/\Af G U ρ σ H (aU G) Q (g η S)
noncomputable def tA(G:Gd)(U:SK)(g:En->EM (List D)):TA:=λ σ H Q=>∃ρ S η,Wd G ρ S H/\cO G ρ H η σ/\Af G U ρ σ H (aN G) Q (g η S)
noncomputable def IsB(_:Wo)(_:Hp)(a b:Bool):Prop:=a=b
noncomputable def tT(G:Gd)(U:SK)(g:En->EM Bool):TT:=λ σ H Q=>∃ρ S η,Wd G ρ S H/\cO G ρ H η σ/\Af G U ρ σ H IsB Q (g η S)
noncomputable def cZ(G:Gd)(U:SK)(ρ:Wo)(H:Hp)(F:jZ):Rw->Prop
 |.ok .nx η' S'=>∀ρ' H' σ',bG ρ H ρ' H'->Wd G ρ' S' H'->cO G ρ' H' η' σ'->F.nx σ' H'
 |.ok .bk η' S'=>∀ρ' H' σ',bG ρ H ρ' H'->Wd G ρ' S' H'->cO G ρ' H' η' σ'->F.bk σ' H'
 |.ok .ct η' S'=>∀ρ' H' σ',bG ρ H ρ' H'->Wd G ρ' S' H'->cO G ρ' H' η' σ'->F.ct σ' H'
 |.ok (.rt d) _ S'=>∀ρ' H' v,bG ρ H ρ' H'->Wd G ρ' S' H'->aU G ρ' H' d v->F.rt v H'
 |.exc x η' S'=>∀ρ' H' σ' e C dd,bG ρ H ρ' H'->Wd G ρ' S' H'->cO G ρ' H' η' σ'->Pt G ρ' H' x e C dd->U σ' e C dd H'
 |.bad=>False
noncomputable def tS(G:Gd)(U:SK)(g:ES):TS:=λ F σ H=>∃ρ S η,Wd G ρ S H/\cO G ρ H η σ/\cZ G U ρ H F (g η S)
noncomputable def Rs.st{α:Type}(r:Rs α)(η:En)(k:α->aD->Rw):Rw:=match r with
 |.ok a S=>k a S
 |.exc e S=>.exc e η S
 |.bad=>.bad
section
variable{G:Gd}{U:SK}{ρ ρ':Wo}{σ:St}{H H':Hp}{α β γ δ:Type}{R:Wo->Hp->α->β->Prop}{R':Wo->Hp->γ->δ->Prop}
theorem Af.step{Q:β->Hp->Prop}{r:Rs α}(s:bG ρ H ρ' H')(h:Af G U ρ σ H R Q r):Af G U ρ' σ H' R Q r:=by
 cases r with
 |ok d S'=>exact λ ρ2 H2 v t w i=>h ρ2 H2 v (s.trans t) w i
 |exc x S'=>exact λ ρ2 H2 e C dd t w i=>h ρ2 H2 e C dd (s.trans t) w i
 |bad=>exact h
theorem cZ.step{F:jZ}{r:Rw}(s:bG ρ H ρ' H')(h:cZ G U ρ H F r):cZ G U ρ' H' F r:=by
 cases r with
 |ok f η S'=>
  cases f with
  |rt d=>exact λ ρ2 H2 v t w i=>h ρ2 H2 v (s.trans t) w i
  |nx=>exact λ ρ2 H2 v t w i=>h ρ2 H2 v (s.trans t) w i
  |bk=>exact λ ρ2 H2 v t w i=>h ρ2 H2 v (s.trans t) w i
  |ct=>exact λ ρ2 H2 v t w i=>h ρ2 H2 v (s.trans t) w i
 |exc x η S'=>exact λ ρ2 H2 σ' e C dd t w i j=>h ρ2 H2 σ' e C dd (s.trans t) w i j
 |bad=>exact h
theorem Af.into{Q:β->Hp->Prop}{Q':δ->Hp->Prop}{r:Rs γ}{k:γ->EM α}(h:Af G U ρ σ H R Q (r.bind k))
  (f:∀(v:δ) (ρ1:Wo) (H1:Hp) (S1:aD) (d:γ),bG ρ H ρ1 H1->Wd G ρ1 S1 H1->R' ρ1 H1 d v->Af G U ρ1 σ H1 R Q (k d S1)->Q' v H1):Af G U ρ σ H R' Q' r:=by
 cases r with
 |ok d S'=>exact λ ρ1 H1 v s w i=>f v ρ1 H1 S' d s w i (Af.step s h)
 |exc x S'=>exact h
 |bad=>exact h
theorem cZ.into{F:jZ}{Q':δ->Hp->Prop}{r:Rs γ}{η:En}{k:γ->aD->Rw}(i:cO G ρ H η σ)(h:cZ G U ρ H F (r.st η k))
  (f:∀(v:δ) (ρ1:Wo) (H1:Hp) (S1:aD) (d:γ),bG ρ H ρ1 H1->Wd G ρ1 S1 H1->R' ρ1 H1 d v->cZ G U ρ1 H1 F (k d S1)->Q' v H1):Af G U ρ σ H R' Q' r:=by
 cases r with
 |ok d S'=>exact λ ρ1 H1 v s w iv=>f v ρ1 H1 S' d s w iv (cZ.step s h)
 |exc x S'=>exact λ ρ1 H1 e C dd s w iv=>h ρ1 H1 σ e C dd s w (i.ext s) iv
 |bad=>exact h
theorem Af.rD{Q:VK}{S:aD}{op:D->D->EM D}{d e:D}{x y:V}(w:Wd G ρ S H)(hd:aU G ρ H d x)(he:aU G ρ H e y)(nx:∀z S',op d e S≠ .exc z S')(h:Af G U ρ σ H (aU G) Q (op d e S)):
  ∃ρ S d e,Wd G ρ S H/\aU G ρ H d x/\aU G ρ H e y/\∃z S',op d e S= .ok z S'/\∀ρ' H' v,bG ρ H ρ' H'->Wd G ρ' S' H'->aU G ρ' H' z v->Q v H':=by
 refine⟨ρ,S,d,e,w,hd,he,?_⟩
 cases q:op d e S with
 |ok z S'=>rw[q]at h;exact⟨z,S',rfl,h⟩
 |exc z S'=>exact(nx z S' q).elim
 |bad=>rw[q]at h;exact h.elim
end
section
variable{X:Cx}
theorem PE.mono{e:Expr}{t t':TE}(h:PE X e t)(k:∀σ H Q,t' σ H Q->t σ H Q):PE X e t':=λ pins s σ H Q I q=>h pins s σ H Q I (k _ _ _ q)
theorem PT.mono{e:Expr}{t t':TT}(h:PT X e t)(k:∀σ H Q,t' σ H Q->t σ H Q):PT X e t':=λ pins s σ H Q I q=>h pins s σ H Q I (k _ _ _ q)
theorem PA.mono{e:List Expr}{t t':TA}(h:PA X e t)(k:∀σ H Q,t' σ H Q->t σ H Q):PA X e t':=λ pos pins s σ H Q I q=>h pos pins s σ H Q I (k _ _ _ q)
theorem PS.mono{e:Stmt}{t t':TS}(h:PS X e t)(k:∀σ H Q,t' Q σ H->t Q σ H):PS X e t':=λ pins s σ H Q I q=>h pins s σ H Q I (k _ _ _ q)
theorem PE.bad{e:Expr}{G:Gd}{U:SK}{g:EE}(h:∀η S,g η S= .bad):PE X e (tE G U g):=λ pins s σ H Q I ⟨ρ,S,η,_,_,q⟩=>by rw[h]at q;exact q.elim
theorem PT.bad{e:Expr}{G:Gd}{U:SK}{g:En->EM Bool}(h:∀η S,g η S= .bad):PT X e (tT G U g):=λ pins s σ H Q I ⟨ρ,S,η,_,_,q⟩=>by rw[h]at q;exact q.elim
theorem PS.bad{e:Stmt}{G:Gd}{U:SK}{g:ES}(h:∀η S,g η S= .bad):PS X e (tS G U g):=λ pins s σ H Q I ⟨ρ,S,η,_,_,q⟩=>by rw[h]at q;exact q.elim
theorem eB.bad{e:List Stmt}{G:Gd}{U:SK}{g:ES}(h:∀η S,g η S= .bad):eB X e (tS G U g):=λ pins s σ H Q I ⟨ρ,S,η,_,_,q⟩=>by rw[h]at q;exact q.elim
theorem PE.or{e:Expr}{t t':TE}(h:PE X e t)(h':PE X e t'):PE X e (λ σ H Q=>t σ H Q\/t' σ H Q):=λ pins s σ H Q I q=>q.elim (h pins s σ H Q I) (h' pins s σ H Q I)
end
open AutoSeq1 (wpAny_loadPart')
theorem XQ:bootBuiltins ("enumerate" :Str)=some (.type "enumerate"):=by decide+kernel
theorem aE.turnedNew{X:Cx}{pins:List (Addr×Obj)}{σ:St}{H:Hp}{s:Shared}{h':Heap}{t':Nat}{fp:List Addr}{T:Addr}{xs:List V}{its:List Value}(I:aE X pins σ H s)(hf:∀b∈fp,eL X pins H b)(k:∀b o,b∉fp->s.heap.get? b=some o->h'.get? b=some o)
  (hx:∀b∈fp,∃o,h'.get? b=some o) (hT:s.heap.objs.size<=T) (ht:IsTup h' T its.toArray/\∃o,h'.get? T=some o/\o.dict=none) (r:aW xs its) (hl:xs.length<=sizeLine):aE X pins σ (aM H T (.tup xs)) {s with heap:=h',toks:=t'}:=by
 have fr:H T=none:=I.hok.fresh hT
 have nT:∀{b o},s.heap.get? b=some o->b≠T:=λ z y=>absurd (Heap.lt_size z) (Nat.not_lt.mpr (y▸hT))
 have kH:∀b u,H b=some u->aM H T (.tup xs) b=some u:=λ b u z=>by rw[aY (λ y=>by rw[y,fr]at z;cases z)];exact z
 have nf:∀b u,H b=some u->b∉fp:=λ b u z y=>by rw[(hf b y).1]at z;cases z
 refine I.step (g':=s.gens) (d':=s.drawn) (ch:=fp) (λ b hb=>⟨(hf b hb).2.2.2.1,(hf b hb).2.1,(hf b hb).2.2.2.2.1,(hf b hb).2.2.2.2.2⟩) (λ b o _ _ hb z _=>k b o hb z) (λ b o _ _ hb z _=>⟨o.slots,k b o hb z⟩) (λ b o _ z n=>by rw[aY (nT z)];exact n)
  (λ b o hb z=>⟨o,k b o hb z⟩) (λ b ys z=>kH b _ z) (λ b o u z=>kH b _ z) (λ b ps z=>⟨#[],by rw[kH b _ z];simp⟩) (λ m hn=>?_) (λ b u z=>?_) ⟨I.bare.1,Nat.le_refl _⟩
 ·obtain⟨o,es,ep,ho,rr⟩:=hn
  exact⟨o,es,ep,k _ o (λ y=>(hf _ y).2.1 rfl) ho,rr⟩
 ·by_cases hb:b=T
  ·subst hb
   rw[dA]at z
   cases z
   exact⟨hl,its,r,ht⟩
  ·rw[aY hb]at z
   refine(I.hok b u z).stay (λ c v hc y=>k c v (λ x=>?_) y) (λ c y=>kH c _ y) (λ c ys y=>kH c _ y)
   rcases hc with e|e
   ·rw[e]at x;exact nf b u z x
   ·exact nf c _ e x
section
variable{prog:Program}{w:World}{A:Around}{E:Qd}{s:Shared}
theorem IQ{it l:Addr}{i:Nat}{items:Array Value}{x:Value}{Q:Qd}(hit:s.heap.IsTupleIter it l i)(hl:s.heap.IsTuple l items)(hx:items[i]? =some x)
  (hQ:∀h',h'.IsTupleIter it l (i+1)->Heap.SameBut it s.heap h'->Q x {s with heap:=h'}):wpAny (model prog w) A (Builtin.SmallTypes.nextOf (.ref it)) Q E s:=by
 obtain⟨o,ho,hc,hd⟩:=id hit
 obtain⟨ol,hol,_,nl,hdl⟩:=hl
 unfold Builtin.SmallTypes.nextOf
 refine wpAny_bind (wpAny_callSpecial?_slot (name:=Str.ofString "__next__") hit.typeIs F.slot_tuple_iterator_next (wpAny_call_entry F.slot_tuple_iterator_next hit.typeIs F.entry_tuple_iterator_next ?_ (F.args_tuple_iterator_next_1 _)))
 show wpAny _ _ (field (.ref it) 0>>=_) _ _ s
 refine wpAny_bind (wpAny_field ho hd (x:=.ref l) rfl ?_)
 show wpAny _ _ (if(Value.ref l==Value.none)=true then _ else _) _ _ s
 rw[if_neg Qb]
 show wpAny _ _ (field (.ref it) 1>>=_) _ _ s
 refine wpAny_bind (wpAny_field ho hd (x:=.int i 0) rfl ?_)
 show wpAny _ _ (seqItems? (.ref l)>>=_) _ _ s
 refine wpAny_bind (wpAny_seqItems hol hdl ?_)
 simp only[Int.toNat_natCast,hx]
 refine wpAny_bind (wpAny_setField ho hd Qb (wpAny_pure ⟨x,rfl,wpAny_pure (hQ _ ⟨_,Heap.get?_update_self _ ho (Obj.isFreed_of_fields (Obj.data_mapFields hd _)),(Obj.cls_mapFields ..).trans hc,?_⟩ (Heap.SameBut.update ..))⟩))
 rw[Obj.data_mapFields hd];simp[rawInt]
theorem Ib{it l:Addr}{i:Nat}{items:Array Value}{Q:Qd}(hh:A.handled=none)(hit:s.heap.IsTupleIter it l i)(hl:s.heap.IsTuple l items)(hx:items[i]? =none)
  (hE:∀h' e,Heap.ExtBut it s.heap h'->(∃o,h'.get? e=some o/\o.cls= .type "StopIteration")->E (.ref e) {s with heap:=h'}):wpAny (model prog w) A (Builtin.SmallTypes.nextOf (.ref it)) Q E s:=by
 obtain⟨o,ho,hc,hd⟩:=id hit
 obtain⟨ol,hol,_,nl,hdl⟩:=hl
 unfold Builtin.SmallTypes.nextOf
 refine wpAny_bind (wpAny_callSpecial?_slot (name:=Str.ofString "__next__") hit.typeIs F.slot_tuple_iterator_next (wpAny_call_entry F.slot_tuple_iterator_next hit.typeIs F.entry_tuple_iterator_next ?_ (F.args_tuple_iterator_next_1 _)))
 show wpAny _ _ (field (.ref it) 0>>=_) _ _ s
 refine wpAny_bind (wpAny_field ho hd (x:=.ref l) rfl ?_)
 show wpAny _ _ (if(Value.ref l==Value.none)=true then _ else _) _ _ s
 rw[if_neg Qb]
 show wpAny _ _ (field (.ref it) 1>>=_) _ _ s
 refine wpAny_bind (wpAny_field ho hd (x:=.int i 0) rfl ?_)
 show wpAny _ _ (seqItems? (.ref l)>>=_) _ _ s
 refine wpAny_bind (wpAny_seqItems hol hdl ?_)
 simp only[Int.toNat_natCast,hx]
 refine wpAny_bind (wpAny_rule (wpAny_bind (wpAny_setField ho hd Qb ?_)))
 show wpAny _ _ (newExc (.type "StopIteration") []>>=_) _ _ _
 refine wpAny_bind ?_
 simp only[newExc,newTuple]
 refine wpAny_bind (wpAny_newObj_type (wpAny_bind (m:=firstArgMember _ _) (wpAny_of_eq (a:=Value.none) (by first|rfl|(simp only[firstArgMember];rfl)) (wpAny_newObj_type ?_ (by size_fits)))) (by size_fits))
 simp only[raiseNew]
 refine wpAny_bind (wpAny_handled ?_)
 rw[show A.in1.handled=none from hh]
 exact wpAny_bind (wpAny_pure (wpAny_throw (hE _ _ (((Heap.SameBut.update ..).extBut.push _).push _) ⟨_,Heap.get?_push_size _ rfl,rfl⟩)))
end
theorem _root_.PySem.Draws.tuple{prog:Program}{w:World}{A:Around}(hh:A.handled=none)(it l:Addr)(hne:l≠it)(items:Array Value):
  Draws prog w A it [it,l] items.size (λ i v=>items[i]? =some v) (λ i h=>h.IsTupleIter it l i/\h.IsTuple l items) where
 live:=λ _ _ st=>let⟨o,ho,_⟩:=st.1;⟨o,ho⟩
 frame:=λ _ _ _ st hk=>⟨st.1.at λ o e=>hk it Qb o e,st.2.at λ o e=>hk l Qb o e⟩
 item:=λ i s Q E hi st hQ=>IQ st.1 st.2 (x:=items[i]) (by simp[hi]) λ h' hit' hs'=>hQ _ h' s.toks (by simp[hi]) ⟨hit',st.2.extBut hs'.extBut hne⟩ hs'
 done:=λ s Q E st hE=>Ib hh st.1 st.2 Qb hE
section
variable{prog:Program}{w:World}{A:Around}{E:Qd}{s:Shared}
theorem PF{e it l:Addr}{i:Nat}{items:Array Value}{old:Value}{Q:Option Value->Shared->Prop}(hh:A.handled=none)(he:IsEnum s.heap e it i old)(hit:s.heap.IsTupleIter it l i)(hl:s.heap.IsTuple l items)(hx:items[i]? =none)
  (hQ:∀h',Heap.ExtBut it s.heap h'->Q none {s with heap:=h'}):wpAny (model prog w) A (pyNext (.ref e)) Q E s:=by
 have hT:s.TypeIs (.ref e) "enumerate" :=⟨_,he,rfl⟩
 unfold pyNext
 refine wpAny_bind (wpAny_attempt (wpAny_callSpecial?_slot (name:=Str.ofString "__next__") hT F.slot_enumerate_next (wpAny_call_entry F.slot_enumerate_next hT F.entry_enumerate_next ?_ (F.args_enumerate_next_1 _))))
 show wpAny _ _ (field (.ref e) 2>>=_) _ _ _
 refine wpAny_bind (wpAny_field he rfl (x:=.ref it) rfl (wpAny_bind (Ib hh hit hl hx λ h' x eb ⟨o,ho,hc⟩=>?_)))
 exact wpAny_bind (wpAny_isInstance (T:= "StopIteration") (b:=true) ⟨o,ho,hc⟩ isSubtype_stop (wpAny_pure (hQ _ eb)))
theorem IT(l:Addr)(items:Array Value)(o:Obj)(hc:o.cls= .type "tuple")(n:Nat)(hd:o.data= .seq items n):
  Meets (Builtin.«enumerate.__new__» ⟨[.type "enumerate",.ref l],[]⟩) (λ _ R s=>s.heap.get? l=some o/\R (.ok (.ret (.ref (s.heap.push {cls:=.type "tuple_iterator",data:=.fields #[.ref l,.int 0 0]}).objs.size)))
   {s with heap:=(s.heap.push {cls:=.type "tuple_iterator",data:=.fields #[.ref l,.int 0 0]}).push {cls:=.type "enumerate",data:=.fields #[.none,.bool false,.ref s.heap.objs.size,rawInt 0,.none,.none]}}):=by
 obtain⟨c,dct,dt,sl⟩:=o
 replace hc:c= .type "tuple" :=hc
 replace hd:dt= .seq items n:=hd
 subst hc hd
 exact .of_wp λ prog w A R s h=>by
  obtain⟨hp,g,d,tk,os⟩:=s;obtain⟨hl,h⟩:=h
  have hsub:=sub_enumerate
  have hL:Heap.IsTuple (Shared.heap ⟨hp,g,d,tk,os⟩) l items:=⟨_,hl,rfl,n,rfl⟩
  wp_walk using wpAny_loadPart' hl
  refine wpAny_stack_any λ st=>wpAny_pure ?_
  split
  ·rename_i c _ _ _ _ _
   cases(c==Value.type "enumerate")<;>(wp_walk using wpAny_loadPart' hl,wpAny_pyIter_tuple hL;exact⟨_,rfl,h⟩)
  ·wp_walk using wpAny_loadPart' hl,wpAny_pyIter_tuple hL;exact⟨_,rfl,h⟩
theorem TM{l:Addr}{items:Array Value}{Q:Qd}(hL:s.heap.IsTuple l items)
  (h:∀h',IsEnum h' (s.heap.objs.size+1) s.heap.objs.size 0 .none->h'.IsTupleIter s.heap.objs.size l 0->(∀b o,s.heap.get? b=some o->h'.get? b=some o)->Q (.ref (s.heap.objs.size+1)) {s with heap:=h'}):
  wpAny (model prog w) A (call (.type "enumerate") [.ref l]) Q E s:=by
 obtain⟨o,hl,hc,n,hd⟩:=hL
 refine callType_new F.called_enumerate Qc (F.typeCall_enumerate_1 _) (F.newCall_enumerate_1 _) (λ obj=>F.args_object_init_2 obj _) F.entry_enumerate_new (IT l items o hc n hd) ⟨hl,?_⟩
 have hz:(s.heap.push {cls:=.type "tuple_iterator",data:=.fields #[.ref l,.int 0 0]}).objs.size=s.heap.objs.size+1:=Heap.size_push ..
 show _/\_
 rw[hz]
 have he:IsEnum ((s.heap.push {cls:=.type "tuple_iterator",data:=.fields #[.ref l,.int 0 0]}).push {cls:=.type "enumerate",data:=.fields #[.none,.bool false,.ref s.heap.objs.size,rawInt 0,.none,.none]}) (s.heap.objs.size+1) s.heap.objs.size 0 .none:=
  Heap.get?_push_at hz.symm rfl
 exact⟨⟨_,he,rfl⟩,h _ he ⟨_,Heap.get?_push_of_some _ (Heap.get?_push_size _ rfl),rfl,rfl⟩ λ b o x=>Heap.get?_push_of_some _ (Heap.get?_push_of_some _ x)⟩
end
noncomputable def Dk(K:PySem.W.Frag)(a:Addr):It:=
 ⟨λ i H=>∃xs x,bE K H a xs/\xs[i]? =some x,λ i H v H'=>∃T x,v= .ref T/\H T=none/\H'=aM H T (.tup [.int i,x])/\∀xs,bE K H a xs->xs[i]? =some x,λ i H=>∃xs,bE K H a xs/\xs.length<=i⟩
theorem Td{P:Program}{w:World}{K:PySem.W.Frag}{elts:List Expr}{k}{pos:Pos}(a e it:Addr)(hne:e≠it):iR P w K (.Tuple elts k pos) (Dk K a) [e,it] e (λ i h=>(∃old,IsEnum h e it i old)/\h.IsTupleIter it a i) where
 mem:=by simp
 obj:=λ i h st b hb=>by
  obtain⟨⟨old,he⟩,o,ho,hc,hd⟩:=st
  rcases List.mem_cons.mp hb with rfl|hb
  ·exact⟨_,he,λ v z=>by cases z⟩
  ·rw[show b=it by simpa using hb]
   exact⟨o,ho,λ v z=>by rw[hd]at z;cases z⟩
 keep:=λ i h h' st kk=>by
  obtain⟨⟨old,he⟩,hit⟩:=st
  exact⟨⟨old,kk e Qb _ he⟩,hit.at λ o z=>kk it Qb o z⟩
 item:=by
  intro X hP hw hK hc i pins s σ H E I hf st hg
  subst hP hw hK
  obtain⟨xs,x,hq,hx⟩:=hg
  obtain⟨its,rv,p,hz⟩:=I.tuple hq
  obtain⟨u,hu,ru⟩:=rv.get hx
  obtain⟨⟨old,he⟩,hit⟩:=st
  have ht:s.heap.IsTuple a its.toArray:=p
  have hi:i<its.toArray.size:=by rw[List.size_toArray];exact(List.getElem?_eq_some_iff.mp hu).1
  have nai:a≠it:=λ z=>by
   obtain⟨o1,q1,c1,_⟩:=ht
   obtain⟨o2,q2,c2,_⟩:=hit
   rw[z,q2]at q1;cases q1;rw[c2]at c1;exact absurd c1 Qc
  have nae:e≠a:=λ z=>by
   obtain⟨o1,q1,c1,_⟩:=ht
   rw[<-z,he]at q1;cases q1;exact absurd (show Value.type "enumerate" = .type "tuple" from c1) Qc
  have D:=Draws.tuple (prog:=X.prog) (w:=X.w) (A:=X.A.in1) (I.ok.hd hc) it a nai its.toArray
  refine wpAny_pyNext_enum_itemD D he ⟨hit,ht⟩ hi hne (by simp[hne,nae]) λ v h' tk hv ho hst hT hsz hk=>?_
  have hv':its[i]? =some v:=by simpa using hv
  rw[hu]at hv'
  cases hv'
  refine⟨_,rfl,wpAny_letOwnedTupleGo_enum (s:={s with heap:=h',toks:=tk+1}) ho λ h2 he2 sb=>?_⟩
  have helt:e<s.heap.objs.size:=Heap.lt_size he
  have hilt:it<s.heap.objs.size:=by obtain⟨_,z,_⟩:=hit;exact Heap.lt_size z
  have nT:s.heap.objs.size≠e:=Nat.ne_of_gt helt
  have hit2:h2.IsTupleIter it a (i+1):=hst.1.at λ o z=>(sb.2 it (Ne.symm hne)).trans z
  obtain⟨o2,q2,_⟩:=id hit2
  have J:aE X pins σ (aM H s.heap.objs.size (.tup [.int i,x])) {s with heap:=h2,toks:=tk+1}:=by
   refine I.turnedNew (fp:=[e,it]) (its:=[.int i tk,u]) hf (λ b o hb z=>(sb.2 b (λ y=>hb (by simp[y]))).trans (hk b o (λ y=>hb (by simp[y])) (λ y=>hb (by simp[y])) z)) (λ b hb=>?_) (Nat.le_refl _) ⟨⟨_,(sb.2 _ nT).trans hT,rfl,0,rfl⟩,_,(sb.2 _ nT).trans hT,rfl⟩ (.cons ⟨tk,rfl⟩ (.cons ru .nil)) (by show 2<=sizeLine;decide)
   rcases List.mem_cons.mp hb with rfl|hb
   ·exact⟨_,he2⟩
   ·rw[show b=it by simpa using hb];exact⟨_,q2⟩
  refine⟨.ref s.heap.objs.size,aM H s.heap.objs.size (.tup [.int i,x]),J,rfl,⟨_,x,rfl,I.hok.fresh (Nat.le_refl _),rfl,λ ys hy=>by rw[I.tuple_inj hy hq];exact hx⟩,⟨⟨_,by simpa using he2⟩,hit2⟩,λ b hb=>?_⟩
  ·have:b<s.heap.objs.size:=by
    rcases List.mem_cons.mp hb with rfl|hb
    ·exact helt
    ·rw[show b=it by simpa using hb];exact hilt
   rw[aY (Nat.ne_of_lt this)]
   exact(hf b hb).1
 done:=by
  intro X hP hw hK hc i pins s σ H E I hf st hg
  subst hP hw hK
  obtain⟨xs,hq,hx⟩:=hg
  obtain⟨its,rv,p,hz⟩:=I.tuple hq
  obtain⟨⟨old,he⟩,hit⟩:=st
  have ht:s.heap.IsTuple a its.toArray:=p
  have hl:=rv.length
  obtain⟨f0,f1,f2,f3,f4,f5⟩:=hf it Qb
  exact PF (I.ok.hd hc) he hit ht (by simp;omega) λ h' eb=>⟨rfl,I.turned (t':=s.toks) (λ b o hb z=>eb b o hb z) f0 f1 f3 f4 f5⟩
 self:=λ _ _ _ _ _ st h=>by
  obtain⟨⟨old,he⟩,_⟩:=st
  exact wpAny_pyIter_enum he h
section
variable{X:Cx}{elts:List Expr}{k:Nat}{tpos:Pos}
noncomputable def NF(K:PySem.W.Frag)(ta:TA):TI:=λ σ H R=>ta σ H λ vs H1=>∃a,vs=[.ref a]/\(∃xs,bE K H1 a xs)/\R (Dk K a) H1
theorem EK{l:Expr}{ta:TA}{p pos:Pos}(hg:Gl X "enumerate")(hm:X.mg "enumerate" =none)(ha:PA X [l] ta)(hs:starEach [l] X.env=[(false,eval l X.env)]:=by rfl):PI X (.Tuple elts k tpos) (.Call (.Name "enumerate" p) [l] [] pos) (NF X.K ta):=by
 intro pins s σ H R I h
 refine Call_ (jR I hg hm XQ (PyProof.Rows.callWith_type1 (aT (ha pos pins s σ H _ I h) λ us s1 ⟨vs,H1,I1,r1,q1⟩=>?_) hs rfl))
 obtain⟨a,e,⟨xs,hq⟩,q⟩:=q1
 subst e
 cases r1 with
 | cons r rr=>
  cases rr
  cases r
  obtain⟨its,rv,pp,hz⟩:=I1.tuple hq
  refine TM (s:=s1) (show s1.heap.IsTuple a its.toArray from pp) λ h' he hit kp=>wpAny_pyIter_enum (s:={s1 with heap:=h'}) he ?_
  refine⟨s1.heap.objs.size+1,[s1.heap.objs.size+1,s1.heap.objs.size],_,_,H1,rfl,I1.kept (t':=s1.toks) kp,Td a _ _ Qb,⟨⟨_,he⟩,hit⟩,λ b hb=>?_,q⟩
  have:s1.heap.objs.size<=b:=by
   rcases List.mem_cons.mp hb with rfl|hb
   ·exact Nat.le_succ _
   ·rw[show b=s1.heap.objs.size by simpa using hb];exact Nat.le_refl _
  exact I1.fpOk this (I1.hok.fresh this)
end
section
variable{prog:Program}{w:World}{A:Around}{E:Qd}{s:Shared}
end
section
variable{X:Cx}{elts:List Expr}{k:Nat}{tpos:Pos}
end
end L2
namespace L2
open PySem PySem.Spec PyProof.Rows PySem.Builtin PySem.Builtin.Str
section
variable{X:Cx}
end
end L2
namespace L2
open PySem PySem.Spec PyProof.Rows
structure ZA(z TI TO i j:Addr)(fp gp:List Addr):Prop where
 nd:[z,TI,TO,i,j].Nodup
 f:∀b∈fp,b≠z/\b≠TO/\b≠j/\b≠TI
 g:∀b∈gp,b≠z/\b≠TO/\b≠i/\b≠TI
theorem Om:bootBuiltins ("zip" :Str)=some (.type "zip"):=by decide+kernel
section
variable{prog:Program}{w:World}{A:Around}{E:Qd}{s:Shared}{z TI TO i j:Addr}{fp gp:List Addr}{n m k:Nat}{P R:Nat->Value->Prop}{St Su:Nat->Heap->Prop}{a b:Value}
theorem Re{Q:Qd}(Z:ZA z TI TO i j fp gp)(D:Draws prog w A i fp n P St)(G:Draws prog w A j gp m R Su)(hz:IsZip s.heap z TI TO .none)(hI:IsPair s.heap TI (.ref i) (.ref j))(hO:IsPair s.heap TO a b)(h1:St k s.heap)(h2:Su k s.heap)(hk:k<n)(hm:k<m)
  (hQ:∀x y h' tk,P k x->R k y->IsZip h' z TI TO (rawInt s.heap.objs.size)->IsPair h' TI (.ref i) (.ref j)->IsPair h' TO x y->St (k+1) h'->Su (k+1) h'->IsPair h' s.heap.objs.size x y->(∀c o,c∉[z,TO,i,j]->s.heap.get? c=some o->h'.get? c=some o)->Q (.ref s.heap.objs.size) {s with heap:=h',toks:=tk}):
  wpAny (model prog w) A (Builtin.«zip.__next__» ⟨[.ref z],[]⟩) (λ fin s'=>∃v,fin= .done (.ret v)/\Q v s') E s:=by
 have nd:=Z.nd
 simp only[List.nodup_cons,List.mem_cons,List.not_mem_nil,or_false,not_or,List.nodup_nil,and_true,not_false_eq_true]at nd
 obtain⟨⟨nzI,nzO,nzi,nzj⟩,⟨nIO,nIi,nIj⟩,⟨nOi,nOj⟩,nij⟩:=nd
 obtain⟨hp,g,d,t0,os⟩:=s
 show wpAny _ _ (field (.ref z) 2>>=_) _ _ _
 refine wpAny_bind (wpAny_field hz rfl (x:=.bool false) rfl ?_)
 show wpAny _ _ (field (.ref z) 3>>=_) _ _ _
 refine wpAny_bind (wpAny_field hz rfl (x:=.ref TI) rfl (wpAny_bind (wpAny_seqItems hI rfl ?_)))
 show wpAny _ _ (Builtin.SmallTypes.ownedTupleIsFree (.ref z)>>=_) _ _ _
 refine wpAny_bind ?_
 unfold Builtin.SmallTypes.ownedTupleIsFree
 refine wpAny_bind (wpAny_field hz rfl (x:=.none) rfl (wpAny_pure ?_))
 simp only[if_true]
 refine wpAny_bind (wpAny_rule (wpAny_bind (wpAny_field hz rfl (x:=.ref TO) rfl (wpAny_bind (wpAny_setField_rec hz Qb λ hA zA sA=>wpAny_bind ?_)))))
 replace zA:IsZip hA z TI TO .ellipsis:=zA
 replace sA:Heap.SameBut z hp hA:=sA
 simp only[List.zipIdx_cons,List.zipIdx_nil,List.forIn_cons,List.forIn_nil]
 refine wpAny_bind (wpAny_bind (wpAny_onRaise ?_))
 show wpAny _ _ (Builtin.SmallTypes.nextOf (.ref i)>>=_) _ _ _
 have h1A:St k hA:=D.frame _ _ _ h1 λ b hb o q=>(sA.2 b (Z.f b hb).1).trans q
 refine wpAny_bind (D.item k _ _ _ hk h1A λ x hB tB px h1B sB=>wpAny_pure ?_)
 replace sB:Heap.SameBut i hA hB:=sB
 have OB:IsPair hB TO a b:=(sB.2 _ nOi).trans ((sA.2 _ (Ne.symm nzO)).trans hO)
 refine wpAny_bind (wpAny_seqItems OB rfl (wpAny_bind (wpAny_updateSeq_pair (s:=⟨hB,g,d,tB,os⟩) OB λ hC OC sC=>wpAny_bind (wpAny_letGo (wpAny_pure ?_)))))
 replace OC:IsPair hC TO x b:=OC
 replace sC:Heap.SameBut TO hB hC:=sC
 refine wpAny_bind (wpAny_bind (wpAny_onRaise ?_))
 show wpAny _ _ (Builtin.SmallTypes.nextOf (.ref j)>>=_) _ _ _
 have h2C:Su k hC:=G.frame _ _ _ h2 λ b hb o q=>(sC.2 b (Z.g b hb).2.1).trans ((sB.2 b (Z.g b hb).2.2.1).trans ((sA.2 b (Z.g b hb).1).trans q))
 refine wpAny_bind (G.item k _ _ _ hm h2C λ y hD tD py h2D sD=>wpAny_pure ?_)
 replace sD:Heap.SameBut j hC hD:=sD
 have OD:IsPair hD TO x b:=(sD.2 _ nOj).trans OC
 refine wpAny_bind (wpAny_seqItems OD rfl (wpAny_bind (wpAny_updateSeq_pair (s:=⟨hD,g,d,tD,os⟩) OD λ hE OE sE=>wpAny_bind (wpAny_letGo (wpAny_pure (wpAny_pure ?_))))))
 replace OE:IsPair hE TO x y:=OE
 replace sE:Heap.SameBut TO hD hE:=sE
 refine wpAny_bind (wpAny_seqItems OE rfl (wpAny_bind (wpAny_newTuple ?_)))
 have sz:hE.objs.size=hp.objs.size:=by rw[sE.1,sD.1,sC.1,sB.1,sA.1]
 have zE:IsZip hE z TI TO .ellipsis:=(sE.2 _ nzO).trans ((sD.2 _ nzj).trans ((sC.2 _ nzO).trans ((sB.2 _ nzi).trans zA)))
 have kE:∀c o,c∉[z,TO,i,j]->hp.get? c=some o->hE.get? c=some o:=λ c o hc q=>by
  simp only[List.mem_cons,List.not_mem_nil,or_false,not_or]at hc
  exact(sE.2 _ hc.2.1).trans ((sD.2 _ hc.2.2.2).trans ((sC.2 _ hc.2.1).trans ((sB.2 _ hc.2.2.1).trans ((sA.2 _ hc.1).trans q))))
 have zlt:z<hE.objs.size:=Heap.lt_size zE
 have up1:∀c o,hE.get? c=some o->(hE.push {cls:=.type "tuple",data:=.seq #[x,y]}).get? c=some o:=λ c o q=>Heap.get?_push_of_some _ q
 show wpAny _ _ (Builtin.SmallTypes.ownedTupleHandOut (.ref z) (.ref hE.objs.size)>>=_) _ _ _
 refine wpAny_bind ?_
 unfold Builtin.SmallTypes.ownedTupleHandOut
 refine wpAny_bind (wpAny_setField_rec (up1 _ _ zE) Qb λ hF zF sF=>?_)
 replace zF:IsZip hF z TI TO (rawInt hE.objs.size):=zF
 refine wpAny_setField_rec zF Qb λ hG zG sG=>?_
 replace zG:IsZip hG z TI TO (rawInt hE.objs.size):=zG
 have up:∀c o,c≠z->hE.get? c=some o->hG.get? c=some o:=λ c o hc q=>(sG.2 c hc).trans ((sF.2 c hc).trans (up1 c o q))
 have TG:IsPair hG hE.objs.size x y:=(sG.2 _ (Nat.ne_of_gt zlt)).trans ((sF.2 _ (Nat.ne_of_gt zlt)).trans (Heap.get?_push_size _ rfl))
 rw[sz]at zG TG
 refine wpAny_pure ⟨_,rfl,?_⟩
 show Q (.ref hE.objs.size) _
 rw[sz]
 have st1:St (k+1) hG:=D.frame _ _ _ h1B λ b hb o q=>up b o (Z.f b hb).1 ((sE.2 b (Z.f b hb).2.1).trans ((sD.2 b (Z.f b hb).2.2.1).trans ((sC.2 b (Z.f b hb).2.1).trans q)))
 have st2:Su (k+1) hG:=G.frame _ _ _ h2D λ b hb o q=>up b o (Z.g b hb).1 ((sE.2 b (Z.g b hb).2.1).trans q)
 refine hQ x y hG tD px py zG (up _ _ (Ne.symm nzI) (kE _ _ (by simp[Ne.symm nzI,nIO,nIi,nIj]) hI)) (up _ _ (Ne.symm nzO) OE) st1 st2 TG λ c o hc q=>up c o ?_ (kE c o hc q)
 intro h
 rw[h]at hc
 simp at hc
theorem Rg{Q:Option Value->Shared->Prop}(Z:ZA z TI TO i j fp gp)(D:Draws prog w A.in1 i fp n P St)(hz:IsZip s.heap z TI TO .none)(hI:IsPair s.heap TI (.ref i) (.ref j))(h1:St n s.heap)
  (hQ:∀h',(∀c o,c∉[z,TO,i,j]->s.heap.get? c=some o->h'.get? c=some o)->Q none {s with heap:=h'}):wpAny (model prog w) A (pyNext (.ref z)) Q E s:=by
 have nd:=Z.nd
 simp only[List.nodup_cons,List.mem_cons,List.not_mem_nil,or_false,not_or,List.nodup_nil,and_true,not_false_eq_true]at nd
 obtain⟨⟨nzI,nzO,nzi,nzj⟩,⟨nIO,nIi,nIj⟩,⟨nOi,nOj⟩,nij⟩:=nd
 have hT:s.TypeIs (.ref z) "zip" :=⟨_,hz,rfl⟩
 obtain⟨hp,g,d,t0,os⟩:=s
 unfold pyNext
 refine wpAny_bind (wpAny_attempt (wpAny_callSpecial?_slot (name:=Str.ofString "__next__") hT F.slot_zip_next (wpAny_call_entry F.slot_zip_next hT F.entry_zip_next ?_ (F.args_zip_next_1 _))))
 show wpAny _ _ (field (.ref z) 2>>=_) _ _ _
 refine wpAny_bind (wpAny_field hz rfl (x:=.bool false) rfl ?_)
 show wpAny _ _ (field (.ref z) 3>>=_) _ _ _
 refine wpAny_bind (wpAny_field hz rfl (x:=.ref TI) rfl (wpAny_bind (wpAny_seqItems hI rfl ?_)))
 show wpAny _ _ (Builtin.SmallTypes.ownedTupleIsFree (.ref z)>>=_) _ _ _
 refine wpAny_bind ?_
 unfold Builtin.SmallTypes.ownedTupleIsFree
 refine wpAny_bind (wpAny_field hz rfl (x:=.none) rfl (wpAny_pure ?_))
 simp only[if_true]
 refine wpAny_bind (wpAny_rule (wpAny_bind (wpAny_field hz rfl (x:=.ref TO) rfl (wpAny_bind (wpAny_setField_rec hz Qb λ hA zA sA=>wpAny_bind ?_)))))
 replace zA:IsZip hA z TI TO .ellipsis:=zA
 replace sA:Heap.SameBut z hp hA:=sA
 simp only[List.zipIdx_cons,List.zipIdx_nil,List.forIn_cons,List.forIn_nil]
 refine wpAny_bind (wpAny_bind (wpAny_onRaise ?_))
 show wpAny _ _ (Builtin.SmallTypes.nextOf (.ref i)>>=_) _ _ _
 have h1A:St n hA:=D.frame _ _ _ h1 λ b hb o q=>(sA.2 b (Z.f b hb).1).trans q
 refine wpAny_bind (D.done ⟨hA,g,d,t0,os⟩ _ _ h1A λ hB e sB ⟨oe,he,hce⟩=>?_)
 have zB:IsZip hB z TI TO .ellipsis:=sB _ _ nzi zA
 have nez:e≠z:=λ x=>by subst x;rw[zB]at he;cases he;simp at hce
 refine wpAny_setField_rec zB Qb λ hC _ sC=>?_
 replace sC:Heap.SameBut z hB hC:=sC
 refine wpAny_bind (wpAny_isInstance (T:= "StopIteration") (b:=true) ⟨oe,(sC.2 _ nez).trans he,hce⟩ isSubtype_stop (wpAny_pure (hQ _ λ c o hc q=>?_)))
 simp only[List.mem_cons,List.not_mem_nil,or_false,not_or]at hc
 exact(sC.2 _ hc.1).trans (sB _ _ hc.2.2.1 ((sA.2 _ hc.1).trans q))
theorem BQ{Q:Option Value->Shared->Prop}(Z:ZA z TI TO i j fp gp)(D:Draws prog w A.in1 i fp n P St)(G:Draws prog w A.in1 j gp m R Su)(hz:IsZip s.heap z TI TO .none)(hI:IsPair s.heap TI (.ref i) (.ref j))(hO:IsPair s.heap TO a b)(h1:St k s.heap)(h2:Su k s.heap)(hk:k<n)(hm:k<m)
  (hQ:∀x y h' tk,P k x->R k y->IsZip h' z TI TO (rawInt s.heap.objs.size)->IsPair h' TI (.ref i) (.ref j)->IsPair h' TO x y->St (k+1) h'->Su (k+1) h'->IsPair h' s.heap.objs.size x y->(∀c o,c∉[z,TO,i,j]->s.heap.get? c=some o->h'.get? c=some o)->Q (some (.ref s.heap.objs.size)) {s with heap:=h',toks:=tk}):
  wpAny (model prog w) A (pyNext (.ref z)) Q E s:=by
 have hT:s.TypeIs (.ref z) "zip" :=⟨_,hz,rfl⟩
 unfold pyNext
 exact wpAny_bind (wpAny_attempt (wpAny_callSpecial?_slot (name:=Str.ofString "__next__") hT F.slot_zip_next (wpAny_call_entry F.slot_zip_next hT F.entry_zip_next (Re Z D G hz hI hO h1 h2 hk hm λ x y h' tk a1 a2 a3 a4 a5 a6 a7 a8 a9=>wpAny_pure (hQ x y h' tk a1 a2 a3 a4 a5 a6 a7 a8 a9)) (F.args_zip_next_1 _))))
end
theorem OJ{X:Cx}{pins:List (Addr×Obj)}{σ:St}{H:Hp}{s:Shared}{a b:Addr}{xs:List V}(I:aE X pins σ H s)(hf:eL X pins H b)(hq:bE X.K H a xs):a≠b:=by
 intro e
 subst e
 obtain⟨f0,_,_,f3,_,_⟩:=hf
 rcases hq with(h|⟨o,h⟩)|⟨o,_,_,hk,_⟩
 ·rw[f0]at h;cases h
 ·rw[f0]at h;cases h
 ·have hb:=I.ok.mod.kin _ _ hk
  rcases f3 with z|z
  ·exact I.ok.noex _ _ hb z
  ·exact absurd (Nat.lt_of_lt_of_le (Heap.lt_size (I.ok.bs _ _ hb).1) z) (Nat.lt_irrefl _)
section
variable{prog:Program}{w:World}{A:Around}{E:Qd}{s:Shared}
noncomputable abbrev lJ(x y:Value):Obj:={cls:=.type "tuple",data:=.seq #[x,y]}
noncomputable abbrev tV(x y:Value):Obj:={cls:=.type "zip",data:=.fields #[.none,.bool false,.bool false,x,y]}
end
section
variable{X:Cx}{elts:List Expr}{q:Nat}{tpos:Pos}
end
section
variable{X:Cx}{e:Expr}{es:List Expr}{te:TE}{t:TA}{p pos:Pos}
noncomputable def Vd(K:PySem.W.Frag)(ta:TE):TE:=λ σ H Q=>ta σ H λ x H1=>∃k,nV K x H1 k/\Q (.bl (!k)) H1
theorem FJ{a:Expr}{ta:TE}(ha:PE X a ta):PE X (.UnaryOp .Not a pos) (Vd X.K ta):=by
 intro pins s σ H Q I h
 refine UnaryOp_ (aT (ha pins s σ H _ I h) λ v s1 ⟨x,H1,I1,r1,q1⟩=>?_)
 exact not_of (aT (Em pins s1 σ H1 x v (λ k H2=>Q (.bl (!k)) H2) I1 r1 q1) λ k s2 ⟨H2,I2,q2⟩=>⟨.bl (!k),H2,I2,rfl,q2⟩)
end
section
variable{X:Cx}{S:SK}{pins pins':List (Addr×Obj)}{σ:St}{H:Hp}{s:Shared}{e:Addr}
end
section
variable{X:Cx}{body suite:List Stmt}{b₀:Stmt}{x n:Str}{np pos hpos:Pos}{i:Nat}{D₀:Addr}{tb:SK->TS}{ts:Addr->TS}
end
section
variable{X:Cx}{S:SK}{e:Expr}{te:TE}{pos:Pos}
end
section
variable{prog:Program}{w:World}{A:Around}{E:Qd}{K:PySem.W.Frag}{C f:Addr}{s:Shared}{rest:List Value}{Q:Qd}
end
section
variable{X:Cx}{k j:Nat}{C:Addr}{ps:List Str}{sp:Sp}{x:Str}{p pos:Pos}{e:Expr}{es:List Expr}{t:TA}
end
end L2
namespace L2
open PySem PySem.Spec PyProof.Rows PySem.W
section
variable{prog:Program}{w:World}{A:Around}{E:Qd}{h:Heap}{g:Array GenState}{d:Drawn}{t:Nat}{os:OsState}{so D x C:Addr}{ox:Obj}{l₀ l:List Value}{K:Frag}
end
section
variable{P:Program}{w:World}{K:PySem.W.Frag}{mg:Str->Option Value}{base:Heap}{k:Nat}{f cc C cda:Addr}{name qual:Str}{params:Arguments}{body:List Stmt}{scope:Scope}{kV doc pm ct oc cl:Value}{an od cld:Option Addr}
 {osl csl:Array (Option Value)} {ps:List Str} {sp:Sp}
end
section
variable{P:Program}{w:World}{K:PySem.W.Frag}{mg:Str->Option Value}{base:Heap}{f cc C cda e:Addr}{qual:Str}{scope:Scope}{ps:List Str}{A:Around}{outer:List Env}{s₀ s:Shared}{H₀ H:Hp}{σ:St}{body:List Stmt}{arg:Expr}{t:TA}{p0 p1 p2 p3 p4:Pos}
 {fd:FuncData} {ar:Arg} {vs:Array Value} {file:Str} {tf:Tok} {oc ccl cl:Value} {od cdd cld:Option Addr} {osl ccs csl:Array (Option Value)} {D:jZ}
end
section
variable{prog:Program}{w:World}{A:Around}{E:Qd}{s:Shared}{K:Frag}{e C:Addr}{vs:Array Value}{f:Str}{v:Value}
end
section
variable{X:Cx}{o value:Expr}{f:Str}{pos pos':Pos}{ta tv:TE}
end
section
variable{K:Frag}{e C d:Addr}
end
theorem OQ{e C C':Addr}{d d':Option Addr}(h:fO e C d=fO e C' d'):C=C'/\d=d':=by
 have h1:(λ h:Heap=>∃vs,h.get? e=some (fW C d vs))=(λ h:Heap=>∃vs,h.get? e=some (fW C' d' vs)):=HO.ext.inj h
 have get:({objs:=Array.replicate (e+1) (fW C d #[])}:Heap).get? e=some (fW C d #[]):=by
  unfold Heap.get?
  rw[show({objs:=Array.replicate (e+1) (fW C d #[])}:Heap).objs[e]? =some (fW C d #[])from Qb]
  rfl
 have h2:∃vs,({objs:=Array.replicate (e+1) (fW C d #[])}:Heap).get? e=some (fW C' d' vs):=by
  have h3:=congrFun h1 ({objs:=Array.replicate (e+1) (fW C d #[])}:Heap)
  exact h3▸⟨#[],get⟩
 obtain⟨vs,z⟩:=h2
 rw[get]at z
 have z':=Option.some.inj z
 injection z' with a b
 injection a with a
 exact⟨a,b⟩
section
variable{X:Cx}
end
end L2
namespace L2
open PySem PySem.Spec PyProof.Rows
structure Kd where
 nm:Str
 way:List Int
 bds:List Int
structure Cd where
 nm:Str
 kd:Str
 pl:Int
 bk:Bool
structure Wt where
 cd:Str
 ln:Int
 ot:Str
structure Pl where
 ls:List (Str×Int)
 ks:List Kd
structure Sd where
 bs:List Int
 cs:List Cd
 ws:List Wt
noncomputable def Cd.d(c:Cd):PyData:=.tuple [.str c.nm,.str c.kd,.int c.pl,.bool c.bk]
noncomputable def Wt.d(w:Wt):PyData:=.tuple [.str w.cd,.int w.ln,.str w.ot]
noncomputable def Pl.n(p:Pl):Int:=p.ls.length
noncomputable def Pl.kd?(p:Pl)(x:Str):Option Kd:=p.ks.find? λ k=>k.nm==x
noncomputable def Sd.cd?(s:Sd)(x:Str):Option Cd:=s.cs.find? λ c=>c.nm==x
noncomputable def Pl.at(p:Pl)(k:Str)(j:Int):Int:=if j=0 then-1 else match p.kd? k with
 |some kd=>if(kd.way.length:Int)<j then p.n else kd.way.getD (j-1).toNat 0
 |none=>0
noncomputable def Pl.lane(p:Pl)(c:Cd):Int:=p.at c.kd c.pl
noncomputable def Sd.inL(s:Sd)(p:Pl)(l:Int):List Str:=(s.cs.filter λ c=>p.lane c==l).map (·.nm)
noncomputable def Sd.many(s:Sd)(p:Pl)(l:Int)(k:Str):Nat:=(s.cs.filter λ c=>c.kd==k&&p.at k c.pl==l).length
noncomputable def tQ(p:Pl)(c:Cd):Prop:=c.nm.length<=1000/\∃k,p.kd? c.kd=some k/\0<=c.pl/\c.pl<=k.way.length+1
section
variable{H:Hp}{v:V}{ex:List Addr}
theorem Wt.view{w:Wt}(h:dO ex H w.d v):∃a,v= .ref a/\H a=some (.tup [.str w.cd,.int w.ln,.str w.ot]):=by
 obtain⟨a,us,rfl,_,ha,v1,r1,rfl,h1,v2,r2,rfl,h2,v3,r3,rfl,h3,rfl⟩:=h
 obtain rfl:v1= .str w.cd:=h1
 obtain rfl:v2= .int w.ln:=h2
 obtain rfl:v3= .str w.ot:=h3
 exact⟨a,rfl,ha⟩
end
theorem iI{p:Pl}{x:Str}{k:Kd}(h:p.kd? x=some k):k∈p.ks/\k.nm=x:=by
 have h1:=List.find?_some h
 exact⟨List.mem_of_find?_eq_some h,by simpa using h1⟩
theorem Oh{s:Sd}{x:Str}{c:Cd}(h:s.cd? x=some c):c∈s.cs/\c.nm=x:=by
 have h1:=List.find?_some h
 exact⟨List.mem_of_find?_eq_some h,by simpa using h1⟩
theorem sU(p:Pl)(k:Str):p.at k 0= -1:=by unfold Pl.at;rw[if_pos rfl]
theorem sV{p:Pl}{x:Str}{k:Kd}{j:Int}(h:p.kd? x=some k)(hj:(k.way.length:Int)<j):p.at x j=p.n:=by
 unfold Pl.at
 rw[if_neg Qa,h]
 show(if(k.way.length:Int)<j then p.n else _)=_
 rw[if_pos hj]
theorem xM{p:Pl}{x:Str}{k:Kd}{j:Int}(h:p.kd? x=some k)(h1:1<=j)(h2:j<=k.way.length):∃w,k.way[(j-1).toNat]? =some w/\p.at x j=w:=by
 have hi:(j-1).toNat<k.way.length:=by omega
 refine⟨k.way[(j-1).toNat],List.getElem?_eq_getElem hi,?_⟩
 unfold Pl.at
 rw[if_neg Qa,h]
 show(if(k.way.length:Int)<j then p.n else _)=_
 rw[if_neg Qa,List.getD_eq_getElem?_getD,List.getElem?_eq_getElem hi]
 rfl
end L2
namespace L2
open PySem PySem.Spec PyProof.Rows PySem.SeqAt
theorem Tf(l:Addr)(items:Array Value)(n:Nat)(dd:Option Addr)(sl:Array (Option Value))(x:Value)(e:Value->Bool)(j:Nat)(hj:j<items.size)(hit:e items[j]=true)(hno:∀m (hm:m<items.size),m<j->e items[m]=false):
  Meets (Builtin.«tuple.index» ⟨[.ref l,x],[]⟩)
   (λ A R s=>s.heap.get? l=some {cls:=.type "tuple",dict:=dd,data:=.seq items n,slots:=sl}/\(∀y,y∈items->EqAt A.in1 s y x (e y))/\R (.ok (.ret (.int (j:Nat) s.toks))) {s with toks:=s.toks+1}):=
 .of_wp λ prog w A R s h=>by
  obtain⟨hp,g,d,tk,os⟩:=s;obtain⟨hl,he,h⟩:=h
  unfold Builtin.«tuple.index»
  simp only[Std.Legacy.Range.forIn_eq_forIn_range',Std.Legacy.Range.size]
  wp_walk using AutoSeq1.wpAny_loadPart' hl,wpAny_forIn_list _ (λ rest (b:Option PySem.Fin×Unit) s'=>∃i,i<=j/\b.1=none/\rest=List.range' i (items.size-i)/\s'=⟨hp,g,d,tk,os⟩) _
  case turn=>
   rintro x1 rest b s' ⟨i,hi,hb,hr,rfl⟩
   rw[show items.size-i=(items.size-(i+1))+1 from Qa,List.range'_succ]at hr
   injection hr with h1 h2
   subst h1 h2
   have hx:x1<items.size:=by omega
   rw[Array.getElem?_eq_getElem hx]
   refine wpAny_bind (he _ (Array.getElem_mem hx) prog w _ _ ?_)
   by_cases hij:x1=j
   ·subst hij
    rw[hit]
    wp_walk
    exact⟨_,rfl,h⟩
   ·rw[hno x1 hx Qa]
    wp_walk
    exact⟨x1+1,Qa,rfl,rfl,rfl⟩
  case fin=>
   rintro b s' ⟨i,hi,hb,hr,rfl⟩
   have:=congrArg List.length hr
   rw[List.length_nil,List.length_range']at this
   omega
  case h=>exact⟨0,Nat.zero_le _,rfl,Qb,rfl⟩
theorem yD{xs:List V}{us:List Value}(r:aW xs us){j:Nat}(h:j<us.length):∃x,xs[j]? =some x/\bM x us[j]:=by
 have hl:=r.length
 have hj:j<xs.length:=by omega
 obtain⟨u,hu,ru⟩:=r.get (List.getElem?_eq_getElem hj)
 rw[List.getElem?_eq_getElem h]at hu
 exact⟨xs[j],List.getElem?_eq_getElem hj,Option.some.inj hu▸ru⟩
theorem wX{xs:List V}{us:List Value}{y x:V}(r:aW xs us)(f:xs.all dF=true){j:Nat}(h:j<us.length)(hx:xs[j]? =some x):dM y us[j]=dX x y:=by
 obtain⟨x',hx',rx⟩:=yD r h
 rw[hx]at hx'
 cases hx'
 exact wW rx (List.all_eq_true.mp f x (List.mem_of_getElem? hx))
noncomputable def Nb(y:V)(xs:List V)(j:Nat):Prop:=(∃x,xs[j]? =some x/\dX x y=true)/\∀m x,m<j->xs[m]? =some x->dX x y=false
noncomputable def zN(K:PySem.W.Frag)(tup:Bool):V->List V->Hp->VK->Prop:=λ x vs H Q=>∃(a:Addr) (xs:List V) (y:V) (j:Nat),x= .ref a/\vs=[y]/\(if tup=true then bE K H a xs else bA K H a xs)/\dF y=true/\xs.all dF=true/\Nb y xs j/\Q (.int (j:Nat)) H
section
variable{X:Cx}
theorem KE:hZ X "list.index" (zN X.K false):=by
 intro pins s σ H x vs v us Q I rx rv h
 obtain⟨a,ys,z,j,rfl,rfl,hq,fz,fs,⟨⟨x,hx,ex⟩,hb⟩,q⟩:=h
 cases rx
 obtain⟨u,rfl,ru⟩:=rv.one
 obtain⟨its,r,pl,hl⟩:=I.list (show bA X.K H a ys from hq)
 obtain⟨⟨cls,dd,data,sl⟩,ho,hc,n,hd⟩:=pl.isList
 simp only at hc hd
 subst hc hd
 have hlen:=r.length
 have hj:j<its.length:=by have:=(List.getElem?_eq_some_iff.mp hx).1;omega
 have l63:=lV
 refine call_meets PySem.F.slot_list_index ⟨_,ho,rfl⟩ PySem.F.entry_list_index (PySem.F.args_list_index_2 _ _) (SeqAt.list_indexAt a its.toArray n dd sl u (dM z) j (by rw[List.size_toArray];omega) Qa ?_ ?_) ⟨ho,λ y hy=>lQ ru fz r fs y (by simpa using hy),⟨.int _,H,I.tok _,⟨_,rfl⟩,q⟩⟩
 ·show dM z its[j]=true
  rw[wX r fs hj hx]
  exact ex
 ·intro m hm hlt
  have hm':m<its.length:=by simpa using hm
  show dM z its[m]=false
  obtain⟨x',hx',_⟩:=yD r hm'
  rw[wX r fs hm' hx']
  exact hb m x' hlt hx'
theorem KF:hZ X "tuple.index" (zN X.K true):=by
 intro pins s σ H x vs v us Q I rx rv h
 obtain⟨a,ys,z,j,rfl,rfl,hq,fz,fs,⟨⟨x,hx,ex⟩,hb⟩,q⟩:=h
 cases rx
 obtain⟨u,rfl,ru⟩:=rv.one
 obtain⟨its,r,pl,hl⟩:=I.tuple (show bE X.K H a ys from hq)
 obtain⟨⟨cls,dd,data,sl⟩,ho,hc,n,hd⟩:=pl
 simp only at hc hd
 subst hc hd
 have hlen:=r.length
 have hj:j<its.length:=by have:=(List.getElem?_eq_some_iff.mp hx).1;omega
 refine call_meets PySem.F.slot_tuple_index ⟨_,ho,rfl⟩ PySem.F.entry_tuple_index (PySem.F.args_tuple_index_2 _ _) (Tf a its.toArray n dd sl u (dM z) j (by rw[List.size_toArray];omega) ?_ ?_) ⟨ho,λ y hy=>lQ ru fz r fs y (by simpa using hy),⟨.int _,H,I.tok _,⟨_,rfl⟩,q⟩⟩
 ·show dM z its[j]=true
  rw[wX r fs hj hx]
  exact ex
 ·intro m hm hlt
  have hm':m<its.length:=by simpa using hm
  show dM z its[m]=false
  obtain⟨x',hx',_⟩:=yD r hm'
  rw[wX r fs hm' hx']
  exact hb m x' hlt hx'
theorem Ny{y:V}:∀{xs:List V} {us:List Value},aW xs us->xs.all dF=true->us.countP (dM y)=xs.countP λ x=>dX x y
 |_,_,.nil,_=>rfl
 |x::xs,u::us,.cons r t,f=>by
  rw[List.all_cons,Bool.and_eq_true]at f
  rw[List.countP_cons,List.countP_cons,wW r f.1,Ny t f.2]
noncomputable def BM(K:PySem.W.Frag):V->List V->Hp->VK->Prop:=λ x vs H Q=>∃(a:Addr) (xs:List V) (y:V),x= .ref a/\vs=[y]/\bA K H a xs/\dF y=true/\xs.all dF=true/\Q (.int ((xs.countP λ x=>dX x y:Nat))) H
theorem KG:hZ X "list.count" (BM X.K):=by
 intro pins s σ H x vs v us Q I rx rv h
 obtain⟨a,ys,z,rfl,rfl,hq,fz,fs,q⟩:=h
 cases rx
 obtain⟨u,rfl,ru⟩:=rv.one
 obtain⟨its,r,pl,hl⟩:=I.list hq
 obtain⟨⟨cls,dd,data,sl⟩,ho,hc,n,hd⟩:=pl.isList
 simp only at hc hd
 subst hc hd
 refine call_meets PySem.F.slot_list_count ⟨_,ho,rfl⟩ PySem.F.entry_list_count (PySem.F.args_list_count_2 _ _) (SeqAt.list_countAt a its.toArray n dd sl u (dM z)) ⟨ho,λ y hy=>lQ ru fz r fs y (by simpa using hy),⟨.int _,H,I.tok _,⟨_,rfl⟩,?_⟩⟩
 have e:(its.toArray.toList.countP (dM z))=ys.countP λ x=>dX x z:=Ny r fs
 rw[e]
 exact q
end
end L2
namespace L2
open PySem PySem.Spec PyProof.Rows
section
variable{X:Cx}
noncomputable def Vp(r:V->List V->Hp->VK->Prop)(to:TE)(t:TA):TE:=λ σ H Q=>to σ H λ x H1=>(∃p xs,x= .ref p/\H1 p=some (.tup xs))/\t σ H1 λ xs H2=>r x xs H2 Q
variable{o e:Expr}{es:List Expr}{to:TE}{t:TA}{name:Str}{apos cpos:Pos}{id:String}{r:V->List V->Hp->VK->Prop}
theorem GN(pa:PlainAttrs "tuple")(slot:Slot "tuple" name id)(hty:typeOf (.builtin id)=pure (.type "method_descriptor"))(hm:hZ X id r)(ho:PE X o to)(ha:PA X (e::es) t)
  (hbase:attributeBase o name X.env (eval o X.env)=eval o X.env:=by rfl)
  (hfew:((backTo cpos (starEach (e::es) X.env)).all (λ x=>!x.1)&&(backToKw cpos (keywordEach [] X.env)).all (λ x=>x.1.isSome)
   &&decide ((e::es).length+([]:List Keyword).length+(if([]:List Keyword).isEmpty then 0 else 1)<30))=true:=by rfl)
  (hline:(apos.endLine==cpos.line)=true:=by rfl) (hs:starEach (e::es) X.env=(false,eval e X.env)::starEach es X.env:=by rfl) (hplain:(backTo cpos (starEach es X.env)).any (·.1)=false:=by rfl):
  PE X (.Call (.Attribute o name apos) (e::es) [] cpos) (Vp r to t):=by
 intro pins s σ H Q I h
 refine wpAny_Call_method_late hbase hfew hline rfl (aT (ho pins s σ H _ I h) λ v s1 ⟨x,H1,I1,r1,⟨p,xs,ex,hp⟩,q1⟩=>?_)
 subst ex
 cases r1
 obtain⟨_,its,_,⟨o1,z1,z2,_⟩,o2,z3,z4⟩:=I1.hok p _ hp
 refine⟨"tuple",id,pa,slot,hty,⟨_,z1,z2⟩,(λ a e=>by cases e;exact⟨_,z3,z4⟩),?_⟩
 have hA:=ha cpos pins s1 σ H1 _ I1 q1
 rw[hs]at hA⊢
 refine Calls.callWith_builtin (by show(false||(backTo cpos (starEach es X.env)).any (·.1))=false;rw[hplain]<;>rfl) (Calls.evalArgs_plain ?_)
 exact aT hA λ us s2 ⟨vs,H2,I2,r2,q2⟩=>hm pins s2 σ H2 (.ref p) vs (.ref p) us Q I2 rfl r2 q2
end
noncomputable abbrev az:Str:= "abcdefghijklmnopqrstuvwxyz"
noncomputable def inL(x:Str):Bool:= !(Builtin.Str.occurrences az x 0 az.length 1).isEmpty
noncomputable def zC(x:Str):List Str:=x.cps.toList.map λ c=>⟨#[c]⟩
noncomputable def nm(x:Str):Bool:=if("out" :Str)==x||("yard" :Str)==x then false else decide ((1:Int)<=(x.length:Int))&&(decide ((x.length:Int)<=8)&&(zC x).all inL)
noncomputable def azl:List Nat:=List.range' 97 26
theorem XY:("abcdefghijklmnopqrstuvwxyz" :Str)=tx azl:=by decide+kernel
theorem c5:∀c∈azl,97<=c/\c<=122:=by decide+kernel
theorem XZ:∀k,k<26->(azl.drop k++azl.take k).Nodup:=by decide+kernel
theorem Kx:∀c∈azl,inL (tx [c])=true:=by decide+kernel
theorem Im{c:Nat}(h:97<=c/\c<=122):c∈azl:=by
 unfold azl
 rw[List.mem_range']
 exact⟨c-97,Qa,Qa⟩
theorem Fz(l:List Nat):zC (tx l)=l.map λ c=>tx [c]:=by
 unfold zC tx
 simp
theorem Ht:("out" :Str)=tx [111,117,116]:=by decide+kernel
theorem Ds:("yard" :Str)=tx [121,97,114,100]:=by decide+kernel
theorem KB{A B:List Nat}{c:Nat}(hl:A.length+B.length<=7)(ha:∀x∈A,97<=x/\x<=109)(hb:∀x∈B,97<=x/\x<=109)(hc:97<=c/\c<=122):nm (tx (A++c::B))=true:=by
 unfold nm
 have n1:¬tx [111,117,116]=tx (A++c::B):=λ h=>by
  have h:=oJ h
  match A,ha,h with
  |[],_,h=>
   injection h with _ h
   have:=hb 117 (by rw[<-h];simp)
   omega
  |a::_,ha,h=>
   injection h with h _
   have:=ha a Qb
   omega
 have n2:¬tx [121,97,114,100]=tx (A++c::B):=λ h=>by
  have h:=oJ h
  match A,ha,h with
  |[],_,h=>
   injection h with _ h
   have:=hb 114 (by rw[<-h];simp)
   omega
  |a::_,ha,h=>
   injection h with h _
   have:=ha a Qb
   omega
 rw[Ht,Ds,if_neg (by simp[n1,n2])]
 have e:(tx (A++c::B)).length=A.length+(B.length+1):=by rw[iV,List.length_append,List.length_cons]
 rw[e,decide_eq_true Qa,decide_eq_true Qa,Bool.true_and,Bool.true_and,Fz,List.all_eq_true]
 intro s hs
 obtain⟨x,hx,rfl⟩:=List.mem_map.mp hs
 refine Kx x (Im ?_)
 rcases List.mem_append.mp hx with h|h
 ·have:=ha x h;omega
 ·rcases List.mem_cons.mp h with rfl|h
  ·exact hc
  ·have:=hb x h;omega
noncomputable def iX(A B S:List Nat):List Str:=S.map λ c=>tx (A++c::B)
theorem IZ{A B S:List Nat}(h:S.Nodup):(iX A B S).Nodup:=by
 unfold iX List.Nodup
 rw[List.pairwise_map]
 refine List.Pairwise.imp (fun{a b} hne e=>hne ?_) h
 have e2:=List.append_cancel_left (oJ e)
 injection e2
theorem uH:("z" :Str)=tx [122]:=by decide+kernel
theorem KA{A B:List Nat}{c:Nat}(hl:A.length+B.length<=6)(ha:∀x∈A,97<=x/\x<=109)(hb:∀x∈B,97<=x/\x<=109)(hc:97<=c/\c<=122):nm (tx (A++c::B)++("z" :Str))=true:=by
 rw[uH,lI]
 unfold nm
 have last:∀l:List Nat,l.getLast?≠some 122->¬tx l=tx (A++c::B++[122]):=λ l h z=>h (by rw[oJ z,List.getLast?_append];rfl)
 rw[Ht,Ds,if_neg (by rw[Bool.or_eq_true,beq_iff_eq,beq_iff_eq];exact not_or.mpr ⟨last [111,117,116] Qc,last [121,97,114,100] Qc⟩)]
 have e:(tx (A++c::B++[122])).length=A.length+(B.length+2):=by rw[iV,List.length_append,List.length_append,List.length_cons,List.length_singleton];omega
 rw[e,decide_eq_true Qa,decide_eq_true Qa,Bool.true_and,Bool.true_and,Fz,List.all_eq_true]
 intro s hs
 obtain⟨x,hx,rfl⟩:=List.mem_map.mp hs
 refine Kx x (Im ?_)
 rcases List.mem_append.mp hx with h|h
 ·rcases List.mem_append.mp h with h|h
  ·have:=ha x h;omega
  ·rcases List.mem_cons.mp h with rfl|h
   ·exact hc
   ·have:=hb x h;omega
 ·have:=List.mem_singleton.mp h;omega
theorem IV{A B S:List Nat}(h:S.Nodup):(iX A B S++(iX A B S).map λ x=>x++("z" :Str)).Nodup:=by
 have n1:=IZ (A:=A) (B:=B) h
 rw[List.nodup_append]
 refine⟨n1,?_,λ a ha b hb=>?_⟩
 ·unfold List.Nodup
  rw[List.pairwise_map]
  unfold iX
  rw[List.pairwise_map]
  refine List.Pairwise.imp (fun{a b} hne e=>hne ?_) h
  rw[uH,lI,lI]at e
  have e2:=List.append_cancel_left (List.append_cancel_right (oJ e))
  injection e2
 ·obtain⟨x,hx,rfl⟩:=List.mem_map.mp hb
  obtain⟨u,_,rfl⟩:=List.mem_map.mp ha
  obtain⟨w,_,rfl⟩:=List.mem_map.mp hx
  rw[uH,lI]
  intro e
  have:=congrArg List.length (oJ e)
  simp at this
theorem yB{X:Cx}:pR X (λ _ _ _ _ _=>False):=⟨λ _ _ _ _ _ _ _ _ _ h=>h.elim,λ _ _ _ _ _ _ _ _ _ _ h=>h.elim⟩
end L2
namespace L2
open PySem PySem.Spec PyProof.Rows PySem.W
noncomputable def Sd.out(s:Sd)(p:Pl)(x:Str):Bool:=match s.cd? x with
 |some c=>decide (p.lane c=p.n)
 |none=>false
noncomputable def Pl.kb(p:Pl)(x:Str)(l:Int):Int:=match p.kd? x with
 |some k=>k.bds.getD (k.way.findIdx (· ==l)) 0
 |none=>0
end L2
namespace L2
open PySem PySem.Spec PyProof.Rows
noncomputable def wO(Fin:Shared->Prop):GenEnd:=λ _ _ r s₁=>r= .ok .next/\Fin s₁
noncomputable def wN(Ok:Value->Shared->(Shared->Prop)->Prop):Protocol:=λ _ _ v s₁ kap=>Ok v s₁ λ s₂=>kap (.send .none) s₂
noncomputable def xU(Xg:Cx)(pa:List (Addr×Obj))(σg:St)(D:Addr)(fp:List Addr):Value->Shared->(Shared->Prop)->Prop:=λ v s₁ C=>∃x acc H,bM x v/\aE Xg pa σg H s₁/\H D=some (.lst acc)/\acc.length<sizeLine/\
 ∀s₂,aE Xg pa σg (aM H D (.lst (acc++[x]))) s₂->(∀b∈fp,∀o,s₁.heap.get? b=some o->s₂.heap.get? b=some o)->C s₂
section
variable{Xg:Cx}{A:Around}{elt tg iter:Expr}{ifs:List Expr}{scope:Scope}{pos:Pos}{it:Addr}{J:It}{fp:List Addr}{tn:Nat->Heap->Prop}{g:TG}{tt:TT}{te:TE}{k:Nat}{σg:St}{D:Addr}{pa:List (Addr×Obj)}
theorem AI(hA:Xg.A=A.over (.compLoop (.GeneratorExp elt [⟨tg,iter,ifs,0⟩] scope pos) 0 (.ref it) .none Xg.env) [])(hxe:Xg.xe=λ _ _=>False)(hco:Xg.env.scope.isCoroutine=false)(hc:Xg.calm=true)
  (hg:PG Xg tg g) (gk:jX k g) (ht:gG Xg ifs tt) (he:PE Xg elt te) (T:iR Xg.prog Xg.w Xg.K tg J fp it tn) (hk:k<=σg.length) (hown:∀(j:Nat) (v:V),σg[j]? =some (some v)->k<=j)
  (fpok:∀H':Hp,(∀b∈fp,H' b=none)->∀b∈fp,eL Xg pa H' b) (W:Nat->Nat->List V->Hp->Prop) (Qt:List V->Hp->Prop)
  (turn:∀i m xs H,W i m xs H->(J.stop i H/\Qt xs H)\/(J.go i H/\∀x H',J.yld i H x H'->g x σg H' λ σ2 H2=>tt σ2 H2 λ b H3=>if b=true then te σ2 H3 λ v H4=>H4 D=some (.lst xs)/\xs.length<sizeLine/\∃m',m'<m/\W (i+1) m' (xs++[v]) (aM H4 D (.lst (xs++[v])))else∃m',m'<m/\W (i+1) m' xs H3)):
  ∀ (m n:Nat),m<n->∀(i:Nat) (xs:List V) (H:Hp) (s s₀:Shared),W i m xs H->aE Xg pa σg H s->tn i s.heap->(∀b∈fp,H b=none)->
   Seg (model Xg.prog Xg.w) A (wO λ s'=>∃H',aE Xg pa σg H' s'/\∃xs,Qt xs H') (wN (xU Xg pa σg D fp)) n s₀
    (.compLoop (.GeneratorExp elt [⟨tg,iter,ifs,0⟩] scope pos) 0 (.ref it) .none Xg.env) ((model Xg.prog Xg.w).den (.compLoop (.GeneratorExp elt [⟨tg,iter,ifs,0⟩] scope pos) 0 (.ref it) .none Xg.env)) [] s:=by
 intro m
 induction m using Nat.strongRecOn with
 | _ m ih=>
  intro n hmn i xs H s s₀ w I st hfr
  show Seg _ A _ _ _ s₀ _ ((compTurn (.GeneratorExp elt [⟨tg,iter,ifs,0⟩] scope pos) 0 (.ref it) .none Xg.env).onRaise (leaving Xg.env)) [] s
  rw[compTurn_gen,Sem.onRaise_eq_wrap]
  refine seg_bind_wrap (wpAny_standAt ?_)
  rcases turn i m xs H w with⟨stop,q⟩|⟨go,step⟩
  ·have d:=T.done Xg rfl rfl rfl hc i pa s σg H (λ _ _=>False) I (fpok H hfr) st stop
   rw[hA]at d
   refine seg_bind_wrap (wpAny_mono d (λ r s4 ⟨hr,I5⟩=>?_) λ _ _ z=>z.elim)
   subst hr
   exact seg_end (.ok .next) ⟨rfl,H,I5,xs,q⟩
  ·have d:=T.item Xg rfl rfl rfl hc i pa s σg H (λ _ _=>False) I (fpok H hfr) st go
   rw[hA]at d
   refine seg_bind_wrap (wpAny_mono d (λ r s4 ⟨u,hr,h4⟩=>?_) λ _ _ z=>z.elim)
   subst hr
   refine seg_bind_wrap (wpAny_mono h4 (λ _ s5 ⟨x,H5,I5,r5,y5,st5,fr5⟩=>?_) λ _ _ z=>z.elim)
   have I5':=I5.pinned (fpok H5 fr5) (T.obj _ _ st5)
   have d2:=hg _ s5 σg H5 x u _ I5' r5 (gk _ _ _ _ hk (step x H5 y5))
   rw[hA,hxe]at d2
   refine seg_bind_wrap (wpAny_mono d2 (λ _ s6 ⟨σ6,H6,I6,q6,l6,a6⟩=>?_) λ _ _ z=>z.elim)
   have back:∀{H':Hp} {s':Shared},aE Xg (pa++lN fp s5.heap) σ6 H' s'->aE Xg pa σg H' s'/\tn (i+1) s'.heap/\∀b∈fp,H' b=none:=fun{H' s'} I'=>by
    refine⟨I'.unpinned.weak l6.symm λ j v e=>by rw[a6 j (hown j v e)];exact e,T.keep _ _ _ st5 λ b hb o e=>(I'.pin (b,o) (List.mem_append_right _ (List.mem_append_right _ (lP hb e)))).1,λ b hb=>?_⟩
    obtain⟨o,e,d⟩:=T.obj _ _ st5 b hb
    exact(I'.pin (b,o) (List.mem_append_right _ (List.mem_append_right _ (lP hb e)))).2.1
   have d3:=ht _ s6 σ6 H6 _ I6 q6
   rw[hA,hxe]at d3
   refine seg_bind_wrap (wpAny_mono d3 (λ ok s7 ⟨H7,I7,q7⟩=>?_) λ _ _ z=>z.elim)
   cases ok with
   |false=>
    obtain⟨m',hm,w7⟩:=q7
    obtain⟨J1,J2,J3⟩:=back I7
    simp only[Bool.false_eq_true,if_false]
    exact seg_again rfl (ih m' hm n Qa (i+1) xs H7 s7 s₀ w7 J1 J2 J3)
   |true=>
    simp only[if_true]
    have hy:∀v,yieldOut Xg.env v=yieldValue v:=λ v=>by simp only[yieldOut,hco,Bool.false_eq_true,if_false]
    simp only[hy]
    rw[Sem.bind_eq_wrap',Sem.bind_eq_wrap',Sem.wrap_wrap,Sem.wrap_wrap]
    have d4:=he _ s7 σ6 H7 _ I7 q7
    rw[hA,hxe]at d4
    refine seg_wrap (wpAny_mono d4 (λ y s8 ⟨v,H8,I8,r8,hD,hl,m',hm,w8⟩=>?_) λ _ _ z=>z.elim)
    obtain⟨J1,J2,J3⟩:=back I8
    obtain⟨n',rfl⟩:∃n',n=n'+1:=⟨n-1,Qa⟩
    refine seg_at (seg_yield rfl rfl rfl ⟨v,xs,H8,r8,J1,hD,hl,λ s₂ K2 k2=>?_⟩)
    refine seg_again rfl (ih m' hm n' Qa (i+1) (xs++[v]) (aM H8 D (.lst (xs++[v]))) _ _ w8 K2 (T.keep _ _ _ J2 k2) λ b hb=>?_)
    rw[aY (λ z=>by rw[<-z,J3 b hb]at hD;cases hD)]
    exact J3 b hb
end
section
variable{Xg:Cx}{A:Around}{a:Addr}{gi:Nat}{D:Addr}{σg:St}{pa:List (Addr×Obj)}{fp:List Addr}
theorem OO{Fin:Shared->Prop}(hh:A.handled=none)(hroom:A.depth<recursionLimit)(hgen:∀H s,aE Xg pa σg H s->s.heap.IsGen a gi/\gi<s.gens.size)(hDf:∀b∈fp,b≠D)
  (hfin:∀s h' gq,Fin s->eK s.gens gq->(∀b o,s.heap.get? b=some o->h'.get? b=some o)->Fin {s with heap:=h',gens:=gq}) (hfo:∀s,Fin s->AllBare s.gens):
  ∀(n:Nat) (s:Shared) (gs:GenState) (H:Hp),aE Xg pa σg H s->s.gens[gi]? =some gs->gs.Goes (model Xg.prog Xg.w) A.in1.in1 (wO Fin) (wN (xU Xg pa σg D fp)) n (.send .none) (s.setGen gi .running)->
   codeAny (model Xg.prog Xg.w) A (.builtin "list.extend.loop" ⟨[.ref D,.ref a,.ref D],[]⟩) (λ r s'=>r= .ok (.ret (.ref D))/\Fin s') s:=by
 have fin:∀(s₁:Shared) (h':Heap),Fin s₁->(∀b o,s₁.heap.get? b=some o->h'.get? b=some o)->Fin {s₁ with heap:=h',gens:=s₁.gens.setIfInBounds gi .finished}:=λ s₁ h' hp hk=>hfin s₁ h' _ hp (iK (hfo _ hp) rfl) hk
 intro n
 induction n with
 |zero=>
  intro s gs H I hgs hgo
  obtain⟨hg,_⟩:=hgen H s I
  refine codeAny_builtin F.entry_extend_loop ?_
  rw[Around.under_plainId F.plain_extend_loop _]
  show wpAny _ A.in1 (pyNext (.ref a)>>=_) _ _ s
  refine wpAny_bind (wpAny_pyNext_genexpQ (A:=A.in1) (P:=λ _ _ s₁=>Fin s₁) hh I.nolimit hroom hg hgs hgo (λ v s₁ gs' hbr hv=>?_) (λ s₁ hp h' hk=>wpAny_pure ⟨rfl,fin s₁ h' hp hk⟩))
  obtain⟨x,acc,H1,rx,I1,hD,hl,C⟩:=hv
  obtain⟨z,its,nn,r,hlen,e⟩:=I1.lstM hD
  have I3:=I1.lset (its':=its++[v]) (f:=(·.push v)) (t':=s₁.toks) hD e Qb (r.append (.cons rx .nil)) (by rw[List.length_append,List.length_singleton];omega)
  exact(C _ I3 λ b hb o hbo=>(Heap.get?_update_other _ _ (Ne.symm (hDf b hb))).trans hbo).elim
 |succ n ih=>
  intro s gs H I hgs hgo
  obtain⟨hg,_⟩:=hgen H s I
  refine codeAny_builtin F.entry_extend_loop ?_
  rw[Around.under_plainId F.plain_extend_loop _]
  show wpAny _ A.in1 (pyNext (.ref a)>>=_) _ _ s
  refine wpAny_bind (wpAny_pyNext_genexpQ (A:=A.in1) (P:=λ _ _ s₁=>Fin s₁) hh I.nolimit hroom hg hgs hgo (λ v s₁ gs' hbr hv=>?_) (λ s₁ hp h' hk=>wpAny_pure ⟨rfl,fin s₁ h' hp hk⟩))
  obtain⟨x,acc,H1,rx,I1,hD,hl,C⟩:=hv
  have g1:eK s₁.gens (s₁.gens.setIfInBounds gi gs'):=iK I1.bare.1 hbr
  have I2:=I1.setGens g1
  obtain⟨z,its,nn,r,hlen,e⟩:=I2.lstM hD
  have lt:=(hgen H1 _ I1).2
  have g2:(s₁.gens.setIfInBounds gi gs')[gi]? =some gs':=by simp[lt]
  show wpAny _ A.in1 (updateSeq D (·.push v)>>=_) _ _ _
  refine wpAny_bind (wpAny_updateSeq e rfl ?_ (by rw[List.size_toArray];omega) (by show(its.toArray.push v).size<=sizeLine+1;rw[Array.size_push,List.size_toArray];omega))
  have I3:=I2.lset (its':=its++[v]) (f:=(·.push v)) (t':=s₁.toks) hD e Qb (r.append (.cons rx .nil)) (by rw[List.length_append,List.length_singleton];omega)
  refine wpAny_pure ⟨plainId_quiet F.plain_extend_loop _,ih _ gs' _ I3 g2 ?_⟩
  have g3:eK (s₁.gens.setIfInBounds gi gs') ((s₁.gens.setIfInBounds gi gs').setIfInBounds gi .running):=iK g1.1 rfl
  exact C _ (I3.setGens g3) λ b hb o hbo=>(Heap.get?_update_other _ _ (Ne.symm (hDf b hb))).trans hbo
end
section
variable{Xg:Cx}{A:Around}{a:Addr}{gi:Nat}{σg:St}{pa:List (Addr×Obj)}{fp:List Addr}{E:Qd}
theorem Lf{s:Shared}(hg:s.heap.IsGen a gi):s.TypeIs (.ref a) "generator" :=by
 obtain⟨o,_,_,ho,hc,_⟩:=hg
 exact⟨o,ho,hc⟩
theorem SD{s:Shared}{H:Hp}{gs:GenState}{Fin:Hp->List V->Prop}{Q:List Value->Shared->Prop}(n:Nat)(hh:A.handled=none)(hroom:A.depth<recursionLimit)(hgen:∀H s,aE Xg pa σg H s->s.heap.IsGen a gi/\gi<s.gens.size)
  (hlt:∀b∈fp,b<s.heap.objs.size) (I:aE Xg pa σg H s) (hgs:s.gens[gi]? =some gs)
  (hgo:∀s3:Shared,aE Xg pa σg (aM H s.heap.objs.size (.lst [])) s3->(∀b o,s.heap.get? b=some o->s3.heap.get? b=some o)->s3.gens=s.gens->
   gs.Goes (model Xg.prog Xg.w) A.in1.in1 (wO λ s'=>∃H',aE Xg pa σg H' s'/\∃acc,H' s.heap.objs.size=some (.lst acc)/\Fin H' acc) (wN (xU Xg pa σg s.heap.objs.size fp)) n (.send .none) (s3.setGen gi .running))
  (hQ:∀H' s' acc its,aE Xg pa σg H' s'->aW acc its->acc.length<=sizeLine->Fin H' acc->Q its s'):
  wpAny (model Xg.prog Xg.w) A (collect (.ref a)) Q E s:=by
 obtain⟨hg,_⟩:=hgen H s I
 have haD:s.heap.objs.size≠a:=λ z=>by
  obtain⟨o,_,_,ho,_⟩:=hg
  have:=Heap.lt_size ho
  rw[z]at this
  exact Nat.lt_irrefl _ this
 unfold collect
 refine wpAny_bind (wpAny_runValue (codeAny_builtin F.entry_proto_collect ?_))
 rw[Around.under_plainId F.plain_proto_collect _]
 show wpAny _ A.in1 (newList []>>=λ l=>again (.builtin "list.__iadd__" ⟨[l,.ref a],[]⟩)) _ _ s
 refine wpAny_bind (wpAny_newObj_type ?_)
 refine wpAny_pure ⟨plainId_quiet F.plain_list_iadd _,codeAny_builtin F.entry_list_iadd ?_⟩
 rw[Around.under_plainId F.plain_list_iadd _]
 have I1:aE Xg pa σg (aM H s.heap.objs.size (.lst [])) {s with heap:=s.heap.push {cls:=.type "list",data:=.seq ([]:List Value).toArray}}:=
  I.laid (t':=s.toks) (λ b u e=>Heap.get?_push_of_some _ e) (Nat.le_refl _) ⟨Nat.zero_le _,[],0,.nil,Heap.get?_push_size _ rfl⟩
 have hT1:=Lf (hgen _ _ I1).1
 show wpAny _ A.in1 (Builtin.List.listExtendWith (.ref s.heap.objs.size) (.ref a) (.ref s.heap.objs.size)) _ _ _
 unfold Builtin.List.listExtendWith
 refine wpAny_bind (wpAny_typeOf hT1 ?_)
 have h1:Builtin.List.listSameRef (.ref s.heap.objs.size) (.ref a)=false:=by simp[Builtin.List.listSameRef,haD]
 have h2:(Value.type "generator" ==Value.type "list")=false:=by decide
 have h3:(Value.type "generator" ==Value.type "tuple")=false:=by decide
 simp only[h1,h2,h3,Bool.or_false,Bool.false_eq_true,if_false]
 refine wpAny_bind (wpAny_pyIter_gen (hgen _ _ I1).1 ?_)
 refine wpAny_bind (wpAny_holding ?_)
 unfold Builtin.List.listLengthHint
 refine wpAny_bind (wpAny_specialOf hT1 F.gen_no_len ?_)
 show wpAny _ A.in1 (specialOf (Value.ref a) (Str.ofString "__length_hint__")>>=_) _ _ _
 refine wpAny_bind (wpAny_specialOf hT1 F.gen_no_hint ?_)
 refine wpAny_pure ?_
 show wpAny _ A.in1 (rule "list.extend.makes-room" >>=λ _=>Builtin.List.listTouch (.ref s.heap.objs.size)>>=λ _=>
  again (.builtin "list.extend.loop" ⟨[.ref s.heap.objs.size,.ref a,.ref s.heap.objs.size],[]⟩)) _ _ _
 refine wpAny_bind (wpAny_rule ?_)
 have hS1:(s.heap.push {cls:=.type "list",data:=.seq ([]:List Value).toArray}).get? s.heap.objs.size=some {cls:=.type "list",data:=.seq ([]:List Value).toArray}:=Heap.get?_push_size _ rfl
 refine wpAny_bind ?_
 show wpAny _ A.in1 (updateSeq s.heap.objs.size (·.push .none)>>=λ _=>updateSeq s.heap.objs.size (·.pop)) _ _ _
 refine wpAny_bind (wpAny_updateSeq hS1 rfl ?_)
 have I2:=I1.lset (l:=s.heap.objs.size) (its':=[.none]) (f:=(·.push Value.none)) (t':=s.toks) (ys:=[.non]) dA hS1 rfl (.cons rfl .nil) (by show 1<=sizeLine;decide)
 obtain⟨_,its2,n2,r2,_,hS2⟩:=I2.lstM dA
 have hS2':=Heap.get?_update_self (Obj.mapSeq (·.push Value.none)) hS1 rfl
 refine wpAny_updateSeq hS2' rfl ?_
 have I3:=I2.lset (l:=s.heap.objs.size) (its':=[]) (f:=(·.pop)) (t':=s.toks) (ys:=[]) dA hS2' (by rfl) .nil (Nat.zero_le _)
 rw[Eh,Eh]at I3
 have keep:∀b o,s.heap.get? b=some o->(((s.heap.push {cls:=.type "list",data:=.seq ([]:List Value).toArray}).update s.heap.objs.size (Obj.mapSeq (·.push Value.none))).update s.heap.objs.size (Obj.mapSeq (·.pop))).get? b=some o:=λ b o e=>by
  have hne:s.heap.objs.size≠b:=λ z=>by have:=Heap.lt_size e;rw[z]at this;exact Nat.lt_irrefl _ this
  exact(Heap.get?_update_other _ _ hne).trans ((Heap.get?_update_other _ _ hne).trans (Heap.get?_push_of_some _ e))
 refine wpAny_pure ⟨plainId_quiet F.plain_extend_loop _,codeAny_mono (OO (D:=s.heap.objs.size) (fp:=fp) (Fin:=λ s'=>∃H',aE Xg pa σg H' s'/\∃acc,H' s.heap.objs.size=some (.lst acc)/\Fin H' acc) hh hroom hgen (λ b hb z=>by have:=hlt b hb;rw[z]at this;exact Nat.lt_irrefl _ this) ?_ ?_ n _ gs _ I3 hgs (hgo _ I3 keep rfl)) ?_⟩
 ·rintro s' h' gq ⟨H',I',acc,hD,q⟩ hg' hk
  exact⟨H',(I'.kept (t':=s'.toks) hk).setGens hg',acc,hD,q⟩
 ·rintro s' ⟨H',I',_⟩
  exact I'.bare.1
 ·rintro r s' ⟨rfl,H',I',acc,hD,q⟩
  obtain⟨z,its,nn,rv,hl,e⟩:=I'.lstM hD
  show wpAny _ A (load s.heap.objs.size>>=_) _ _ s'
  refine wpAny_bind (wpAny_load e ?_)
  refine wpAny_pure ?_
  have e2:its.toArray.toList=its:=by simp
  show Q its.toArray.toList s'
  rw[e2]
  exact hQ H' s' acc its I' rv z q
theorem SQ{s:Shared}{H:Hp}{gs:GenState}{Fin:Hp->List V->Prop}{Q:Qd}(n:Nat)(hh:A.handled=none)(hroom:A.depth<recursionLimit)(hgen:∀H s,aE Xg pa σg H s->s.heap.IsGen a gi/\gi<s.gens.size)
  (hlt:∀b∈fp,b<s.heap.objs.size) (I:aE Xg pa σg H s) (hgs:s.gens[gi]? =some gs)
  (hgo:∀s3:Shared,aE Xg pa σg (aM H s.heap.objs.size (.lst [])) s3->(∀b o,s.heap.get? b=some o->s3.heap.get? b=some o)->s3.gens=s.gens->
   gs.Goes (model Xg.prog Xg.w) A.in1.in1.in1.in1 (wO λ s'=>∃H',aE Xg pa σg H' s'/\∃acc,H' s.heap.objs.size=some (.lst acc)/\Fin H' acc) (wN (xU Xg pa σg s.heap.objs.size fp)) n (.send .none) (s3.setGen gi .running))
  (hQ:∀H' s' acc its,aE Xg pa σg H' s'->aW acc its->acc.length<=sizeLine->Fin H' acc->Q (.ref s'.heap.objs.size) {s' with heap:=s'.heap.push {cls:=.type "tuple",data:=.seq its.toArray}}):
  wpAny (model Xg.prog Xg.w) A (call (.type "tuple") [.ref a]) Q E s:=by
 obtain⟨hg,_⟩:=hgen H s I
 have hTI:=Lf hg
 refine callType_codes (Q₁:=λ obj s₁=>s₁.TypeIs obj "tuple"/\Q obj s₁) F.called_tuple (F.typeCall_tuple_1 _) F.entry_object_init ?new λ obj s₁ h₁=>
  ⟨h₁.1,F.args_object_init_2 obj _,object_init_meets F.called_tuple.init.lookup F.called_tuple.made Qc _ _ A.in1 _ s₁ ⟨h₁.1,rfl,h₁.2⟩⟩
 case new=>
 refine codeAny_of_tree ?_
 show wpAny _ A.in1.in1 (do checkBuiltinCall "tuple.__new__" ⟨[.type "tuple",.ref a],[]⟩;again (.builtin "tuple.__new__" ⟨[.type "tuple",.ref a],[]⟩)) _ _ s
 refine wpAny_bind (wpAny_of_eq (F.newCall_tuple_1 _) (wpAny_pure ⟨plainId_quiet F.plain_tuple_new _,codeAny_builtin F.entry_tuple_new ?_⟩))
 rw[Around.under_plainId F.plain_tuple_new _]
 have hsub:=sub_tuple_self
 have hinit:=init_tuple_lookup
 have hmh:=madeHere_tuple
 wp_walk using wpAny_typeOf hTI,SD (A:=A.in1.in1) n hh hroom hgen hlt I hgs hgo
 intro H' s' acc its I' rv z q
 show wpAny _ _ (Builtin.Tuple.tupleExact its.toArray>>=λ v=>ret v) _ _ _
 unfold Builtin.Tuple.tupleExact
 refine wpAny_bind (wpAny_newObj_type ?_ (by show its.toArray.size<=sizeLine;rw[List.size_toArray,<-rv.length];exact z))
 refine wpAny_pure ?_
 exact⟨⟨_,Heap.get?_push_size _ rfl,rfl⟩,hQ H' s' acc its I' rv z q⟩
end
noncomputable abbrev Cx.up(X:Cx):Cx:={X with A:=X.A.in1.in1}
theorem aE.up{X:Cx}{pins:List (Addr×Obj)}{σ:St}{H:Hp}{s:Shared}(I:aE X pins σ H s):aE X.up pins σ H s:=
 ⟨⟨I.ok.mod,I.ok.kind,I.ok.glob,I.ok.blt,I.ok.above,I.ok.inj,I.ok.has,I.ok.cab,I.ok.hd,I.ok.frames,I.ok.stk,I.ok.exf,I.ok.bs,I.ok.bsz,I.ok.noex,I.ok.exfs,I.ok.funs,I.ok.frf⟩,I.os,I.bare,I.base,I.loc,I.cell,I.free,I.freeC,I.pin,I.hok,I.len⟩
theorem Bh{k:Nat}{A:Around}(r:dG (k+1) A){elt:Expr}{gens:List Comprehension}{scope:Scope}{pos:Pos}{it acc:Value}{env:Env}:dG k ((A.in1.in1.in1.in1).over (.compLoop (.GeneratorExp elt gens scope pos) 0 it acc env) []):=
 ⟨r.hd,by have:=r.dp;show A.depth+0+1+3*k+5<_;omega,by have:=r.un;show A.units+1+1+1+1+0+3+16*k+200<_;omega⟩
noncomputable def Pm(J:It)(g:TG)(tt:TT)(te:TE)(σc:St)(Q:VK)(D:Addr)(H1:Hp):Prop:=∃W:Nat->Nat->List V->Hp->Prop,(∃m,W 0 m [] (aM H1 D (.lst [])))/\∀i m xs H,W i m xs H->
 (J.stop i H/\H D=some (.lst xs)/\∀q,H q=none->Q (.ref q) (aM H q (.tup xs)))\/
 (J.go i H/\∀x H',J.yld i H x H'->g x σc H' λ σ2 H2=>tt σ2 H2 λ b H3=>if b=true then te σ2 H3 λ v H4=>H4 D=some (.lst xs)/\xs.length<sizeLine/\∃m',m'<m/\W (i+1) m' (xs++[v]) (aM H4 D (.lst (xs++[v])))else∃m',m'<m/\W (i+1) m' xs H3)
noncomputable def Ts(P:Addr)(k:Nat)(js:List Nat)(wi:TI)(g:TG)(tt:TT)(te:TE):TE:=λ σ H Q=>wi σ H λ J H1=>(∃ps,mM H1 P ps)/\∀ps',mM (aM H1 P (.tbl ps')) P ps'->∀D,(aM H1 P (.tbl ps')) D=none->Pm J g tt te (cJ k js σ) Q D (aM H1 P (.tbl ps'))
section
variable{X:Cx}
theorem EW{elt tg iter:Expr}{ifs:List Expr}{scope:Scope}{p pos gpos:Pos}{Nc:List Str}{kk k:Nat}{js:List Nat}{wi:TI}{g:TG}{tt:TT}{te:TE}{c P:Addr}(hr:dG kk X.A)(hc:X.calm=true)(hcode:X.env.code= .ref c)(hd:PySem.W.CodeHd X.base c P)(hbm:jF X.mg X.base)
  (hgl:Gl X "tuple") (hm:X.mg "tuple" =none) (S:xV X.env scope)
  (hjs:(Nc.drop k).map some=js.map (X.N[·]?)) (hfr:∀x∈Nc.drop k,scope.names.lookup x=some .free) (hk:k<=Nc.length) (hi:PI X tg iter wi)
  (hg:∀C code it s H ex,PG (dL X.up scope Nc C code (.GeneratorExp elt [⟨tg,iter,ifs,0⟩] scope gpos) it s H ex) tg g) (gk:jX k g) (ht:∀C code it s H ex,gG (dL X.up scope Nc C code (.GeneratorExp elt [⟨tg,iter,ifs,0⟩] scope gpos) it s H ex) ifs tt)
  (he:∀C code it s H ex,PE (dL X.up scope Nc C code (.GeneratorExp elt [⟨tg,iter,ifs,0⟩] scope gpos) it s H ex) elt te)
  (hs:∀x,genFold iter X.env x=pure x:=by intro _;rfl):
  PE X (.Call (.Name "tuple" p) [.GeneratorExp elt [⟨tg,iter,ifs,0⟩] scope gpos] [] pos) (Ts P k js wi g tt te):=by
 intro pins s σ H Q I h
 refine wpAny_Call_Name_kw (jR I hgl hm Ck ?_ Qc Qc)
 refine PyProof.Rows.callWith_type1 (Q:=EP X pins σ Q) (Calls.spliced_cons (wpAny_GeneratorExp_make S.co (xG λ y hy e=>I.ok.has y.1 (S.free y hy e)) S.cell S.zero S.kind hr.depth ?_ hs)) rfl rfl
 refine aT (hi pins s σ H _ I h) λ v s1 h1=>aT h1 λ itv s2 h2=>?_
 obtain⟨it,fp,tn,J,H2,e,I2,T,st2,f2,⟨ps,tb⟩,rest⟩:=h2
 subst e
 refine⟨I2.nolimit,Lg I2 hcode hd tb λ code s3 more I3 tr g3 o3 z3 x3=>?_⟩
 obtain⟨bm,ob,b1,b2,b3,b4,b5,b6⟩:=hbm
 refine wpAny_builtinsFor (globals:=X.env.globals) (by rw[I3.ok.glob];exact I3.mod.glob.keeps I3.bk) b1 b2 (I3.bk _ _ b3) b4 b5 b6 ?_
 intro h4 hn4 hs4
 have neP:∀b∈fp,b≠P:=λ b hb z=>by
  have:=(f2 b hb).1
  rw[z,tb.1]at this
  cases this
 have f3:∀b∈fp,eL X pins (aM H2 P (.tbl (ps++more))) b:=λ b hb=>⟨by rw[aY (neP b hb)];exact(f2 b hb).1,(f2 b hb).2⟩
 have st3:tn 0 s3.heap:=T.keep _ _ _ st2 λ b hb o e=>x3 b o (neP b hb) e
 have lt3:∀b∈fp,b<s3.heap.objs.size:=λ b hb=>by
  obtain⟨o,e,_⟩:=T.obj 0 _ st3 b hb
  exact Heap.lt_size e
 have keep4:∀b o,s3.heap.get? b=some o->h4.get? b=some o:=λ b o e=>hs4.extBut b o (Nat.ne_of_lt (Heap.lt_size e)) (Heap.get?_push_of_some _ e)
 have sz4:h4.objs.size=s3.heap.objs.size+1:=by rw[hs4.1,Heap.size_push]
 generalize eG:s3.gens.push (.fresh (.compStart (.GeneratorExp elt [⟨tg,iter,ifs,0⟩] scope gpos) 0 (.ref it) .none (genEnv scope (fP X.env scope.names) s3.heap.objs.size code builtinsNs X.env)))=gens5
 have gok5:eK s3.gens gens5:=by
  rw[<-eG]
  exact⟨I3.bare.1.push rfl,Qb⟩
 have I3':aE X pins σ (aM H2 P (.tbl (ps++more))) {s3 with gens:=gens5}:=I3.setGens gok5
 generalize eO:({cls:=.type "generator",data:=.fields #[.int s3.gens.size 0,.str "<genexpr>" (s3.toks+1),.str (X.env.qual++ "<genexpr>") (s3.toks+1+1)]}:Obj)=gobj
 have keep5:∀b o,h4.get? b=some o->(h4.push gobj).get? b=some o:=λ b o e=>Heap.get?_push_of_some _ e
 have I5:aE (dL X.up scope Nc s3.heap.objs.size code (.GeneratorExp elt [⟨tg,iter,ifs,0⟩] scope gpos) it {s3 with gens:=gens5} (aM H2 P (.tbl (ps++more))) fp) [] (cJ k js σ) (aM H2 P (.tbl (ps++more)))
   {s3 with gens:=gens5,toks:=s3.toks+1+1+1,heap:=h4.push gobj}:=
  Kr (X:=X.up) (s:={s3 with gens:=gens5}) (s4:={s3 with gens:=gens5,toks:=s3.toks+1+1+1,heap:=h4.push gobj}) I3'.up hc S hjs hfr hk f3 lt3 (Nat.le_refl _) (hn4.push _) (λ b o e=>keep5 b o (keep4 b o e)) rfl ⟨gok5.1,Nat.le_refl _⟩
 have aC:h4.objs.size≠s3.heap.objs.size:=by omega
 have aS:s3.heap.objs.size<=h4.objs.size:=by omega
 have aF:h4.objs.size∉cV X.stack:=λ z=>by
  rcases List.mem_cons.mp (I3.stkSub _ z)with z|z
  ·have l:=I3.lt
   rw[<-z]at l
   exact absurd (Nat.lt_of_lt_of_le l aS) (Nat.lt_irrefl _)
  ·exact I3.nofs aS z
 have aH:(aM H2 P (.tbl (ps++more))) h4.objs.size=none:=I3.hok.fresh aS
 have I6:aE (dL X.up scope Nc s3.heap.objs.size code (.GeneratorExp elt [⟨tg,iter,ifs,0⟩] scope gpos) it {s3 with gens:=gens5} (aM H2 P (.tbl (ps++more))) fp) [(h4.objs.size,gobj)] (cJ k js σ) (aM H2 P (.tbl (ps++more)))
   {s3 with gens:=gens5,toks:=s3.toks+1+1+1,heap:=h4.push gobj}:=I5.pins_of λ q hq=>by
  have e:q=(h4.objs.size,gobj):=by simpa using hq
  subst e
  refine⟨Heap.get?_push_size _ (by rw[<-eO];rfl),aH,aC,aF,λ v z=>?_⟩
  rw[<-eO]at z
  cases z
 have afp:∀b∈fp,h4.objs.size≠b:=λ b hb z=>by have:=lt3 b hb;rw[<-z]at this;exact absurd (Nat.lt_of_lt_of_le this aS) (Nat.lt_irrefl _)
 have frz:∀y∈scope.names,y.2= .free->∃c,X.env.cells.lookup y.1=some c:=λ y hy e=>I2.ok.has y.1 (S.free y hy e)
 have fpok:∀H':Hp,(∀b∈fp,H' b=none)->∀b∈fp,eL (dL X.up scope Nc s3.heap.objs.size code (.GeneratorExp elt [⟨tg,iter,ifs,0⟩] scope gpos) it {s3 with gens:=gens5} (aM H2 P (.tbl (ps++more))) fp) [(h4.objs.size,gobj)] H' b:=λ H' hn b hb=>by
  refine⟨hn b hb,Nat.ne_of_lt (lt3 b hb),λ z=>?_,.inl hb,λ x c e=>(f2 b hb).2.2.2.2.1 x c (fX frz e),λ q hq=>?_⟩
  ·rcases List.mem_cons.mp (I2.stkSub b z)with z|z
   ·exact(f2 b hb).2.1 z
   ·exact(f2 b hb).2.2.1 z
  ·have e:q=(h4.objs.size,gobj):=by simpa using hq
   subst e
   exact afp b hb
 have lenS:k<=(cJ k js σ).length:=by rw[sO];omega
 have own:∀(j:Nat) (v:V),(cJ k js σ)[j]? =some (some v)->k<=j:=λ j v e=>by
  obtain⟨t,j',rfl,_⟩:=sN e
  omega
 have hh:X.A.handled=none:=I.ok.hd hc
 have hIsGen:∀H' s',aE (dL X.up scope Nc s3.heap.objs.size code (.GeneratorExp elt [⟨tg,iter,ifs,0⟩] scope gpos) it {s3 with gens:=gens5} (aM H2 P (.tbl (ps++more))) fp) [(h4.objs.size,gobj)] (cJ k js σ) H' s'->s'.heap.IsGen h4.objs.size s3.gens.size/\s3.gens.size<s'.gens.size:=λ H' s' I'=>by
  obtain⟨p1,_⟩:=I'.pin (h4.objs.size,gobj) Qb
  have g5lt:s3.gens.size<gens5.size:=by rw[<-eG];simp
  exact⟨⟨gobj,_,_,p1,by rw[<-eO],by rw[<-eO],by rw[<-eO]⟩,Nat.lt_of_lt_of_le g5lt I'.bare.2⟩
 have sz5:(h4.push gobj).objs.size=h4.objs.size+1:=Heap.size_push ..
 have ltD:∀b∈fp,b<(h4.push gobj).objs.size:=λ b hb=>Nat.lt_of_lt_of_le (lt3 b hb) (by rw[sz5];omega)
 obtain⟨W,⟨m0,w0⟩,turn⟩:=rest (ps++more) ⟨dA,tr⟩ (h4.push gobj).objs.size (I6.hok.fresh (Nat.le_refl _))
 have seg:=AI (D:=(h4.push gobj).objs.size) (Xg:=dL X.up scope Nc s3.heap.objs.size code (.GeneratorExp elt [⟨tg,iter,ifs,0⟩] scope gpos) it {s3 with gens:=gens5} (aM H2 P (.tbl (ps++more))) fp) (A:=X.A.in1.in1.in1.in1) rfl rfl S.co rfl (hg _ _ _ _ _ _) gk (ht _ _ _ _ _ _) (he _ _ _ _ _ _) T lenS own fpok W (λ acc H'=>H' (h4.push gobj).objs.size=some (.lst acc)/\∀q,H' q=none->Q (.ref q) (aM H' q (.tup acc))) turn
 refine Calls.spliced_nil (SQ (Xg:=dL X.up scope Nc s3.heap.objs.size code (.GeneratorExp elt [⟨tg,iter,ifs,0⟩] scope gpos) it {s3 with gens:=gens5} (aM H2 P (.tbl (ps++more))) fp) (pa:=[(h4.objs.size,gobj)]) (σg:=cJ k js σ) (gi:=s3.gens.size) (Fin:=λ H' acc=>∀q,H' q=none->Q (.ref q) (aM H' q (.tup acc))) (fp:=fp) (gs:=.fresh (.compStart (.GeneratorExp elt [⟨tg,iter,ifs,0⟩] scope gpos) 0 (.ref it) .none (genEnv scope (fP X.env scope.names) s3.heap.objs.size code builtinsNs X.env))) (m0+1) hh hr.depth hIsGen (λ b hb=>?_) I6 ?_ (λ s6 J6 k6 g6=>⟨rfl,?_⟩) ?_)
 ·exact ltD b hb
 ·rw[<-eG]
  exact Array.getElem?_push_size ..
 ·
  have gset:eK s6.gens (s6.gens.setIfInBounds s3.gens.size .running):=iK J6.bare.1 rfl
  have I7:=J6.setGens (g':=s6.gens.setIfInBounds s3.gens.size .running) gset
  have st6:tn 0 s6.heap:=T.keep _ _ _ st3 λ b _ o e=>k6 b o (keep5 b o (keep4 b o e))
  have nD:∀b∈fp,b≠(h4.push gobj).objs.size:=λ b hb=>Nat.ne_of_lt (ltD b hb)
  have loop:=seg m0 (m0+1) (Nat.lt_succ_self _) 0 _ _ _ (s6.setGen s3.gens.size .running) w0 I7 st6 λ b hb=>by rw[aY (nD b hb)];exact(f3 b hb).1
  show Seg _ X.A.in1.in1.in1.in1 _ _ _ _ _ ((compStart (.GeneratorExp elt [⟨tg,iter,ifs,0⟩] scope gpos) 0 (.ref it) .none (genEnv scope (fP X.env scope.names) s3.heap.objs.size code builtinsNs X.env)).onRaise (leaving _)) [] _
  unfold compStart
  rw[Sem.onRaise_eq_wrap]
  show Seg _ X.A.in1.in1.in1.in1 _ _ _ _ _ ((ask>>=_).wrap _ _ _ _) [] _
  refine seg_bind_wrap (wpAny_askSetting ?_)
  have self:∀(A':Around) (Q':Qd) (E':Qd) (s':Shared),tn 0 s'.heap->Q' (.ref it) s'->wpAny (model X.prog X.w) A' (pyIter (.ref it)) Q' E' s':=λ A' Q' E' s' st q=>T.self A' 0 s' Q' E' st q
  split
  ·exact seg_again rfl loop
  ·first
    |exact seg_bind_wrap (wpAny_rule (seg_bind_wrap (wpAny_standAt (seg_bind_wrap (self _ _ _ _ st6 (seg_again rfl loop))))))
    |(refine seg_bind_wrap (wpAny_rule ?_);show Seg _ X.A.in1.in1.in1.in1 _ _ _ _ _ ((standAt iter.pos>>=_).wrap _ _ _ _) [] _;exact seg_bind_wrap (wpAny_standAt (seg_bind_wrap (self _ _ _ _ st6 (seg_again rfl loop)))))
 ·rintro H' s' acc its I' rv z q
  have hu:Un (cV X.stack) fp (aM H2 P (.tbl (ps++more))) H' s3.heap s'.heap:=I'.base
  have I8:aE X pins σ H' s':=I3'.call' I'.os hu I'.hok I'.bare λ b hb=>⟨(f3 b hb).2.2.2.1,(f3 b hb).2.1,(f3 b hb).2.2.2.2.1,(f3 b hb).2.2.2.2.2⟩
  exact⟨.ref s'.heap.objs.size,_,I8.laid (t':=s'.toks) (o:=.tup acc) (λ b o e=>Heap.get?_push_of_some _ e) (Nat.le_refl _) ⟨z,its,rv,IsTup.new _ _,_,Heap.get?_push_size _ rfl,rfl⟩,rfl,q _ (I8.hok.fresh (Nat.le_refl _))⟩
end
theorem oB.okX{P:Program}{w:World}{K:PySem.W.Frag}{mg:Str->Option Value}{base:Heap}{x qual:Str}{st:Stmt}{f:Addr}{fd:FuncData}{c:Addr}{N ps:List Str}{k:Nat}{sp:Sp}(F:oB K x qual st f fd c)(S:tL N ps (aP st))(len:∀vs H Q E,sp vs H Q E->vs.length=ps.length)
  (hbody:∀(A:Around) (outer:List Env) (s:Shared) (H:Hp) (vs:List V) (Q:VK) (E:XK),dG k (A.deeper (envOfC qual (aP st) s.heap.objs.size f (.ref c)))->sp vs H Q E->
   ∃t,eB (mH (fZ P w) P w K mg base N qual (aP st) f (.ref c) A outer s H E) (bO st) t/\t {nx:=λ _ H'=>Q .non H',rt:=Q} (start N vs) H):fQ P w K mg base (fZ P w) (k+1) f fd ps sp:=by
 obtain⟨oc,od,kV,doc,pm,an,ct,osl,rfl,lk,hcd⟩:=F.ex
 exact Mv lk hcd S len hbody
theorem Fd:∀{us:List Value} {ys:List Str},StrsAre us ys->aW (ys.map V.str) us
 |_,_,.nil=>.nil
 |_,_,.cons y t r=>.cons ⟨t,rfl⟩ (Fd r)
noncomputable def BA(K:PySem.W.Frag):List V->Hp->VK->Prop:=λ vs H Q=>∃(a:Addr) (ys:List Str),vs=[.ref a]/\bA K H a (ys.map V.str)/\ys.length<64/\∀p zs,H p=none->zs.Perm ys->sortedS zs=true->Q (.ref p) (aM H p (.lst (zs.map V.str)))
theorem SV{X:Cx}:eW X (.builtin "sorted") (BA X.K):=by
 intro pins s σ H vs us Q I rv h
 obtain⟨a,ys,rfl,hq,h64,q⟩:=h
 obtain⟨u,rfl,ru⟩:=rv.one
 obtain rfl:u= .ref a:=ru
 obtain⟨its,r,pl,hl⟩:=I.list hq
 have hlen:=r.length
 rw[List.length_map]at hlen
 refine sorted_strs pl.isList (strs_of r) Qa λ out ss' a1 a2 a3=>?_
 obtain⟨e,he⟩:=sortedAll_at s.heap its out
 have hl2:=a2.length_eq
 refine⟨.ref (s.heap.objs.size+1),_,I.laid (t':=s.toks) (o:=.lst (ss'.map V.str)) (λ b o q=>sortedAll_old q) (Nat.le_succ _) ⟨?_,out.toList,e,Fd a1,by simpa using he⟩,rfl,q _ ss' (I.hok.fresh (Nat.le_succ _)) a2 a3⟩
 rw[List.length_map]
 exact Nat.le_of_lt (Fm Qa)
structure Pq(k:Nat)(A:Around):Prop where
 dp:A.depth+3*k+5<recursionLimit
 un:A.units+16*k+200<cLine
theorem dG.zero{k:Nat}{A:Around}(r:dG k A):Pq k A:=⟨r.dp,r.un⟩
section
variable{P:Program}{w:World}{K:PySem.W.Frag}{mg:Str->Option Value}{base:Heap}
variable{X:Cx}{x:Str}{k j:Nat}{ps:List Str}{sp:Sp}{e:Expr}{es:List Expr}{p pos:Pos}{t:TA}
end
section
variable{prog:Program}{w:World}{A:Around}{E:Qd}{s:Shared}{z TI TO i j:Addr}{fp gp:List Addr}{n m k:Nat}{P R:Nat->Value->Prop}{St Su:Nat->Heap->Prop}{a b:Value}
theorem Rf{Q:Option Value->Shared->Prop}(Z:ZA z TI TO i j fp gp)(D:Draws prog w A.in1 i fp n P St)(G:Draws prog w A.in1 j gp m R Su)(hz:IsZip s.heap z TI TO .none)(hI:IsPair s.heap TI (.ref i) (.ref j))(hO:IsPair s.heap TO a b)(hk:k<n)(h1:St k s.heap)(hm:k=m)(h2:Su k s.heap)
  (hQ:∀h' tk,(∀c o,c∉[z,TO,i,j]->s.heap.get? c=some o->h'.get? c=some o)->Q none {s with heap:=h',toks:=tk}):wpAny (model prog w) A (pyNext (.ref z)) Q E s:=by
 have nd:=Z.nd
 simp only[List.nodup_cons,List.mem_cons,List.not_mem_nil,or_false,not_or,List.nodup_nil,and_true,not_false_eq_true]at nd
 obtain⟨⟨nzI,nzO,nzi,nzj⟩,⟨nIO,nIi,nIj⟩,⟨nOi,nOj⟩,nij⟩:=nd
 have hT:s.TypeIs (.ref z) "zip" :=⟨_,hz,rfl⟩
 obtain⟨hp,g,d,t0,os⟩:=s
 unfold pyNext
 refine wpAny_bind (wpAny_attempt (wpAny_callSpecial?_slot (name:=Str.ofString "__next__") hT F.slot_zip_next (wpAny_call_entry F.slot_zip_next hT F.entry_zip_next ?_ (F.args_zip_next_1 _))))
 show wpAny _ _ (field (.ref z) 2>>=_) _ _ _
 refine wpAny_bind (wpAny_field hz rfl (x:=.bool false) rfl ?_)
 show wpAny _ _ (field (.ref z) 3>>=_) _ _ _
 refine wpAny_bind (wpAny_field hz rfl (x:=.ref TI) rfl (wpAny_bind (wpAny_seqItems hI rfl ?_)))
 show wpAny _ _ (Builtin.SmallTypes.ownedTupleIsFree (.ref z)>>=_) _ _ _
 refine wpAny_bind ?_
 unfold Builtin.SmallTypes.ownedTupleIsFree
 refine wpAny_bind (wpAny_field hz rfl (x:=.none) rfl (wpAny_pure ?_))
 simp only[if_true]
 refine wpAny_bind (wpAny_rule (wpAny_bind (wpAny_field hz rfl (x:=.ref TO) rfl (wpAny_bind (wpAny_setField_rec hz Qb λ hA zA sA=>wpAny_bind ?_)))))
 replace zA:IsZip hA z TI TO .ellipsis:=zA
 replace sA:Heap.SameBut z hp hA:=sA
 simp only[List.zipIdx_cons,List.zipIdx_nil,List.forIn_cons,List.forIn_nil]
 refine wpAny_bind (wpAny_bind (wpAny_onRaise ?_))
 show wpAny _ _ (Builtin.SmallTypes.nextOf (.ref i)>>=_) _ _ _
 have h1A:St k hA:=D.frame _ _ _ h1 λ b hb o q=>(sA.2 b (Z.f b hb).1).trans q
 refine wpAny_bind (D.item k ⟨hA,g,d,t0,os⟩ _ _ hk h1A λ x hB tB px h1B sB=>wpAny_pure ?_)
 replace sB:Heap.SameBut i hA hB:=sB
 have OB:IsPair hB TO a b:=(sB.2 _ nOi).trans ((sA.2 _ (Ne.symm nzO)).trans hO)
 refine wpAny_bind (wpAny_seqItems OB rfl (wpAny_bind (wpAny_updateSeq_pair (s:=⟨hB,g,d,tB,os⟩) OB λ hC OC sC=>wpAny_bind (wpAny_letGo (wpAny_pure ?_)))))
 replace sC:Heap.SameBut TO hB hC:=sC
 refine wpAny_bind (wpAny_bind (wpAny_onRaise ?_))
 show wpAny _ _ (Builtin.SmallTypes.nextOf (.ref j)>>=_) _ _ _
 have h2C:Su k hC:=G.frame _ _ _ h2 λ b hb o q=>(sC.2 b (Z.g b hb).2.1).trans ((sB.2 b (Z.g b hb).2.2.1).trans ((sA.2 b (Z.g b hb).1).trans q))
 rw[hm]at h2C
 refine wpAny_bind (G.done ⟨hC,g,d,tB,os⟩ _ _ h2C λ hD e sD ⟨oe,he,hce⟩=>?_)
 have zD:IsZip hD z TI TO .ellipsis:=sD _ _ nzj ((sC.2 _ nzO).trans ((sB.2 _ nzi).trans zA))
 have nez:e≠z:=λ x=>by subst x;rw[zD]at he;cases he;simp at hce
 refine wpAny_setField_rec zD Qb λ hE _ sE=>?_
 replace sE:Heap.SameBut z hD hE:=sE
 refine wpAny_bind (wpAny_isInstance (T:= "StopIteration") (b:=true) ⟨oe,(sE.2 _ nez).trans he,hce⟩ isSubtype_stop (wpAny_pure (hQ _ tB λ c o hc q=>?_)))
 simp only[List.mem_cons,List.not_mem_nil,or_false,not_or]at hc
 exact(sE.2 _ hc.1).trans (sD _ _ hc.2.2.2 ((sC.2 _ hc.2.1).trans ((sB.2 _ hc.2.2.1).trans ((sA.2 _ hc.1).trans q))))
end
theorem OI{X:Cx}{pins:List (Addr×Obj)}{σ:St}{H:Hp}{s:Shared}{a b:Addr}{xs:List V}(I:aE X pins σ H s)(hf:eL X pins H b)(hq:bA X.K H a xs):a≠b:=by
 intro e
 subst e
 obtain⟨f0,_,_,f3,_,_⟩:=hf
 rcases hq with(h|⟨o,h⟩)|⟨o,_,_,hk,_⟩
 ·rw[f0]at h;cases h
 ·rw[f0]at h;cases h
 ·have hb:=I.ok.mod.kin _ _ hk
  rcases f3 with z|z
  ·exact I.ok.noex _ _ hb z
  ·exact absurd (Nat.lt_of_lt_of_le (Heap.lt_size (I.ok.bs _ _ hb).1) z) (Nat.lt_irrefl _)
section
variable{prog:Program}{w:World}{A:Around}{E:Qd}{s:Shared}
noncomputable abbrev uL(l:Addr):Obj:={cls:=.type "tuple_iterator",data:=.fields #[.ref l,.int 0 0]}
noncomputable abbrev oF(h:Heap)(l:Addr):Heap:=h.push (uL l)
noncomputable abbrev qD(h:Heap)(l c:Addr):Heap:=(oF h l).push (uL c)
noncomputable abbrev qB(h:Heap)(l c:Addr):Heap:=(qD h l c).push (lJ (.ref h.objs.size) (.ref (oF h l).objs.size))
noncomputable abbrev tX(h:Heap)(l c:Addr):Heap:=(qB h l c).push (lJ .none .none)
noncomputable abbrev lE(h:Heap)(l c:Addr):Heap:=(tX h l c).push (tV (.ref (qD h l c).objs.size) (.ref (qB h l c).objs.size))
theorem IR(l c:Addr)(xs ys:Array Value):Meets (Builtin.«zip.__new__» ⟨[.type "zip",.ref l,.ref c],[]⟩) (λ _ R s=>(s.heap.IsTuple l xs/\s.heap.IsTuple c ys)/\R (.ok (.ret (.ref (tX s.heap l c).objs.size))) {s with heap:=lE s.heap l c}):=
 .of_wp λ prog w A R s h=>by
  obtain⟨hp,g,d,tk,os⟩:=s;obtain⟨⟨hl1,hl2⟩,h⟩:=h
  have hsub:=sub_zip
  have hL1:Heap.IsTuple (Shared.heap ⟨hp,g,d,tk,os⟩) l xs:=hl1
  have hL2:Heap.IsTuple (Shared.heap ⟨oF hp l,g,d,tk,os⟩) c ys:=hl2.at λ o e=>Heap.get?_push_of_some _ e
  wp_walk using wpAny_pyIter_tuple hL1,wpAny_pyIter_tuple hL2
  exact⟨_,rfl,h⟩
theorem SN{l c:Addr}{xs ys:Array Value}{Q:Qd}(h1:s.heap.IsTuple l xs)(h2:s.heap.IsTuple c ys)
  (h:∀h',IsZip h' (s.heap.objs.size+4) (s.heap.objs.size+2) (s.heap.objs.size+3) .none->IsPair h' (s.heap.objs.size+2) (.ref s.heap.objs.size) (.ref (s.heap.objs.size+1))->IsPair h' (s.heap.objs.size+3) .none .none->
   h'.IsTupleIter s.heap.objs.size l 0->h'.IsTupleIter (s.heap.objs.size+1) c 0->(∀b o,s.heap.get? b=some o->h'.get? b=some o)->Q (.ref (s.heap.objs.size+4)) {s with heap:=h'}):wpAny (model prog w) A (call (.type "zip") [.ref l,.ref c]) Q E s:=by
 refine callType_new F.called_zip Qc (F.typeCall_zip_2 _ _) (F.newCall_zip_2 _ _) (λ obj=>F.args_object_init_3 obj _ _) F.entry_zip_new (IR l c xs ys) ⟨⟨h1,h2⟩,?_⟩
 have z1:(oF s.heap l).objs.size=s.heap.objs.size+1:=Heap.size_push ..
 have z2:(qD s.heap l c).objs.size=s.heap.objs.size+2:=(Heap.size_push ..).trans (congrArg (· +1) z1)
 have z3:(qB s.heap l c).objs.size=s.heap.objs.size+3:=(Heap.size_push ..).trans (congrArg (· +1) z2)
 have z4:(tX s.heap l c).objs.size=s.heap.objs.size+4:=(Heap.size_push ..).trans (congrArg (· +1) z3)
 have up:∀{hh:Heap} {o o':Obj} {b:Addr},hh.get? b=some o->(hh.push o').get? b=some o:=λ e=>Heap.get?_push_of_some _ e
 have p1:(lE s.heap l c).get? s.heap.objs.size=some (uL l):=up (up (up (up (Heap.get?_push_size _ rfl))))
 have p2:(lE s.heap l c).get? (oF s.heap l).objs.size=some (uL c):=up (up (up (Heap.get?_push_size _ rfl)))
 have p3:(lE s.heap l c).get? (qD s.heap l c).objs.size=some (lJ (.ref s.heap.objs.size) (.ref (oF s.heap l).objs.size)):=up (up (Heap.get?_push_size _ rfl))
 have p4:(lE s.heap l c).get? (qB s.heap l c).objs.size=some (lJ .none .none):=up (Heap.get?_push_size _ rfl)
 have p5:(lE s.heap l c).get? (tX s.heap l c).objs.size=some (tV (.ref (qD s.heap l c).objs.size) (.ref (qB s.heap l c).objs.size)):=Heap.get?_push_size _ rfl
 have pp:=λ b o (e:s.heap.get? b=some o)=>show(lE s.heap l c).get? b=some o from up (up (up (up (up e))))
 show _/\_
 generalize lE s.heap l c=hh at p1 p2 p3 p4 p5 pp⊢
 rw[z1]at p2 p3
 rw[z2]at p3 p5
 rw[z3]at p4 p5
 rw[z4]at p5⊢
 exact⟨⟨_,p5,rfl⟩,h _ p5 p3 p4 ⟨_,p1,rfl,rfl⟩ ⟨_,p2,rfl,rfl⟩ pp⟩
end
structure ZK(Sq:PySem.W.Frag->Hp->Addr->List V->Prop)(It':Heap->Addr->Addr->Nat->Prop)(Is:Heap->Addr->Array Value->Prop):Prop where
 ob:∀{h:Heap} {i a:Addr} {k:Nat},It' h i a k->∃o,h.get? i=some o/\∀v,o.data≠ .cell v
 at':∀{h h':Heap} {i a:Addr} {k:Nat},It' h i a k->(∀o,h.get? i=some o->h'.get? i=some o)->It' h' i a k
 sq:∀{X:Cx} {pins:List (Addr×Obj)} {σ:St} {H:Hp} {s:Shared} {a:Addr} {xs:List V},aE X pins σ H s->Sq X.K H a xs->∃its:List Value,aW xs its/\Is s.heap a its.toArray
 ne:∀{X:Cx} {pins:List (Addr×Obj)} {σ:St} {H:Hp} {s:Shared} {a b:Addr} {xs:List V},aE X pins σ H s->eL X pins H b->Sq X.K H a xs->a≠b
 inj:∀{X:Cx} {pins:List (Addr×Obj)} {σ:St} {H:Hp} {s:Shared} {a:Addr} {xs ys:List V},aE X pins σ H s->Sq X.K H a xs->Sq X.K H a ys->xs=ys
 dr:∀{prog:Program} {w:World} {A:Around},A.handled=none->∀(it l:Addr),l≠it->∀items:Array Value,Draws prog w A it [it,l] items.size (λ i v=>items[i]? =some v) (λ i h=>It' h it l i/\Is h l items)
noncomputable def Di(Sq:PySem.W.Frag→Hp→Addr→List V→Prop)(K:PySem.W.Frag)(a c:Addr):It:=
  ⟨λ k H=>∃xs ys x y,Sq K H a xs∧Sq K H c ys∧xs[k]? =some x∧ys[k]? =some y,
   λ k H v H'=>∃T x y,v= .ref T∧H T=none∧H'=aM H T (.tup [x,y])∧(∀xs,Sq K H a xs→xs[k]? =some x)∧(∀ys,Sq K H c ys→ys[k]? =some y),
   λ k H=>∃xs ys,Sq K H a xs∧Sq K H c ys∧(xs.length=k∨(k<xs.length∧ys.length=k))⟩
theorem Ek{Sq:PySem.W.Frag->Hp->Addr->List V->Prop}{It':Heap->Addr->Addr->Nat->Prop}{Is:Heap->Addr->Array Value->Prop}(U:ZK Sq It' Is){P:Program}{w:World}{K:PySem.W.Frag}{elts:List Expr}{q}{pos:Pos}(a c z TI TO i j:Addr)(nd:[z,TI,TO,i,j].Nodup):
  iR P w K (.Tuple elts q pos) (Di Sq K a c) [z,TI,TO,i,j] z (λ k h=>IsZip h z TI TO .none/\IsPair h TI (.ref i) (.ref j)/\(∃u v,IsPair h TO u v)/\It' h i a k/\It' h j c k) where
 mem:=by simp
 obj:=λ k h st b hb=>by
  obtain⟨h1,h2,⟨u,v,h3⟩,h4,h5⟩:=st
  simp only[List.mem_cons,List.not_mem_nil,or_false]at hb
  rcases hb with rfl|rfl|rfl|rfl|rfl
  ·exact⟨_,h1,λ v z=>by cases z⟩
  ·exact⟨_,h2,λ v z=>by cases z⟩
  ·exact⟨_,h3,λ v z=>by cases z⟩
  ·exact U.ob h4
  ·exact U.ob h5
 keep:=λ k h h' st kk=>by
  obtain⟨h1,h2,⟨u,v,h3⟩,h4,h5⟩:=st
  exact⟨kk _ Qb _ h1,kk _ Qb _ h2,⟨u,v,kk _ Qb _ h3⟩,U.at' h4 λ o e=>kk i Qb o e,U.at' h5 λ o e=>kk j Qb o e⟩
 item:=by
  intro X hP hw hK hc k pins s σ H E I hf st hg
  subst hP hw hK
  obtain⟨xs,ys,x,y,hq1,hq2,hx,hy⟩:=hg
  obtain⟨h1,h2,⟨u,v,h3⟩,h4,h5⟩:=st
  obtain⟨its1,rv1,p1⟩:=U.sq I hq1
  obtain⟨its2,rv2,p2⟩:=U.sq I hq2
  obtain⟨u1,hu1,ru1⟩:=rv1.get hx
  obtain⟨u2,hu2,ru2⟩:=rv2.get hy
  have na:∀b∈[z,TI,TO,i,j],a≠b:=λ b hb=>U.ne I (hf b hb) hq1
  have nc:∀b∈[z,TI,TO,i,j],c≠b:=λ b hb=>U.ne I (hf b hb) hq2
  have nd':=nd
  simp only[List.nodup_cons,List.mem_cons,List.not_mem_nil,or_false,not_or,List.nodup_nil,and_true,not_false_eq_true]at nd'
  obtain⟨⟨nzI,nzO,nzi,nzj⟩,⟨nIO,nIi,nIj⟩,⟨nOi,nOj⟩,nij⟩:=nd'
  have Z:ZA z TI TO i j [i,a] [j,c]:=⟨nd,λ b hb=>by
   rcases List.mem_cons.mp hb with rfl|hb
   ·exact⟨Ne.symm nzi,Ne.symm nOi,nij,Ne.symm nIi⟩
   ·rw[show b=a by simpa using hb];exact⟨na z Qb,na TO Qb,na j Qb,na TI Qb⟩,λ b hb=>by
   rcases List.mem_cons.mp hb with rfl|hb
   ·exact⟨Ne.symm nzj,Ne.symm nOj,Ne.symm nij,Ne.symm nIj⟩
   ·rw[show b=c by simpa using hb];exact⟨nc z Qb,nc TO Qb,nc i Qb,nc TI Qb⟩⟩
  have D1:=U.dr (prog:=X.prog) (w:=X.w) (A:=X.A.in1) (I.ok.hd hc) i a (na i Qb) its1.toArray
  have D2:=U.dr (prog:=X.prog) (w:=X.w) (A:=X.A.in1) (I.ok.hd hc) j c (nc j Qb) its2.toArray
  refine BQ Z D1 D2 h1 h2 h3 ⟨h4,p1⟩ ⟨h5,p2⟩ (by rw[List.size_toArray];exact(List.getElem?_eq_some_iff.mp hu1).1) (by rw[List.size_toArray];exact(List.getElem?_eq_some_iff.mp hu2).1) λ v1 v2 h' tk e1 e2 a1 a2 a3 a4 a5 a6 a7=>?_
  have e1':its1[k]? =some v1:=by simpa using e1
  have e2':its2[k]? =some v2:=by simpa using e2
  rw[hu1]at e1'
  rw[hu2]at e2'
  cases e1'
  cases e2'
  refine⟨_,rfl,wpAny_letOwnedTupleGo_zip (s:={s with heap:=h',toks:=tk}) a1 λ h3' b1 sb=>?_⟩
  replace sb:Heap.SameBut z h' h3':=sb
  have lt:∀b∈[z,TI,TO,i,j],b<s.heap.objs.size:=λ b hb=>by
   obtain⟨_,q4,_⟩:=U.ob h4
   obtain⟨_,q5,_⟩:=U.ob h5
   simp only[List.mem_cons,List.not_mem_nil,or_false]at hb
   rcases hb with rfl|rfl|rfl|rfl|rfl
   ·exact Heap.lt_size h1
   ·exact Heap.lt_size h2
   ·exact Heap.lt_size h3
   ·exact Heap.lt_size q4
   ·exact Heap.lt_size q5
  have stn:IsZip h3' z TI TO .none/\IsPair h3' TI (.ref i) (.ref j)/\(∃u v,IsPair h3' TO u v)/\It' h3' i a (k+1)/\It' h3' j c (k+1):=
   ⟨b1,(sb.2 _ (Ne.symm nzI)).trans a2,⟨_,_,(sb.2 _ (Ne.symm nzO)).trans a3⟩,U.at' a4.1 λ o e=>(sb.2 i (Ne.symm nzi)).trans e,U.at' a5.1 λ o e=>(sb.2 j (Ne.symm nzj)).trans e⟩
  have J:aE X pins σ (aM H s.heap.objs.size (.tup [x,y])) {s with heap:=h3',toks:=tk}:=by
   refine I.turnedNew (fp:=[z,TI,TO,i,j]) (its:=[u1,u2]) hf (λ b o hb q=>(sb.2 b (λ e=>hb (by simp[e]))).trans (a7 b o (λ e=>hb (by simp only[List.mem_cons,List.not_mem_nil,or_false]at e⊢;rcases e with e|e|e|e<;>simp[e])) q)) (λ b hb=>?_) (Nat.le_refl _) ⟨⟨_,(sb.2 _ (Nat.ne_of_gt (lt z Qb))).trans a6,rfl,0,rfl⟩,_,(sb.2 _ (Nat.ne_of_gt (lt z Qb))).trans a6,rfl⟩ (.cons ru1 (.cons ru2 .nil)) (by show 2<=sizeLine;decide)
   obtain⟨t1,t2,⟨_,_,t3⟩,t4,t5⟩:=id stn
   obtain⟨_,t4,_⟩:=U.ob t4
   obtain⟨_,t5,_⟩:=U.ob t5
   simp only[List.mem_cons,List.not_mem_nil,or_false]at hb
   rcases hb with rfl|rfl|rfl|rfl|rfl
   ·exact⟨_,t1⟩
   ·exact⟨_,t2⟩
   ·exact⟨_,t3⟩
   ·exact⟨_,t4⟩
   ·exact⟨_,t5⟩
  refine⟨.ref s.heap.objs.size,aM H s.heap.objs.size (.tup [x,y]),J,rfl,⟨_,x,y,rfl,I.hok.fresh (Nat.le_refl _),rfl,λ zs hz=>by rw[U.inj I hz hq1];exact hx,λ zs hz=>by rw[U.inj I hz hq2];exact hy⟩,stn,λ b hb=>?_⟩
  rw[aY (Nat.ne_of_lt (lt b hb))]
  exact(hf b hb).1
 done:=by
  intro X hP hw hK hc k pins s σ H E I hf st hg
  subst hP hw hK
  obtain⟨xs,ys,hq1,hq2,hl⟩:=hg
  obtain⟨h1,h2,⟨u,v,h3⟩,h4,h5⟩:=st
  obtain⟨its1,rv1,p1⟩:=U.sq I hq1
  have na:∀b∈[z,TI,TO,i,j],a≠b:=λ b hb=>U.ne I (hf b hb) hq1
  have nd':=nd
  simp only[List.nodup_cons,List.mem_cons,List.not_mem_nil,or_false,not_or,List.nodup_nil,and_true,not_false_eq_true]at nd'
  obtain⟨⟨nzI,nzO,nzi,nzj⟩,⟨nIO,nIi,nIj⟩,⟨nOi,nOj⟩,nij⟩:=nd'
  obtain⟨its2,rv2,p2⟩:=U.sq I hq2
  have nc:∀b∈[z,TI,TO,i,j],c≠b:=λ b hb=>U.ne I (hf b hb) hq2
  have Z:ZA z TI TO i j [i,a] [j,c]:=⟨nd,λ b hb=>by
   rcases List.mem_cons.mp hb with rfl|hb
   ·exact⟨Ne.symm nzi,Ne.symm nOi,nij,Ne.symm nIi⟩
   ·rw[show b=a by simpa using hb];exact⟨na z Qb,na TO Qb,na j Qb,na TI Qb⟩,λ b hb=>by
   rcases List.mem_cons.mp hb with rfl|hb
   ·exact⟨Ne.symm nzj,Ne.symm nOj,Ne.symm nij,Ne.symm nIj⟩
   ·rw[show b=c by simpa using hb];exact⟨nc z Qb,nc TO Qb,nc i Qb,nc TI Qb⟩⟩
  have D1:=U.dr (prog:=X.prog) (w:=X.w) (A:=X.A.in1) (I.ok.hd hc) i a (na i Qb) its1.toArray
  have D2:=U.dr (prog:=X.prog) (w:=X.w) (A:=X.A.in1) (I.ok.hd hc) j c (nc j Qb) its2.toArray
  have stepped:∀(h':Heap) (tk:Nat),(∀c o,c∉[z,TO,i,j]->s.heap.get? c=some o->h'.get? c=some o)->aE X pins σ H {s with heap:=h',toks:=tk}:=by
   intro h' tk kk
   refine I.step (g':=s.gens) (d':=s.drawn) (t':=tk) (ch:=[z,TO,i,j]) (λ b hb=>?_) (λ b o _ _ hb q _=>kk b o hb q) (λ b o _ _ hb q _=>⟨o.slots,kk b o hb q⟩) (λ _ _ _ _ n=>n) (λ b o hb q=>⟨o,kk b o hb q⟩) (λ _ _ e=>e) (λ _ _ _ e=>e) (λ b ps e=>⟨#[],by rw[e];simp⟩) (λ m hn=>?_) (λ b u q=>?_) ⟨I.bare.1,Nat.le_refl _⟩
   ·have hb':b∈[z,TI,TO,i,j]:=by simp only[List.mem_cons,List.not_mem_nil,or_false]at hb⊢;rcases hb with e|e|e|e<;>simp[e]
    obtain⟨f0,f1,f2,f3,f4,f5⟩:=hf b hb'
    exact⟨f3,f1,f4,f5⟩
   ·obtain⟨o,es,ep,ho,r⟩:=hn
    refine⟨o,es,ep,kk _ o (λ hb=>?_) ho,r⟩
    have hb':X.env.locals∈[z,TI,TO,i,j]:=by simp only[List.mem_cons,List.not_mem_nil,or_false]at hb⊢;rcases hb with e|e|e|e<;>simp[e]
    exact(hf _ hb').2.1 rfl
   ·refine(I.hok b u q).stay (λ c' v' hc' y=>kk c' v' (λ hb=>?_) y) (λ _ y=>y) λ _ _ y=>y
    have hb':c'∈[z,TI,TO,i,j]:=by simp only[List.mem_cons,List.not_mem_nil,or_false]at hb⊢;rcases hb with e|e|e|e<;>simp[e]
    have:=(hf _ hb').1
    rcases hc' with e|e
    ·rw[e]at this;rw[this]at q;cases q
    ·rw[this]at e;cases e
  rcases hl with hl|⟨hl,hl2⟩
  ·have hk:its1.toArray.size=k:=by rw[List.size_toArray,<-rv1.length];exact hl
   exact Rg Z D1 h1 h2 ⟨by rw[hk];exact h4,p1⟩ λ h' kk=>⟨rfl,stepped h' s.toks kk⟩
  ·have hk:k<its1.toArray.size:=by rw[List.size_toArray,<-rv1.length];exact hl
   have hk2:k=its2.toArray.size:=by rw[List.size_toArray,<-rv2.length];exact hl2.symm
   exact Rf Z D1 D2 h1 h2 h3 hk ⟨h4,p1⟩ hk2 ⟨h5,p2⟩ λ h' tk kk=>⟨rfl,stepped h' tk kk⟩
 self:=λ _ _ _ _ _ st h=>wpAny_pyIter_zip st.1 h
theorem Ra:ZK bE Heap.IsTupleIter (λ h a x=>h.IsTuple a x):=⟨λ ⟨_,h,_,d⟩=>⟨_,h,λ v z=>by rw[d]at z;cases z⟩,λ h k=>h.at k,λ I q=>(I.tuple q).imp λ _ h=>⟨h.1,h.2.1⟩,OJ,λ I q r=>I.tuple_inj q r,λ h i l n t=>Draws.tuple h i l n t⟩
noncomputable abbrev Dg:=Di bE
theorem Sx{P:Program}{w:World}{K:PySem.W.Frag}{elts:List Expr}{q}{pos:Pos}(a c z TI TO i j:Addr)(nd:[z,TI,TO,i,j].Nodup):
  iR P w K (.Tuple elts q pos) (Dg K a c) [z,TI,TO,i,j] z (λ k h=>IsZip h z TI TO .none/\IsPair h TI (.ref i) (.ref j)/\(∃u v,IsPair h TO u v)/\h.IsTupleIter i a k/\h.IsTupleIter j c k):=Ek Ra a c z TI TO i j nd
section
variable{X:Cx}{elts:List Expr}{q:Nat}{tpos:Pos}
noncomputable def MX(K:PySem.W.Frag)(ta:TA):TI:=λ σ H R=>ta σ H λ vs H1=>∃a c,vs=[.ref a,.ref c]/\(∃xs,bE K H1 a xs)/\(∃ys,bE K H1 c ys)/\R (Dg K a c) H1
theorem DY{l m:Expr}{ta:TA}{p pos:Pos}(hg:Gl X "zip")(hm:X.mg "zip" =none)(ha:PA X [l,m] ta)(hs:starEach [l,m] X.env=(false,eval l X.env)::starEach [m] X.env:=by rfl)(hs2:(backTo pos (starEach [m] X.env)).any (·.1)=false:=by rfl):PI X (.Tuple elts q tpos) (.Call (.Name "zip" p) [l,m] [] pos) (MX X.K ta):=by
 intro pins s σ H R I h
 refine Call_ (jR I hg hm Om (PyProof.Rows.callWith_type1 (aT (ha pos pins s σ H _ I h) λ us s1 ⟨vs,H1,I1,r1,q1⟩=>?_) hs hs2))
 obtain⟨a,c,e,⟨xs,hq1⟩,⟨ys,hq2⟩,qq⟩:=q1
 subst e
 cases r1 with
 | cons r rr=>
  cases rr with
  | cons r' rr'=>
   cases rr'
   cases r
   cases r'
   obtain⟨its1,rv1,p1,_⟩:=I1.tuple hq1
   obtain⟨its2,rv2,p2,_⟩:=I1.tuple hq2
   refine SN (s:=s1) (show s1.heap.IsTuple a its1.toArray from p1) (show s1.heap.IsTuple c its2.toArray from p2) λ h' h1 h2 h3 h4 h5 kp=>wpAny_pyIter_zip (s:={s1 with heap:=h'}) h1 ?_
   refine⟨s1.heap.objs.size+4,[s1.heap.objs.size+4,s1.heap.objs.size+2,s1.heap.objs.size+3,s1.heap.objs.size,s1.heap.objs.size+1],_,_,H1,rfl,I1.kept (t':=s1.toks) kp,Sx a c _ _ _ _ _ (by simp<;>omega),⟨h1,h2,⟨_,_,h3⟩,h4,h5⟩,λ b hb=>?_,qq⟩
   have:s1.heap.objs.size<=b:=by
    simp only[List.mem_cons,List.not_mem_nil,or_false]at hb
    rcases hb with rfl|rfl|rfl|rfl|rfl<;>omega
   exact I1.fpOk this (I1.hok.fresh this)
end
section
variable{prog:Program}{w:World}{A:Around}{E:Qd}{s:Shared}
noncomputable abbrev uM(l:Addr):Obj:={cls:=.type "list_iterator",data:=.fields #[.ref l,.int 0 0]}
noncomputable abbrev oG(h:Heap)(l:Addr):Heap:=h.push (uM l)
noncomputable abbrev qE(h:Heap)(l c:Addr):Heap:=(oG h l).push (uM c)
noncomputable abbrev qC(h:Heap)(l c:Addr):Heap:=(qE h l c).push (lJ (.ref h.objs.size) (.ref (oG h l).objs.size))
noncomputable abbrev tY(h:Heap)(l c:Addr):Heap:=(qC h l c).push (lJ .none .none)
noncomputable abbrev lF(h:Heap)(l c:Addr):Heap:=(tY h l c).push (tV (.ref (qE h l c).objs.size) (.ref (qC h l c).objs.size))
theorem IS(l c:Addr)(xs ys:Array Value):Meets (Builtin.«zip.__new__» ⟨[.type "zip",.ref l,.ref c],[]⟩) (λ _ R s=>(s.heap.IsList l xs/\s.heap.IsList c ys)/\R (.ok (.ret (.ref (tY s.heap l c).objs.size))) {s with heap:=lF s.heap l c}):=
 .of_wp λ prog w A R s h=>by
  obtain⟨hp,g,d,tk,os⟩:=s;obtain⟨⟨hl1,hl2⟩,h⟩:=h
  have hsub:=sub_zip
  have hL1:Heap.IsList (Shared.heap ⟨hp,g,d,tk,os⟩) l xs:=hl1
  have hL2:Heap.IsList (Shared.heap ⟨oG hp l,g,d,tk,os⟩) c ys:=hl2.at λ o e=>Heap.get?_push_of_some _ e
  wp_walk using wpAny_pyIter_list hL1,wpAny_pyIter_list hL2
  exact⟨_,rfl,h⟩
theorem SO{l c:Addr}{xs ys:Array Value}{Q:Qd}(h1:s.heap.IsList l xs)(h2:s.heap.IsList c ys)
  (h:∀h',IsZip h' (s.heap.objs.size+4) (s.heap.objs.size+2) (s.heap.objs.size+3) .none->IsPair h' (s.heap.objs.size+2) (.ref s.heap.objs.size) (.ref (s.heap.objs.size+1))->IsPair h' (s.heap.objs.size+3) .none .none->
   h'.IsListIter s.heap.objs.size l 0->h'.IsListIter (s.heap.objs.size+1) c 0->(∀b o,s.heap.get? b=some o->h'.get? b=some o)->Q (.ref (s.heap.objs.size+4)) {s with heap:=h'}):wpAny (model prog w) A (call (.type "zip") [.ref l,.ref c]) Q E s:=by
 refine callType_new F.called_zip Qc (F.typeCall_zip_2 _ _) (F.newCall_zip_2 _ _) (λ obj=>F.args_object_init_3 obj _ _) F.entry_zip_new (IS l c xs ys) ⟨⟨h1,h2⟩,?_⟩
 have z1:(oG s.heap l).objs.size=s.heap.objs.size+1:=Heap.size_push ..
 have z2:(qE s.heap l c).objs.size=s.heap.objs.size+2:=(Heap.size_push ..).trans (congrArg (· +1) z1)
 have z3:(qC s.heap l c).objs.size=s.heap.objs.size+3:=(Heap.size_push ..).trans (congrArg (· +1) z2)
 have z4:(tY s.heap l c).objs.size=s.heap.objs.size+4:=(Heap.size_push ..).trans (congrArg (· +1) z3)
 have up:∀{hh:Heap} {o o':Obj} {b:Addr},hh.get? b=some o->(hh.push o').get? b=some o:=λ e=>Heap.get?_push_of_some _ e
 have p1:(lF s.heap l c).get? s.heap.objs.size=some (uM l):=up (up (up (up (Heap.get?_push_size _ rfl))))
 have p2:(lF s.heap l c).get? (oG s.heap l).objs.size=some (uM c):=up (up (up (Heap.get?_push_size _ rfl)))
 have p3:(lF s.heap l c).get? (qE s.heap l c).objs.size=some (lJ (.ref s.heap.objs.size) (.ref (oG s.heap l).objs.size)):=up (up (Heap.get?_push_size _ rfl))
 have p4:(lF s.heap l c).get? (qC s.heap l c).objs.size=some (lJ .none .none):=up (Heap.get?_push_size _ rfl)
 have p5:(lF s.heap l c).get? (tY s.heap l c).objs.size=some (tV (.ref (qE s.heap l c).objs.size) (.ref (qC s.heap l c).objs.size)):=Heap.get?_push_size _ rfl
 have pp:=λ b o (e:s.heap.get? b=some o)=>show(lF s.heap l c).get? b=some o from up (up (up (up (up e))))
 show _/\_
 generalize lF s.heap l c=hh at p1 p2 p3 p4 p5 pp⊢
 rw[z1]at p2 p3
 rw[z2]at p3 p5
 rw[z3]at p4 p5
 rw[z4]at p5⊢
 exact⟨⟨_,p5,rfl⟩,h _ p5 p3 p4 ⟨_,p1,rfl,rfl⟩ ⟨_,p2,rfl,rfl⟩ pp⟩
end
theorem Rb:ZK bA Heap.IsListIter (λ h a x=>h.IsList a x):=⟨λ ⟨_,h,_,d⟩=>⟨_,h,λ v z=>by rw[d]at z;cases z⟩,λ h k=>h.at k,λ I q=>(I.list q).imp λ _ h=>⟨h.1,h.2.1.isList⟩,OI,λ I q r=>I.list_inj q r,λ h i l n t=>Draws.list h i l n t⟩
noncomputable abbrev Dh:=Di bA
theorem Sy{P:Program}{w:World}{K:PySem.W.Frag}{elts:List Expr}{q}{pos:Pos}(a c z TI TO i j:Addr)(nd:[z,TI,TO,i,j].Nodup):
  iR P w K (.Tuple elts q pos) (Dh K a c) [z,TI,TO,i,j] z (λ k h=>IsZip h z TI TO .none/\IsPair h TI (.ref i) (.ref j)/\(∃u v,IsPair h TO u v)/\h.IsListIter i a k/\h.IsListIter j c k):=Ek Rb a c z TI TO i j nd
section
variable{X:Cx}{elts:List Expr}{q:Nat}{tpos:Pos}
noncomputable def MY(K:PySem.W.Frag)(ta:TA):TI:=λ σ H R=>ta σ H λ vs H1=>∃a c,vs=[.ref a,.ref c]/\(∃xs,bA K H1 a xs)/\(∃ys,bA K H1 c ys)/\R (Dh K a c) H1
theorem DZ{l m:Expr}{ta:TA}{p pos:Pos}(hg:Gl X "zip")(hm:X.mg "zip" =none)(ha:PA X [l,m] ta)(hs:starEach [l,m] X.env=(false,eval l X.env)::starEach [m] X.env:=by rfl)(hs2:(backTo pos (starEach [m] X.env)).any (·.1)=false:=by rfl):PI X (.Tuple elts q tpos) (.Call (.Name "zip" p) [l,m] [] pos) (MY X.K ta):=by
 intro pins s σ H R I h
 refine Call_ (jR I hg hm Om (PyProof.Rows.callWith_type1 (aT (ha pos pins s σ H _ I h) λ us s1 ⟨vs,H1,I1,r1,q1⟩=>?_) hs hs2))
 obtain⟨a,c,e,⟨xs,hq1⟩,⟨ys,hq2⟩,qq⟩:=q1
 subst e
 cases r1 with
 | cons r rr=>
  cases rr with
  | cons r' rr'=>
   cases rr'
   cases r
   cases r'
   obtain⟨its1,rv1,p1,_⟩:=I1.list hq1
   obtain⟨its2,rv2,p2,_⟩:=I1.list hq2
   refine SO (s:=s1) (show s1.heap.IsList a its1.toArray from p1.isList) (show s1.heap.IsList c its2.toArray from p2.isList) λ h' h1 h2 h3 h4 h5 kp=>wpAny_pyIter_zip (s:={s1 with heap:=h'}) h1 ?_
   refine⟨s1.heap.objs.size+4,[s1.heap.objs.size+4,s1.heap.objs.size+2,s1.heap.objs.size+3,s1.heap.objs.size,s1.heap.objs.size+1],_,_,H1,rfl,I1.kept (t':=s1.toks) kp,Sy a c _ _ _ _ _ (by simp<;>omega),⟨h1,h2,⟨_,_,h3⟩,h4,h5⟩,λ b hb=>?_,qq⟩
   have:s1.heap.objs.size<=b:=by
    simp only[List.mem_cons,List.not_mem_nil,or_false]at hb
    rcases hb with rfl|rfl|rfl|rfl|rfl<;>omega
   exact I1.fpOk this (I1.hok.fresh this)
end
section
variable{X:Cx}
end
open SeqAt (shaped)
noncomputable def aQ(n:Nat):Bool:=Nat.ble n 16777216
theorem iC{n:Nat}(h:aQ n=true):n<=sizeLine:=Nat.le_of_ble_eq_true h
@[simp] noncomputable def seqD(S:aD):D->Option (List D)
 |.tup ds=>some ds
 |.lst ds=>some ds
 |.ref i=>match S[i]? with
  |some (.lst ds)=>some ds
  |_=>none
 |.scr ns=>some (ns.map .int)
 |.kt xs=>some (xs.map .str)
 |_=>none
@[simp] noncomputable def lstD(S:aD):D->Option (List D)
 |.lst ds=>some ds
 |.ref i=>match S[i]? with
  |some (.lst ds)=>some ds
  |_=>none
 |_=>none
mutual
noncomputable def gD:D->Option PyData
 |.non=>some .none
 |.bl b=>some (.bool b)
 |.int i=>some (.int i)
 |.str x=>some (.str x)
 |.tup ds=>(fK ds).map .tuple
 |.lst ds=>(fK ds).map .list
 |_=>none
noncomputable def fK:List D->Option (List PyData)
 |[]=>some []
 |d::ds=>match gD d,fK ds with
  |some p,some ps=>some (p::ps)
  |_,_=>none
end
noncomputable def pyS(S:aD):D->Option PyData
 |.ref i=>match S[i]? with
  |some (.lst ds)=>(fK ds).map .list
  |_=>none
 |d=>gD d
section
variable{G:Gd}{ρ:Wo}{H:Hp}{S:aD}
mutual
theorem aU.py:∀{d:D} {v:V} {p:PyData},aU G ρ H d v->gD d=some p->dO [] H p v
 |.non,_,_,h,e=>by cases e;exact h
 |.bl _,_,_,h,e=>by cases e;exact h
 |.int _,_,_,h,e=>by cases e;exact h
 |.str _,_,_,h,e=>by cases e;exact h
 |.tup ds,v,p,h,e=>by
  obtain⟨a,vs,h1,h2,h3,h4⟩:=h
  simp only[gD]at e
  cases q:fK ds with
  |none=>rw[q]at e;cases e
  |some ps=>rw[q]at e;cases e;exact⟨a,vs,h1,Qb,h3,aN.py h4 q⟩
 |.lst ds,v,p,h,e=>by
  obtain⟨a,vs,h1,h2,h3,h4⟩:=h
  simp only[gD]at e
  cases q:fK ds with
  |none=>rw[q]at e;cases e
  |some ps=>rw[q]at e;cases e;exact⟨a,vs,h1,Qb,h3,aN.py h4 q⟩
 |.ref _,_,_,_,e=>by cases e
 |.exc _ _ _,_,_,_,e=>by cases e
 |.scr _,_,_,_,e=>by cases e
 |.kt _,_,_,_,e=>by cases e
theorem aN.py:∀{ds:List D} {vs:List V} {ps:List PyData},aN G ρ H ds vs->fK ds=some ps->dY [] H ps vs
 |[],_,_,h,e=>by cases e;exact h
 | d::ds,vs,ps,h,e=>by
  obtain⟨v,r,h1,h2,h3⟩:=h
  simp only[fK]at e
  cases q1:gD d with
  |none=>rw[q1]at e;cases e
  |some p=>
   cases q2:fK ds with
   |none=>rw[q1,q2]at e;cases e
   |some qs=>rw[q1,q2]at e;cases e;exact⟨v,r,h1,aU.py h2 q1,aN.py h3 q2⟩
end
theorem Wd.lst(w:Wd G ρ S H){i:Nat}{a:Addr}{ds:List D}(h:ρ.st[i]? =some a)(e:S[i]? =some (.lst ds)):∃vs,H a=some (.lst vs)/\aN G ρ H ds vs:=by
 obtain⟨b,h1,h2⟩:=w.at' i _ e
 rw[h]at h1;cases h1
 exact h2
theorem aU.pyS(w:Wd G ρ S H){d:D}{v:V}{p:PyData}(h:aU G ρ H d v)(e:pyS S d=some p):dO [] H p v:=by
 cases d with
 | ref i=>
  obtain⟨a,rfl,h2⟩:=h
  simp only[L2.pyS]at e
  cases q:S[i]? with
  |none=>rw[q]at e;cases e
  | some o=>
   cases o with
   |ins c ns ds=>rw[q]at e;cases e
   |lst ds=>
    rw[q]at e
    obtain⟨vs,h3,h4⟩:=w.lst h2 q
    cases q2:fK ds with
    |none=>simp only[q2]at e;cases e
    |some ps=>simp only[q2]at e;cases e;exact⟨a,vs,rfl,Qb,h3,h4.py q2⟩
 |_=>exact h.py e
theorem aU.lstD(w:Wd G ρ S H){d:D}{v:V}{ds:List D}(h:aU G ρ H d v)(e:lstD S d=some ds):∃a vs,v= .ref a/\H a=some (.lst vs)/\aN G ρ H ds vs:=by
 cases d with
 |lst es=>cases e;obtain⟨a,vs,h1,_,h3,h4⟩:=h;exact⟨a,vs,h1,h3,h4⟩
 | ref i=>
  obtain⟨a,rfl,h2⟩:=h
  simp only[L2.lstD]at e
  cases q:S[i]? with
  |none=>rw[q]at e;cases e
  |some o=>
   cases o with
   |ins c ns ds=>rw[q]at e;cases e
   |lst ds=>rw[q]at e;cases e;obtain⟨vs,h3,h4⟩:=w.lst h2 q;exact⟨a,vs,rfl,h3,h4⟩
 |_=>cases e
theorem bA.at'{K:PySem.W.Frag}{a:Addr}{vs:List V}(h:H a=some (.lst vs)):bA K H a vs:=.inl (.inl h)
theorem aN.ints:∀(xs:List Int),aN G ρ H (xs.map .int) (xs.map .int)
 |[]=>rfl
 |x::xs=>⟨_,_,rfl,rfl,aN.ints xs⟩
theorem aN.ints_of:∀{xs:List Int} {vs:List V},aN G ρ H (xs.map .int) vs->vs=xs.map .int
 |[],_,h=>h
 |x::xs,vs,h=>by
  obtain⟨v,r,rfl,h2,h3⟩:=h
  rw[aN.ints_of h3,show v=V.int x from h2]
  rfl
theorem aN.txts:∀(xs:List Str),aN G ρ H (xs.map .str) (xs.map .str)
 |[]=>rfl
 |x::xs=>⟨_,_,rfl,rfl,aN.txts xs⟩
theorem aU.seqD(w:Wd G ρ S H){d:D}{v:V}{ds:List D}(h:aU G ρ H d v)(e:seqD S d=some ds):∃a vs,v= .ref a/\(bA G.K H a vs\/bE G.K H a vs)/\aN G ρ H ds vs:=by
 cases d with
 |tup es=>cases e;obtain⟨a,vs,h1,_,h3,h4⟩:=h;exact⟨a,vs,h1,.inr (bE.of h3),h4⟩
 |lst es=>cases e;obtain⟨a,vs,h1,_,h3,h4⟩:=h;exact⟨a,vs,h1,.inl (bA.at' h3),h4⟩
 |ref i=>
  obtain⟨a,vs,h1,h2,h3⟩:=h.lstD w (d:=.ref i) e
  exact⟨a,vs,h1,.inl (bA.at' h2),h3⟩
 |scr ns=>
  cases e
  obtain⟨a,h1,h2⟩:=h
  exact⟨a,_,h1,.inl (h2.elim (λ ⟨_,o,q⟩=>.inl (.inr ⟨o,q⟩)) λ q=>q H),aN.ints ns⟩
 |kt xs=>cases e;obtain⟨a,h1,h2⟩:=h;exact⟨a,_,h1,.inr (h2 H),aN.txts xs⟩
 |_=>cases e
end
noncomputable def cQ(S:aD):D->Option Bool
 |.non=>some false
 |.bl b=>some b
 |.int i=>some (i !=0)
 |.str y=>if aQ y.length then some ((y.length:Int) !=0)else none
 |d=>(seqD S d).map λ ds=>!ds.isEmpty
theorem MO{G:Gd}{ρ:Wo}{H:Hp}{ds:List D}{vs:List V}(h:aN G ρ H ds vs):ds.isEmpty=vs.isEmpty:=by
 cases ds with
 |nil=>cases h;rfl
 |cons d r=>obtain⟨v,s,rfl,_⟩:=h;rfl
theorem Ti{G:Gd}{ρ:Wo}{H:Hp}{S:aD}(w:Wd G ρ S H){d:D}{v:V}{b:Bool}(h:aU G ρ H d v)(e:cQ S d=some b):nV G.K v H b:=by
 have seq:∀(d:D),aU G ρ H d v->(seqD S d).map (λ ds=>!ds.isEmpty)=some b->nV G.K v H b:=λ d h e=>by
  cases q:seqD S d with
  |none=>rw[q]at e;cases e
  |some ds=>
   rw[q]at e
   cases e
   obtain⟨a,vs,rfl,h1,h2⟩:=h.seqD w q
   show nV G.K (.ref a) H (!ds.isEmpty)
   rw[MO h2]
   rcases h1 with h1|h1
   ·exact .inl ⟨vs,h1,rfl⟩
   ·exact .inr (.inl ⟨vs,h1,rfl⟩)
 cases d with
 |non=>cases h;cases e;rfl
 |bl c=>cases h;cases e;rfl
 |int i=>cases h;cases e;rfl
 | str y=>
  cases h
  simp only[cQ]at e
  split at e
  ·rename_i hl
   cases e
   exact⟨iC hl,rfl⟩
  ·cases e
 |tup ds=>exact seq _ h e
 |lst ds=>exact seq _ h e
 |ref i=>exact seq _ h e
 |exc c ns ds=>exact seq _ h e
 |scr ns=>exact seq _ h e
 |kt ns=>exact seq _ h e
noncomputable def rD(G:Gd)(op:D->D->EM D):R2:=λ x y H Q=>∃ρ S d e,Wd G ρ S H/\aU G ρ H d x/\aU G ρ H e y/\∃z S',op d e S= .ok z S'/\∀ρ' H' v,bG ρ H ρ' H'->Wd G ρ' S' H'->aU G ρ' H' z v->Q v H'
@[simp] noncomputable def cI(c:Bool)(z:D):EM D:=λ S=>match c with
 |true=>.ok z S
 |false=>.bad
theorem nR{c:Bool}{z u:D}{S S':aD}(h:cI c z S= .ok u S'):c=true/\u=z/\S'=S:=by
 cases c with
 |true=>cases h;exact⟨rfl,rfl,rfl⟩
 |false=>cases h
noncomputable def iO(i:Int):Bool:=Nat.ble i.natAbs 18446744073709551615
theorem Na{i:Int}(h:iO i=true): -(2^64)<i/\i<2^64:=by
 have:=Nat.le_of_ble_eq_true h
 omega
theorem Mz{i:Int}(h0:0<=i)(h1:i<2^64):iO i=true:=Nat.ble_eq_true_of_le Qa
@[simp] noncomputable def Cv(x y:D):EM D:=λ S=>match x,y with
 |.int i,.int j=>.ok (.int (i+j)) S
 |.str a,.str b=>cI (aQ (a.length+b.length)) (.str (a++b)) S
 |.tup a,.tup b=>cI (aQ (a.length+b.length)) (.tup (a++b)) S
 |x,y=>match lstD S x,lstD S y with
  |some a,some b=>cI (aQ (a.length+b.length)) (.lst (a++b)) S
  |_,_=>.bad
@[simp] noncomputable def uQ(x y:D):EM D:=λ S=>match x,y with
 |.int i,.int j=>.ok (.int (i-j)) S
 |_,_=>.bad
@[simp] noncomputable def Ic(x y:D):EM D:=λ S=>match x,y with
 |.int i,.int j=>cI (iO i||iO j) (.int (i*j)) S
 |_,_=>.bad
@[simp] noncomputable def Nd(x y:D):EM D:=λ S=>match x,y with
 |.int i,.int j=>cI (decide (0<j/\j<1073741824)) (.int (i/j)) S
 |_,_=>.bad
@[simp] noncomputable def Ig(x y:D):EM D:=λ S=>match x,y with
 |.int i,.int j=>cI (decide (0<j)) (.int (i%j)) S
 |_,_=>.bad
@[simp] noncomputable def He(x y:D):EM D:=λ S=>match x,y with
 |.int i,.int j=>cI (decide (0<=j/\j<=1000000/\i.natAbs<2^64)) (.int (i^j.toNat)) S
 |_,_=>.bad
@[simp] noncomputable def bQ:Operator->D->D->EM D
 |.Add=>Cv
 |.Sub=>uQ
 |.Mult=>Ic
 |.FloorDiv=>Nd
 |.Mod=>Ig
 |.Pow=>He
 |_=>λ _ _=>.bad
section
variable{X:Cx}{G:Gd}
theorem HZ:bZ X (binaryOp .Add) (rD G Cv):=by
 intro pins s σ H x y v u Q I rx ry h
 obtain⟨ρ,S,d,e,w,hd,he,z,S',eq,q⟩:=h
 have lists:∀(d e:D),aU G ρ H d x->aU G ρ H e y->(match lstD S d,lstD S e with
   |some a,some b=>cI (aQ (a.length+b.length)) (.lst (a++b)) S
   |_,_=>Rs.bad)= .ok z S'->wpAny (model X.prog X.w) X.A (binaryOp .Add v u) (EP X pins σ Q) X.xe s:=λ d e hd he eq=>by
  cases q1:lstD S d with
  |none=>rw[q1]at eq;cases eq
  | some ds=>
   cases q2:lstD S e with
   |none=>rw[q1,q2]at eq;cases eq
   |some es=>
    rw[q1,q2]at eq
    obtain⟨hl,rfl,rfl⟩:=nR eq
    obtain⟨a,vs,rfl,h1,h2⟩:=hd.lstD w q1
    obtain⟨b,us,rfl,h3,h4⟩:=he.lstD w q2
    refine HW pins s σ H _ _ v u Q I rx ry ⟨a,b,vs,us,rfl,rfl,h1,h3,?_,λ p hp=>q ρ _ _ (w.sside hp) (w.side hp) (w.slst hp (h2.append h4))⟩
    rw[h2.length,h4.length]
    exact iC hl
 cases d with
 | int i=>
  cases e with
  |int j=>
   cases eq;cases hd;cases he
   exact IA pins s σ H _ _ v u Q I rx ry ⟨i,j,rfl,rfl,q ρ H _ .refl w rfl⟩
  |_=>exact lists _ _ hd he eq
 | str a=>
  cases e with
  |str b=>
   obtain⟨hl,rfl,rfl⟩:=nR eq
   cases hd;cases he
   exact HY pins s σ H _ _ v u Q I rx ry ⟨a,b,rfl,rfl,iC hl,q ρ H _ .refl w rfl⟩
  |_=>exact lists _ _ hd he eq
 | tup ds=>
  cases e with
  | tup es=>
   obtain⟨hl,rfl,rfl⟩:=nR eq
   have hz:=iC hl
   have hd':=hd
   have he':=he
   obtain⟨a,xs,rfl,na,ha,h1⟩:=hd
   obtain⟨b,ys,rfl,nb,hb,h2⟩:=he
   by_cases hx:xs=[]
   ·subst hx
    have e0:ds=[]:=List.length_eq_zero_iff.mp h1.length.symm
    subst e0
    cases rx
    cases ry
    obtain⟨its,r1,p1,_⟩:=I.tuple (bE.of (K:=X.K) ha)
    obtain⟨its2,r2,p2,_⟩:=I.tuple (bE.of (K:=X.K) hb)
    cases r1
    exact SJ p1 p2 ⟨.ref b,H,I,rfl,q ρ H _ .refl w he'⟩
   ·refine HV pins s σ H (.ref a) (.ref b) v u Q I rx ry ⟨a,b,xs,ys,rfl,rfl,bE.of ha,bE.of hb,hx,by rw[h1.length,h2.length];exact hz,λ e=>?_,λ _ p hp=>q ρ _ _ (w.sside hp) (w.side hp) (w.stup hp (h1.append h2))⟩
    have e0:es=[]:=by
     have:=h2.length
     rw[e]at this
     exact List.length_eq_zero_iff.mp this.symm
    subst e0
    rw[List.append_nil]at q
    exact q ρ H _ .refl w hd'
  |_=>exact lists _ _ hd he eq
 |lst ds=>cases e<;>exact lists _ _ hd he eq
 |ref i=>cases e<;>exact lists _ _ hd he eq
 |non=>cases e<;>exact lists _ _ hd he eq
 |bl c=>cases e<;>exact lists _ _ hd he eq
 |exc c ns ds=>cases e<;>exact lists _ _ hd he eq
 |scr ns=>cases e<;>exact lists _ _ hd he eq
 |kt ns=>cases e<;>exact lists _ _ hd he eq
theorem vK{op:Operator}{f:D->D->EM D}{c:Int->Int->Bool}{C:Int->Int->Prop}{g:Int->Int->Int}(hf:∀x y S,f x y S=match x,y with
  |.int i,.int j=>cI (c i j) (.int (g i j)) S
  |_,_=>.bad)(hc:∀i j,c i j=true->C i j)(ho:bZ X (binaryOp op) (rI C λ i j=>.int (g i j))):bZ X (binaryOp op) (rD G f):=by
 intro pins s σ H x y v u Q I rx ry h
 obtain⟨ρ,S,d,e,w,hd,he,z,S',eq,q⟩:=h
 rw[hf]at eq
 split at eq
 ·rename_i i j
  obtain⟨hcc,rfl,rfl⟩:=nR eq
  cases hd;cases he
  exact ho pins s σ H _ _ v u Q I rx ry ⟨i,j,rfl,rfl,hc i j hcc,q ρ H _ .refl w rfl⟩
 ·cases eq
theorem HA:bZ X (binaryOp .Sub) (rD G uQ):=by
 intro pins s σ H x y v u Q I rx ry h
 obtain⟨ρ,S,d,e,w,hd,he,z,S',eq,q⟩:=h
 unfold uQ at eq
 split at eq
 ·rename_i i j
  cases eq;cases hd;cases he
  exact HB pins s σ H _ _ v u Q I rx ry ⟨i,j,rfl,rfl,q ρ H _ .refl w rfl⟩
 ·cases eq
theorem HX{op:Operator}:bZ X (binaryOp op) (rD G (bQ op)):=by
 have no:∀op,(∀d e,bQ op d e=λ _=>.bad)->bZ X (binaryOp op) (rD G (bQ op)):=λ op hb=>by
  intro pins s σ H x y v u Q I rx ry h
  obtain⟨ρ,S,d,e,w,hd,he,z,S',eq,q⟩:=h
  rw[hb]at eq
  cases eq
 cases op with
 |Add=>exact HZ
 |Sub=>exact HA
 | Mult=>exact vK (c:=λ i j=>iO i||iO j) (C:=xZ) (λ x y S=>rfl) (λ i j h=>by
   rcases Bool.or_eq_true_iff.mp h with h|h
   ·exact .inl (Na h)
   ·exact .inr (Na h)) HG
 |FloorDiv=>exact vK (c:=λ i j=>decide (0<j/\j<1073741824)) (λ x y S=>rfl) (λ i j h=>of_decide_eq_true h) HS
 |Mod=>exact vK (c:=λ i j=>decide (0<j)) (λ x y S=>rfl) (λ i j h=>of_decide_eq_true h) HH
 |Pow=>exact vK (c:=λ i j=>decide (0<=j/\j<=1000000/\i.natAbs<2^64)) (λ x y S=>rfl) (λ i j h=>of_decide_eq_true h) HC
 |_=>exact no _ λ _ _=>rfl
end
open SeqAt (shaped)
noncomputable def gN(S:aD)(x y:D):Option Bool:=match pyS S x,pyS S y with
 |some p,some q=>match shaped p&&shaped q with
  |true=>some (PyData.eqv p q)
  |false=>none
 |_,_=>none
noncomputable def kQ:D->Option V
 |.non=>some .non
 |.bl b=>some (.bl b)
 |.int i=>some (.int i)
 |.str x=>some (.str x)
 |_=>none
noncomputable def fN:List D->Option (List V)
 |[]=>some []
 |d::ds=>match kQ d,fN ds with
  |some v,some vs=>some (v::vs)
  |_,_=>none
@[simp] noncomputable def cB(o:Option Bool)(f:Bool->Bool):EM D:=λ S=>match o with
 |some b=>.ok (.bl (f b)) S
 |none=>.bad
theorem sQ{o:Option Bool}{f:Bool->Bool}{z:D}{S S':aD}(h:cB o f S= .ok z S'):∃b,o=some b/\z= .bl (f b)/\S'=S:=by
 cases o with
 |none=>cases h
 |some b=>cases h;exact⟨b,rfl,rfl,rfl⟩
@[simp] noncomputable def lO(f:Int->Int->Bool)(x y:D):EM D:=λ S=>match x,y with
 |.int i,.int j=>.ok (.bl (f i j)) S
 |_,_=>.bad
noncomputable def kO(S:aD)(x y:D):Option Bool:=match kQ x,(seqD S y).bind fN with
 |some v,some vs=>some (kN v vs)
 |_,_=>none
noncomputable def Am(is js:List D):Option Bool:=match fN is,fN js with
 |some us,some vs=>iZ us vs
 |_,_=>none
@[simp] noncomputable def cO0:D->Bool
 |.non=>true
 |_=>false
@[simp] noncomputable def bJ(op:CmpOp)(x y:D):EM D:=match op with
 |.Eq=>λ S=>cB (gN S x y) id S
 |.NotEq=>λ S=>cB (gN S x y) not S
 |.Lt=>λ S=>match x,y with
  |.str i,.str j=>.ok (.bl (decide (i.cps.toList<j.cps.toList))) S
  |.tup is,.tup js=>cB (Am is js) id S
  |x,y=>lO (λ i j=>decide (i<j)) x y S
 |.LtE=>lO (λ i j=>decide (i<=j)) x y
 |.Gt=>lO (λ i j=>decide (j<i)) x y
 |.GtE=>lO (λ i j=>decide (j<=i)) x y
 |.Is=>λ _=>.bad
 |.IsNot=>λ S=>match x,y with
  |.bl b,.bl c=>.ok (.bl (b !=c)) S
  |_,_=>.bad
 |.In=>λ S=>match x,y with
  |.str i,.str j=>.ok (.bl (!(Builtin.Str.occurrences j i 0 j.length 1).isEmpty)) S
  |x,y=>cB (kO S x y) id S
 |.NotIn=>λ S=>match x,y with
  |.str i,.str j=>.ok (.bl (!(!(Builtin.Str.occurrences j i 0 j.length 1).isEmpty))) S
  |x,y=>cB (kO S x y) not S
section
variable{G:Gd}{ρ:Wo}{H:Hp}{S:aD}
theorem aU.fl{d:D}{v u:V}(h:aU G ρ H d v)(e:kQ d=some u):v=u/\dF u=true:=by
 cases d<;>first|(cases e;done)|(cases e;exact⟨h,rfl⟩)
theorem aN.fl:∀{ds:List D} {vs us:List V},aN G ρ H ds vs->fN ds=some us->vs=us/\us.all dF=true
 |[],_,_,h,e=>by cases e;exact⟨h,rfl⟩
 | d::ds,vs,us,h,e=>by
  obtain⟨v,r,rfl,h2,h3⟩:=h
  simp only[fN]at e
  cases q1:kQ d with
  |none=>rw[q1]at e;cases e
  | some p=>
   cases q2:fN ds with
   |none=>rw[q1,q2]at e;cases e
   |some qs=>
    rw[q1,q2]at e
    cases e
    obtain⟨rfl,f1⟩:=h2.fl q1
    obtain⟨rfl,f2⟩:=aN.fl h3 q2
    exact⟨rfl,by simp[f1,f2]⟩
theorem Nm(w:Wd G ρ S H){x y:D}{v u:V}{b:Bool}(hx:aU G ρ H x v)(hy:aU G ρ H y u)(e:gN S x y=some b):∃p q,dO [] H p v/\dO [] H q u/\shaped p=true/\shaped q=true/\b=PyData.eqv p q:=by
 unfold gN at e
 split at e
 ·rename_i p q h1 h2
  split at e
  ·rename_i hs
   cases e
   have:=Bool.and_eq_true_iff.mp hs
   exact⟨p,q,hx.pyS w h1,hy.pyS w h2,this.1,this.2,rfl⟩
  ·cases e
 ·cases e
end
section
variable{X:Cx}{G:Gd}
theorem oY{op:CmpOp}(hK:X.K=G.K)(hu:X.A.units+64<cLine):bZ X (compareOp op) (rD G (bJ op)):=by
 intro pins s σ H x y v u Q I rx ry h
 obtain⟨ρ,S,d,e,w,hd,he,z,S',eq,q⟩:=h
 have ord:∀{op:CmpOp} {f:Int->Int->Bool},bZ X (compareOp op) (kC λ i j=>.bl (f i j))->lO f d e S= .ok z S'->wpAny (model X.prog X.w) X.A (compareOp op v u) (EP X pins σ Q) X.xe s:=fun{op f} ho eq2=>by
  unfold lO at eq2
  split at eq2
  ·cases eq2;cases hd;cases he
   exact ho pins s σ H _ _ v u Q I rx ry ⟨_,_,rfl,rfl,q ρ H _ .refl w rfl⟩
  ·cases eq2
 have ins:∀b,kO S d e=some b->∃p xs,y= .ref p/\(bA G.K H p xs\/bE G.K H p xs)/\dF x=true/\xs.all dF=true/\b=kN x xs:=λ b h=>by
  unfold kO at h
  split at h
  ·rename_i fv fvs h1 h2
   cases h
   cases q3:seqD S e with
   |none=>rw[q3]at h2;cases h2
   |some ds=>
    rw[q3]at h2
    obtain⟨a,vs,rfl,h4,h5⟩:=he.seqD w q3
    obtain⟨rfl,f1⟩:=hd.fl h1
    obtain⟨rfl,f2⟩:=h5.fl h2
    exact⟨a,vs,rfl,h4,f1,f2,rfl⟩
  ·cases h
 cases op with
 |Eq=>
  obtain⟨b,h1,rfl,rfl⟩:=sQ eq
  obtain⟨p,r,h2,h3,h4,h5,rfl⟩:=Nm w hd he h1
  exact HU hu pins s σ H x y v u Q I rx ry ⟨p,r,h2,h3,h4,h5,q ρ H _ .refl w rfl⟩
 |NotEq=>
  obtain⟨b,h1,rfl,rfl⟩:=sQ eq
  obtain⟨p,r,h2,h3,h4,h5,rfl⟩:=Nm w hd he h1
  exact HF hu pins s σ H x y v u Q I rx ry ⟨p,r,h2,h3,h4,h5,q ρ H _ .refl w rfl⟩
 | Lt=>
  simp only[bJ]at eq
  split at eq
  ·cases eq;cases hd;cases he
   exact HJ pins s σ H _ _ v u Q I rx ry ⟨_,_,rfl,rfl,q ρ H _ .refl w rfl⟩
  ·obtain⟨b,h1,rfl,rfl⟩:=sQ eq
   unfold Am at h1
   split at h1
   ·rename_i us vs e1 e2
    obtain⟨a,xs,rfl,_,ha,h3⟩:=hd
    obtain⟨c,ys,rfl,_,hc,h4⟩:=he
    obtain⟨rfl,f1⟩:=h3.fl e1
    obtain⟨rfl,f2⟩:=h4.fl e2
    exact HI hu pins s σ H _ _ v u Q I rx ry ⟨a,c,_,_,b,rfl,rfl,bE.of ha,bE.of hc,f1,f2,h1,q ρ H _ .refl w rfl⟩
   ·cases h1
  ·exact ord HK eq
 |LtE=>exact ord HL eq
 |Gt=>exact ord HQ eq
 |GtE=>exact ord HR eq
 |Is=>cases eq
 | IsNot=>
  simp only[bJ]at eq
  split at eq
  ·cases eq;cases hd;cases he
   exact HM pins s σ H _ _ v u Q I rx ry ⟨_,_,rfl,rfl,q ρ H _ .refl w rfl⟩
  ·cases eq
 | In=>
  simp only[bJ]at eq
  split at eq
  ·cases eq;cases hd;cases he
   exact HN pins s σ H _ _ v u Q I rx ry ⟨_,_,rfl,rfl,q ρ H _ .refl w rfl⟩
  ·obtain⟨b,h1,rfl,rfl⟩:=sQ eq
   obtain⟨p,xs,rfl,h2,h3,h4,rfl⟩:=ins b h1
   rw[<-hK]at h2
   exact HP pins s σ H _ _ v u Q I rx ry ⟨p,xs,rfl,h2,h3,h4,q ρ H _ .refl w rfl⟩
 | NotIn=>
  simp only[bJ]at eq
  split at eq
  ·cases eq;cases hd;cases he
   exact HD pins s σ H _ _ v u Q I rx ry ⟨_,_,rfl,rfl,q ρ H _ .refl w rfl⟩
  ·obtain⟨b,h1,rfl,rfl⟩:=sQ eq
   obtain⟨p,xs,rfl,h2,h3,h4,rfl⟩:=ins b h1
   rw[<-hK]at h2
   exact HE pins s σ H _ _ v u Q I rx ry ⟨p,xs,rfl,h2,h3,h4,q ρ H _ .refl w rfl⟩
end
@[simp] noncomputable def aR(x y:D):EM D:=λ S=>match y with
 | .int i=>match x with
  |.str z=>match aQ z.length,atI z.cps.toList i with
   |true,some c=>.ok (.str ⟨#[c]⟩) S
   |_,_=>.bad
  |x=>match(seqD S x).bind λ ds=>atI ds i with
   |some d=>.ok d S
   |none=>.bad
 |_=>.bad
noncomputable def hJ(ds:List D)(lo hi:Option Int):List D:=(ds.drop (HT.sIx ds.length 0 lo)).take (HT.sIx ds.length ds.length hi-HT.sIx ds.length 0 lo)
@[simp] noncomputable def qN(x:D)(lo hi:Option Int):EM D:=λ S=>match x with
 |.str z=>cI (aQ z.length) (.str (Txt.slice z lo hi)) S
 |.tup ds=>.ok (.tup (hJ ds lo hi)) S
 |x=>match lstD S x with
  |some ds=>.ok (.lst (hJ ds lo hi)) S
  |none=>.bad
noncomputable def BF(G:Gd):V->Option Int->Option Int->Hp->VK->Prop:=λ x lo hi H Q=>∃ρ S d,Wd G ρ S H/\aU G ρ H d x/\∃z S',qN d lo hi S= .ok z S'/\∀ρ' H' v,bG ρ H ρ' H'->Wd G ρ' S' H'->aU G ρ' H' z v->Q v H'
section
variable{X:Cx}{G:Gd}{ρ:Wo}{H:Hp}{S:aD}
theorem aN.atI{ds:List D}{vs:List V}{i:Int}{d:D}(h:aN G ρ H ds vs)(e:L2.atI ds i=some d):∃v,L2.atI vs i=some v/\aU G ρ H d v:=by
 unfold L2.atI at e⊢
 rw[h.length]
 cases q:kM ds.length i with
 |none=>rw[q]at e;cases e
 |some j=>
  rw[q]at e
  obtain⟨v,h1,h2⟩:=h.get (show ds[j]? =some d from e)
  exact⟨v,h1,h2⟩
theorem aN.cut{ds:List D}{xs:List V}(lo hi:Option Int)(h:aN G ρ H ds xs):aN G ρ H (hJ ds lo hi) (mI xs lo hi):=by
 unfold hJ mI
 rw[h.length]
 exact aN.take _ (aN.drop _ h)
theorem ME(hK:X.K=G.K):gT X (rD G aR):=by
 have h1:gT X (λ x y H Q=>(Gw X.K x y H Q\/Gs X.K x y H Q)\/Gu x y H Q):=(ix_list.or MC).or MD
 refine gT.mono h1 λ x y H Q h=>?_
 obtain⟨ρ,S,d,e,w,hd,he,z,S',eq,q⟩:=h
 unfold aR at eq
 split at eq
 ·rename_i i
  cases he
  split at eq
  ·rename_i t
   split at eq
   ·rename_i c h2 h3
    cases eq;cases hd
    exact .inr ⟨t,i,c,rfl,rfl,iC h2,h3,q ρ H _ .refl w rfl⟩
   ·cases eq
  ·split at eq
   ·rename_i d' h2
    cases eq
    cases q3:seqD S d with
    |none=>rw[q3]at h2;cases h2
    |some ds=>
     rw[q3]at h2
     obtain⟨a,vs,rfl,h4,h5⟩:=hd.seqD w q3
     obtain⟨v,h6,h7⟩:=h5.atI h2
     refine .inl ?_
     rcases h4 with h4|h4
     ·exact .inl ⟨a,vs,i,v,rfl,rfl,hK▸h4,h6,q ρ H _ .refl w h7⟩
     ·exact .inr ⟨a,vs,i,v,rfl,rfl,hK▸h4,h6,q ρ H _ .refl w h7⟩
   ·cases eq
 ·cases eq
theorem Xv:sZ X (BF G):=by
 intro pins s σ H x v vl vu lo hi sl Q I rx hs pl pu h
 obtain⟨ρ,S,d,w,hd,z,S',eq,q⟩:=h
 have lists:∀d,aU G ρ H d x->(match lstD S d with
   |some ds=>Rs.ok (D.lst (hJ ds lo hi)) S
   |none=>Rs.bad)= .ok z S'->∃T id,typeLookup (.type T) "__getitem__" =pure (some (.builtin id))/\s.TypeIs v T/\wpAny (model X.prog X.w) X.A (getItem v (.ref sl)) (EP X pins σ Q) X.xe s:=λ d hd eq=>by
  cases q1:lstD S d with
  |none=>rw[q1]at eq;cases eq
  |some ds=>
   rw[q1]at eq
   cases eq
   obtain⟨a,vs,rfl,h1,h2⟩:=hd.lstD w q1
   exact Xu pins s σ H _ v vl vu lo hi sl Q I rx hs pl pu ⟨a,vs,rfl,bA.at' h1,λ p hp=>q ρ _ _ (w.sside hp) (w.side hp) (w.slst hp (h2.cut lo hi))⟩
 cases d with
 |str t=>
  obtain⟨hl,rfl,rfl⟩:=nR eq
  cases hd
  exact Xt pins s σ H _ v vl vu lo hi sl Q I rx hs pl pu ⟨t,rfl,iC hl,q ρ H _ .refl w rfl⟩
 | tup ds=>
  cases eq
  have hd':=hd
  obtain⟨a,xs,rfl,na,ha,h1⟩:=hd
  by_cases hw:HT.sIx xs.length 0 lo=0/\HT.sIx xs.length xs.length hi=xs.length
  ·cases rx
   obtain⟨its,r,ht,hz⟩:=I.tuple (bE.of (K:=X.K) ha)
   have hlen:its.toArray.size=xs.length:=by rw[List.size_toArray];exact r.length.symm
   refine⟨"tuple",_,PyProof.Rows.slot_tuple_getitem.lookup,ht.typeIs,?_⟩
   refine NX ht hs pl pu (by rw[hlen];exact hw) ⟨.ref a,H,I,rfl,?_⟩
   have e0:hJ ds lo hi=ds:=by
    unfold hJ
    rw[<-h1.length,hw.1,hw.2,List.drop_zero,Nat.sub_zero,h1.length,List.take_length]
   rw[e0]at q
   exact q ρ H _ .refl w hd'
  ·exact Xs pins s σ H (.ref a) v vl vu lo hi sl Q I rx hs pl pu ⟨a,xs,rfl,bE.of ha,hw,λ p hp=>q ρ _ _ (w.sside hp) (w.side hp) (w.stup hp (h1.cut lo hi))⟩
 |lst ds=>exact lists _ hd eq
 |ref i=>exact lists _ hd eq
 |non=>exact lists _ hd eq
 |bl c=>exact lists _ hd eq
 |int i=>exact lists _ hd eq
 |exc c ns ds=>exact lists _ hd eq
 |scr ns=>exact lists _ hd eq
 |kt ns=>exact lists _ hd eq
end
noncomputable def dU(a b:Str):Bool:=a.cps.toList==b.cps.toList
theorem mY{a b:Str}:dU a b=(a==b):=by
 obtain⟨⟨a⟩⟩:=a
 obtain⟨⟨b⟩⟩:=b
 unfold dU
 rw[Bool.eq_iff_iff,beq_iff_eq,beq_iff_eq]
 exact⟨λ h=>congrArg (λ l=>(⟨⟨l⟩⟩:Str)) h,λ h=>by cases h;rfl⟩
theorem gW{a b:Str}(h:dU a b=true):a=b:=by rw[mY]at h;exact beq_iff_eq.mp h
noncomputable def lk{β:Type}(x:Str):List (Str×β)->Option β
 |[]=>none
 |(y,b)::r=>match dU x y with
  |true=>some b
  |false=>lk x r
theorem iH{β:Type}{x:Str}:∀{l:List (Str×β)},lk x l=l.lookup x
 |[]=>rfl
 |(y,b)::r=>by
  rw[lk,List.lookup_cons,mY]
  cases x==y with
  |true=>rfl
  |false=>exact iH
theorem nJ{β:Type}{x:Str}{b:β}:∀{l:List (Str×β)},lk x l=some b->(x,b)∈l
 |(y,c)::r,h=>by
  rw[lk]at h
  cases e:dU x y with
  |true=>rw[e]at h;cases h;rw[gW e];exact List.mem_cons_self
  |false=>rw[e]at h;exact List.mem_cons_of_mem _ (nJ h)
noncomputable def nB(x:Str):List Str->Nat->Option Nat
 |[],_=>none
 |y::r,i=>match dU x y with
  |true=>some i
  |false=>nB x r (i+1)
theorem Fp{x:Str}:∀{l:List Str} {i j:Nat},nB x l i=some j->∃k,j=i+k/\l[k]? =some x
 | y::r,i,j,h=>by
  rw[nB]at h
  cases e:dU x y with
  |true=>rw[e]at h;cases h;exact⟨0,rfl,by rw[gW e];rfl⟩
  |false=>
   rw[e]at h
   obtain⟨k,e1,e2⟩:=Fp h
   exact⟨k+1,Qa,by simpa using e2⟩
theorem yX{x:Str}{l:List Str}{j:Nat}(h:nB x l 0=some j):l[j]? =some x:=by
 obtain⟨k,e,h⟩:=Fp h
 rw[e,Nat.zero_add];exact h
noncomputable def cL(x:Str)(l:List Str):Bool:=l.any λ y=>dU x y
theorem gM{x:Str}{l:List Str}(h:cL x l=true):x∈l:=by
 obtain⟨y,h1,h2⟩:=List.any_eq_true.mp h
 rw[gW h2];exact h1
noncomputable def gY(x:Str):Bool:= !dU x "__debug__" && !dU x "__classdict__"
theorem Bg{x:Str}(h:gY x=true):(x==("__debug__" :Str))=false:=by
 rw[gY,mY]at h
 have:=(Bool.and_eq_true_iff.mp h).1
 simpa using this
theorem NW{x:Str}(h:gY x=true):(x==("__classdict__" :Str))=false:=by
 rw[gY,mY,mY]at h
 have:=(Bool.and_eq_true_iff.mp h).2
 simpa using this
structure Fc where
 N:List Str
 sc:Scope
 room:Nat
 dfn:Bool
 calm:Bool
 tab:Bool
 loop:Bool
 mu:List Str
 mr:Bool
structure Gb where
 fn:List (Str×(Nat×Nat×(List D->EM D)))
 con:List (Str×D)
 xs:List (Str×List Str)
 no:List Str
 kn:List Str
 sub:List (Str×List Str)
 hd:List Str
 fh:List (Str×(Nat×Nat×(List D->EM D)))
noncomputable def uB(sc:Scope)(x:Str):Bool:=match lk x sc.names with
 |some .local=>true
 |some .cell=>true
 |some .free=>true
 |_=>false
noncomputable def cN(sc:Scope)(x:Str):Bool:=match lk x sc.names with
 |some .globalImplicit=>true
 |_=>false
noncomputable def DT:D->Option V
 |.int i=>some (.int i)
 |.str x=>some (.str x)
 |.bl b=>some (.bl b)
 |.non=>some .non
 |_=>none
@[simp] noncomputable def gd{α:Type}(b:Bool)(x y:α):α:=match b with
 |true=>x
 |false=>y
@[simp] noncomputable def bU:EE:=λ _ _=>.bad
@[simp] noncomputable def vE(i:Nat):EE:=λ η S=>match η[i]? with
 |some (some d)=>.ok d S
 |_=>.bad
@[simp] noncomputable def kE(d:D):EE:=λ _ S=>.ok d S
noncomputable def Ai(Γ:Gb)(fc:Fc)(x:Str):EE:=match nB x fc.N 0 with
 |some i=>gd (uB fc.sc x) (vE i) bU
 |none=>match lk x Γ.con with
  |some d=>gd (cN fc.sc x&&gY x) (kE d) bU
  |none=>bU
@[simp] noncomputable def Nz:Const->EE
 |.none=>kE .non
 |.bool b=>kE (.bl b)
 |.int i=>kE (.int i)
 |.str x=>kE (.str x)
 |_=>bU
structure tK(P:Program)(w:World)(K:PySem.W.Frag)(mg:Str->Option Value)(base:Heap)(G:Gd)(Γ:Gb)(sp:Nat->(List D->EM D)->Sp):Prop where
 con:∀x d,lk x Γ.con=some d->∃v u,(∀ρ H,aU G ρ H d v)/\mg x=some u/\bM v u
 fn:∀x k ar g,lk x Γ.fn=some (k,ar,g)->∃ps,lC P w K mg base x k ps (sp ar g)
 fh:True
 hd:True
 no:∀x∈Γ.no,mg x=none
 xs:True
 kn:True
 sub:True
noncomputable def eQ(G:Gd)(ar:Nat)(g:List D->EM D):Sp:=λ vs H Q E=>vs.length=ar/\∃ρ S ds,Wd G ρ S H/\aN G ρ H ds vs/\Af G (λ _ e _ d H=>E (.ref e) d H) ρ [] H (aU G) Q (g ds S)
structure bK(X:Cx)(G:Gd)(U:SK)(Γ:Gb)(fc:Fc):Prop where
 hK:X.K=G.K
 N:X.N=fc.N
 sc:X.env.scope=fc.sc
 nd:X.N.Nodup
 gn:∀x∈X.N,gY x=true
 df:fc.dfn=true->∀x,X.fn x=true
 xe:pR X U
 cm:fc.calm=true->X.calm=true/\dG fc.room X.A
 lp:fc.loop=true->PassesOwn (model X.prog X.w) X.A X.env X.xe
 rm:Pq fc.room X.A
 kd:X.env.scope.kind= .function
 tr:fc.dfn=true->X.stack=X.env::X.outer/\X.env.frame=some X.env.locals
 hu:X.A.units+64<cLine
 gl:tK X.prog X.w X.K X.mg X.base G Γ (eQ G)
 tb:fc.tab=true->jF X.mg X.base/\∃c P,X.env.code= .ref c/\PySem.W.CodeHd X.base c P/\P∈G.ts
section
variable{X:Cx}{G:Gd}{U:SK}{Γ:Gb}{fc:Fc}
theorem bK.vis(C:bK X G U Γ fc){x:Str}(h:uB fc.sc x=true):xO X.env.scope x:=by
 unfold uB at h
 rw[iH,<-C.sc]at h
 unfold xO
 split at h
 ·rename_i e;exact .inl e
 ·rename_i e;exact .inr (.inl e)
 ·rename_i e;exact .inr (.inr e)
 ·cases h
theorem bK.glo(C:bK X G U Γ fc){x:Str}(h:cN fc.sc x=true):Gl X x:=by
 unfold cN at h
 rw[iH,<-C.sc]at h
 split at h
 ·rename_i e;exact e
 ·cases h
theorem FN(C:bK X G U Γ fc){x:Str}{pos:Pos}:PE X (.Name x pos) (tE G U (Ai Γ fc x)):=by
 unfold Ai
 split
 ·rename_i i e
  have hN:X.N[i]? =some x:=by rw[C.N];exact yX e
  have hm:x∈X.N:=List.mem_of_getElem? hN
  cases v:uB fc.sc x with
  |false=>exact PE.bad λ η S=>rfl
  | true=>
   refine PE.mono (EU hN (C.vis v) (Bg (C.gn x hm)) (NW (C.gn x hm))) λ σ H Q ⟨ρ,S,η,w,i',h⟩=>?_
   simp only[gd,vE]at h
   split at h
   ·rename_i d e2
    obtain⟨u,h1,h2⟩:=i'.2 i d e2
    exact⟨u,h1,h ρ H u .refl w h2⟩
   ·exact h.elim
 ·split
  ·rename_i d h2
   cases h1:cN fc.sc x&&gY x with
   |false=>exact PE.bad λ η S=>rfl
   |true=>
    obtain⟨v,u,h3,h4,h5⟩:=C.gl.con x d h2
    have:=Bool.and_eq_true_iff.mp h1
    refine PE.mono (FX (C.glo this.1) h4 h5 (Bg this.2)) λ σ H Q ⟨ρ,S,η,w,i',h⟩=>h ρ H v .refl w (h3 ρ H)
  ·exact PE.bad λ η S=>rfl
theorem GG{c:Const}{k:Nat}{pos:Pos}:PE X (.Constant c k pos) (tE G U (Nz c)):=by
 cases c with
 |none=>exact PE.mono FL λ σ H Q ⟨ρ,S,η,w,i',h⟩=>h ρ H _ .refl w rfl
 |bool b=>exact PE.mono GP λ σ H Q ⟨ρ,S,η,w,i',h⟩=>h ρ H _ .refl w rfl
 |int i=>exact PE.mono FU λ σ H Q ⟨ρ,S,η,w,i',h⟩=>h ρ H _ .refl w rfl
 |str x=>exact PE.mono FA λ σ H Q ⟨ρ,S,η,w,i',h⟩=>h ρ H _ .refl w rfl
 |_=>exact PE.bad λ η S=>rfl
theorem XV{op:Operator}{x y:D}{S:aD}:∀z S',bQ op x y S≠ .exc z S':=by
 intro z S' h
 have c:∀{b u},cI b u S≠ .exc z S':=by intro b u;cases b<;>simp[cI]
 cases op<;>simp only[bQ]at h<;>first
  |(unfold Cv at h;split at h<;>first|(cases h;done)|exact c h|(split at h<;>first|(cases h;done)|exact c h))
  |(unfold uQ at h;split at h<;>cases h)
  |(unfold Ic at h;split at h<;>first|(cases h;done)|exact c h)
  |(unfold Nd at h;split at h<;>first|(cases h;done)|exact c h)
  |(unfold Ig at h;split at h<;>first|(cases h;done)|exact c h)
  |(unfold He at h;split at h<;>first|(cases h;done)|exact c h)
  |(cases h;done)
theorem xF{op:CmpOp}{x y:D}{S:aD}:∀z S',bJ op x y S≠ .exc z S':=by
 intro z S' h
 have c:∀{b u},cB b u S≠ .exc z S':=by intro b u;cases b<;>simp[cB]
 cases op<;>simp only[bJ]at h<;>first
  |exact c h
  |(unfold lO at h;split at h<;>cases h)
  |(repeat (first|(cases h)|exact c h|(unfold lO at h)|(split at h)))
theorem MF{x y:D}{S:aD}:∀z S',aR x y S≠ .exc z S':=by
 intro z S' h
 unfold aR at h
 repeat (first|(cases h)|(split at h))
theorem Xw{x:D}{lo hi:Option Int}{S:aD}:∀z S',qN x lo hi S≠ .exc z S':=by
 intro z S' h
 have c:∀{b u},cI b u S≠ .exc z S':=by intro b u;cases b<;>simp[cI]
 unfold qN at h
 repeat (first|(cases h)|exact c h|(split at h))
variable{a b c:Expr}{ga gb gc:EE}{pos:Pos}
@[simp] noncomputable def aI(f:D->D->EM D)(ga gb:EE):EE:=λ η S=>(ga η S).bind λ x=>λ S1=>(gb η S1).bind λ y=>f x y
theorem uO{f:D->D->EM D}(nx:∀x y S z S',f x y S≠ .exc z S'){σ:St}{H:Hp}{Q:VK}(h:tE G U (aI f ga gb) σ H Q):qJ (rD G f) (tE G U ga) (tE G U gb) σ H Q:=by
 obtain⟨ρ,S,η,w,i,h⟩:=h
 refine⟨ρ,S,η,w,i,Af.into h λ x ρ1 H1 S1 d s1 w1 h1 q1=>⟨ρ1,S1,η,w1,i.ext s1,Af.into q1 λ y ρ2 H2 S2 e s2 w2 h2 q2=>?_⟩⟩
 exact Af.rD w2 (h1.ext s2) h2 (nx _ _ _) q2
theorem GQ{op:Operator}(ha:PE X a (tE G U ga))(hb:PE X b (tE G U gb)):PE X (.BinOp a op b pos) (tE G U (aI (bQ op) ga gb)):=
 PE.mono (FH HX ha hb) λ σ H Q h=>uO (λ _ _ _=>XV) h
theorem GI(C:bK X G U Γ fc){op:CmpOp}(hm:behindInMarks op b=false)(ha:PE X a (tE G U ga))(hb:PE X b (tE G U gb)):PE X (.Compare a [op] [b] pos) (tE G U (aI (bJ op) ga gb)):=
 PE.mono (GH (oY C.hK C.hu) ha hb hm) λ σ H Q h=>uO (λ _ _ _=>xF) h
theorem FR(C:bK X G U Γ fc)(hs:Da b)(ha:PE X a (tE G U ga))(hb:PE X b (tE G U gb)):PE X (.Subscript a b pos) (tE G U (aI aR ga gb)):=
 PE.mono (FS (ME C.hK) ha hb hs) λ σ H Q h=>uO (λ _ _ _=>MF) h
@[simp] noncomputable def cE(g:EE):En->EM Bool:=λ η S=>(g η S).bind λ d S1=>match d with
 |.bl b=>.ok b S1
 |_=>.bad
theorem Et{σ:St}{H:Hp}{Q:Bool->Hp->Prop}(h:tT G U (cE ga) σ H Q):tE G U ga σ H λ x H1=>∃k,x= .bl k/\Q k H1:=by
 obtain⟨ρ,S,η,w,i,h⟩:=h
 refine⟨ρ,S,η,w,i,Af.into h λ x ρ1 H1 S1 d s1 w1 h1 q1=>?_⟩
 cases d<;>first|exact q1.elim|skip
 cases h1
 exact⟨_,rfl,q1 ρ1 H1 _ .refl w1 rfl⟩
theorem CI(C:bK X G U Γ fc){op:CmpOp}(hm:behindInMarks op b=false)(ha:PE X a (tE G U ga))(hb:PE X b (tE G U gb)):PT X (.Compare a [op] [b] pos) (tT G U (cE (aI (bJ op) ga gb))):=
 PT.mono (CH (oY C.hK C.hu) ha hb hm) λ σ H Q h=>uO (λ _ _ _=>xF) (Et h)
@[simp] noncomputable def iQ(op op':CmpOp)(ga gb gc:EE):EE:=λ η S=>(ga η S).bind λ x=>λ S1=>(gb η S1).bind λ y=>λ S2=>(bJ op x y S2).bind λ z=>λ S3=>match z with
 |.bl true=>(gc η S3).bind λ u=>bJ op' y u
 |.bl false=>.ok (.bl false) S3
 |_=>.bad
theorem Ew{op op':CmpOp}{σ:St}{H:Hp}{Q:VK}(h:tE G U (iQ op op' ga gb gc) σ H Q):yL (rD G (bJ op)) (rD G (bJ op')) (tE G U ga) (tE G U gb) (tE G U gc) σ H Q:=by
 obtain⟨ρ,S,η,w,i,h⟩:=h
 refine⟨ρ,S,η,w,i,Af.into h λ x ρ1 H1 S1 d s1 w1 h1 q1=>⟨ρ1,S1,η,w1,i.ext s1,Af.into q1 λ y ρ2 H2 S2 e s2 w2 h2 q2=>?_⟩⟩
 refine Af.rD w2 (h1.ext s2) h2 xF (Af.into q2 λ v ρ3 H3 S3 z s3 w3 h3 q3=>?_)
 cases z with
 | bl k=>
  cases h3
  refine⟨k,rfl,?_⟩
  cases k with
  |true=>
   refine⟨ρ3,S3,η,w3,(i.ext s1).ext (s2.trans s3),Af.into q3 λ v ρ4 H4 S4 u s4 w4 h4 q4=>?_⟩
   exact Af.rD w4 (h2.ext (s3.trans s4)) h4 xF q4
  |false=>exact q3 ρ3 H3 _ .refl w3 rfl
 |_=>exact q3.elim
theorem GL(C:bK X G U Γ fc){op op':CmpOp}(hm:lastMarks [op,op'] [b,c]=false)(ha:PE X a (tE G U ga))(hb:PE X b (tE G U gb))(hc:PE X c (tE G U gc)):PE X (.Compare a [op,op'] [b,c] pos) (tE G U (iQ op op' ga gb gc)):=
 PE.mono (GK (oY C.hK C.hu) (oY C.hK C.hu) ha hb hc hm) λ σ H Q h=>Ew h
theorem CK(C:bK X G U Γ fc){op op':CmpOp}(hm:lastMarks [op,op'] [b,c]=false)(ha:PE X a (tE G U ga))(hb:PE X b (tE G U gb))(hc:PE X c (tE G U gc)):PT X (.Compare a [op,op'] [b,c] pos) (tT G U (cE (iQ op op' ga gb gc))):=
 PT.mono (CJ (oY C.hK C.hu) (oY C.hK C.hu) ha hb hc hm) λ σ H Q h=>Ew (Et h)
@[simp] noncomputable def Ah(ga:EE):EE:=λ η S=>(ga η S).bind λ x S1=>match x with
 |.int i=>.ok (.int (-i)) S1
 |_=>.bad
theorem FM(ha:PE X a (tE G U ga)):PE X (.UnaryOp .USub a pos) (tE G U (Ah ga)):=
 PE.mono (EV Sn ha) λ σ H Q ⟨ρ,S,η,w,i,h⟩=>⟨ρ,S,η,w,i,Af.into h λ x ρ1 H1 S1 d s1 w1 h1 q1=>by
  cases d<;>first|exact q1.elim|skip
  cases h1
  exact⟨_,rfl,q1 ρ1 H1 _ .refl w1 rfl⟩⟩
@[simp] noncomputable def dR(ga:EE):En->EM Bool:=λ η S=>(ga η S).bind λ x S1=>match cQ S1 x with
 |some b=>.ok b S1
 |none=>.bad
theorem Es{K:PySem.W.Frag}(hK:K=G.K){σ:St}{H:Hp}{Q:Bool->Hp->Prop}(h:tT G U (dR ga) σ H Q):tE G U ga σ H λ x H1=>∃k,nV K x H1 k/\Q k H1:=by
 subst hK
 obtain⟨ρ,S,η,w,i,h⟩:=h
 refine⟨ρ,S,η,w,i,Af.into h λ x ρ1 H1 S1 d s1 w1 h1 q1=>?_⟩
 cases e:cQ S1 d with
 |none=>rw[e]at q1;exact q1.elim
 |some k=>rw[e]at q1;exact⟨k,Ti w1 h1 e,q1 ρ1 H1 _ .refl w1 rfl⟩
theorem FK(C:bK X G U Γ fc)(ha:PE X a (tE G U ga)):PE X (.UnaryOp .Not a pos) (tE G U (λ η S=>(dR ga η S).bind λ b=>EM.ret (.bl (!b)))):=
 PE.mono (FJ ha) λ σ H Q ⟨ρ,S,η,w,i,h⟩=>Es C.hK ⟨ρ,S,η,w,i,Af.into h λ x ρ1 H1 S1 d s1 w1 h1 q1=>by
  rw[<-show d=x from h1]
  exact q1 ρ1 H1 _ .refl w1 rfl⟩
@[simp] noncomputable def Bf(gt:En->EM Bool)(ga gb:EE):EE:=λ η S=>(gt η S).bind λ b=>match b with
 |true=>ga η
 |false=>gb η
theorem FW{gt:En->EM Bool}(hc:PT X c (tT G U gt))(ha:PE X a (tE G U ga))(hb:PE X b (tE G U gb)):PE X (.IfExp c a b pos) (tE G U (Bf gt ga gb)):=
 PE.mono (FV hc ha hb) λ σ H Q ⟨ρ,S,η,w,i,h⟩=>⟨ρ,S,η,w,i,Af.into h λ x ρ1 H1 S1 d s1 w1 h1 q1=>by
  cases h1
  cases x with
  |true=>exact⟨ρ1,S1,η,w1,i.ext s1,q1⟩
  |false=>exact⟨ρ1,S1,η,w1,i.ext s1,q1⟩⟩
@[simp] noncomputable def gP(ga gb:EE):EE:=λ η S=>(ga η S).bind λ x S1=>match x with
 |.bl true=>gb η S1
 |.bl false=>.ok (.bl false) S1
 |_=>.bad
@[simp] noncomputable def vI(ga gb:EE):EE:=λ η S=>(ga η S).bind λ x S1=>match x with
 |.bl true=>.ok (.bl true) S1
 |.bl false=>gb η S1
 |_=>.bad
theorem GS{rest:List Expr}(ha:PE X a (tE G U ga))(hb:PE X (.BoolOp .And (b::rest) pos) (tE G U gb)):PE X (.BoolOp .And (a::b::rest) pos) (tE G U (gP ga gb)):=
 PE.mono (GT ha hb) λ σ H Q ⟨ρ,S,η,w,i,h⟩=>⟨ρ,S,η,w,i,Af.into h λ x ρ1 H1 S1 d s1 w1 h1 q1=>by
  cases d with
  |bl k=>
   cases h1
   refine⟨k,rfl,?_⟩
   cases k with
   |true=>exact⟨ρ1,S1,η,w1,i.ext s1,q1⟩
   |false=>exact q1 ρ1 H1 _ .refl w1 rfl
  |_=>exact q1.elim⟩
theorem FF{rest:List Expr}(ha:PE X a (tE G U ga))(hb:PE X (.BoolOp .Or (b::rest) pos) (tE G U gb)):PE X (.BoolOp .Or (a::b::rest) pos) (tE G U (vI ga gb)):=
 PE.mono (FG ha hb) λ σ H Q ⟨ρ,S,η,w,i,h⟩=>⟨ρ,S,η,w,i,Af.into h λ x ρ1 H1 S1 d s1 w1 h1 q1=>by
  cases d with
  |bl k=>
   cases h1
   refine⟨k,rfl,?_⟩
   cases k with
   |true=>exact q1 ρ1 H1 _ .refl w1 rfl
   |false=>exact⟨ρ1,S1,η,w1,i.ext s1,q1⟩
  |_=>exact q1.elim⟩
@[simp] noncomputable def Cu(ga gb:En->EM Bool):En->EM Bool:=λ η S=>(ga η S).bind λ x=>match x with
 |true=>gb η
 |false=>EM.ret false
@[simp] noncomputable def gJ(ga gb:En->EM Bool):En->EM Bool:=λ η S=>(ga η S).bind λ x=>match x with
 |true=>EM.ret true
 |false=>gb η
theorem Tv{ta tb:En->EM Bool}{σ:St}{H:Hp}{Q:Bool->Hp->Prop}(h:tT G U (Cu ta tb) σ H Q):Ey (tT G U ta) (tT G U tb) σ H Q:=by
 obtain⟨ρ,S,η,w,i,h⟩:=h
 refine⟨ρ,S,η,w,i,Af.into h λ x ρ1 H1 S1 d s1 w1 h1 q1=>?_⟩
 cases h1
 cases x with
 |true=>exact⟨ρ1,S1,η,w1,i.ext s1,q1⟩
 |false=>exact q1 ρ1 H1 _ .refl w1 rfl
theorem Tu{ta tb:En->EM Bool}{σ:St}{H:Hp}{Q:Bool->Hp->Prop}(h:tT G U (gJ ta tb) σ H Q):Eu (tT G U ta) (tT G U tb) σ H Q:=by
 obtain⟨ρ,S,η,w,i,h⟩:=h
 refine⟨ρ,S,η,w,i,Af.into h λ x ρ1 H1 S1 d s1 w1 h1 q1=>?_⟩
 cases h1
 cases x with
 |true=>exact q1 ρ1 H1 _ .refl w1 rfl
 |false=>exact⟨ρ1,S1,η,w1,i.ext s1,q1⟩
theorem CF{ta:En->EM Bool}(ha:PT X a (tT G U ta)):PT X (.UnaryOp .Not a pos) (tT G U (λ η S=>(ta η S).bind λ b=>EM.ret (!b))):=
 PT.mono (CG ha) λ σ H Q ⟨ρ,S,η,w,i,h⟩=>⟨ρ,S,η,w,i,Af.into h λ x ρ1 H1 S1 d s1 w1 h1 q1=>by
  cases h1
  exact q1 ρ1 H1 _ .refl w1 rfl⟩
@[simp] noncomputable def eF(g:Option EE):En->EM (Option Int):=match g with
 |none=>λ _ S=>.ok none S
 |some g=>λ η S=>(g η S).bind λ x S1=>match x with
  |.int i=>.ok (some i) S1
  |_=>.bad
@[simp] noncomputable def jL(ga:EE)(gl gh:En->EM (Option Int)):EE:=λ η S=>(ga η S).bind λ x=>λ S1=>(gl η S1).bind λ l=>λ S2=>(gh η S2).bind λ h=>qN x l h
noncomputable def IsO(_:Wo)(_:Hp)(a b:Option Int):Prop:=a=b
noncomputable def tO(G:Gd)(U:SK)(g:En->EM (Option Int)):TO:=λ σ H Q=>∃ρ S η,Wd G ρ S H/\cO G ρ H η σ/\Af G U ρ σ H IsO Q (g η S)
theorem PO.mono{e:Option Expr}{t t':TO}(h:PO X e t)(k:∀σ H Q,t' σ H Q->t σ H Q):PO X e t':=by
 intro pins s σ H Q I q
 exact h pins s σ H Q I (k _ _ _ q)
theorem DR:PO X none (tO G U (eF none)):=PO.mono DQ λ σ H Q ⟨ρ,S,η,w,i,h⟩=>h ρ H _ .refl w rfl
theorem DP(ha:PE X a (tE G U ga)):PO X (some a) (tO G U (eF (some ga))):=
 PO.mono (DO ha) λ σ H Q ⟨ρ,S,η,w,i,h⟩=>⟨ρ,S,η,w,i,Af.into h λ x ρ1 H1 S1 d s1 w1 h1 q1=>by
  cases d<;>first|exact q1.elim|skip
  cases h1
  exact⟨_,rfl,q1 ρ1 H1 _ .refl w1 rfl⟩⟩
theorem FE{lo hi:Option Expr}{gl gh:En->EM (Option Int)}{p2:Pos}(ha:PE X a (tE G U ga))(hl:PO X lo (tO G U gl))(hh:PO X hi (tO G U gh)):PE X (.Subscript a (.Slice lo hi none p2) pos) (tE G U (jL ga gl gh)):=
 PE.mono (FD Xv ha hl hh) λ σ H Q ⟨ρ,S,η,w,i,h⟩=>⟨ρ,S,η,w,i,Af.into h λ x ρ1 H1 S1 d s1 w1 h1 q1=>
  ⟨ρ1,S1,η,w1,i.ext s1,Af.into q1 λ l ρ2 H2 S2 l' s2 w2 h2 q2=>⟨ρ2,S2,η,w2,(i.ext s1).ext s2,Af.into q2 λ u ρ3 H3 S3 u' s3 w3 h3 q3=>by
   cases h2;cases h3
   refine⟨ρ3,S3,d,w3,h1.ext (s2.trans s3),?_⟩
   cases q:qN d l u S3 with
   |ok z S'=>rw[q]at q3;exact⟨z,S',rfl,q3⟩
   |exc z S'=>exact(Xw z S' q).elim
   |bad=>rw[q]at q3;exact q3.elim⟩⟩⟩
end
section
variable{X:Cx}{G:Gd}{U:SK}{Γ:Gb}{fc:Fc}{a b c:Expr}{ga gb gc:EE}{gs:En->EM (List D)}{es:List Expr}{pos p:Pos}
@[simp] noncomputable def aG:En->EM (List D):=λ _ S=>.ok [] S
@[simp] noncomputable def aB(ga:EE)(gs:En->EM (List D)):En->EM (List D):=λ η S=>(ga η S).bind λ d=>λ S1=>(gs η S1).bind λ ds=>EM.ret (d::ds)
@[simp] noncomputable def cA0(ga:EE)(gs:En->EM (List D)):En->EM (List D):=λ η S=>(ga η S).bind λ d=>λ S1=>match seqD S1 d with
 |some xs=>(gs η S1).bind λ ds=>EM.ret (xs++ds)
 |none=>.bad
theorem GW:PA X [] (tA G U aG):=PA.mono vG λ σ H Q ⟨ρ,S,η,w,i,h⟩=>h ρ H _ .refl w rfl
theorem GY(hp:bT a=true)(ha:PE X a (tE G U ga))(hs:PA X es (tA G U gs)):PA X (a::es) (tA G U (aB ga gs)):=
 PA.mono (qR ha hs hp) λ σ H Q ⟨ρ,S,η,w,i,h⟩=>⟨ρ,S,η,w,i,Af.into h λ x ρ1 H1 S1 d s1 w1 h1 q1=>⟨ρ1,S1,η,w1,i.ext s1,Af.into q1 λ xs ρ2 H2 S2 ds s2 w2 h2 q2=>
  q2 ρ2 H2 _ .refl w2 ⟨x,xs,rfl,h1.ext s2,h2⟩⟩⟩
@[simp] noncomputable def fF(gs:En->EM (List D)):EE:=λ η S=>(gs η S).bind λ ds=>λ S1=>cI (aQ ds.length) (.tup ds) S1
@[simp] noncomputable def iG(gs:En->EM (List D)):EE:=λ η S=>(gs η S).bind λ ds=>λ S1=>cI (aQ ds.length) (.lst ds) S1
@[simp] noncomputable def kF(gs:En->EM (List D)):EE:=λ η S=>(gs η S).bind λ ds=>λ S1=>match aQ ds.length with
 |true=>.ok (.ref S1.length) (S1++[.lst ds])
 |false=>.bad
theorem Wd.mref{ρ:Wo}{S:aD}{H:Hp}(w:Wd G ρ S H){q:Addr}{H':Hp}:aU G (ρ.add q) H' (.ref S.length) (.ref q):=⟨q,rfl,by
 show(ρ.st++[q])[S.length]? =some q
 rw[<-w.len,List.getElem?_append_right (Nat.le_refl _),Nat.sub_self];rfl⟩
theorem EX{x1}(hs:PA X es (tA G U gs)):PE X (.Tuple es x1 pos) (tE G U (fF gs)):=
 PE.mono (EY hs) λ σ H Q ⟨ρ,S,η,w,i,h⟩=>⟨ρ,S,η,w,i,Af.into h λ xs ρ1 H1 S1 ds s1 w1 h1 q1=>by
  cases e:aQ ds.length with
  |false=>rw[e]at q1;exact q1.elim
  |true=>
   rw[e]at q1
   exact⟨by rw[h1.length];exact iC e,λ q hq=>q1 ρ1 _ _ (w1.sside hq) (w1.side hq) (w1.stup hq h1)⟩⟩
theorem zW(hs:PA X es (tA G U gs)):PE X (.List es pos) (tE G U (iG gs)):=
 PE.mono (Hn hs) λ σ H Q ⟨ρ,S,η,w,i,h⟩=>⟨ρ,S,η,w,i,Af.into h λ xs ρ1 H1 S1 ds s1 w1 h1 q1=>by
  cases e:aQ ds.length with
  |false=>rw[e]at q1;exact q1.elim
  |true=>
   rw[e]at q1
   exact⟨by rw[h1.length];exact iC e,λ q hq=>q1 ρ1 _ _ (w1.sside hq) (w1.side hq) (w1.slst hq h1)⟩⟩
theorem Hm(hs:PA X es (tA G U gs)):PE X (.List es pos) (tE G U (kF gs)):=
 PE.mono (Hn hs) λ σ H Q ⟨ρ,S,η,w,i,h⟩=>⟨ρ,S,η,w,i,Af.into h λ xs ρ1 H1 S1 ds s1 w1 h1 q1=>by
  cases e:aQ ds.length with
  |false=>rw[e]at q1;exact q1.elim
  |true=>
   rw[e]at q1
   exact⟨by rw[h1.length];exact iC e,λ q hq=>q1 _ _ _ (w1.smore hq) (w1.more hq h1) w1.mref⟩⟩
theorem Af.conv{ρ:Wo}{σ:St}{H:Hp}{Q:VK}{r:Rs D}(h:Af G U ρ σ H (aU G) Q r):
  Af G (λ _ e _ d H=>∀e' C,Value.ref e= .ref e'->H e'=some (fO e' C d)->U σ e' C d H) ρ [] H (aU G) Q r:=by
 cases r with
 |ok d S'=>exact h
 |exc x S'=>
  intro ρ' H' e C dd s w hx e' C' hv he
  cases hv
  have h1:=hx.2.1
  rw[he]at h1
  obtain⟨rfl,_⟩:=OQ (Option.some.inj h1)
  exact h ρ' H' e C' dd s w hx
 |bad=>exact h
@[simp] noncomputable def aV(ar:Nat)(g:List D->EM D)(gs:En->EM (List D)):EE:=λ η S=>(gs η S).bind λ ds=>match Nat.beq ds.length ar with
 |true=>g ds
 |false=>λ _=>.bad
theorem fG:∀{e:Expr} {es:List Expr},(e::es).all bT=true->∀env:Env,starEach (e::es) env=(false,eval e env)::starEach es env:=fun{e es} h env=>mZ e es env (by
 rw[List.all_cons]at h
 exact(Bool.and_eq_true_iff.mp h).1)
theorem fV{pos:Pos}{env:Env}:∀{es:List Expr},es.all bT=true->(backTo pos (starEach es env)).any (·.1)=false
 |[],_=>rfl
 |e::es,h=>by
  rw[List.all_cons]at h
  have h':=Bool.and_eq_true_iff.mp h
  rw[mZ e es env h'.1]
  have ih:=fV (pos:=pos) (env:=env) h'.2
  show(false||(backTo pos (starEach es env)).any (·.1))=false
  rw[ih];rfl
theorem fU{e:Expr}{es:List Expr}(h:(e::es).all bT=true):es.all bT=true:=by
 rw[List.all_cons]at h
 exact(Bool.and_eq_true_iff.mp h).2
theorem GM(C:bK X G U Γ fc)(hc:fc.calm=true){f:Str}{k ar:Nat}{g:List D->EM D}{e:Expr}(hf:lk f Γ.fn=some (k,ar,g))(hk:k<=fc.room)(hg:cN fc.sc f=true)(hd:gY f=true)(hp:(e::es).all bT=true)
  (hs:PA X (e::es) (tA G U gs)):PE X (.Call (.Name f p) (e::es) [] pos) (tE G U (aV ar g gs)):=by
 obtain⟨ps,K⟩:=C.gl.fn f k ar g hf
 refine PE.mono (GJ C.xe K (C.cm hc).2 hs (C.glo hg) hk (Bg hd) (fG hp _) (fV (fU hp))) λ σ H Q ⟨ρ,S,η,w,i,h⟩=>⟨ρ,S,η,w,i,Af.into h λ xs ρ1 H1 S1 ds s1 w1 h1 q1=>?_⟩
 cases e2:Nat.beq ds.length ar with
 |false=>rw[e2]at q1;exact q1.elim
 |true=>
  rw[e2]at q1
  exact⟨by rw[h1.length];exact Nat.eq_of_beq_eq_true e2,ρ1,S1,ds,w1,h1,Af.conv (σ:=σ) (r:=g ds S1) q1⟩
inductive Bl where
 |len|tup|lst|int|all|mn
noncomputable def xI:List (Str×Bl):=[("len",.len),("tuple",.tup),("list",.lst),("int",.int),("all",.all),("min",.mn)]
noncomputable def nS:List D->Option (List Bool)
 |[]=>some []
 |.bl b::r=>(nS r).map (b:: ·)
 |_::_=>none
@[simp] noncomputable def pH(ds:List D):EM D:=λ S=>match ds with
 |[.str z]=>cI (aQ z.length) (.int z.length) S
 |[d]=>match seqD S d with
  |some xs=>.ok (.int xs.length) S
  |none=>.bad
 |_=>.bad
@[simp] noncomputable def uI(ds:List D):EM D:=λ S=>match ds with
 |[.tup xs]=>.ok (.tup xs) S
 |[d]=>match lstD S d with
  |some xs=>.ok (.tup xs) S
  |none=>.bad
 |_=>.bad
@[simp] noncomputable def vW(ds:List D):EM D:=λ S=>match ds with
 |[d]=>match seqD S d with
  |some xs=>.ok (.lst xs) S
  |none=>.bad
 |_=>.bad
@[simp] noncomputable def wK(ds:List D):EM D:=λ S=>match ds with
 |[.int i]=>.ok (.int i) S
 |[.bl b]=>.ok (.int (if b then 1 else 0)) S
 |_=>.bad
@[simp] noncomputable def bZ0(ds:List D):EM D:=λ S=>match ds with
 |[.int i]=>cI (decide (i.natAbs.log2<1920)) (.str (Str.ofString (toString i))) S
 |_=>.bad
@[simp] noncomputable def sX(ds:List D):EM D:=λ S=>match ds with
 |[d]=>match(lstD S d).bind nS with
  |some bs=>.ok (.bl (bs.all id)) S
  |none=>.bad
 |_=>.bad
@[simp] noncomputable def vS(ds:List D):EM D:=λ S=>match ds with
 |[.int i,.int j]=>.ok (.int (if j<i then j else i)) S
 |_=>.bad
@[simp] noncomputable def mxB(ds:List D):EM D:=λ S=>match ds with
 |[.int i,.int j]=>.ok (.int (if j>i then j else i)) S
 |_=>.bad
@[simp] noncomputable def pO:Bl->List D->EM D
 |.len=>pH
 |.tup=>uI
 |.lst=>vW
 |.int=>wK
 |.all=>sX
 |.mn=>vS
noncomputable def rC(G:Gd)(f:List D->EM D):List V->Hp->VK->Prop:=λ xs H Q=>∃ρ S ds,Wd G ρ S H/\aN G ρ H ds xs/\∃z S',f ds S= .ok z S'/\∀ρ' H' v,bG ρ H ρ' H'->Wd G ρ' S' H'->aU G ρ' H' z v->Q v H'
theorem aN.single{ρ:Wo}{H:Hp}{d:D}{vs:List V}(h:aN G ρ H [d] vs):∃v,vs=[v]/\aU G ρ H d v:=by
 obtain⟨v,r,rfl,h1,rfl⟩:=h
 exact⟨v,rfl,h1⟩
theorem aN.pair{ρ:Wo}{H:Hp}{d e:D}{vs:List V}(h:aN G ρ H [d,e] vs):∃v u,vs=[v,u]/\aU G ρ H d v/\aU G ρ H e u:=by
 obtain⟨v,r,rfl,h1,u,r2,rfl,h2,rfl⟩:=h
 exact⟨v,u,rfl,h1,h2⟩
theorem Oq{ρ:Wo}{H:Hp}:∀{ds:List D} {bs:List Bool} {vs:List V},nS ds=some bs->aN G ρ H ds vs->vs=bs.map V.bl
 |[],_,_,e,h=>by cases e;cases h;rfl
 | d::ds,bs,vs,e,h=>by
  obtain⟨v,r,rfl,h1,h2⟩:=h
  cases d with
  |bl k=>
   simp only[nS]at e
   cases q:nS ds with
   |none=>rw[q]at e;cases e
   |some cs=>rw[q]at e;cases e;cases h1;rw[Oq q h2];rfl
  |_=>cases e
theorem TH(hK:X.K=G.K):eW X (.builtin "len") (rC G pH):=by
 intro pins s σ H xs us Q I r ⟨ρ,S,ds,w,hv,z,S',eq,q⟩
 unfold pH at eq
 split at eq
 ·obtain⟨hl,rfl,rfl⟩:=nR eq
  obtain⟨v,rfl,h1⟩:=hv.single
  cases h1
  exact TD pins s σ H _ us Q I r ⟨_,rfl,iC hl,q ρ H _ .refl w rfl⟩
 ·obtain⟨v,rfl,h1⟩:=hv.single
  split at eq
  ·rename_i ys e
   cases eq
   obtain⟨l,vs,rfl,h2,h3⟩:=h1.seqD w e
   exact TF pins s σ H _ us Q I r ⟨l,vs,rfl,hK▸h2,by rw[h3.length];exact q ρ H _ .refl w rfl⟩
  ·cases eq
 ·cases eq
theorem SR:eW X (.type "tuple") (rC G uI):=by
 intro pins s σ H xs us Q I r ⟨ρ,S,ds,w,hv,z,S',eq,q⟩
 unfold uI at eq
 split at eq
 ·cases eq
  obtain⟨v,rfl,h1⟩:=hv.single
  have h0:=h1
  obtain⟨a,vs,rfl,na,ha,h2⟩:=h1
  exact Oi pins s σ H _ us Q I r ⟨a,vs,rfl,.inr ⟨bE.of ha,q ρ H _ .refl w h0⟩⟩
 ·obtain⟨v,rfl,h1⟩:=hv.single
  split at eq
  ·rename_i ys e
   cases eq
   obtain⟨l,vs,rfl,h2,h3⟩:=h1.lstD w e
   exact Oi pins s σ H _ us Q I r ⟨l,vs,rfl,.inl ⟨bA.at' h2,λ p hp=>q ρ _ _ (w.sside hp) (w.side hp) (w.stup hp h3)⟩⟩
  ·cases eq
 ·cases eq
theorem TB(hK:X.K=G.K):eW X (.type "list") (rC G vW):=by
 intro pins s σ H xs us Q I r ⟨ρ,S,ds,w,hv,z,S',eq,q⟩
 unfold vW at eq
 split at eq
 ·obtain⟨v,rfl,h1⟩:=hv.single
  split at eq
  ·rename_i ys e
   cases eq
   obtain⟨l,vs,rfl,h2,h3⟩:=h1.seqD w e
   exact TC pins s σ H _ us Q I r ⟨l,vs,rfl,hK▸h2,λ p hp=>q ρ _ _ (w.sside hp) (w.side hp) (w.slst hp h3)⟩
  ·cases eq
 ·cases eq
theorem TL:eW X (.type "int") (rC G wK):=by
 intro pins s σ H xs us Q I r ⟨ρ,S,ds,w,hv,z,S',eq,q⟩
 unfold wK at eq
 split at eq
 ·cases eq
  obtain⟨v,rfl,h1⟩:=hv.single
  cases h1
  exact Oj pins s σ H _ us Q I r (.inl ⟨_,rfl,q ρ H _ .refl w rfl⟩)
 ·cases eq
  obtain⟨v,rfl,h1⟩:=hv.single
  cases h1
  exact Oj pins s σ H _ us Q I r (.inr ⟨_,rfl,q ρ H _ .refl w rfl⟩)
 ·cases eq
theorem TQ(hc:X.calm=true):eW X (.builtin "all") (rC G sX):=by
 intro pins s σ H xs us Q I r ⟨ρ,S,ds,w,hv,z,S',eq,q⟩
 unfold sX at eq
 split at eq
 ·rename_i d
  obtain⟨v,rfl,h1⟩:=hv.single
  split at eq
  ·rename_i bs e
   cases eq
   cases e2:lstD S d with
   |none=>rw[e2]at e;cases e
   |some ys=>
    rw[e2]at e
    obtain⟨l,vs,rfl,h2,h3⟩:=h1.lstD w e2
    exact TN hc pins s σ H _ us Q I r ⟨l,bs,rfl,bA.at' (Oq e h3▸h2),q ρ H _ .refl w rfl⟩
  ·cases eq
 ·cases eq
theorem SY(hc:X.calm=true):eW X (.builtin "min") (rC G vS):=by
 intro pins s σ H xs us Q I r ⟨ρ,S,ds,w,hv,z,S',eq,q⟩
 unfold vS at eq
 split at eq
 ·cases eq
  obtain⟨v,u,rfl,h1,h2⟩:=hv.pair
  cases h1;cases h2
  exact SZ hc pins s σ H _ us Q I r ⟨_,_,rfl,q ρ H _ .refl w rfl⟩
 ·cases eq
theorem XU{f:Bl}{ds:List D}{S:aD}:∀z S',pO f ds S≠ .exc z S':=by
 intro z S' h
 have c:∀{b u},cI b u S≠ .exc z S':=by intro b u;cases b<;>simp[cI]
 cases f<;>simp only[pO,pH,uI,vW,wK,sX,vS]at h<;>repeat (first|(cases h)|exact c h|(split at h))
@[simp] noncomputable def bS(f:Bl)(gs:En->EM (List D)):EE:=λ η S=>(gs η S).bind (pO f)
theorem Ho(C:bK X G U Γ fc)(hc:fc.calm=true){x:Str}{f:Bl}{e:Expr}(hf:lk x xI=some f)(hno:cL x Γ.no=true)(hg:cN fc.sc x=true)(hp:(e::es).all bT=true)
  (hs:PA X (e::es) (tA G U gs)):PE X (.Call (.Name x p) (e::es) [] pos) (tE G U (bS f gs)):=by
 have mem:=nJ hf
 have hm:=C.gl.no x (gM hno)
 have ca:=(C.cm hc).1
 have fin:∀{σ H Q},tE G U (bS f gs) σ H Q->yM (rC G (pO f)) (tA G U gs) σ H Q:=fun{σ H Q} ⟨ρ,S,η,w,i,h⟩=>⟨ρ,S,η,w,i,Af.into h λ xs ρ1 H1 S1 ds s1 w1 h1 q1=>by
  refine⟨ρ1,S1,ds,w1,h1,?_⟩
  cases e:pO f ds S1 with
  |ok z S'=>rw[e]at q1;exact⟨z,S',rfl,q1⟩
  |exc z S'=>exact(XU z S' e).elim
  |bad=>rw[e]at q1;exact q1.elim⟩
 simp only[xI,List.mem_cons,Prod.mk.injEq,List.not_mem_nil,or_false]at mem
 rcases mem with⟨rfl,rfl⟩|⟨rfl,rfl⟩|⟨rfl,rfl⟩|⟨rfl,rfl⟩|⟨rfl,rfl⟩|⟨rfl,rfl⟩
 ·exact PE.mono (oW (TH C.hK) (C.glo hg) hm PySem.boot_len hs Qc Qc (fG hp _) (fV (fU hp))) λ _ _ _ h=>fin h
 ·exact PE.mono (vD SR (C.glo hg) hm Ck hs Qc Qc (fG hp _) (fV (fU hp))) λ _ _ _ h=>fin h
 ·exact PE.mono (vD (TB C.hK) (C.glo hg) hm On hs Qc Qc (fG hp _) (fV (fU hp))) λ _ _ _ h=>fin h
 ·exact PE.mono (vD TL (C.glo hg) hm Oo hs Qc Qc (fG hp _) (fV (fU hp))) λ _ _ _ h=>fin h
 ·exact PE.mono (oW (TQ ca) (C.glo hg) hm XS hs Qc Qc (fG hp _) (fV (fU hp))) λ _ _ _ h=>fin h
 ·exact PE.mono (oW (SY ca) (C.glo hg) hm XR hs Qc Qc (fG hp _) (fV (fU hp))) λ _ _ _ h=>fin h
end
section
variable{X:Cx}{G:Gd}{U:SK}{Γ:Gb}{fc:Fc}{a b c o:Expr}{ga gb gc:EE}{gs:En->EM (List D)}{es:List Expr}{pos p apos cpos:Pos}
noncomputable def sS:Expr->Bool
 |.Call (.Name _ _) [] [] _=>false
 |_=>true
theorem Pa{o:Expr}{at':Str}{env:Env}{whole:Sem Value}(h:sS o=true):attributeBase o at' env whole=whole:=by
 unfold attributeBase
 split
 ·cases h
 ·rfl
theorem sK{e:Expr}{env:Env}(hp:(e::es).all bT=true)(hl:Nat.blt (e::es).length 30=true):((backTo cpos (starEach (e::es) env)).all (λ x=>!x.1)&&(backToKw cpos (keywordEach [] env)).all (λ x=>x.1.isSome)
   &&decide ((e::es).length+([]:List Keyword).length+(if([]:List Keyword).isEmpty then 0 else 1)<30))=true:=by
 have h1:(backTo cpos (starEach (e::es) env)).all (λ x=>!x.1)=true:=by
  have:=fV (pos:=cpos) (env:=env) hp
  rw[List.any_eq_false]at this
  rw[List.all_eq_true]
  intro x hx
  have:=this x hx
  simpa using this
 have h2:(e::es).length<30:=Nat.blt_eq.mp hl
 rw[h1]
 simp only[Bool.true_and,Bool.and_eq_true]
 exact⟨rfl,by simpa using h2⟩
inductive Mt where
 |join|index|count
noncomputable def Aj:List (Str×Mt):=[("join",.join),("index",.index),("count",.count)]
noncomputable def jJ:List D->Option (List Str)
 |[]=>some []
 |.str x::r=>(jJ r).map (x:: ·)
 |_::_=>none
theorem yR:∀{ds:List D} {xs:List Str},jJ ds=some xs->ds=xs.map D.str
 |[],_,e=>by cases e;rfl
 | d::ds,xs,e=>by
  cases d with
  |str x=>
   simp only[jJ]at e
   cases q:jJ ds with
   |none=>rw[q]at e;cases e
   |some ys=>rw[q]at e;cases e;rw[yR q];rfl
  |_=>cases e
@[simp] noncomputable def rW(x:D)(ds:List D):EM D:=λ S=>match x,ds with
 |.str z,[d]=>match(lstD S d).bind jJ with
  |some ys=>cI (Nat.ble ((ys.map (·.length)).sum+ys.length*z.length) 16777216) (.str (Txt.join z ys)) S
  |none=>.bad
 |_,_=>.bad
@[simp] noncomputable def cB0(x:D)(ds:List D):EM D:=λ S=>match x,ds with
 |.str t,[.str sep]=>cI (!(sep.length==0)&&aQ t.length&&aQ (Txt.split t sep).length) (.lst ((Txt.split t sep).map .str)) S
 |_,_=>.bad
@[simp] noncomputable def cC0(x:D)(ds:List D):EM D:=λ S=>match x,ds with
 |.str t,[.str sep]=>cI (!(sep.length==0)&&aQ t.length) (.tup [.str (Txt.partition t sep).1,.str (Txt.partition t sep).2.1,.str (Txt.partition t sep).2.2]) S
 |_,_=>.bad
noncomputable def pK:D->Bool
 |.tup _=>true
 |.kt _=>true
 |_=>false
noncomputable def nK(v:V):List V->Option Nat
 |[]=>none
 |u::r=>match dX u v with
  |true=>some 0
  |false=>(nK v r).map (· +1)
theorem Mq{v:V}:∀{us:List V} {j:Nat},nK v us=some j->Nb v us j
 | u::r,j,h=>by
  rw[nK]at h
  cases e:dX u v with
  |true=>
   rw[e]at h;cases h
   exact⟨⟨u,rfl,e⟩,λ m x hm=>absurd hm (Nat.not_lt_zero _)⟩
  | false=>
   rw[e]at h
   cases q:nK v r with
   |none=>rw[q]at h;cases h
   |some k=>
    rw[q]at h;cases h
    obtain⟨⟨x,h1,h2⟩,h3⟩:=Mq q
    refine⟨⟨x,by simpa using h1,h2⟩,λ m x hm hx=>?_⟩
    cases m with
    |zero=>simp at hx;rw[<-hx];exact e
    |succ m=>exact h3 m x (Nat.lt_of_succ_lt_succ hm) (by simpa using hx)
@[simp] noncomputable def wM(x:D)(ds:List D):EM D:=λ S=>match ds with
 | [d]=>match(seqD S x).bind fN,kQ d with
  |some us,some v=>match nK v us with
   |some j=>.ok (.int j) S
   |none=>.bad
  |_,_=>.bad
 |_=>.bad
@[simp] noncomputable def xD(x:D)(ds:List D):EM D:=λ S=>match ds with
 |[d]=>match(lstD S x).bind fN,kQ d with
  |some us,some v=>.ok (.int (us.countP λ u=>dX u v)) S
  |_,_=>.bad
 |_=>.bad
@[simp] noncomputable def pC:Mt->D->List D->EM D
 |.join=>rW
 |.index=>wM
 |.count=>xD
@[simp] noncomputable def qO(f:Mt)(x:D)(S:aD):Bool:=match f,x with
 |.join,.str _=>true
 |.index,.tup _=>true
 |.index,x=>(lstD S x).isSome
 |.count,x=>(lstD S x).isSome
 |_,_=>false
@[simp] noncomputable def iY(f:Mt)(ga:EE)(gs:En->EM (List D)):EE:=λ η S=>(ga η S).bind λ x=>λ S1=>match qO f x S1 with
 |true=>(gs η S1).bind λ ds=>pC f x ds
 |false=>.bad
noncomputable def rM(G:Gd)(f:D->List D->EM D):V->List V->Hp->VK->Prop:=λ x xs H Q=>∃ρ S d ds,Wd G ρ S H/\aU G ρ H d x/\aN G ρ H ds xs/\∃z S',f d ds S= .ok z S'/\∀ρ' H' v,bG ρ H ρ' H'->Wd G ρ' S' H'->aU G ρ' H' z v->Q v H'
theorem KC:hZ X "str.join" (rM G rW):=by
 intro pins s σ H x vs v us Q I rx rv ⟨ρ,S,d,ds,w,hd,hs,z,S',eq,q⟩
 unfold rW at eq
 split at eq
 ·rename_i t d2
  split at eq
  ·rename_i ys e
   obtain⟨hl,rfl,rfl⟩:=nR eq
   cases hd
   obtain⟨u,rfl,h1⟩:=hs.single
   cases e2:lstD _ d2 with
   |none=>rw[e2]at e;cases e
   |some ds2=>
    rw[e2]at e
    obtain⟨l,vs2,rfl,h2,h3⟩:=h1.lstD w e2
    rw[yR e]at h3
    exact KD pins s σ H _ _ v us Q I rx rv ⟨t,l,ys,rfl,rfl,bA.at' (h3.strs_of▸h2),Nat.le_of_ble_eq_true hl,q ρ H _ .refl w rfl⟩
  ·cases eq
 ·cases eq
theorem KH:hZ X "list.count" (rM G xD):=by
 intro pins s σ H x vs v us Q I rx rv ⟨ρ,S,d,ds,w,hd,hs,z,S',eq,q⟩
 unfold xD at eq
 split at eq
 ·rename_i d2
  split at eq
  ·rename_i ws y e e2
   cases eq
   obtain⟨u,rfl,h1⟩:=hs.single
   cases e3:lstD S d with
   |none=>rw[e3]at e;cases e
   |some ds2=>
    rw[e3]at e
    obtain⟨l,vs2,rfl,h2,h3⟩:=hd.lstD w e3
    obtain⟨rfl,f1⟩:=h3.fl e
    obtain⟨rfl,f2⟩:=h1.fl e2
    exact KG pins s σ H _ _ v us Q I rx rv ⟨l,_,_,rfl,rfl,bA.at' h2,f2,f1,q ρ H _ .refl w rfl⟩
  ·cases eq
 ·cases eq
noncomputable def zM(G:Gd)(k:D->Bool)(f:D->List D->EM D):V->List V->Hp->VK->Prop:=λ x xs H Q=>∃ρ S d ds,k d=true/\Wd G ρ S H/\aU G ρ H d x/\aN G ρ H ds xs/\∃z S',f d ds S= .ok z S'/\∀ρ' H' v,bG ρ H ρ' H'->Wd G ρ' S' H'->aU G ρ' H' z v->Q v H'
theorem Ie(hK:X.K=G.K){id:String}{tup:Bool}(hm:hZ X id (zN X.K tup)):hZ X id (zM G (λ d=>pK d==tup) wM):=by
 intro pins s σ H x vs v us Q I rx rv ⟨ρ,S,d,ds,hk,w,hd,hs,z,S',eq,q⟩
 have hk:pK d=tup:=beq_iff_eq.mp hk
 unfold wM at eq
 split at eq
 ·split at eq
  ·rename_i ws y e e2
   split at eq
   ·rename_i j e4
    cases eq
    obtain⟨u,rfl,h1⟩:=hs.single
    cases e3:seqD S d with
    |none=>rw[e3]at e;cases e
    | some ds2=>
     rw[e3]at e
     have ty:(∃a xs,x= .ref a/\(if tup=true then bE X.K H a xs else bA X.K H a xs)/\aN G ρ H ds2 xs):=by
      cases d with
      |tup es=>
       cases e3
       obtain⟨a,xs,h1,_,h3,h4⟩:=hd
       refine⟨a,xs,h1,?_,h4⟩
       rw[<-hk];exact bE.of h3
      |lst es=>
       cases e3
       obtain⟨a,xs,h1,_,h3,h4⟩:=hd
       refine⟨a,xs,h1,?_,h4⟩
       rw[<-hk];exact bA.at' h3
      |ref i=>
       obtain⟨a,xs,h1,h3,h4⟩:=hd.lstD w (d:=.ref i) e3
       refine⟨a,xs,h1,?_,h4⟩
       rw[<-hk];exact bA.at' h3
      |scr ns=>
       obtain⟨a,xs,h1,h3,h4⟩:=hd.seqD w (d:=.scr ns) e3
       refine⟨a,xs,h1,?_,h4⟩
       rw[<-hk,hK]
       obtain⟨b,e5,h5⟩:=hd
       rw[h1]at e5
       cases e5
       cases e3
       exact h4.ints_of▸h5.elim (λ ⟨_,o,q⟩=>.inl (.inr ⟨o,q⟩)) λ q=>q H
      |kt xs=>
       cases e3
       obtain⟨a,h1,h2⟩:=hd
       refine⟨a,_,h1,?_,aN.txts xs⟩
       rw[<-hk,hK];exact h2 H
      |_=>cases e3
     obtain⟨l,vs2,rfl,h2,h3⟩:=ty
     obtain⟨rfl,f1⟩:=h3.fl e
     obtain⟨rfl,f2⟩:=h1.fl e2
     exact hm pins s σ H _ _ v us Q I rx rv ⟨l,_,_,j,rfl,rfl,h2,f2,f1,Mq e4,q ρ H _ .refl w rfl⟩
   ·cases eq
  ·cases eq
 ·cases eq
theorem hZ.k{id:String}{f:D->List D->EM D}(h:hZ X id (rM G f)){k:D->Bool}:hZ X id (zM G k f):=by
 intro pins s σ H x vs v us Q I rx rv ⟨ρ,S,d,ds,_,q⟩
 exact h pins s σ H x vs v us Q I rx rv ⟨ρ,S,d,ds,q⟩
theorem KJ{f:Mt}{x:D}{ds:List D}{S:aD}:∀z S',pC f x ds S≠ .exc z S':=by
 intro z S' h
 have c:∀{b u},cI b u S≠ .exc z S':=by intro b u;cases b<;>simp[cI]
 cases f<;>simp only[pC,rW,wM,xD]at h<;>repeat (first|(cases h)|exact c h|(split at h))
theorem pB{k:D->Bool}{f:Mt}{T:V->Hp->Prop}{ρ:Wo}{σ:St}{H:Hp}{S:aD}{η:En}{Q:VK}(hT:∀ρ S H d x,Wd G ρ S H->aU G ρ H d x->qO f d S=true->k d=true->T x H)
  (w:Wd G ρ S H) (i:cO G ρ H η σ) (h:Af G U ρ σ H (aU G) Q (iY f ga gs η S)) (hk:∀d S1,ga η S= .ok d S1->k d=true):tE G U ga σ H λ x H1=>T x H1/\tA G U gs σ H1 λ xs H2=>zM G k (pC f) x xs H2 Q:=by
 refine⟨ρ,S,η,w,i,?_⟩
 unfold iY at h
 cases e:ga η S with
 | ok d S1=>
  rw[e]at h
  intro ρ1 H1 x s1 w1 h1
  have q1:=Af.step s1 h
  simp only[Rs.bind]at q1
  cases e2:qO f d S1 with
  |false=>rw[e2]at q1;exact q1.elim
  |true=>
   rw[e2]at q1
   refine⟨hT ρ1 S1 H1 d x w1 h1 e2 (hk d S1 e),ρ1,S1,η,w1,i.ext s1,Af.into q1 λ xs ρ2 H2 S2 ds s2 w2 h2 q2=>?_⟩
   refine⟨ρ2,S2,d,ds,hk d S1 e,w2,h1.ext s2,h2,?_⟩
   cases q:pC f d ds S2 with
   |ok z S'=>rw[q]at q2;exact⟨z,S',rfl,q2⟩
   |exc z S'=>exact(KJ z S' q).elim
   |bad=>rw[q]at q2;exact q2.elim
 |exc x S1=>rw[e]at h;exact h
 |bad=>rw[e]at h;exact h
theorem vA{K:PySem.W.Frag}{f:Mt}(hf:f= .count\/f= .index):∀ρ S H d x,Wd G ρ S H->aU G ρ H d x->qO f d S=true->(pK d==false)=true->uG K "list" x H:=by
 intro ρ S H d x w hd e hk
 have:(lstD S d).isSome=true:=by rcases hf with rfl|rfl<;>cases d<;>first|exact e|cases hk
 obtain⟨ds,q⟩:=Option.isSome_iff_exists.mp this
 obtain⟨a,vs,rfl,h1,h2⟩:=hd.lstD w q
 exact .inl ⟨rfl,vs,bA.at' h1⟩
theorem AX{K:PySem.W.Frag}{f:Mt}(hf:f= .join):∀ρ S H d x,Wd G ρ S H->aU G ρ H d x->qO f d S=true->(λ _=>true) d=true->uG K "str" x H:=by
 intro ρ S H d x w hd e _
 subst hf;cases d<;>first|(cases e;done)|(cases hd;rfl)
theorem FO(C:bK X G U Γ fc){m:Str}{f:Mt}{e:Expr}(hf:lk m Aj=some f)(hb:sS o=true)(hl:Nat.beq apos.endLine cpos.line=true)(hn:Nat.blt (e::es).length 30=true)(hp:(e::es).all bT=true)
  (ho:PE X o (tE G U ga)) (hs:PA X (e::es) (tA G U gs)):PE X (.Call (.Attribute o m apos) (e::es) [] cpos) (tE G U (iY f ga gs)):=by
 have mem:=nJ hf
 have hline:(apos.endLine==cpos.line)=true:=beq_iff_eq.mpr (Nat.eq_of_beq_eq_true hl)
 have hbase:attributeBase o m X.env (eval o X.env)=eval o X.env:=Pa hb
 simp only[Aj,List.mem_cons,Prod.mk.injEq,List.not_mem_nil,or_false]at mem
 rcases mem with⟨rfl,rfl⟩|⟨rfl,rfl⟩|⟨rfl,rfl⟩
 ·exact PE.mono (vF PySem.F.plainAttrs_str PySem.F.slot_str_join PySem.F.type_str_join ((KC (G:=G)).k (k:=λ _=>true)) ho hs hbase (sK hp hn) hline (fG hp _) (fV (fU hp))) λ σ H Q ⟨ρ,S,η,w,i,h⟩=>
   pB (AX rfl) w i h λ _ _ _=>rfl
 ·have p1:=vF PySem.F.plainAttrs_list PySem.F.slot_list_index PySem.F.type_list_index (Ie (G:=G) C.hK KE) ho hs hbase (sK hp hn) hline (fG hp _) (fV (fU hp))
  have p2:=GN PySem.F.plainAttrs_tuple PySem.F.slot_tuple_index PySem.F.type_tuple_index (Ie (G:=G) C.hK KF) ho hs hbase (sK hp hn) hline (fG hp _) (fV (fU hp))
  refine PE.mono (p1.or p2) λ σ H Q ⟨ρ,S,η,w,i,h⟩=>?_
  cases q:ga η S with
  |ok d S1=>
   cases hd:pK d with
   |false=>exact .inl (pB (vA (.inr rfl)) w i h λ d' S' e'=>by rw[q]at e';cases e';rw[hd];rfl)
   | true=>exact .inr (pB (λ ρ S H d x w hd e hk=>by
     cases d with
     |tup ds=>obtain⟨a,vs,rfl,_,h3,_⟩:=hd;exact⟨a,vs,rfl,h3⟩
     |kt xs=>cases e
     |_=>cases hk) w i h λ d' S' e'=>by rw[q]at e';cases e';rw[hd];rfl)
  |exc x S1=>exact .inl (pB (vA (.inr rfl)) w i h λ d' S' e'=>by rw[q]at e';cases e')
  |bad=>exact .inl (pB (vA (.inr rfl)) w i h λ d' S' e'=>by rw[q]at e';cases e')
 ·refine PE.mono (vF PySem.F.plainAttrs_list PySem.F.slot_list_count PySem.F.type_list_count ((KH (G:=G)).k (k:=λ d=>pK d==false)) ho hs hbase (sK hp hn) hline (fG hp _) (fV (fU hp))) λ σ H Q ⟨ρ,S,η,w,i,h⟩=>?_
  refine pB (k:=λ d=>pK d==false) (f:=.count) (vA (.inl rfl)) w i h λ d S1 e=>?_
  cases d with
  |tup ds=>
   unfold iY at h
   rw[e]at h
   exact h.elim
  |kt xs=>
   unfold iY at h
   rw[e]at h
   exact h.elim
  |_=>rfl
end
section
variable{X:Cx}{G:Gd}{U:SK}{Γ:Gb}{fc:Fc}{a b c o:Expr}{ga gb gc:EE}{gs:En->EM (List D)}{es:List Expr}{pos p apos cpos:Pos}
noncomputable def oI:List (Str×String):=[("str","str"),("int","int"),("bool","bool"),("tuple","tuple"),("list","list")]
noncomputable def iB(S:aD):D->Option String
 |.non=>some "NoneType"
 |.bl _=>some "bool"
 |.int _=>some "int"
 |.str _=>some "str"
 |.tup _=>some "tuple"
 |.lst _=>some "list"
 |.ref i=>match S[i]? with
  |some (.lst _)=>some "list"
  |_=>none
 |.exc _ _ _=>none
 |.scr _=>none
 |.kt _=>none
noncomputable def fE(T t:String):Bool:=t==T||(t== "bool" &&T== "int")
@[simp] noncomputable def Kk(T:String)(d:D):EM D:=λ S=>match iB S d with
 |some t=>.ok (.bl (fE T t)) S
 |none=>.bad
theorem Sv{K:PySem.W.Frag}{ρ:Wo}{S:aD}{H:Hp}(w:Wd G ρ S H){d:D}{v:V}{t T:String}(h:aU G ρ H d v)(e:iB S d=some t)(hT:∃x,lk x oI=some T):gQ K H v (.type t)/\PySem.W.kitOne K (.type t) (.type T)=some (fE T t):=by
 have mem:T= "str"\/T= "int"\/T= "bool"\/T= "tuple"\/T= "list" :=by
  obtain⟨x,hx⟩:=hT
  have m:=nJ hx
  simp only[oI,List.mem_cons,Prod.mk.injEq,List.not_mem_nil,or_false]at m
  rcases m with⟨_,m⟩|⟨_,m⟩|⟨_,m⟩|⟨_,m⟩|⟨_,m⟩<;>simp[m]
 have kit:∀t,t= "NoneType"\/t= "bool"\/t= "int"\/t= "str"\/t= "tuple"\/t= "list"->PySem.W.kitOne K (.type t) (.type T)=some (fE T t):=λ t ht=>by
  rcases mem with rfl|rfl|rfl|rfl|rfl<;>rcases ht with rfl|rfl|rfl|rfl|rfl|rfl<;>rfl
 cases d with
 |non=>cases e;cases h;exact⟨.non,kit _ Qb⟩
 |bl b=>cases e;cases h;exact⟨.bl _,kit _ Qb⟩
 |int i=>cases e;cases h;exact⟨.int _,kit _ Qb⟩
 |str x=>cases e;cases h;exact⟨.str _,kit _ Qb⟩
 |tup ds=>cases e;obtain⟨l,vs,rfl,_,h3,_⟩:=h;exact⟨.tup h3,kit _ Qb⟩
 |lst ds=>cases e;obtain⟨l,vs,rfl,_,h3,_⟩:=h;exact⟨.lst h3,kit _ Qb⟩
 | ref i=>
  simp only[iB]at e
  split at e
  ·rename_i ds q
   cases e
   obtain⟨l,vs,rfl,h3,_⟩:=h.lstD (ds:=ds) w (by simp only[lstD,q])
   exact⟨.lst h3,kit _ Qb⟩
  ·cases e
 |exc c ns ds=>cases e
 |scr ns=>cases e
 |kt ns=>cases e
@[simp] noncomputable def gF(T:String)(ga:EE):EE:=λ η S=>(ga η S).bind (Kk T)
theorem XI{x:Str}{T:String}(h:lk x oI=some T):bootBuiltins x=some (.type T)/\x≠ "__name__"/\(x==("__debug__" :Str))=false:=by
 have m:=nJ h
 simp only[oI,List.mem_cons,Prod.mk.injEq,List.not_mem_nil,or_false]at m
 rcases m with⟨rfl,rfl⟩|⟨rfl,rfl⟩|⟨rfl,rfl⟩|⟨rfl,rfl⟩|⟨rfl,rfl⟩
 ·exact⟨XJ,Qc,Qc⟩
 ·exact⟨Oo,Qc,Qc⟩
 ·exact⟨XM,Qc,Qc⟩
 ·exact⟨Ck,Qc,Qc⟩
 ·exact⟨On,Qc,Qc⟩
theorem FT(C:bK X G U Γ fc){t:Str}{T:String}{q:Pos}(ht:lk t oI=some T)(hg:cN fc.sc "isinstance" =true)(hn:cL "isinstance" Γ.no=true)(hgt:cN fc.sc t=true)(hnt:cL t Γ.no=true)(hp:bT a=true)
  (ha:PE X a (tE G U ga)):PE X (.Call (.Name "isinstance" p) [a,.Name t q] [] pos) (tE G U (gF T ga)):=by
 obtain⟨b1,b2,b3⟩:=XI ht
 have hpl:[a,Expr.Name t q].all bT=true:=by
  show(bT a&&(true&&true))=true
  rw[hp];rfl
 refine PE.mono (oW TK (C.glo hg) (C.gl.no _ (gM hn)) XO (qR ha (qR (GO (v:=.ty T) (C.glo hgt) (C.gl.no _ (gM hnt)) b1 rfl b2 b3) vG rfl) hp) Qc Qc (fG hpl _) (fV (fU hpl))) λ σ H Q ⟨ρ,S,η,w,i,h⟩=>⟨ρ,S,η,w,i,Af.into h λ x ρ1 H1 S1 d s1 w1 h1 q1=>?_⟩
 unfold Kk at q1
 split at q1
 ·rename_i t' e
  obtain⟨k1,k2⟩:=Sv (K:=X.K) w1 h1 e ⟨t,ht⟩
  exact⟨x,T,_,_,rfl,k1,k2,q1 ρ1 H1 _ .refl w1 rfl⟩
 ·exact q1.elim
end
section
variable{X:Cx}{G:Gd}{U:SK}{Γ:Gb}{fc:Fc}{a b c o:Expr}{ga gb gc:EE}{gs:En->EM (List D)}{es:List Expr}{pos p apos cpos:Pos}
inductive Tg where
 |nm (i:Nat)|tp (is:List Nat)
noncomputable def Ip(fc:Fc)(x:Str):Bool:=match lk x fc.sc.names with
 |some .local=>true
 |some .cell=>fc.dfn
 |_=>false
noncomputable def jK(fc:Fc)(x:Str):Option Nat:=match Ip fc x with
 |true=>nB x fc.N 0
 |false=>none
noncomputable def qM(fc:Fc):List Expr->Option (List Nat)
 |[]=>some []
 |.Name x _::r=>match jK fc x,qM fc r with
  |some i,some is=>some (i::is)
  |_,_=>none
 |_::_=>none
noncomputable def gH(fc:Fc):Expr->Option Tg
 |.Name x _=>(jK fc x).map .nm
 |.Tuple es _ _=>match fc.calm with
  |true=>(qM fc es).map .tp
  |false=>none
 |_=>none
@[simp] noncomputable def gC:List Nat->List D->En->En
 |i::is,d::ds,η=>gC is ds (η.set i (some d))
 |_,_,η=>η
@[simp] noncomputable def aX(t:Tg)(d:D)(η:En):Option En:=match t,d with
 |.nm i,d=>some (η.set i (some d))
 |.tp is,.tup ds=>match Nat.beq is.length ds.length with
  |true=>some (gC is ds η)
  |false=>none
 |.tp _,_=>none
noncomputable def rZ:List Nat->jE
 |[]=>Bq
 |i::is=>Br (kP i) (rZ is)
noncomputable def mD(K:PySem.W.Frag):Tg->TG
 |.nm i=>kP i
 |.tp is=>Bp K is.length (rZ is)
noncomputable def An(k:Nat):List Nat->Bool
 |[]=>true
 |i::is=>Nat.blt i k&&An k is
noncomputable def lT(k:Nat):Tg->Bool
 |.nm i=>Nat.blt i k
 |.tp is=>An k is
theorem uX(C:bK X G U Γ fc){x:Str}{i:Nat}(h:jK fc x=some i):X.N[i]? =some x/\pX X.env.scope x/\(X.fn x=true\/X.env.scope.names.lookup x=some .local):=by
 unfold jK Ip at h
 rw[iH,<-C.sc]at h
 refine⟨?_,?_⟩
 ·rw[C.N]
  split at h
  ·exact yX h
  ·cases h
 ·split at h
  ·rename_i e
   split at e
   ·rename_i e2;exact⟨.inl e2,.inr e2⟩
   ·rename_i e2;exact⟨.inr e2,.inl (C.df e x)⟩
   ·cases e
  ·cases h
theorem Hk(C:bK X G U Γ fc){x:Str}{i:Nat}(h:jK fc x=some i):PG X (.Name x pos) (kP i):=by
 obtain⟨h1,h2,h3⟩:=uX C h
 exact ET C.nd h1 h2 h3
theorem Hj(C:bK X G U Γ fc):∀{es:List Expr} {is:List Nat},qM fc es=some is->tG X es (rZ is)/\(assignEach es X.env).length=is.length/\(assignEach es X.env).findIdx? (·.1)=none
 |[],is,h=>by cases h;exact⟨EN,rfl,rfl⟩
 | e ::es,is,h=>by
  cases e with
  | Name x q=>
   simp only[qM]at h
   split at h
   ·rename_i i js h1 h2
    cases h
    obtain⟨k1,k2,k3⟩:=Hj C h2
    refine⟨EO (Hk C h1) k1,?_,?_⟩
    ·show(assignEach es X.env).length+1=js.length+1
     rw[k2]
    ·show List.findIdx? (·.1) ((false,_)::assignEach es X.env)=none
     rw[List.findIdx?_cons,k3]
     rfl
   ·cases h
  |_=>cases h
theorem oV(C:bK X G U Γ fc){t:Tg}(h:gH fc a=some t):PG X a (mD X.K t):=by
 cases a with
 |Name x q=>
  simp only[gH]at h
  cases e:jK fc x with
  |none=>rw[e]at h;cases h
  |some i=>rw[e]at h;cases h;exact Hk C e
 | Tuple es k q=>
  simp only[gH]at h
  split at h
  ·rename_i hc
   cases e:qM fc es with
   |none=>rw[e]at h;cases h
   |some is=>
    rw[e]at h;cases h
    obtain⟨k1,k2,k3⟩:=Hj C e
    exact EQ (C.cm hc).1 k1 k2 k3
  ·cases h
 |_=>cases h
theorem La{k:Nat}:∀{is:List Nat},An k is=true->tJ k (rZ is)
 |[],_=>NR
 |i::is,h=>by
  have:=Bool.and_eq_true_iff.mp h
  exact NS (Nat.blt_eq.mp this.1) (La this.2)
theorem wQ{K:PySem.W.Frag}{k:Nat}:∀{t:Tg},lT k t=true->jX k (mD K t)
 |.nm i,h=>NU (Nat.blt_eq.mp h)
 |.tp is,h=>NT (La h)
theorem Kz{ρ:Wo}{H:Hp}{Q:St->Hp->Prop}:∀{is:List Nat} {ds:List D} {vs:List V} {η:En} {σ:St},aN G ρ H ds vs->is.length=ds.length->cO G ρ H η σ->(∀σ',cO G ρ H (gC is ds η) σ'->Q σ' H)->rZ is vs σ H Q
 |[],[],vs,η,σ,h,_,i,q=>by cases h;exact⟨rfl,q σ i⟩
 |j::is,d::ds,vs,η,σ,h,l,i,q=>by
  obtain⟨v,r,rfl,h1,h2⟩:=h
  exact⟨v,r,rfl,Kz h2 (by simpa using l) (i.set h1) q⟩
 |[],_::_,_,_,_,_,l,_,_=>by cases l
 |_::_,[],_,_,_,_,l,_,_=>by cases l
theorem Bk{K:PySem.W.Frag}{ρ:Wo}{H:Hp}{Q:St->Hp->Prop}{t:Tg}{d:D}{v:V}{η η':En}{σ:St}(h:aU G ρ H d v)(i:cO G ρ H η σ)(e:aX t d η=some η')(q:∀σ',cO G ρ H η' σ'->Q σ' H):mD K t v σ H Q:=by
 cases t with
 |nm j=>cases e;exact q _ (i.set h)
 | tp is=>
  cases d with
  | tup ds=>
   simp only[aX]at e
   split at e
   ·rename_i hl
    cases e
    obtain⟨l,vs,rfl,_,h3,h4⟩:=h
    have hl:=Nat.eq_of_beq_eq_true hl
    exact⟨l,vs,rfl,bE.of h3,by rw[h4.length,hl],Kz h4 hl i q⟩
   ·cases e
  |_=>cases e
noncomputable abbrev Sr:=List D×Option Nat
noncomputable def mR(it:Sr)(S:aD):Prop:=match it.2 with
 |none=>True
 |some i=>S[i]? =some (.lst it.1)
structure Gv(G:Gd)(ρ0:Wo)(H0:Hp)(J:It)(it:Sr):Prop where
 go:∀i ρ S H,bG ρ0 H0 ρ H->Wd G ρ S H->mR it S->i<it.1.length->J.go i H
 stop:∀ρ S H,bG ρ0 H0 ρ H->Wd G ρ S H->mR it S->J.stop it.1.length H
 yld:∀i ρ S H x H',bG ρ0 H0 ρ H->Wd G ρ S H->mR it S->i<it.1.length->J.yld i H x H'->bG ρ H ρ H'/\Wd G ρ S H'/\∃d,it.1[i]? =some d/\aU G ρ H' d x
noncomputable def IsJ(G:Gd)(ρ:Wo)(H:Hp)(it:Sr)(J:It):Prop:=Gv G ρ H J it
noncomputable def tI(G:Gd)(U:SK)(g:En->EM Sr):TI:=λ σ H R=>∃ρ S η,Wd G ρ S H/\cO G ρ H η σ/\Af G U ρ σ H (IsJ G) R (g η S)
theorem PI.mono{tg it:Expr}{w w':TI}(h:PI X tg it w)(k:∀σ H R,w' σ H R->w σ H R):PI X tg it w':=λ pins s σ H R I q=>h pins s σ H R I (k _ _ _ q)
theorem PI.or{tg it:Expr}{w w':TI}(h:PI X tg it w)(h':PI X tg it w'):PI X tg it (λ σ H R=>w σ H R\/w' σ H R):=λ pins s σ H R I q=>q.elim (h pins s σ H R I) (h' pins s σ H R I)
theorem PI.bad{tg it:Expr}{g:En->EM Sr}(h:∀η S,g η S= .bad):PI X tg it (tI G U g):=λ pins s σ H R I ⟨ρ,S,η,_,_,q⟩=>by rw[h]at q;exact q.elim
theorem NO{K:PySem.W.Frag}{ρ:Wo}{H:Hp}{l:Addr}{vs:List V}{ds:List D}(n:l∉ρ)(h:H l=some (.lst vs))(hv:aN G ρ H ds vs):Gv G ρ H (xS K l) (ds,none) where
 go:=λ i ρ' S' H' s _ _ hi=>⟨vs,vs[i]'(by rw[hv.length];exact hi),bA.at' (s.keep n h (by intro ps z;cases z)),List.getElem?_eq_getElem _⟩
 stop:=λ ρ' S' H' s _ _=>⟨vs,bA.at' (s.keep n h (by intro ps z;cases z)),by rw[hv.length];exact Nat.le_refl _⟩
 yld:=λ i ρ' S' H' x H'' s w _ hi ⟨e,y⟩=>by
  subst e
  obtain⟨d,h1,h2⟩:=hv.got (y vs (bA.at' (s.keep n h (by intro ps z;cases z))))
  exact⟨.refl,w,d,h1,h2.ext s⟩
theorem NL{K:PySem.W.Frag}{ρ:Wo}{H:Hp}{l:Addr}{vs:List V}{ds:List D}(n:l∉ρ)(h:H l=some (.tup vs))(hv:aN G ρ H ds vs):Gv G ρ H (Dj K l) (ds,none) where
 go:=λ i ρ' S' H' s _ _ hi=>⟨vs,vs[i]'(by rw[hv.length];exact hi),bE.of (s.keep n h (by intro ps z;cases z)),List.getElem?_eq_getElem _⟩
 stop:=λ ρ' S' H' s _ _=>⟨vs,bE.of (s.keep n h (by intro ps z;cases z)),by rw[hv.length];exact Nat.le_refl _⟩
 yld:=λ i ρ' S' H' x H'' s w _ hi ⟨e,y⟩=>by
  subst e
  obtain⟨d,h1,h2⟩:=hv.got (y vs (bE.of (s.keep n h (by intro ps z;cases z))))
  exact⟨.refl,w,d,h1,h2.ext s⟩
noncomputable def gI(lo:Int)(n:Nat):List D:=(List.range n).map λ k=>.int (lo+(k:Nat))
theorem Ky{ρ:Wo}{H:Hp}{lo:Int}{n:Nat}:Gv G ρ H (tH lo n) (gI lo n,none) where
 go:=λ i ρ' S' H' s _ _ hi=>by show i<n;simpa[gI]using hi
 stop:=λ ρ' S' H' s _ _=>by show n<=_;simp[gI]
 yld:=λ i ρ' S' H' x H'' s w _ hi ⟨e,y⟩=>by
  subst e;subst y
  have hi':i<n:=by simpa[gI]using hi
  exact⟨.refl,w,.int (lo+i),by simp[gI,hi'],rfl⟩
noncomputable def lL(z:Str):List D:=z.cps.toList.map λ c=>.str ⟨#[c]⟩
theorem NM{ρ:Wo}{H:Hp}{z:Str}:Gv G ρ H (xR z) (lL z,none) where
 go:=λ i ρ' S' H' s _ _ hi=>by show i<z.cps.size;simpa[lL]using hi
 stop:=λ ρ' S' H' s _ _=>by show _=z.cps.size;simp[lL]
 yld:=λ i ρ' S' H' x H'' s w _ hi ⟨e,c,hc,y⟩=>by
  subst e;subst y
  have hc':z.cps.toList[i]? =some c:=by simpa using hc
  exact⟨.refl,w,.str ⟨#[c]⟩,by simp only[lL,List.getElem?_map,hc',Option.map_some],rfl⟩
theorem getElem?_append_some{α:Type}{a b:List α}{i:Nat}{x:α}(h:a[i]? =some x):(a++b)[i]? =some x:=by
 obtain⟨hi,e⟩:=List.getElem?_eq_some_iff.mp h
 rw[List.getElem?_append_left hi,h]
theorem NN{K:PySem.W.Frag}{ρ:Wo}{H:Hp}{l:Addr}{k:Nat}{ds:List D}(n:ρ.st[k]? =some l):Gv G ρ H (xS K l) (ds,some k):=by
 have at':∀{ρ' S' H'},bG ρ H ρ' H'->Wd G ρ' S' H'->mR (ds,some k) S'->∃vs,H' l=some (.lst vs)/\aN G ρ' H' ds vs:=fun{ρ' S' H'} s w h=>by
  obtain⟨r,er⟩:=s.pre
  exact w.lst (by rw[er];exact getElem?_append_some n) h
 refine⟨λ i ρ' S' H' s w h hi=>?_,λ ρ' S' H' s w h=>?_,λ i ρ' S' H' x H'' s w h hi ⟨e,y⟩=>?_⟩
 ·obtain⟨vs,h1,h2⟩:=at' s w h
  exact⟨vs,vs[i]'(by rw[h2.length];exact hi),bA.at' h1,List.getElem?_eq_getElem _⟩
 ·obtain⟨vs,h1,h2⟩:=at' s w h
  exact⟨vs,bA.at' h1,by rw[h2.length];exact Nat.le_refl _⟩
 ·subst e
  obtain⟨vs,h1,h2⟩:=at' s w h
  obtain⟨d,h3,h4⟩:=h2.got (y vs (bA.at' h1))
  exact⟨.refl,w,d,h3,h4⟩
@[simp] noncomputable def cW(ga:EE):En->EM Sr:=λ η S=>(ga η S).bind λ d=>λ S1=>match d with
 |.tup ds=>.ok (ds,none) S1
 |.lst ds=>.ok (ds,none) S1
 |.ref i=>match S1[i]? with
  |some (.lst ds)=>.ok (ds,some i) S1
  |_=>.bad
 |.str z=>.ok (lL z,none) S1
 |_=>.bad
theorem EB{tg:Expr}(ha:PE X a (tE G U ga)):PI X tg a (tI G U (cW ga)):=by
 refine PI.mono ((EJ ha).or ((EC ha).or (ED ha))) λ σ H R ⟨ρ,S,η,w,i,h⟩=>?_
 have h0:=h
 unfold cW at h
 cases e:ga η S with
 | ok d S1=>
  rw[e]at h
  cases d with
  |tup ds=>
   refine .inr (.inl ⟨ρ,S,η,w,i,?_⟩)
   rw[e]
   intro ρ1 H1 v s1 w1 h1
   obtain⟨l,vs,rfl,n,h2,h3⟩:=h1
   exact⟨l,rfl,⟨vs,bE.of h2⟩,h ρ1 H1 _ s1 w1 (NL n h2 h3)⟩
  |lst ds=>
   refine .inl ⟨ρ,S,η,w,i,?_⟩
   rw[e]
   intro ρ1 H1 v s1 w1 h1
   obtain⟨l,vs,rfl,n,h2,h3⟩:=h1
   exact⟨l,rfl,⟨vs,bA.at' h2⟩,h ρ1 H1 _ s1 w1 (NO n h2 h3)⟩
  | ref k=>
   refine .inl ⟨ρ,S,η,w,i,?_⟩
   rw[e]
   intro ρ1 H1 v s1 w1 h1
   obtain⟨l,rfl,hl⟩:=h1
   simp only[Rs.bind]at h
   split at h
   ·rename_i ds e2
    obtain⟨vs,h2,h3⟩:=w1.lst hl e2
    exact⟨l,rfl,⟨vs,bA.at' h2⟩,h ρ1 H1 _ s1 w1 (NN hl)⟩
   ·exact h.elim
  |str z=>
   refine .inr (.inr ⟨ρ,S,η,w,i,?_⟩)
   rw[e]
   intro ρ1 H1 v s1 w1 h1
   cases h1
   exact⟨z,rfl,h ρ1 H1 _ s1 w1 NM⟩
  |_=>exact h.elim
 |exc x S1=>exact .inl ⟨ρ,S,η,w,i,by rw[e]at h⊢;exact h⟩
 |bad=>rw[e]at h;exact h.elim
noncomputable def jN(i:Int):Bool:=Nat.ble i.natAbs 4611686018427387903
theorem zL{i:Int}(h:jN i=true): -(2^62)<=i/\i<2^62:=by
 have:=Nat.le_of_ble_eq_true h
 omega
@[simp] noncomputable def gX(gs:En->EM (List D)):En->EM Sr:=λ η S=>(gs η S).bind λ ds=>λ S1=>match ds with
 |[.int j]=>match jN j with
  |true=>.ok (gI 0 j.toNat,none) S1
  |false=>.bad
 |[.int i,.int j]=>match jN i&&jN j with
  |true=>.ok (gI i (j-i).toNat,none) S1
  |false=>.bad
 |_=>.bad
theorem EG(C:bK X G U Γ fc){tg:Expr}(hg:cN fc.sc "range" =true)(hn:cL "range" Γ.no=true)(hp:bT a=true)(ha:PA X [a] (tA G U gs))(h1:∀η S ds S',gs η S= .ok ds S'->ds.length=1):PI X tg (.Call (.Name "range" p) [a] [] pos) (tI G U (gX gs)):=by
 refine PI.mono (EI (C.glo hg) (C.gl.no _ (gM hn)) ha (mZ a [] _ hp)) λ σ H R ⟨ρ,S,η,w,i,h⟩=>⟨ρ,S,η,w,i,?_⟩
 unfold gX at h
 cases e:gs η S with
 | ok ds S1=>
  rw[e]at h
  intro ρ1 H1 vs s1 w1 hv
  have q1:=Af.step s1 h
  have l:=h1 _ _ _ _ e
  match ds,l with
  | [d],_=>
   obtain⟨v,rfl,hd⟩:=hv.single
   cases d<;>first|exact q1.elim|skip
   simp only[Rs.bind]at q1
   split at q1
   ·rename_i ho
    have ho:=zL ho
    cases hd
    exact⟨_,rfl,ho.1,ho.2,q1 ρ1 H1 _ .refl w1 Ky⟩
   ·exact q1.elim
 |exc x S1=>rw[e]at h;exact h
 |bad=>rw[e]at h;exact h.elim
theorem EF(C:bK X G U Γ fc){tg:Expr}(hg:cN fc.sc "range" =true)(hn:cL "range" Γ.no=true)(hp:[a,b].all bT=true)(ha:PA X [a,b] (tA G U gs))(h1:∀η S ds S',gs η S= .ok ds S'->ds.length=2):PI X tg (.Call (.Name "range" p) [a,b] [] pos) (tI G U (gX gs)):=by
 have hp2:bT b=true:=by
  have:=fU hp
  simpa using this
 refine PI.mono (EH (C.glo hg) (C.gl.no _ (gM hn)) ha (by rw[fG hp,mZ b [] _ hp2];rfl) (mZ b [] _ hp2)) λ σ H R ⟨ρ,S,η,w,i,h⟩=>⟨ρ,S,η,w,i,?_⟩
 unfold gX at h
 cases e:gs η S with
 | ok ds S1=>
  rw[e]at h
  intro ρ1 H1 vs s1 w1 hv
  have q1:=Af.step s1 h
  have l:=h1 _ _ _ _ e
  match ds,l with
  | [d,d'],_=>
   obtain⟨v,u,rfl,hd,hd'⟩:=hv.pair
   cases d<;>first|exact q1.elim|skip
   cases d'<;>first|exact q1.elim|skip
   simp only[Rs.bind]at q1
   split at q1
   ·rename_i ho
    have ho:=Bool.and_eq_true_iff.mp ho
    have h2:=zL ho.1
    have h3:=zL ho.2
    cases hd;cases hd'
    exact⟨_,_,rfl,⟨h2.1,h2.2,h3.1,h3.2⟩,q1 ρ1 H1 _ .refl w1 Ky⟩
   ·exact q1.elim
 |exc x S1=>rw[e]at h;exact h
 |bad=>rw[e]at h;exact h.elim
end
section
variable{X:Cx}{G:Gd}{U:SK}{Γ:Gb}{fc:Fc}{a b c o:Expr}{ga gb gc:EE}{gs:En->EM (List D)}{es:List Expr}{pos p apos cpos tpos:Pos}
noncomputable def mE(i:Nat):List D->List D
 |[]=>[]
 |d::r=>.tup [.int i,d]::mE (i+1) r
theorem xA:∀{ds:List D} {i:Nat},(mE i ds).length=ds.length
 |[],_=>rfl
 |d::r,i=>by simp[mE,xA]
theorem Ce:∀{ds:List D} {i j:Nat} {d:D},ds[j]? =some d->(mE i ds)[j]? =some (.tup [.int (i+j:Nat),d])
 |e::r,i,0,d,h=>by simp at h;simp[mE,h]
 |e::r,i,j+1,d,h=>by
  have:=Ce (i:=i+1) (show r[j]? =some d by simpa using h)
  rw[show i+1+j=i+(j+1)from Qa]at this
  simpa[mE]using this
noncomputable def fR:List D->List D->List D
 |a::as,b::bs=>.tup [a,b]::fR as bs
 |_,_=>[]
theorem oD:∀{as bs:List D},(fR as bs).length=min as.length bs.length
 |[],_=>by simp[fR]
 |_::_,[]=>by simp[fR]
 |a::as,b::bs=>by simp[fR,oD]
theorem tW:∀{as bs:List D} {j:Nat} {x y:D},as[j]? =some x->bs[j]? =some y->(fR as bs)[j]? =some (.tup [x,y])
 |a::as,b::bs,0,x,y,h,h'=>by simp at h h';simp[fR,h,h']
 |a::as,b::bs,j+1,x,y,h,h'=>by simpa[fR]using tW (show as[j]? =some x by simpa using h) (show bs[j]? =some y by simpa using h')
 |[],_,_,_,_,h,_=>by simp at h
 |_::_,[],_,_,_,_,h=>by simp at h
theorem yP{ρ:Wo}{S:aD}{H:Hp}(w:Wd G ρ S H){T:Addr}{x y:V}{d e:D}(hT:H T=none)(h1:aU G ρ H d x)(h2:aU G ρ H e y):bG ρ H ρ (aM H T (.tup [x,y]))/\Wd G ρ S (aM H T (.tup [x,y]))/\aU G ρ (aM H T (.tup [x,y])) (.tup [d,e]) (.ref T):=
 ⟨w.sside hT,w.side hT,w.stup hT ⟨x,[y],rfl,h1,y,[],rfl,h2,rfl⟩⟩
theorem NQ{K:PySem.W.Frag}{ρ:Wo}{H:Hp}{l:Addr}{vs:List V}{ds:List D}(n:l∉ρ)(h:H l=some (.tup vs))(hv:aN G ρ H ds vs):Gv G ρ H (Dk K l) (mE 0 ds,none) where
 go:=λ i ρ' S' H' s _ _ hi=>⟨vs,vs[i]'(by rw[hv.length];rwa[xA]at hi),bE.of (s.keep n h (by intro ps z;cases z)),List.getElem?_eq_getElem _⟩
 stop:=λ ρ' S' H' s _ _=>⟨vs,bE.of (s.keep n h (by intro ps z;cases z)),by rw[hv.length,xA];exact Nat.le_refl _⟩
 yld:=λ i ρ' S' H' x H'' s w _ hi ⟨T,y,e1,e2,e3,q⟩=>by
  subst e1;subst e3
  obtain⟨d,h1,h2⟩:=hv.got (q vs (bE.of (s.keep n h (by intro ps z;cases z))))
  obtain⟨k1,k2,k3⟩:=yP w e2 (show aU G ρ' H' (.int i) (.int i)from rfl) (h2.ext s)
  exact⟨k1,k2,_,by rw[Ce h1,Nat.zero_add],k3⟩
@[simp] noncomputable def wZ(gs:En->EM (List D)):En->EM Sr:=λ η S=>(gs η S).bind λ ds=>λ S1=>match ds with
 |[.tup ds]=>.ok (mE 0 ds,none) S1
 |_=>.bad
theorem EL(C:bK X G U Γ fc){elts:List Expr}{k:Nat}(hg:cN fc.sc "enumerate" =true)(hn:cL "enumerate" Γ.no=true)(hp:bT a=true)(ha:PA X [a] (tA G U gs)):
  PI X (.Tuple elts k tpos) (.Call (.Name "enumerate" p) [a] [] pos) (tI G U (wZ gs)):=by
 refine PI.mono (EK (elts:=elts) (k:=k) (tpos:=tpos) (p:=p) (pos:=pos) (C.glo hg) (C.gl.no _ (gM hn)) ha (mZ a [] _ hp)) λ σ H R ⟨ρ,S,η,w,i,h⟩=>?_
 unfold wZ at h
 refine⟨ρ,S,η,w,i,?_⟩
 cases e:gs η S with
 | ok ds S1=>
  rw[e]at h
  simp only[Rs.bind]at h
  split at h
  ·intro ρ1 H1 v s1 w1 h1
   obtain⟨v1,rfl,h0⟩:=h1.single
   obtain⟨l,vs,rfl,n,h2,h3⟩:=h0
   exact⟨l,rfl,⟨vs,bE.of h2⟩,h ρ1 H1 _ s1 w1 (NQ n h2 h3)⟩
  ·exact h.elim
 |exc x S1=>rw[e]at h;exact h
 |bad=>rw[e]at h;exact h.elim
theorem NJ{K:PySem.W.Frag}{ρ:Wo}{H:Hp}{l m:Addr}{vs us:List V}{ds es:List D}(n:l∉ρ)(h:H l=some (.tup vs))(hv:aN G ρ H ds vs)(n':m∉ρ)(h':H m=some (.tup us))(hv':aN G ρ H es us):Gv G ρ H (Dg K l m) (fR ds es,none) where
 go:=λ i ρ' S' H' s _ _ hi=>by
  rw[oD]at hi
  exact⟨vs,us,vs[i]'(by rw[hv.length];omega),us[i]'(by rw[hv'.length];omega),bE.of (s.keep n h (by intro ps z;cases z)),bE.of (s.keep n' h' (by intro ps z;cases z)),List.getElem?_eq_getElem _,List.getElem?_eq_getElem _⟩
 stop:=λ ρ' S' H' s _ _=>⟨vs,us,bE.of (s.keep n h (by intro ps z;cases z)),bE.of (s.keep n' h' (by intro ps z;cases z)),by rw[hv.length,hv'.length,oD];omega⟩
 yld:=λ i ρ' S' H' x H'' s w _ hi ⟨T,y,z,e1,e2,e3,q,q'⟩=>by
  subst e1;subst e3
  obtain⟨d,h1,h2⟩:=hv.got (q vs (bE.of (s.keep n h (by intro ps z;cases z))))
  obtain⟨e,h3,h4⟩:=hv'.got (q' us (bE.of (s.keep n' h' (by intro ps z;cases z))))
  obtain⟨k1,k2,k3⟩:=yP w e2 (h2.ext s) (h4.ext s)
  exact⟨k1,k2,_,tW h1 h3,k3⟩
theorem NK{K:PySem.W.Frag}{ρ:Wo}{H:Hp}{l m:Addr}{vs us:List V}{ds es:List D}(n:l∉ρ)(h:H l=some (.lst vs))(hv:aN G ρ H ds vs)(n':m∉ρ)(h':H m=some (.lst us))(hv':aN G ρ H es us):Gv G ρ H (Dh K l m) (fR ds es,none) where
 go:=λ i ρ' S' H' s _ _ hi=>by
  rw[oD]at hi
  exact⟨vs,us,vs[i]'(by rw[hv.length];omega),us[i]'(by rw[hv'.length];omega),bA.at' (s.keep n h (by intro ps z;cases z)),bA.at' (s.keep n' h' (by intro ps z;cases z)),List.getElem?_eq_getElem _,List.getElem?_eq_getElem _⟩
 stop:=λ ρ' S' H' s _ _=>⟨vs,us,bA.at' (s.keep n h (by intro ps z;cases z)),bA.at' (s.keep n' h' (by intro ps z;cases z)),by rw[hv.length,hv'.length,oD];omega⟩
 yld:=λ i ρ' S' H' x H'' s w _ hi ⟨T,y,z,e1,e2,e3,q,q'⟩=>by
  subst e1;subst e3
  obtain⟨d,h1,h2⟩:=hv.got (q vs (bA.at' (s.keep n h (by intro ps z;cases z))))
  obtain⟨e,h3,h4⟩:=hv'.got (q' us (bA.at' (s.keep n' h' (by intro ps z;cases z))))
  obtain⟨k1,k2,k3⟩:=yP w e2 (h2.ext s) (h4.ext s)
  exact⟨k1,k2,_,tW h1 h3,k3⟩
@[simp] noncomputable def oE(gs:En->EM (List D)):En->EM Sr:=λ η S=>(gs η S).bind λ ds=>λ S1=>match ds with
 |[.tup ds,.tup es]=>.ok (fR ds es,none) S1
 |[.lst ds,.lst es]=>.ok (fR ds es,none) S1
 |_=>.bad
theorem EA(C:bK X G U Γ fc){elts:List Expr}{k:Nat}(hg:cN fc.sc "zip" =true)(hn:cL "zip" Γ.no=true)(hp:[a,b].all bT=true)(ha:PA X [a,b] (tA G U gs)):
  PI X (.Tuple elts k tpos) (.Call (.Name "zip" p) [a,b] [] pos) (tI G U (oE gs)):=by
 have p1:=DY (elts:=elts) (q:=k) (tpos:=tpos) (p:=p) (pos:=pos) (C.glo hg) (C.gl.no _ (gM hn)) ha (fG hp _) (fV (fU hp))
 have p2:=DZ (elts:=elts) (q:=k) (tpos:=tpos) (p:=p) (pos:=pos) (C.glo hg) (C.gl.no _ (gM hn)) ha (fG hp _) (fV (fU hp))
 refine PI.mono (p1.or p2) λ σ H R ⟨ρ,S,η,w,i,h⟩=>?_
 unfold oE at h
 cases e:gs η S with
 | ok ds S1=>
  rw[e]at h
  simp only[Rs.bind]at h
  split at h
  ·refine .inl ⟨ρ,S,η,w,i,?_⟩
   rw[e]
   intro ρ1 H1 v s1 w1 h1
   obtain⟨v,u,rfl,h1,h2⟩:=h1.pair
   obtain⟨l,vs,rfl,n,h3,h4⟩:=h1
   obtain⟨m,us,rfl,n',h5,h6⟩:=h2
   exact⟨l,m,rfl,⟨vs,bE.of h3⟩,⟨us,bE.of h5⟩,h ρ1 H1 _ s1 w1 (NJ n h3 h4 n' h5 h6)⟩
  ·refine .inr ⟨ρ,S,η,w,i,?_⟩
   rw[e]
   intro ρ1 H1 v s1 w1 h1
   obtain⟨v,u,rfl,h1,h2⟩:=h1.pair
   obtain⟨l,vs,rfl,n,h3,h4⟩:=h1
   obtain⟨m,us,rfl,n',h5,h6⟩:=h2
   exact⟨l,m,rfl,⟨vs,bA.at' h3⟩,⟨us,bA.at' h5⟩,h ρ1 H1 _ s1 w1 (NK n h3 h4 n' h5 h6)⟩
  ·exact h.elim
 |exc x S1=>exact .inl ⟨ρ,S,η,w,i,by rw[e]at h⊢;exact h⟩
 |bad=>rw[e]at h;exact h.elim
end
end L2
end

section
noncomputable section
namespace L2
open PySem PySem.Spec PyProof.Rows
noncomputable def uZ(sc scope:Scope):Scope:={scope with names:=scope.names.map λ (n,k)=>if(k== .free&&sc.kind== .function&&lk n sc.names==some .cell)then(n,.cell)else(n,k)}
theorem AW{env:Env}{scope:Scope}:uZ env.scope scope=relabel scope env:=by
 unfold uZ relabel
 simp only[iH]
 rfl
noncomputable def Ko:ScopeKind->Bool
 |.function=>true
 |_=>false
noncomputable def uP(sc scope:Scope):Bool:=Ko scope.kind&&scope.names.all λ y=>match y.2 with
 |.cell=>false
 |.local=>match lk y.1 scope.names with
  |some .local=>true
  |_=>false
 |.free=>match lk y.1 sc.names with
  |some .cell=>true
  |some .free=>true
  |_=>false
 |_=>true
noncomputable def Kp:NameKind->Bool
 |.free=>true
 |_=>false
noncomputable def eY(scope:Scope):List Str:=(scope.names.filter λ y=>match y.2 with
 |.local=>!dU y.1 ".0"
 |_=>false).map (·.1)
noncomputable def iM(scope:Scope):List Str:=(scope.names.filter λ y=>Kp y.2).map (·.1)
noncomputable def slots(N:List Str):List Str->Option (List Nat)
 |[]=>some []
 |x::r=>match nB x N 0,slots N r with
  |some i,some is=>some (i::is)
  |_,_=>none
noncomputable def iW:List Str->Bool
 |[]=>true
 |x::r=>!cL x r&&iW r
noncomputable def OH(scope:Scope):Bool:=(iM scope).all λ x=>match lk x scope.names with
 |some .free=>true
 |_=>false
noncomputable def dS(scope:Scope):List Str:=eY scope++iM scope
noncomputable def jI(fc:Fc)(scope:Scope):Bool:=fc.calm&&uP fc.sc scope&&iW (dS scope)&&(dS scope).all gY&&OH scope
noncomputable def oM(fc:Fc)(scope:Scope):Fc:=⟨dS scope,uZ fc.sc scope,fc.room,false,true,fc.tab,false,[],false⟩
noncomputable def mB(fc:Fc)(scope:Scope)(k:Nat):Fc:=⟨dS scope,scope,k,false,true,false,false,[],false⟩
noncomputable def rX(scope:Scope):Bool:=scope.isCoroutine||(match lk ".0" scope.names with
 |some .local=>false
 |_=>true)
theorem Fo{N:List Str}:∀{xs:List Str} {js:List Nat},slots N xs=some js->xs.map some=js.map (N[·]?)
 |[],js,h=>by cases h;rfl
 | x::r,js,h=>by
  simp only[slots]at h
  split at h
  ·rename_i i is h1 h2
   cases h
   rw[List.map_cons,List.map_cons,Fo h2]
   exact congrArg (· ::_) (yX h1).symm
  ·cases h
theorem vR:∀{xs:List Str},iW xs=true->xs.Nodup
 |[],_=>.nil
 |x::r,h=>by
  have:=Bool.and_eq_true_iff.mp h
  refine List.nodup_cons.mpr ⟨λ z=>?_,vR this.2⟩
  have h1:cL x r=true:=List.any_eq_true.mpr ⟨x,z,by rw[mY];simp⟩
  rw[h1]at this
  exact nomatch this.1
section
variable{X:Cx}{G:Gd}{U:SK}{Γ:Gb}{fc:Fc}
theorem oK(C:bK X G U Γ fc){scope:Scope}(h:uP fc.sc scope=true):tN X.env scope:=by
 have h':=Bool.and_eq_true_iff.mp h
 have all:=List.all_eq_true.mp h'.2
 refine⟨?_,λ y hy e=>?_,λ y hy e=>?_,λ y hy e=>?_⟩
 ·have:=h'.1
  cases q:scope.kind<;>rw[q]at this<;>first|rfl|cases this
 ·have:=all y hy
  rw[e]at this;cases this
 ·have:=all y hy
  rw[e]at this
  simp only at this
  split at this
  ·rename_i q;rw[iH]at q;exact q
  ·cases this
 ·have:=all y hy
  rw[e]at this
  simp only at this
  rw[<-C.sc]at this
  split at this
  ·rename_i q;rw[iH]at q;exact .inl q
  ·rename_i q;rw[iH]at q;exact .inr q
  ·cases this
theorem Fa(C:bK X G U Γ fc){scope:Scope}(h:uP fc.sc scope=true)(hc:rX scope=false):xV X.env scope:=by
 have s:=oK C h
 have:=Bool.or_eq_false_iff.mp hc
 refine⟨s.kind,this.1,s.cell,?_,s.free⟩
 have h2:=this.2
 split at h2
 ·rename_i q;rw[iH]at q;exact q
 ·cases h2
structure j9(X:Cx)(fc:Fc)(scope:Scope)(js:List Nat):Prop where
 hjs:((dS scope).drop (eY scope).length).map some=js.map (X.N[·]?)
 hfr:∀x∈(dS scope).drop (eY scope).length,scope.names.lookup x=some .free
 hk:(eY scope).length<=(dS scope).length
 nd:(dS scope).Nodup
 gn:∀x∈dS scope,gY x=true
theorem oN(C:bK X G U Γ fc){scope:Scope}{js:List Nat}(h:jI fc scope=true)(hj:slots fc.N (iM scope)=some js):fc.calm=true/\uP fc.sc scope=true/\j9 X fc scope js:=by
 have h1:=Bool.and_eq_true_iff.mp h
 have h2:=Bool.and_eq_true_iff.mp h1.1
 have h3:=Bool.and_eq_true_iff.mp h2.1
 have h4:=Bool.and_eq_true_iff.mp h3.1
 have e:(dS scope).drop (eY scope).length=iM scope:=by unfold dS;rw[List.drop_left]
 refine⟨h4.1,h4.2,?_,λ x hx=>?_,?_,vR h3.2,λ x hx=>List.all_eq_true.mp h2.2 x hx⟩
 ·rw[e,C.N];exact Fo hj
 ·rw[e]at hx
  have:=List.all_eq_true.mp h1.2 x hx
  split at this
  ·rename_i q;rw[iH]at q;exact q
  ·cases this
 ·unfold dS;simp
noncomputable abbrev Nv:SK:=λ _ _ _ _ _=>False
theorem bK.sub(C:bK X G U Γ fc){scope:Scope}{js:List Nat}(h:jI fc scope=true)(hj:slots fc.N (iM scope)=some js)(c:Addr)(s:Shared)(H:Hp)(ex:List Addr):bK (dB X scope (dS scope) c s H ex) G Nv Γ (oM fc scope):=by
 obtain⟨h1,h2,h3⟩:=oN C h hj
 obtain⟨c1,c2⟩:=C.cm h1
 refine⟨C.hK,rfl,?_,h3.nd,h3.gn,λ e=>(by cases e),yB,λ _=>⟨rfl,c2⟩,λ _=>PassesOwn.never,C.rm,?_,λ e=>(by cases e),C.hu,C.gl,C.tb⟩
 ·show relabel scope X.env=uZ fc.sc scope
  rw[<-AW,C.sc]
 ·exact(oK C h2).kind
theorem cO.sub{ρ:Wo}{H:Hp}{η:En}{σ:St}(i:cO G ρ H η σ)(k:Nat)(js:List Nat):cO G ρ H (List.replicate k none++js.map λ j=>(η[j]?).getD none) (cJ k js σ):=by
 refine⟨by simp[cJ],λ n d e=>?_⟩
 by_cases hn:n<k
 ·rw[List.getElem?_append_left (by simpa using hn),List.getElem?_replicate,if_pos hn]at e
  cases e
 ·rw[List.getElem?_append_right (by simpa using hn),List.length_replicate,List.getElem?_map]at e
  unfold cJ
  rw[List.getElem?_append_right (by simpa using hn),List.length_replicate,List.getElem?_map]
  cases q:js[n-k]? with
  |none=>rw[q]at e;cases e
  | some j=>
   rw[q]at e
   simp only[Option.map_some,Option.some.injEq]at e⊢
   cases q2:η[j]? with
   |none=>rw[q2]at e;cases e
   |some o=>
    rw[q2]at e
    have e:o=some d:=e
    subst e
    obtain⟨v,h1,h2⟩:=i.2 j d q2
    exact⟨v,by rw[h1];rfl,h2⟩
@[simp] noncomputable def sP(k:Nat)(js:List Nat)(η:En):En:=List.replicate k none++js.map λ j=>(η[j]?).getD none
@[simp] noncomputable def dZ(t:Tg)(gt:En->EM Bool)(ge:EE)(ηc:En)(d:D):EM (Option D):=λ S=>match aX t d ηc with
 |some η'=>(gt η' S).bind λ b=>match b with
  |true=>λ S1=>(ge η' S1).bind λ x=>EM.ret (some x)
  |false=>EM.ret none
 |none=>.bad
noncomputable def vJ:Option D->List D->List D
 |some x,ds=>x::ds
 |none,ds=>ds
noncomputable def eJ(f:D->EM (Option D)):List D->EM (List D)
 |[]=>EM.ret []
 |d::r=>λ S=>(f d S).bind λ o=>λ S1=>(eJ f r S1).bind λ ds=>EM.ret (vJ o ds)
noncomputable def kX(f:D->EM (Option D)):List D->EM Bool
 |[]=>EM.ret true
 |d::r=>λ S=>(f d S).bind λ o=>match o with
  |some (.bl true)=>kX f r
  |some (.bl false)=>EM.ret false
  |some _=>λ _=>.bad
  |none=>kX f r
noncomputable def iE{α:Type}(r:Rs α):Rs α:=match r with
 |.exc _ _=>.bad
 |r=>r
theorem Ab{α:Type}{r:Rs α}{z:α}{S:aD}(h:iE r= .ok z S):r= .ok z S:=by
 cases r<;>first|exact h|cases h
theorem Ac{α:Type}{r:Rs α}{z:D}{S:aD}:iE r≠ .exc z S:=by
 cases r<;>intro h<;>cases h
theorem yE{K:PySem.W.Frag}{t:Tg}{gt:En->EM Bool}{ge:EE}{ηc:En}{σc:St}{d:D}{o:Option D}{S S':aD}{ρ:Wo}{H:Hp}{x:V}{P:V->Hp->Prop}{N:Hp->Prop}
  (w:Wd G ρ S H) (i:cO G ρ H ηc σc) (hv:aU G ρ H d x) (e:dZ t gt ge ηc d S= .ok o S')
  (hs:∀z,o=some z->∀ρ' H' v,bG ρ H ρ' H'->Wd G ρ' S' H'->aU G ρ' H' z v->P v H') (hn:o=none->∀ρ' H',bG ρ H ρ' H'->Wd G ρ' S' H'->N H'):
  mD K t x σc H λ σ2 H2=>tT G Nv gt σ2 H2 λ b H3=>if b=true then tE G Nv ge σ2 H3 P else N H3:=by
 unfold dZ at e
 cases q:aX t d ηc with
 |none=>rw[q]at e;cases e
 | some η'=>
  rw[q]at e
  refine Bk (K:=K) hv i q λ σ2 i2=>⟨ρ,S,η',w,i2,?_⟩
  simp only at e
  cases q2:gt η' S with
  | ok b S1=>
   rw[q2]at e
   intro ρ1 H1 b' s1 w1 hb
   cases hb
   cases b with
   | true=>
    rw[if_pos rfl]
    refine⟨ρ1,S1,η',w1,i2.ext s1,?_⟩
    simp only[Rs.bind]at e
    cases q3:ge η' S1 with
    |ok z S2=>
     rw[q3]at e
     cases e
     exact λ ρ2 H2 v s2 w2 h2=>hs z rfl ρ2 H2 v (s1.trans s2) w2 h2
    |exc z S2=>rw[q3]at e;cases e
    |bad=>rw[q3]at e;cases e
   |false=>
    rw[if_neg Qb]
    cases e
    exact hn rfl ρ1 H1 s1 w1
  |exc z S1=>rw[q2]at e;cases e
  |bad=>rw[q2]at e;cases e
open Classical in
noncomputable def eI(it:Sr)(f:D->EM (Option D)):D->EM (Option D):=match it.2 with
 |none=>f
 |some i=>λ d S=>if S[i]? =some (.lst it.1)then f d S else .bad
open Classical in
noncomputable def jP{α β:Type}(it:Sr)(k:α->EM β):α->EM β:=match it.2 with
 |none=>k
 |some i=>λ a S=>if S[i]? =some (.lst it.1)then k a S else .bad
@[simp] theorem cM0{ds:List D}{f:D->EM (Option D)}:eI (ds,none) f=f:=rfl
@[simp] theorem cN0{α β:Type}{ds:List D}{k:α->EM β}:jP (ds,none) k=k:=rfl
theorem Ap{ds:List D}{i:Nat}{f:D->EM (Option D)}{d:D}{S:aD}(h:S[i]? =some (.lst ds)):eI (ds,some i) f d S=f d S:=if_pos h
theorem As{α β:Type}{ds:List D}{i:Nat}{k:α->EM β}{a:α}{S:aD}(h:S[i]? =some (.lst ds)):jP (ds,some i) k a S=k a S:=if_pos h
theorem Aq{it:Sr}{f:D->EM (Option D)}{d:D}{S S':aD}{o:Option D}(h:eI it f d S= .ok o S'):mR it S/\f d S= .ok o S':=by
 obtain⟨ds,lk⟩:=it
 cases lk with
 |none=>exact⟨trivial,h⟩
 | some i=>
  by_cases e:S[i]? =some (.lst ds)
  ·rw[Ap e]at h;exact⟨e,h⟩
  ·have:eI (ds,some i) f d S= .bad:=if_neg e
   rw[this]at h;cases h
theorem vY{α β:Type}{it:Sr}{k:α->EM β}{a:α}{S:aD}{P:Rs β->Prop}(hb:¬P .bad)(h:P (jP it k a S)):mR it S/\P (k a S):=by
 obtain⟨ds,lk⟩:=it
 cases lk with
 |none=>exact⟨trivial,h⟩
 | some i=>
  by_cases e:S[i]? =some (.lst ds)
  ·rw[As e]at h;exact⟨e,h⟩
  ·have:jP (ds,some i) k a S= .bad:=if_neg e
   rw[this]at h;exact(hb h).elim
theorem xB{α:Type}{l:List α}{i:Nat}{d:α}(h:l[i]? =some d):l.drop i=d::l.drop (i+1):=by
 obtain⟨hi,e⟩:=List.getElem?_eq_some_iff.mp h
 rw[List.drop_eq_getElem_cons hi,e]
@[simp] noncomputable def eZ(b:Bool)(ds:List D):EM D:=λ S=>match b with
 |true=>.ok (.ref S.length) (S++[.lst ds])
 |false=>.ok (.lst ds) S
@[simp] noncomputable def fB(b:Bool)(gi:En->EM Sr)(k:Nat)(js:List Nat)(t:Tg)(gt:En->EM Bool)(ge:EE):EE:=λ η S=>(gi η S).bind λ items=>λ S1=>match aQ items.1.length with
 |true=>(iE (eJ (eI items (dZ t gt ge (sP k js η))) items.1 S1)).bind (jP items (eZ b))
 |false=>.bad
theorem Ka{K:PySem.W.Frag}{b:Bool}{t:Tg}{gt:En->EM Bool}{ge:EE}{ηc:En}{σc:St}{ρ:Wo}{σ:St}{H:Hp}{S1:aD}{J:It}{items:Sr}{Q:VK}(w:Wd G ρ S1 H)(i:cO G ρ H ηc σc)(gv:Gv G ρ H J items)(hl:aQ items.1.length=true)
  (q:Af G U ρ σ H (aU G) Q ((iE (eJ (eI items (dZ t gt ge ηc)) items.1 S1)).bind (jP items (eZ b)))):Ps J (mD K t) (tT G Nv gt) (tE G Nv ge) σc Q H:=by
 cases e:iE (eJ (eI items (dZ t gt ge ηc)) items.1 S1)with
 |exc z S2=>exact(Ac e).elim
 |bad=>rw[e]at q;exact q.elim
 | ok all Sf=>
  rw[e]at q
  have e:=Ab e
  refine⟨λ n m xs H'=>m=items.1.length-n/\n<=items.1.length/\∃ρ' S' done rest,bG ρ H ρ' H'/\Wd G ρ' S' H'/\aN G ρ' H' done xs/\done.length<=n/\eJ (eI items (dZ t gt ge ηc)) (items.1.drop n) S'= .ok rest Sf/\done++rest=all,
   ⟨_,rfl,Nat.zero_le _,ρ,S1,[],all,.refl,w,rfl,Nat.le_refl _,by rw[List.drop_zero];exact e,rfl⟩,λ n m xs H' ⟨hm,hn,ρ',S',done,rest,s',w',hx,hd,hc,ha⟩=>?_⟩
  by_cases hlt:n<items.1.length
  ·have hg0:=List.getElem?_eq_getElem hlt
   generalize items.1[n]=d0 at hg0
   rw[xB hg0]at hc
   simp only[eJ]at hc
   cases q3:eI items (dZ t gt ge ηc) d0 S' with
   |exc z S2=>rw[q3]at hc;cases hc
   |bad=>rw[q3]at hc;cases hc
   | ok o S2=>
    rw[q3]at hc
    obtain⟨ho,q3⟩:=Aq q3
    refine .inr ⟨gv.go n ρ' S' H' s' w' ho hlt,λ x H2 hy=>?_⟩
    obtain⟨s2,w2,d,hg,hv⟩:=gv.yld n ρ' S' H' x H2 s' w' ho hlt hy
    rw[hg0]at hg
    cases hg
    simp only[Rs.bind]at hc
    cases q4:eJ (eI items (dZ t gt ge ηc)) (items.1.drop (n+1)) S2 with
    |exc z S3=>rw[q4]at hc;cases hc
    |bad=>rw[q4]at hc;cases hc
    | ok rs S3=>
     rw[q4]at hc
     have hc1:vJ o rs=rest/\S3=Sf:=by
      cases hc;exact⟨rfl,rfl⟩
     obtain⟨hc1,rfl⟩:=hc1
     have st:=s'.trans s2
     refine yE (K:=K) w2 (i.ext st) hv q3 (λ z hz ρ3 H3 v s3 w3 h3=>⟨?_,_,Qa,rfl,Qa,ρ3,S2,done++[z],rs,st.trans s3,w3,?_,?_,q4,?_⟩) (λ hz ρ3 H3 s3 w3=>⟨_,Qa,rfl,Qa,ρ3,S2,done,rs,st.trans s3,w3,hx.ext (s2.trans s3),Qa,q4,?_⟩)
     ·rw[hx.length]
      exact Nat.lt_of_lt_of_le (Nat.lt_of_le_of_lt hd hlt) (iC hl)
     ·exact(hx.ext (s2.trans s3)).append (aN.one h3)
     ·simp;omega
     ·subst hz
      rw[<-ha,<-hc1,List.append_assoc];rfl
     ·subst hz
      rw[<-ha,<-hc1];rfl
  ·have hn':n=items.1.length:=by omega
   subst hn'
   rw[List.drop_length]at hc
   have hc2:rest=[]/\S'=Sf:=by cases hc;exact⟨rfl,rfl⟩
   obtain⟨rfl,rfl⟩:=hc2
   rw[List.append_nil]at ha
   subst ha
   obtain⟨ho,q⟩:=vY (P:=Af G U ρ σ H (aU G) Q) id q
   refine .inl ⟨gv.stop ρ' S' H' s' w' ho,λ p hp=>?_⟩
   cases b with
   |true=>exact q _ _ _ (s'.trans (w'.smore hp)) (w'.more hp hx) w'.mref
   |false=>exact q _ _ _ (s'.trans (w'.sside hp)) (w'.side hp) (w'.slst hp hx)
theorem CB{gt:En->EM Bool}{ifs:List Expr}(h:(ifs=[]/\gt=λ _=>EM.ret true)\/∃c,ifs=[c]/\PT X c (tT G U gt)):gG X ifs (tT G U gt):=by
 rcases h with⟨rfl,rfl⟩|⟨c,rfl,h⟩
 ·intro pins s σ H Q I ⟨ρ,S,η,w,i,q⟩
  exact CA pins s σ H Q I (q ρ H _ .refl w rfl)
 ·exact BZ h
theorem FQ(C:bK X G U Γ fc){b:Bool}{elt tg iter:Expr}{ifs:List Expr}{scope:Scope}{pos:Pos}{js:List Nat}{t:Tg}{gi:En->EM Sr}{gt:En->EM Bool}{ge:EE}
  (h:jI fc scope=true) (hj:slots fc.N (iM scope)=some js) (ht:gH (oM fc scope) tg=some t) (hk:lT (eY scope).length t=true)
  (hi:PI X tg iter (tI G U gi)) (hc:∀C s H ex,gG (dB X scope (dS scope) C s H ex) ifs (tT G Nv gt)) (he:∀C s H ex,PE (dB X scope (dS scope) C s H ex) elt (tE G Nv ge)) (hs:∀x,foldedSetIterable iter X.env x=pure x):
  PE X (.ListComp elt [⟨tg,iter,ifs,0⟩] scope pos) (tE G U (fB b gi (eY scope).length js t gt ge)):=by
 obtain⟨h1,h2,h3⟩:=oN C h hj
 refine PE.mono (FP (C.cm h1).1 (oK C h2) h3.hjs h3.hfr h3.hk hi (λ c s H ex=>oV (C.sub h hj c s H ex) ht) (wQ hk) hc he hs) λ σ H Q ⟨ρ,S,η,w,i,q⟩=>⟨ρ,S,η,w,i,Af.into q λ J ρ1 H1 S1 items s1 w1 gv q1=>?_⟩
 cases e:aQ items.1.length with
 |false=>rw[e]at q1;exact q1.elim
 |true=>rw[e]at q1;exact Ka w1 ((i.ext s1).sub _ _) gv e q1
theorem CZ(C:bK X G U Γ fc){b:Bool}{elt tg iter:Expr}{ifs:List Expr}{scope:Scope}{cpos pos pos':Pos}{js:List Nat}{t:Tg}{gi:En->EM Sr}{gt:En->EM Bool}{ge:EE}{x:Str}{j:Nat}
  (h:jI fc scope=true) (hj:slots fc.N (iM scope)=some js) (ht:gH (oM fc scope) tg=some t) (hk:lT (eY scope).length t=true)
  (hi:PI X tg iter (tI G U gi)) (hc:∀C s H ex,gG (dB X scope (dS scope) C s H ex) ifs (tT G Nv gt)) (he:∀C s H ex,PE (dB X scope (dS scope) C s H ex) elt (tE G Nv ge)) (hs:∀x,foldedSetIterable iter X.env x=pure x)
  (hx:jK fc x=some j) (hsw:swapsWith (.ListComp elt [⟨tg,iter,ifs,0⟩] scope cpos) (some (.Name x pos')) pos.line X.env=pure true):
  PS X (.Assign [.Name x pos'] (.ListComp elt [⟨tg,iter,ifs,0⟩] scope cpos) pos) (qK (tE G U (fB b gi (eY scope).length js t gt ge)) (kP j)):=by
 obtain⟨h1,h2,h3⟩:=oN C h hj
 obtain⟨k1,k2,k3⟩:=uX C hx
 refine PS.mono (CQ C.nd k1 k2 (C.cm h1).1 (oK C h2) h3.hjs h3.hfr h3.hk hi (λ c s H ex=>oV (C.sub h hj c s H ex) ht) (wQ hk) hc he hs hsw k3) λ σ H F ⟨ρ,S,η,w,i,q⟩=>⟨ρ,S,η,w,i,Af.into q λ J ρ1 H1 S1 items s1 w1 gv q1=>?_⟩
 cases e:aQ items.1.length with
 |false=>rw[e]at q1;exact q1.elim
 |true=>rw[e]at q1;exact Ka w1 ((i.ext s1).sub _ _) gv e q1
end
end L2
end

section
noncomputable section
namespace L2
open PySem PySem.Spec PyProof.Rows
section
variable{X:Cx}{G:Gd}{U:SK}{Γ:Gb}{fc:Fc}
theorem Wd.stbl{ρ:Wo}{S:aD}{H:Hp}(w:Wd G ρ S H){P:Addr}{ps ps':Array Value}(h:mM H P ps)(t:TriplesOk ps'.toList)(hP:P∈G.ts):bG ρ H ρ (aM H P (.tbl ps')):=⟨⟨[],Qb⟩,⟨[],rfl⟩,λ _ h n=>(n h).elim,.tbl h.1 t,λ a ha _=>aY λ z=>w.to P hP (z▸List.mem_append_left _ ha)⟩
theorem Wd.tbl{ρ:Wo}{S:aD}{H:Hp}(w:Wd G ρ S H){P:Addr}{ps ps':Array Value}(h:mM H P ps)(t:TriplesOk ps'.toList)(hP:P∈G.ts):Wd G ρ S (aM H P (.tbl ps')):=by
 have hn:=w.tout hP
 refine⟨w.len,w.nd,λ i ob e=>?_,λ R hR=>?_,w.to,λ a ha=>?_⟩
 ·obtain⟨a,h1,h2⟩:=w.at' i ob e
  refine⟨a,h1,h2.ext' (w.stbl h t hP) λ u q=>?_⟩
  rw[aY (λ z:a=P=>hn (z▸Wo.mem_st h1))];exact q
 ·by_cases z:R=P
  ·subst z;exact⟨ps',dA,t⟩
  ·obtain⟨qs,h1,h2⟩:=w.tb R hR
   exact⟨qs,by rw[aY z];exact h1,h2⟩
 ·obtain⟨xs,q⟩:=w.an a ha
  exact⟨xs,by rw[aY (λ z:a=P=>w.to P hP (z▸List.mem_append_left _ ha))];exact q⟩
noncomputable def vQ:Expr->Bool
 |.List ..=>false
 |.Set ..=>false
 |_=>true
theorem Hx{e:Expr}{env:Env}(h:vQ e=true):∀x,PySem.genFold e env x=pure x:=by
 intro x
 cases e<;>first|rfl|cases h
noncomputable def oZ:Expr->Bool
 |.Set ..=>false
 |_=>true
theorem Ad{e:Expr}{env:Env}(h:oZ e=true):∀x,foldedSetIterable e env x=pure x:=by
 intro x
 cases e<;>first|rfl|cases h
@[simp] noncomputable def kY(gi:En->EM Sr)(k:Nat)(js:List Nat)(t:Tg)(gt:En->EM Bool)(ge:EE):EE:=λ η S=>(gi η S).bind λ items=>λ S1=>
 (iE (kX (eI items (dZ t gt ge (sP k js η))) items.1 S1)).bind (jP items λ b=>EM.ret (.bl b))
theorem i8{K:PySem.W.Frag}{t:Tg}{gt:En->EM Bool}{ge:EE}{ηc:En}{σc:St}{ρ:Wo}{σ:St}{H:Hp}{S1:aD}{J:It}{items:Sr}{Q:VK}(w:Wd G ρ S1 H)(i:cO G ρ H ηc σc)(gv:Gv G ρ H J items)
  (q:Af G U ρ σ H (aU G) Q ((iE (kX (eI items (dZ t gt ge ηc)) items.1 S1)).bind (jP items λ b=>EM.ret (.bl b)))):Pz J (mD K t) (tT G Nv gt) (tE G Nv ge) σc Q H:=by
 cases e:iE (kX (eI items (dZ t gt ge ηc)) items.1 S1)with
 |exc z S2=>exact(Ac e).elim
 |bad=>rw[e]at q;exact q.elim
 | ok res Sf=>
  rw[e]at q
  have e:=Ab e
  refine⟨λ n m H'=>m=items.1.length-n/\n<=items.1.length/\∃ρ' S',bG ρ H ρ' H'/\Wd G ρ' S' H'/\kX (eI items (dZ t gt ge ηc)) (items.1.drop n) S'= .ok res Sf,
   ⟨_,rfl,Nat.zero_le _,ρ,S1,.refl,w,by rw[List.drop_zero];exact e⟩,λ n m H' ⟨hm,hn,ρ',S',s',w',hc⟩=>?_⟩
  by_cases hlt:n<items.1.length
  ·have hg0:=List.getElem?_eq_getElem hlt
   generalize items.1[n]=d0 at hg0
   rw[xB hg0]at hc
   simp only[kX]at hc
   cases q3:eI items (dZ t gt ge ηc) d0 S' with
   |exc z S2=>rw[q3]at hc;cases hc
   |bad=>rw[q3]at hc;cases hc
   | ok o S2=>
    rw[q3]at hc
    obtain⟨ho,q3⟩:=Aq q3
    refine .inr ⟨gv.go n ρ' S' H' s' w' ho hlt,λ x H2 hy=>?_⟩
    obtain⟨s2,w2,d,hg,hv⟩:=gv.yld n ρ' S' H' x H2 s' w' ho hlt hy
    rw[hg0]at hg
    cases hg
    simp only[Rs.bind]at hc
    have st:=s'.trans s2
    refine yE (K:=K) w2 (i.ext st) hv q3 (λ z hz ρ3 H3 v s3 w3 h3=>?_) (λ hz ρ3 H3 s3 w3=>?_)
    ·subst hz
     cases z with
     | bl c=>
      cases h3
      refine⟨c,rfl,?_⟩
      cases c with
      |true=>
       rw[if_pos rfl]
       exact⟨_,Qa,rfl,Qa,ρ3,S2,st.trans s3,w3,hc⟩
      |false=>
       rw[if_neg Qb]
       have:res=false/\S2=Sf:=by cases hc;exact⟨rfl,rfl⟩
       obtain⟨rfl,rfl⟩:=this
       exact(vY (P:=Af G U ρ σ H (aU G) Q) id q).2 ρ3 H3 _ (st.trans s3) w3 rfl
     |_=>cases hc
    ·subst hz
     exact⟨_,Qa,rfl,Qa,ρ3,S2,st.trans s3,w3,hc⟩
  ·have hn':n=items.1.length:=by omega
   subst hn'
   rw[List.drop_length]at hc
   have:res=true/\S'=Sf:=by cases hc;exact⟨rfl,rfl⟩
   obtain⟨rfl,rfl⟩:=this
   obtain⟨ho,q⟩:=vY (P:=Af G U ρ σ H (aU G) Q) id q
   exact .inl ⟨gv.stop ρ' S' H' s' w' ho,q ρ' H' _ s' w' rfl⟩
theorem dG.lt64{k:Nat}{A:Around}(r:dG k A):A.units+64<cLine:=by have:=r.un;omega
theorem bK.gen(C:bK X G U Γ fc){scope:Scope}{js:List Nat}{k:Nat}(h:jI fc scope=true)(hj:slots fc.N (iM scope)=some js)(hr:k+1<=fc.room){elt:Expr}{gens:List Comprehension}{gpos:Pos}(c:Addr)(code:Value)(it:Addr)(s:Shared)(H:Hp)(ex:List Addr):
  bK (dL X scope (dS scope) c code (.GeneratorExp elt gens scope gpos) it s H ex) G Nv Γ (mB fc scope k)/\bK (dL X.up scope (dS scope) c code (.GeneratorExp elt gens scope gpos) it s H ex) G Nv Γ (mB fc scope k):=by
 obtain⟨h1,h2,h3⟩:=oN C h hj
 obtain⟨c1,c2⟩:=C.cm h1
 have r:=c2.mono hr
 exact⟨⟨C.hK,rfl,rfl,h3.nd,h3.gn,λ e=>(by cases e),yB,λ _=>⟨rfl,Bi r⟩,λ _=>PassesOwn.never,(Bi r).zero,(oK C h2).kind,λ e=>(by cases e),(Bi r).lt64,C.gl,λ e=>(by cases e)⟩,
  ⟨C.hK,rfl,rfl,h3.nd,h3.gn,λ e=>(by cases e),yB,λ _=>⟨rfl,Bh r⟩,λ _=>PassesOwn.never,(Bh r).zero,(oK C h2).kind,λ e=>(by cases e),(Bh r).lt64,C.gl,λ e=>(by cases e)⟩⟩
theorem GV(C:bK X G U Γ fc){elt tg iter:Expr}{ifs:List Expr}{scope:Scope}{p pos gpos:Pos}{js:List Nat}{k:Nat}{t:Tg}{gi:En->EM Sr}{gt:En->EM Bool}{ge:EE}
  (h:jI fc scope=true) (hco:rX scope=false) (htb:fc.tab=true) (hr:k+1<=fc.room) (hj:slots fc.N (iM scope)=some js) (ht:gH (mB fc scope k) tg=some t) (hk:lT (eY scope).length t=true) (hg:cN fc.sc "all" =true) (hn:cL "all" Γ.no=true)
  (hi:PI X tg iter (tI G U gi)) (hc:∀C code it s H ex,gG (dL X scope (dS scope) C code (.GeneratorExp elt [⟨tg,iter,ifs,0⟩] scope gpos) it s H ex) ifs (tT G Nv gt))
  (he:∀C code it s H ex,PE (dL X scope (dS scope) C code (.GeneratorExp elt [⟨tg,iter,ifs,0⟩] scope gpos) it s H ex) elt (tE G Nv ge)) (hs:vQ iter=true):
  PE X (.Call (.Name "all" p) [.GeneratorExp elt [⟨tg,iter,ifs,0⟩] scope gpos] [] pos) (tE G U (kY gi (eY scope).length js t gt ge)):=by
 obtain⟨h1,h2,h3⟩:=oN C h hj
 obtain⟨bm,c,P,e1,e2,hP⟩:=C.tb htb
 refine PE.mono (GU (C.cm h1).2 (C.cm h1).1 e1 e2 bm (C.glo hg) (C.gl.no _ (gM hn)) (Fa C h2 hco) h3.hjs h3.hfr h3.hk hi (λ c code it s H ex=>oV (C.gen h hj hr c code it s H ex).1 ht) (wQ hk) hc he (Hx hs)) λ σ H Q ⟨ρ,S,η,w,i,q⟩=>⟨ρ,S,η,w,i,Af.into q λ J ρ1 H1 S1 items s1 w1 gv q1=>?_⟩
 obtain⟨ps,tp⟩:=w1.tb P hP
 refine⟨⟨ps,tp⟩,λ ps' tp'=>?_⟩
 have s2:bG ρ1 H1 ρ1 (aM H1 P (.tbl ps')):=w1.stbl tp tp'.2 hP
 exact i8 (w1.tbl tp tp'.2 hP) (((i.ext s1).sub _ _).ext s2) ⟨λ n ρ' S' H' s'=>gv.go n ρ' S' H' (s2.trans s'),λ ρ' S' H' s'=>gv.stop ρ' S' H' (s2.trans s'),λ n ρ' S' H' x H'' s'=>gv.yld n ρ' S' H' x H'' (s2.trans s')⟩ (Af.step s2 q1)
@[simp] noncomputable def yG(gi:En->EM Sr)(k:Nat)(js:List Nat)(t:Tg)(gt:En->EM Bool)(ge:EE):EE:=λ η S=>(gi η S).bind λ items=>λ S1=>match aQ items.1.length with
 |true=>(iE (eJ (eI items (dZ t gt ge (sP k js η))) items.1 S1)).bind (jP items λ ds=>EM.ret (.tup ds))
 |false=>.bad
noncomputable def Wo.avoid(ρ:Wo)(A:Addr):Wo:=⟨ρ.st,A::ρ.av⟩
theorem Wo.mem_avoid{ρ:Wo}{p a:Addr}:a∈ρ.avoid p↔a=p\/a∈ρ:=by
 show a∈(p::ρ.av)++ρ.st↔a=p\/a∈ρ.av++ρ.st
 simp
theorem Wd.savoid{ρ:Wo}{S:aD}{H:Hp}{A:Addr}{o:HO}(w:Wd G ρ S H)(hA:H A=none):bG ρ H (ρ.avoid A) (aM H A o):=⟨⟨[],by simp[Wo.avoid]⟩,⟨[A],rfl⟩,λ a h n=>by
 rcases Wo.mem_avoid.mp h with z|z
 ·rw[z];exact hA
 ·exact(n z).elim,.new hA o,λ a ha _=>aY (w.ane ha hA)⟩
theorem Wd.avoid{ρ:Wo}{S:aD}{H:Hp}{A:Addr}{xs:List V}(w:Wd G ρ S H)(hA:H A=none):Wd G (ρ.avoid A) S (aM H A (.lst xs)):=by
 have s:bG ρ H (ρ.avoid A) (aM H A (.lst xs)):=w.savoid hA
 refine⟨w.len,List.nodup_cons.mpr ⟨w.notin hA,w.nd⟩,λ i ob e=>?_,(dI.new (ex:=[]) hA _).tb w.tb Qb,λ P hP z=>?_,λ a ha=>?_⟩
 ·obtain⟨a,h1,h2⟩:=w.at' i ob e
  exact⟨a,h1,h2.ext' s λ u q=>by rw[aY (fM q hA)];exact q⟩
 ·rcases Wo.mem_avoid.mp z with z|z
  ·obtain⟨ps,q,_⟩:=w.tb P hP
   rw[z,hA]at q;cases q
  ·exact w.to P hP z
 ·rcases List.mem_cons.mp ha with q|q
  ·exact⟨xs,by rw[q,dA]⟩
  ·obtain⟨ys,q2⟩:=w.an a q
   exact⟨ys,by rw[aY (fM q2 hA)];exact q2⟩
theorem pU.av{ρ:Wo}{H:Hp}{A:Addr}{o:HO}(h:A∈ρ):pU ρ H ρ (aM H A o):=⟨id,λ n _=>n,fun{a u} n e _=>by rw[aY (λ z:a=A=>n (z▸h))];exact e⟩
theorem Wd.nst{ρ:Wo}{S:aD}{H:Hp}{A:Addr}(w:Wd G ρ S H)(h:A∈ρ.av):A∉ρ.st:=λ z=>(List.nodup_append.mp w.nd).2.2 A h A z rfl
theorem Wd.putA{ρ:Wo}{S:aD}{H:Hp}{A:Addr}{xs:List V}(w:Wd G ρ S H)(hA:A∈ρ.av):Wd G ρ S (aM H A (.lst xs)):=by
 have mA:A∈ρ:=List.mem_append_left _ hA
 refine⟨w.len,w.nd,λ i ob e=>?_,(dI.put (ex:=ρ.all) mA _).tb w.tb λ P hP=>w.tout hP,w.to,λ a ha=>?_⟩
 ·obtain⟨a,h1,h2⟩:=w.at' i ob e
  exact⟨a,h1,h2.ext0 (.av mA) λ u q=>by rw[aY (λ z:a=A=>w.nst hA (z▸List.mem_of_getElem? h1))];exact q⟩
 ·obtain⟨ys,q⟩:=w.an a ha
  by_cases e:a=A
  ·exact⟨xs,by rw[e,dA]⟩
  ·exact⟨ys,by rw[aY e];exact q⟩
theorem bG.putA{ρ ρ':Wo}{S:aD}{H H':Hp}{A:Addr}{o:HO}(s:bG ρ H ρ' H')(w:Wd G ρ S H)(hA:H A=none):bG ρ H ρ' (aM H' A o):=⟨s.pre,s.av,s.new,⟨λ b u hb q n=>by rw[aY (fM q hA)];exact s.ext.old b u hb q n,λ b ps hb q=>by rw[aY (fM q hA)];exact s.ext.tab b ps hb q⟩,λ a ha hn=>by
 rw[aY (w.ane ha hA)];exact s.kp a ha hn⟩
theorem Th{K:PySem.W.Frag}{t:Tg}{gt:En->EM Bool}{ge:EE}{ηc:En}{σc:St}{ρ:Wo}{σ:St}{H:Hp}{S1:aD}{J:It}{items:Sr}{Q:VK}{A:Addr}(hA:H A=none)(w:Wd G ρ S1 H)(i:cO G ρ H ηc σc)(gv:Gv G ρ H J items)(hl:aQ items.1.length=true)
  (q:Af G U ρ σ H (aU G) Q ((iE (eJ (eI items (dZ t gt ge ηc)) items.1 S1)).bind (jP items λ ds=>EM.ret (.tup ds)))):Pm J (mD K t) (tT G Nv gt) (tE G Nv ge) σc Q A H:=by
 cases e:iE (eJ (eI items (dZ t gt ge ηc)) items.1 S1)with
 |exc z S2=>exact(Ac e).elim
 |bad=>rw[e]at q;exact q.elim
 | ok all Sf=>
  rw[e]at q
  have e:=Ab e
  refine⟨λ n m xs H'=>m=items.1.length-n/\n<=items.1.length/\∃ρ' S' done rest,bG ρ H ρ' H'/\A∈ρ'.av/\H' A=some (.lst xs)/\Wd G ρ' S' H'/\aN G ρ' H' done xs/\done.length<=n/\eJ (eI items (dZ t gt ge ηc)) (items.1.drop n) S'= .ok rest Sf/\done++rest=all,
   ⟨_,rfl,Nat.zero_le _,ρ.avoid A,S1,[],all,w.savoid hA,List.mem_cons_self,dA,w.avoid hA,rfl,Nat.le_refl _,by rw[List.drop_zero];exact e,rfl⟩,λ n m xs H' ⟨hm,hn,ρ',S',done,rest,s',mA,aA,w',hx,hd,hc,ha⟩=>?_⟩
  by_cases hlt:n<items.1.length
  ·have hg0:=List.getElem?_eq_getElem hlt
   generalize items.1[n]=d0 at hg0
   rw[xB hg0]at hc
   simp only[eJ]at hc
   cases q3:eI items (dZ t gt ge ηc) d0 S' with
   |exc z S2=>rw[q3]at hc;cases hc
   |bad=>rw[q3]at hc;cases hc
   | ok o S2=>
    rw[q3]at hc
    obtain⟨ho,q3⟩:=Aq q3
    refine .inr ⟨gv.go n ρ' S' H' s' w' ho hlt,λ x H2 hy=>?_⟩
    obtain⟨s2,w2,d,hg,hv⟩:=gv.yld n ρ' S' H' x H2 s' w' ho hlt hy
    rw[hg0]at hg
    cases hg
    simp only[Rs.bind]at hc
    cases q4:eJ (eI items (dZ t gt ge ηc)) (items.1.drop (n+1)) S2 with
    |exc z S3=>rw[q4]at hc;cases hc
    |bad=>rw[q4]at hc;cases hc
    | ok rs S3=>
     rw[q4]at hc
     have hc1:vJ o rs=rest/\S3=Sf:=by
      cases hc;exact⟨rfl,rfl⟩
     obtain⟨hc1,rfl⟩:=hc1
     have st:=s'.trans s2
     have kA:∀{ρ3 S3 H3},bG ρ' H2 ρ3 H3->Wd G ρ3 S3 H3->A∈ρ3.av/\H3 A=some (.lst xs):=fun{ρ3 S3 H3} s3 w3=>by
      obtain⟨r,er⟩:=s3.av
      have m3:A∈ρ3.av:=by rw[er];exact List.mem_append_right _ mA
      refine⟨m3,?_⟩
      rw[s3.kp A mA (w3.nst m3),s2.kp A mA (w'.nst mA)]
      exact aA
     refine yE (K:=K) w2 (i.ext st) hv q3 (λ z hz ρ3 H3 v s3 w3 h3=>?_) (λ hz ρ3 H3 s3 w3=>?_)
     ·obtain⟨m3,a3⟩:=kA s3 w3
      have mm:A∈ρ3:=List.mem_append_left _ m3
      refine⟨a3,?_,_,Qa,rfl,Qa,ρ3,S2,done++[z],rs,(st.trans s3).putA w hA,m3,dA,w3.putA m3,?_,?_,q4,?_⟩
      ·rw[hx.length]
       exact Nat.lt_of_lt_of_le (Nat.lt_of_le_of_lt hd hlt) (iC hl)
      ·exact((hx.ext (s2.trans s3)).append (aN.one h3)).ext0 (.av mm)
      ·simp;omega
      ·subst hz
       rw[<-ha,<-hc1,List.append_assoc];rfl
     ·obtain⟨m3,a3⟩:=kA s3 w3
      refine⟨_,Qa,rfl,Qa,ρ3,S2,done,rs,st.trans s3,m3,a3,w3,hx.ext (s2.trans s3),Qa,q4,?_⟩
      subst hz
      rw[<-ha,<-hc1];rfl
  ·have hn':n=items.1.length:=by omega
   subst hn'
   rw[List.drop_length]at hc
   have hc2:rest=[]/\S'=Sf:=by cases hc;exact⟨rfl,rfl⟩
   obtain⟨rfl,rfl⟩:=hc2
   rw[List.append_nil]at ha
   subst ha
   obtain⟨ho,q⟩:=vY (P:=Af G U ρ σ H (aU G) Q) id q
   exact .inl ⟨gv.stop ρ' S' H' s' w' ho,aA,λ p hp=>q _ _ _ (s'.trans (w'.sside hp)) (w'.side hp) (w'.stup hp hx)⟩
theorem EZ(C:bK X G U Γ fc){elt tg iter:Expr}{ifs:List Expr}{scope:Scope}{p pos gpos:Pos}{js:List Nat}{k:Nat}{t:Tg}{gi:En->EM Sr}{gt:En->EM Bool}{ge:EE}
  (h:jI fc scope=true) (hco:rX scope=false) (htb:fc.tab=true) (hr:k+1<=fc.room) (hj:slots fc.N (iM scope)=some js) (ht:gH (mB fc scope k) tg=some t) (hk:lT (eY scope).length t=true) (hg:cN fc.sc "tuple" =true) (hn:cL "tuple" Γ.no=true)
  (hi:PI X tg iter (tI G U gi)) (hc:∀C code it s H ex,gG (dL X.up scope (dS scope) C code (.GeneratorExp elt [⟨tg,iter,ifs,0⟩] scope gpos) it s H ex) ifs (tT G Nv gt))
  (he:∀C code it s H ex,PE (dL X.up scope (dS scope) C code (.GeneratorExp elt [⟨tg,iter,ifs,0⟩] scope gpos) it s H ex) elt (tE G Nv ge)) (hs:vQ iter=true):
  PE X (.Call (.Name "tuple" p) [.GeneratorExp elt [⟨tg,iter,ifs,0⟩] scope gpos] [] pos) (tE G U (yG gi (eY scope).length js t gt ge)):=by
 obtain⟨h1,h2,h3⟩:=oN C h hj
 obtain⟨bm,c,P,e1,e2,hP⟩:=C.tb htb
 refine PE.mono (EW (C.cm h1).2 (C.cm h1).1 e1 e2 bm (C.glo hg) (C.gl.no _ (gM hn)) (Fa C h2 hco) h3.hjs h3.hfr h3.hk hi (λ c code it s H ex=>oV (C.gen h hj hr c code it s H ex).2 ht) (wQ hk) hc he (Hx hs)) λ σ H Q ⟨ρ,S,η,w,i,q⟩=>⟨ρ,S,η,w,i,Af.into q λ J ρ1 H1 S1 items s1 w1 gv q1=>?_⟩
 cases e:aQ items.1.length with
 |false=>rw[e]at q1;exact q1.elim
 |true=>
  rw[e]at q1
  obtain⟨ps,tp⟩:=w1.tb P hP
  refine⟨⟨ps,tp⟩,λ ps' tp' A hA=>?_⟩
  have s2:bG ρ1 H1 ρ1 (aM H1 P (.tbl ps')):=w1.stbl tp tp'.2 hP
  exact Th hA (w1.tbl tp tp'.2 hP) (((i.ext s1).sub _ _).ext s2) ⟨λ n ρ' S' H' s'=>gv.go n ρ' S' H' (s2.trans s'),λ ρ' S' H' s'=>gv.stop ρ' S' H' (s2.trans s'),λ n ρ' S' H' x H'' s'=>gv.yld n ρ' S' H' x H'' (s2.trans s')⟩ e (Af.step s2 q1)
end
end L2
end

section
noncomputable section
namespace L2
open PySem PySem.Spec PyProof.Rows
section
variable{X:Cx}{G:Gd}{U:SK}{Γ:Gb}{fc:Fc}{a b c o e:Expr}{ga gb gc:EE}{gs:En->EM (List D)}{es:List Expr}{pos pos' p apos cpos:Pos}{g h:ES}{st:Stmt}{sts:List Stmt}
@[simp] noncomputable def aO:ES:=λ η S=>.ok .nx η S
noncomputable def aJ(g h:ES):ES:=λ η S=>match g η S with
 |.ok .nx η' S'=>h η' S'
 |r=>r
theorem Hc{t t':TS}(h:eB X sts t)(k:∀F σ H,t' F σ H->t F σ H):eB X sts t':=λ pins s σ H D I q=>h pins s σ H D I (k _ _ _ q)
theorem CL:eB X [] (tS G U aO):=Hc CM λ F σ H ⟨ρ,S,η,w,i,q⟩=>q ρ H σ .refl w i
theorem cZ.nx{ρ:Wo}{H:Hp}{F:jZ}{h:ES}{r:Rw}(q:cZ G U ρ H F (match r with
  |.ok .nx η' S'=>h η' S'
  |r=>r)):cZ G U ρ H {F with nx:=λ σ' H'=>tS G U h F σ' H'} r:=by
 cases r with
 |ok f η S'=>
  cases f with
  |nx=>exact λ ρ' H' σ' s w i=>⟨ρ',S',η,w,i,cZ.step s q⟩
  |rt d=>exact q
  |bk=>exact q
  |ct=>exact q
 |exc x η S'=>exact q
 |bad=>exact q
theorem CO(h1:PS X st (tS G U g))(h2:eB X sts (tS G U h)):eB X (st::sts) (tS G U (aJ g h)):=
 Hc (CN h1 h2) λ F σ H ⟨ρ,S,η,w,i,q⟩=>⟨ρ,S,η,w,i,cZ.nx q⟩
@[simp] noncomputable def Od:ES:=λ η S=>.ok .ct η S
@[simp] noncomputable def Ol:ES:=λ η S=>.ok .bk η S
theorem CW:PS X (.Pass pos) (tS G U aO):=PS.mono CY λ σ H F ⟨ρ,S,η,w,i,q⟩=>q ρ H σ .refl w i
theorem DK:PS X (.Continue pos) (tS G U Od):=PS.mono DJ λ σ H F ⟨ρ,S,η,w,i,q⟩=>q ρ H σ .refl w i
theorem DL:PS X (.Break pos) (tS G U Ol):=PS.mono DM λ σ H F ⟨ρ,S,η,w,i,q⟩=>q ρ H σ .refl w i
@[simp] noncomputable def bC(ga:EE):ES:=λ η S=>(ga η S).st η λ d S1=>.ok (.rt d) η S1
theorem zU(ha:PE X a (tE G U ga)):PS X (.Return (some a) pos) (tS G U (bC ga)):=PS.mono (CU ha) λ σ H F ⟨ρ,S,η,w,i,q⟩=>⟨ρ,S,η,w,i,cZ.into i q λ v ρ1 H1 S1 d s1 w1 h1 q1=>q1 ρ1 H1 v .refl w1 h1⟩
@[simp] noncomputable def Gp:ES:=λ η S=>.ok (.rt .non) η S
theorem CS:PS X (.Return none pos) (tS G U Gp):=PS.mono CT λ σ H F ⟨ρ,S,η,w,i,q⟩=>q ρ H _ .refl w rfl
noncomputable def jO:Expr->Bool
 |.ListComp ..=>false
 |.SetComp ..=>false
 |.DictComp ..=>false
 |_=>true
theorem yN{value:Expr}{target:Option Expr}{line:Nat}{env:Env}(h:jO value=true):swapsWith value target line env=pure false:=by
 cases value<;>first|rfl|cases h
theorem Ez{t value:Expr}{line:Nat}{env:Env}(h:jO value=true):swapsWithSole [t] value line env=pure false:=by
 show swapsWith value (some t) line env=_
 exact yN h
@[simp] noncomputable def pM(ga:EE):ES:=λ η S=>(ga η S).st η λ _ S1=>.ok .nx η S1
theorem DE(hn:jO a=true)(ha:PE X a (tE G U ga)):PS X (.Expr a pos) (tS G U (pM ga)):=PS.mono (DF ha (yN hn)) λ σ H F ⟨ρ,S,η,w,i,q⟩=>⟨ρ,S,η,w,i,cZ.into i q λ v ρ1 H1 S1 d s1 w1 h1 q1=>q1 ρ1 H1 σ .refl w1 (i.ext s1)⟩
@[simp] noncomputable def cM(gt:En->EM Bool)(g h:ES):ES:=λ η S=>(gt η S).st η λ b S1=>match b with
 |true=>g η S1
 |false=>h η S1
theorem DA{gt:En->EM Bool}{ss ts:List Stmt}(ha:PT X a (tT G U gt))(h1:eB X ss (tS G U g))(h2:eB X ts (tS G U h)):PS X (.If a ss ts pos) (tS G U (cM gt g h)):=
 PS.mono (DB ha h1 h2) λ σ H F ⟨ρ,S,η,w,i,q⟩=>⟨ρ,S,η,w,i,cZ.into i q λ v ρ1 H1 S1 d s1 w1 hb q1=>by
  cases hb
  cases v with
  |true=>exact⟨ρ1,S1,η,w1,i.ext s1,q1⟩
  |false=>exact⟨ρ1,S1,η,w1,i.ext s1,q1⟩⟩
@[simp] noncomputable def bN(t:Tg)(ga:EE):ES:=λ η S=>(ga η S).st η λ d S1=>match aX t d η with
 |some η'=>.ok .nx η' S1
 |none=>.bad
theorem uN{K:PySem.W.Frag}{t:Tg}{σ:St}{H:Hp}{F:jZ}(q:tS G U (bN t ga) F σ H):qK (tE G U ga) (mD K t) F σ H:=by
 obtain⟨ρ,S,η,w,i,q⟩:=q
 refine⟨ρ,S,η,w,i,cZ.into i q λ v ρ1 H1 S1 d s1 w1 h1 q1=>?_⟩
 cases e:aX t d η with
 |none=>rw[e]at q1;exact q1.elim
 |some η'=>rw[e]at q1;exact Bk h1 (i.ext s1) e λ σ' i'=>q1 ρ1 H1 σ' .refl w1 i'
theorem Ha(C:bK X G U Γ fc){x:Str}{j:Nat}(hx:jK fc x=some j)(hn:jO a=true)(ha:PE X a (tE G U ga)):PS X (.Assign [.Name x pos'] a pos) (tS G U (bN (.nm j) ga)):=by
 obtain⟨k1,k2,k3⟩:=uX C hx
 exact PS.mono (Hb C.nd k1 k2 ha (yN hn) k3) λ σ H F q=>uN (K:=X.K) (t:=.nm j) q
noncomputable def Hw:Expr->Bool
 |.Tuple ..=>false
 |.List ..=>false
 |_=>true
theorem CP(C:bK X G U Γ fc){es:List Expr}{k:Nat}{t:Tg}(ht:gH fc (.Tuple es k pos')=some t)(hn:jO a=true)(hn2:Hw a=true)(ha:PE X a (tE G U ga)):PS X (.Assign [.Tuple es k pos'] a pos) (tS G U (bN t ga)):=by
 refine PS.mono (Hd ha (oV C ht) (Ez hn) ?_ rfl) λ σ H F q=>uN (K:=X.K) (t:=t) q
 unfold swappedStores
 cases a<;>first|rfl|cases hn2
noncomputable def yO(fc:Fc)(x:Str)(l l':Nat)(scope:Scope):Bool:=(match lk x fc.sc.names with
 |some .local=>true
 |_=>false)&&(Nat.beq l l'&& !(scope.names.any λ y=>dU y.1 x&&(match y.2 with
 |.local=>true
 |.cell=>true
 |_=>false)))
theorem Vt(C:bK X G U Γ fc){x:Str}{elt:Expr}{gens:List Comprehension}{scope:Scope}{line:Nat}:swapsWith (.ListComp elt gens scope cpos) (some (.Name x pos')) line X.env=pure (yO fc x pos'.line cpos.line scope):=by
 unfold swapsWith
 show pure (X.env.blockKind== .function&&X.env.kindOf x==some .local&&pos'.line==cpos.line&& !(scope.names.any λ (n,k)=>n==x&&(k== .local||k== .cell)))=pure _
 refine congrArg pure ?_
 have h1:(X.env.blockKind==ScopeKind.function)=true:=by unfold Env.blockKind;rw[C.kd];rfl
 have h2:(X.env.kindOf x==some .local)=(match lk x fc.sc.names with
  |some .local=>true
  |_=>false):=by
  unfold Env.kindOf
  rw[iH,C.sc]
  cases fc.sc.names.lookup x with
  |none=>rfl
  |some k=>cases k<;>rfl
 have h3:(scope.names.any λ (n,k)=>n==x&&(k== .local||k== .cell))=scope.names.any λ y=>dU y.1 x&&(match y.2 with
  |.local=>true
  |.cell=>true
  |_=>false):=by
  refine congrArg (List.any scope.names) (funext λ y=>?_)
  obtain⟨n,k⟩:=y
  rw[mY]
  cases k<;>rfl
 have h4:(pos'.line==cpos.line)=Nat.beq pos'.line cpos.line:=by rw[Bool.eq_iff_iff,beq_iff_eq,Nat.beq_eq]
 unfold yO
 rw[h1,h2,h3,h4,Bool.true_and,Bool.and_assoc]
noncomputable def Fb:Expr->Bool
 |.Slice ..=>false
 |_=>true
@[simp] noncomputable def zR(ga go gi:EE):ES:=λ η S=>(ga η S).st η λ d S1=>(go η S1).st η λ x S2=>(gi η S2).st η λ y S3=>match x,y with
 | .ref k,.int n=>match S3[k]? with
  |some (.lst ds)=>match kM ds.length n with
   |some j=>.ok .nx η (S3.set k (.lst (ds.set j d)))
   |none=>.bad
  |_=>.bad
 |_,_=>.bad
theorem CV{i:Expr}{gi:EE}(hi0:Fb i=true)(hn:jO a=true)(ho:PE X o (tE G U gb))(hi:PE X i (tE G U gi))(ha:PE X a (tE G U ga)):PS X (.Assign [.Subscript o i pos'] a pos) (tS G U (zR ga gb gi)):=by
 refine PS.mono (Hd ha (ER ho hi AB (by intro v;cases i<;>first|rfl|cases hi0)) (Ez hn) ?_ rfl) λ σ H F ⟨ρ,S,η,w,i,q⟩=>⟨ρ,S,η,w,i,cZ.into i q λ v ρ1 H1 S1 d s1 w1 h1 q1=>⟨ρ1,S1,η,w1,i.ext s1,cZ.into (i.ext s1) q1 λ x ρ2 H2 S2 dx s2 w2 h2 q2=>⟨ρ2,S2,η,w2,(i.ext s1).ext s2,cZ.into ((i.ext s1).ext s2) q2 λ y ρ3 H3 S3 dy s3 w3 h3 q3=>?_⟩⟩⟩
 ·unfold swappedStores
  cases a<;>rfl
 ·split at q3
  ·split at q3
   ·rename_i ds e
    split at q3
    ·rename_i j e2
     cases h3
     obtain⟨l,rfl,hl⟩:=h2.ext s3
     obtain⟨vs,h4,h5⟩:=w3.lst hl e
     refine⟨l,vs,_,j,rfl,rfl,h4,by rw[h5.length];exact e2,?_⟩
     exact q3 ρ3 _ σ (.put hl) (w3.put hl (h5.set (h1.ext (s2.trans s3)) j)) (((i.ext s1).ext (s2.trans s3)).ext (.put hl))
    ·exact q3.elim
   ·exact q3.elim
  ·exact q3.elim
@[simp] noncomputable def pP(ga:EE)(gs:En->EM (List D)):EE:=λ η S=>(ga η S).bind λ x=>λ S1=>match lstD S1 x with
 | some _=>(gs η S1).bind λ ds=>λ S2=>match x,ds with
  | .ref k,[v]=>match S2[k]? with
   |some (.lst xs)=>match Nat.blt xs.length 16777216 with
    |true=>.ok .non (S2.set k (.lst (xs++[v])))
    |false=>.bad
   |_=>.bad
  |_,_=>.bad
 |none=>.bad
theorem GR{e:Expr}(hb:sS o=true)(hl:Nat.beq apos.endLine cpos.line=true)(hp:bT e=true)(ho:PE X o (tE G U ga))(hs:PA X [e] (tA G U gs)):PE X (.Call (.Attribute o "append" apos) [e] [] cpos) (tE G U (pP ga gs)):=by
 have hp':[e].all bT=true:=by
  show(bT e&&true)=true
  rw[hp];rfl
 have hline:(apos.endLine==cpos.line)=true:=beq_iff_eq.mpr (Nat.eq_of_beq_eq_true hl)
 refine PE.mono (vF PySem.F.plainAttrs_list PySem.F.slot_list_append PySem.F.type_list_append KI ho hs (Pa hb) (sK hp' rfl) hline (fG hp' _) rfl) λ σ H Q ⟨ρ,S,η,w,i,h⟩=>⟨ρ,S,η,w,i,Af.into h λ x ρ1 H1 S1 d s1 w1 h1 q1=>?_⟩
 cases e1:lstD S1 d with
 |none=>rw[e1]at q1;exact q1.elim
 | some ds=>
  rw[e1]at q1
  obtain⟨l,vs,rfl,h2,_⟩:=h1.lstD w1 e1
  refine⟨.inl ⟨rfl,vs,bA.at' h2⟩,ρ1,S1,η,w1,i.ext s1,Af.into q1 λ xs ρ2 H2 S2 ds2 s2 w2 h3 q2=>?_⟩
  split at q2
  ·split at q2
   ·rename_i xs2 e2
    split at q2
    ·rename_i hlt
     obtain⟨v,rfl,hv⟩:=h3.single
     obtain⟨l',el,hl'⟩:=h1.ext s2
     cases el
     obtain⟨ws,h4,h5⟩:=w2.lst hl' e2
     exact⟨l,ws,v,rfl,rfl,h4,by rw[h5.length];exact Nat.blt_eq.mp hlt,q2 ρ2 _ _ (.put hl') (w2.put hl' (h5.append (aN.one hv))) rfl⟩
    ·exact q2.elim
   ·exact q2.elim
  ·exact q2.elim
noncomputable def jB(t:Tg)(g:ES):List D->ES
 |[]=>λ η S=>.ok .nx η S
 | d::r=>λ η S=>match aX t d η with
  |some η'=>match g η' S with
   |.ok .nx η2 S2=>jB t g r η2 S2
   |.ok .ct η2 S2=>jB t g r η2 S2
   |.ok .bk η2 S2=>.ok .nx η2 S2
   |r=>r
  |none=>.bad
open Classical in
noncomputable def lU(it:Sr)(g:ES):ES:=match it.2 with
 |none=>g
 |some i=>λ η S=>if S[i]? =some (.lst it.1)then g η S else .bad
open Classical in
noncomputable def jQ(it:Sr)(r:Rw):Rw:=match it.2 with
 |none=>r
 |some i=>match r with
  |.ok .nx η S=>if S[i]? =some (.lst it.1)then .ok .nx η S else .bad
  |r=>r
@[simp] theorem KY{ds:List D}{g:ES}:lU (ds,none) g=g:=rfl
@[simp] theorem LA{ds:List D}{r:Rw}:jQ (ds,none) r=r:=rfl
theorem KU{ds:List D}{i:Nat}{g:ES}{η:En}{S:aD}(h:S[i]? =some (.lst ds)):lU (ds,some i) g η S=g η S:=if_pos h
theorem KW{it:Sr}{g:ES}{η:En}{S:aD}(hb:lU it g η S≠ .bad):mR it S/\lU it g η S=g η S:=by
 obtain⟨ds,lk⟩:=it
 cases lk with
 |none=>exact⟨trivial,rfl⟩
 |some i=>
  by_cases e:S[i]? =some (.lst ds)
  ·exact⟨e,KU e⟩
  ·exact(hb (if_neg e)).elim
theorem Iq{it:Sr}{η:En}{S:aD}{P:Rw->Prop}(hb:¬P .bad)(h:P (jQ it (.ok .nx η S))):mR it S/\P (.ok .nx η S):=by
 obtain⟨ds,lk⟩:=it
 cases lk with
 |none=>exact⟨trivial,h⟩
 | some i=>
  by_cases e:S[i]? =some (.lst ds)
  ·have:jQ (ds,some i) (.ok .nx η S)= .ok .nx η S:=if_pos e
   rw[this]at h;exact⟨e,h⟩
  ·have:jQ (ds,some i) (.ok .nx η S)= .bad:=if_neg e
   rw[this]at h;exact(hb h).elim
theorem KZ{it:Sr}{d:D}{η:En}{S:aD}:jQ it (.ok (.rt d) η S)= .ok (.rt d) η S:=by
 obtain⟨ds,lk⟩:=it
 cases lk<;>rfl
theorem LB{it:Sr}{d:D}{η:En}{S:aD}:jQ it (.exc d η S)= .exc d η S:=by
 obtain⟨ds,lk⟩:=it
 cases lk<;>rfl
theorem At{it:Sr}:jQ it .bad= .bad:=by
 obtain⟨ds,lk⟩:=it
 cases lk<;>rfl
@[simp] noncomputable def gZ(gi:En->EM Sr)(t:Tg)(g:ES):ES:=λ η S=>(gi η S).st η λ items S1=>jQ items (jB t (lU items g) items.1 η S1)
theorem DC(C:bK X G U Γ fc){tg iter:Expr}{t:Tg}{gi:En->EM Sr}{body:List Stmt}(hc:fc.calm=true)(hlp:fc.loop=true)(ht:gH fc tg=some t)(hi:PI X tg iter (tI G U gi))(hs:oZ iter=true)(hb:eB X body (tS G U g)):
  PS X (.For tg iter body [] pos) (tS G U (gZ gi t g)):=by
 refine PS.mono (DD (C.lp hlp) (C.cm hc).1 hi (oV C ht) hb (Ad hs)) λ σ H F ⟨ρ,S,η,w,i,q⟩=>⟨ρ,S,η,w,i,cZ.into i q λ J ρ1 H1 S1 items s1 w1 gv q1=>?_⟩
 have i1:=i.ext s1
 refine⟨λ n m σ' H'=>m=items.1.length-n/\n<=items.1.length/\∃ρ' S' η',bG ρ1 H1 ρ' H'/\Wd G ρ' S' H'/\cO G ρ' H' η' σ'/\cZ G U ρ' H' F (jQ items (jB t (lU items g) (items.1.drop n) η' S')),
  ⟨_,rfl,Nat.zero_le _,ρ1,S1,η,.refl,w1,i1,by rw[List.drop_zero];exact q1⟩,λ n m σ' H' ⟨hm,hn,ρ',S',η',s',w',i',q'⟩=>?_⟩
 by_cases hlt:n<items.1.length
 ·have hg0:=List.getElem?_eq_getElem hlt
  generalize items.1[n]=d0 at hg0
  rw[xB hg0]at q'
  simp only[jB]at q'
  cases e:aX t d0 η' with
  |none=>rw[e]at q';simp only[At]at q';exact q'.elim
  | some η3=>
   rw[e]at q'
   simp only at q'
   have nb:lU items g η3 S'≠ .bad:=λ z=>by
    rw[z]at q'
    simp only[At]at q'
    exact q'.elim
   obtain⟨ho,eg⟩:=KW nb
   rw[eg]at q'
   refine .inr ⟨gv.go n ρ' S' H' s' w' ho hlt,λ σ2 H2=>∃ρ2 S2 η2,bG ρ1 H1 ρ2 H2/\Wd G ρ2 S2 H2/\cO G ρ2 H2 η2 σ2/\cZ G U ρ2 H2 F (jQ items (jB t (lU items g) (items.1.drop (n+1)) η2 S2)),λ σ2 H2 ⟨ρ2,S2,η2,k⟩=>⟨_,Qa,rfl,Qa,ρ2,S2,η2,k⟩,λ x H2 hy=>?_⟩
   obtain⟨s2,w2,d,hg,hv⟩:=gv.yld n ρ' S' H' x H2 s' w' ho hlt hy
   rw[hg0]at hg
   cases hg
   refine Bk (K:=X.K) hv (i'.ext s2) e λ σ3 i3=>⟨ρ',S',η3,w2,i3,?_⟩
   have q':=cZ.step s2 q'
   have st:=s'.trans s2
   cases e2:g η3 S' with
   |ok f η4 S4=>
    rw[e2]at q'
    cases f with
    |nx=>exact λ ρ4 H4 σ4 s4 w4 i4=>⟨ρ4,S4,η4,st.trans s4,w4,i4,cZ.step s4 q'⟩
    |ct=>exact λ ρ4 H4 σ4 s4 w4 i4=>⟨ρ4,S4,η4,st.trans s4,w4,i4,cZ.step s4 q'⟩
    |bk=>exact(Iq (P:=cZ G U ρ' H2 F) id q').2
    |rt d=>simp only[KZ]at q';exact q'
   |exc x η4 S4=>rw[e2]at q';simp only[LB]at q';exact q'
   |bad=>rw[e2]at q';simp only[At]at q';exact q'.elim
 ·have hn':n=items.1.length:=by omega
  subst hn'
  rw[List.drop_length]at q'
  obtain⟨ho,q'⟩:=Iq (P:=cZ G U ρ' H' F) id q'
  exact .inl ⟨gv.stop ρ' S' H' s' w' ho,q' ρ' H' σ' .refl w' i'⟩
end
end L2
namespace L2
open PySem PySem.SetTable
theorem Nw:∀(m:Nat) (l:List Nat),(∀j<m,j∈l)->m<=l.length
 |0,_,_=>Nat.zero_le _
 |m+1,l,h=>by
  have hm:=h m (Nat.lt_succ_self m)
  have:=Nw m (l.erase m) λ j hj=>(List.mem_erase_of_ne (Nat.ne_of_lt hj)).mpr (h j (Nat.lt_succ_of_lt hj))
  rw[List.length_erase_of_mem hm]at this
  have:=List.length_pos_of_mem hm
  omega
theorem Tl(m:Nat)(l:List Nat)(h:l.length<m):∃j<m,j∉l:=by
 refine Classical.byContradiction λ hc=>?_
 have:=Nw m l λ j hj=>Classical.byContradiction λ hn=>hc ⟨j,hj,hn⟩
 omega
noncomputable def hV(mask:Nat):Prop:=mask=7\/mask=31\/mask=127\/mask=511
noncomputable def rT(m i:Nat):Nat:=(i*5+1)%m
noncomputable def lK(f:Nat->Nat):Nat->Nat->Nat
 |0,i=>i
 |k+1,i=>lK f k (f i)
theorem uK(f:Nat->Nat):∀a b i,lK f (a+b) i=lK f b (lK f a i)
 |0,b,i=>by rw[Nat.zero_add];rfl
 |a+1,b,i=>by rw[Nat.succ_add];exact uK f a b (f i)
noncomputable def yF(m:Nat):Nat->Nat->List Nat
 |0,_=>[]
 |k+1,i=>i::yF m k (rT m i)
theorem Al{m:Nat}:∀{k i j:Nat},j∈yF m k i->∃b<k,lK (rT m) b i=j
 |0,_,_,h=>nomatch h
 | k+1,i,j,h=>by
  rcases List.mem_cons.mp h with e|h
  ·exact⟨0,Nat.succ_pos _,e.symm⟩
  ·obtain⟨b,hb,e⟩:=Al h
   exact⟨b+1,Nat.succ_lt_succ hb,e⟩
noncomputable def Lb(m:Nat):Bool:=((List.range m).all λ j=>(yF m m 0).contains j)&&lK (rT m) m 0==0
theorem NV{mask:Nat}(h:hV mask):Lb (mask+1)=true:=by
 rcases h with rfl|rfl|rfl|rfl<;>decide+kernel
theorem Tj{mask:Nat}(h:hV mask){i j:Nat}(hi:i<mask+1)(hj:j<mask+1):∃k<mask+1,lK (rT (mask+1)) k i=j:=by
 have hg:=NV h
 generalize mask+1=m at*
 unfold Lb at hg
 rw[Bool.and_eq_true,List.all_eq_true]at hg
 obtain⟨hall,hz⟩:=hg
 have hz:=eq_of_beq hz
 obtain⟨a,ha,ea⟩:=Al (List.contains_iff_mem.mp (hall i (List.mem_range.mpr hi)))
 obtain⟨b,hb,eb⟩:=Al (List.contains_iff_mem.mp (hall j (List.mem_range.mpr hj)))
 by_cases hab:a<=b
 ·refine⟨b-a,Qa,?_⟩
  rw[<-ea,<-uK,show a+(b-a)=b from Qa,eb]
 ·refine⟨m-a+b,Qa,?_⟩
  rw[<-ea,<-uK,show a+(m-a+b)=m+b from Qa,uK,hz,eb]
noncomputable def fT(mask:Nat):Nat->Nat×Nat->Nat×Nat
 |0,x=>x
 |k+1,x=>fT mask k (leap mask x.1 x.2)
theorem Iy(mask:Nat):∀a b x,fT mask (a+b) x=fT mask b (fT mask a x)
 |0,b,x=>by rw[Nat.zero_add];rfl
 |a+1,b,x=>by rw[Nat.succ_add];exact Iy mask a b _
theorem Iv(mask:Nat):∀k x,(fT mask k x).2=x.2/32^k
 |0,x=>by simp[fT]
 |k+1,x=>by
  show(fT mask k (leap mask x.1 x.2)).2=_
  rw[Iv mask k]
  show x.2/32/32^k=_
  rw[Nat.div_div_eq_div_mul,Nat.pow_succ,Nat.mul_comm 32]
theorem Iw(mask:Nat):∀k x,x.1<mask+1->(fT mask k x).1<mask+1
 |0,x,h=>h
 |k+1,x,h=>Iw mask k _ (Nat.mod_lt _ (Nat.succ_pos _))
theorem Ix(mask:Nat):∀k i,fT mask k (i,0)=(lK (rT (mask+1)) k i,0)
 |0,i=>rfl
 |k+1,i=>by
  show fT mask k ((i*5+1+0/32)%(mask+1),0/32)=_
  rw[Nat.zero_div,Nat.add_zero]
  exact Ix mask k _
theorem Ot(h:Int):bits h<2^64:=by
 unfold bits
 have h1:=Int.emod_nonneg h (show(2^64:Int)≠0 from Qc)
 have h2:=Int.emod_lt_of_pos h (show(0:Int)<2^64 from Qc)
 omega
theorem Iu{mask:Nat}(hs:hV mask){i p j:Nat}(hi:i<mask+1)(hp:p<2^64)(hj:j<mask+1):∃k<mask+14,(fT mask k (i,p)).1=j:=by
 obtain⟨k,hk,e⟩:=Tj hs (Iw mask 13 (i,p) hi) hj
 refine⟨13+k,Qa,?_⟩
 rw[Iy]
 have hz:(fT mask 13 (i,p)).2=0:=by
  rw[Iv]
  exact Nat.div_eq_of_lt (Nat.lt_of_lt_of_le hp Qc)
 rw[show fT mask 13 (i,p)=((fT mask 13 (i,p)).1,0)from Prod.ext rfl hz,Ix]
 exact e
noncomputable def bH(t:SetTable):Nat->Probe->Probe
 |0,p=>p
 |k+1,p=>bH t k (t.advance p)
theorem mL(t:SetTable):∀a b p,bH t (a+b) p=bH t b (bH t a p)
 |0,b,p=>by rw[Nat.zero_add];rfl
 |a+1,b,p=>by rw[Nat.succ_add];exact mL t a b _
theorem j5(t:SetTable)(p:Probe):(t.advance p).dummy=p.dummy:=by
 unfold advance;split<;>rfl
noncomputable def tU(t:SetTable)(p:Probe):Prop:=p.j=p.i/\p.more=runEnd t.mask p.i-p.i
theorem AQ(mask i:Nat):runEnd mask i-i<=9:=by unfold runEnd;split<;>omega
theorem zK(t:SetTable):∀(k:Nat) (p:Probe),p.more=k->∃p',bH t (k+1) p=p'/\tU t p'/\(p'.i,p'.perturb)=leap t.mask p.i p.perturb
 |0,p,h=>by
  refine⟨_,rfl,?_⟩
  show tU t (t.advance p)/\((t.advance p).i,(t.advance p).perturb)=_
  unfold advance
  rw[if_neg Qa]
  exact⟨⟨rfl,rfl⟩,rfl⟩
 |k+1,p,h=>by
  have e:t.advance p={p with j:=p.j+1,more:=p.more-1}:=by unfold advance;rw[if_pos Qa]
  obtain⟨p',e1,a1,l1⟩:=zK t k (t.advance p) (by rw[e];show p.more-1=k;omega)
  refine⟨p',e1,a1,?_⟩
  rw[l1,e]
theorem Eo(t:SetTable):∀(r:Nat) (p:Probe),tU t p->∃c,c<=10*r/\tU t (bH t c p)/\((bH t c p).i,(bH t c p).perturb)=fT t.mask r (p.i,p.perturb)
 |0,p,h=>⟨0,Nat.le_refl _,h,rfl⟩
 |r+1,p,h=>by
  obtain⟨p',e1,a1,l1⟩:=zK t _ p rfl
  obtain⟨c,hc,a2,l2⟩:=Eo t r p' a1
  have hm:p.more<=9:=by rw[h.2];exact AQ _ _
  refine⟨p.more+1+c,Qa,?_⟩
  rw[mL,e1]
  refine⟨a2,l2.trans ?_⟩
  rw[l1];rfl
theorem Xp{t:SetTable}(hd:t.dummies= #[]){j:Nat}(h:j∉t.place.toList):t.slot j= .empty:=by
 unfold slot
 dsimp only
 rw[if_neg,if_neg]
 ·unfold has;rw[hd];simp
 ·intro e
  have e:=eq_of_beq e
  exact h (by rw[Array.mem_toList_iff];exact Array.mem_of_getElem? e)
theorem Xn{t:SetTable}(hd:t.dummies= #[]){j:Nat}:t.slot j≠ .dummy:=by
 unfold slot
 dsimp only
 split
 ·exact λ e=>nomatch e
 ·rw[if_neg]
  ·exact λ e=>nomatch e
  ·unfold has;rw[hd];simp
theorem Fq{t:SetTable}{j i:Nat}(h:t.slot j= .live i):i<t.place.size:=by
 unfold slot at h
 dsimp only at h
 split at h
 ·rename_i e
  injection h with h
  subst h
  have e:=eq_of_beq e
  exact(Array.getElem?_eq_some_iff.mp e).1
 ·split at h<;>exact nomatch h
noncomputable def nW(t:SetTable)(p:Probe)(k:Nat):Prop:=p.dummy=none/\t.slot (bH t k p).j= .empty
theorem Vz{t:SetTable}(hs:hV t.mask)(hd:t.dummies= #[])(hp:t.place.size<=t.mask)(h:Int):∃k<10*turns t.mask,nW t (t.probeStart h) k:=by
 obtain⟨j,hj,hn⟩:=Tl (t.mask+1) t.place.toList (by rw[Array.length_toList];omega)
 obtain⟨r,hr,e⟩:=Iu hs (i:=bits h%(t.mask+1)) (p:=bits h) (j:=j) (Nat.mod_lt _ (Nat.succ_pos _)) (Ot h) hj
 obtain⟨c,hc,a,l⟩:=Eo t r (t.probeStart h) ⟨rfl,rfl⟩
 refine⟨c,by unfold turns;omega,rfl,?_⟩
 have:(bH t c (t.probeStart h)).j=j:=by
  rw[a.1]
  exact(congrArg Prod.fst l).trans e
 rw[this]
 exact Xp hd hn
theorem nW.next{t:SetTable}{p:Probe}{k:Nat}(e:nW t p (k+1)):nW t (t.advance p) k:=⟨(j5 t p).trans e.1,e.2⟩
theorem Mr{mask:Nat}(owner:Array (Option Nat)){j:Nat}(hn:owner.getD j (some 0)=none):
  ∀(k fuel i p:Nat),k<fuel->(fT mask k (i,p)).1=j->∃j',layClean.free mask owner fuel i p=some j'/\owner.getD j' (some 0)=none
 |k,0,i,p,hk,_=>absurd hk (Nat.not_lt_zero _)
 | k,fuel+1,i,p,hk,e=>by
  unfold layClean.free
  cases hf:(List.range (runEnd mask i+1-i)).find? λ k=>(owner.getD (i+k) (some 0)).isNone with
  |some k'=>
   refine⟨i+k',rfl,?_⟩
   have:=List.find?_some hf
   simpa using this
  | none=>
   dsimp only
   cases k with
   |zero=>
    have e:i=j:=e
    subst e
    have h1:=List.find?_eq_none.mp hf 0 (List.mem_range.mpr (by unfold runEnd;split<;>omega))
    rw[Nat.add_zero,hn]at h1
    exact absurd rfl h1
   |succ k=>exact Mr owner hn k fuel _ _ (Nat.lt_of_succ_lt_succ hk) e
theorem Nx{f g:Nat->Bool}{j:Nat}(hf:f j=false)(hg:g j=true)(ho:∀i,i≠j->g i=f i):∀m,(List.range m).countP g=(List.range m).countP f+if j<m then 1 else 0
 |0=>rfl
 | m+1=>by
  rw[List.range_succ,List.countP_append,List.countP_append,Nx hf hg ho m,List.countP_singleton,List.countP_singleton]
  by_cases e:m=j
  ·subst e
   rw[hf,hg];simp
  ·rw[ho m e]
   by_cases hlt:j<m
   ·have h2:j<m+1:=Nat.lt_succ_of_lt hlt
    simp only[hlt,h2,if_true]
    omega
   ·have h2:¬j<m+1:=by omega
    simp only[hlt,h2,if_false]
    omega
structure jD(mask:Nat)(owner:Array (Option Nat))(k:Nat):Prop where
 size:owner.size=mask+1
 cnt:(List.range (mask+1)).countP (λ j=>(owner.getD j none).isSome)=k
 small:∀j v,owner.getD j none=some v->v<k
theorem Ld{owner:Array (Option Nat)}{j:Nat}(h:owner.getD j (some 0)=none):j<owner.size/\owner.getD j none=none:=by
 unfold Array.getD at h⊢
 split at h
 ·rename_i hlt
  rw[dif_pos hlt]
  exact⟨hlt,h⟩
 ·exact nomatch h
theorem Le{owner:Array (Option Nat)}{j:Nat}(hlt:j<owner.size)(h:owner.getD j none=none):owner.getD j (some 0)=none:=by
 unfold Array.getD at h⊢
 rw[dif_pos hlt]at h⊢
 exact h
theorem jD.put{mask:Nat}{owner:Array (Option Nat)}{k j:Nat}(o:jD mask owner k)(h:owner.getD j (some 0)=none):jD mask (owner.setIfInBounds j (some k)) (k+1):=by
 obtain⟨hlt,hn⟩:=Ld h
 have hself:(owner.setIfInBounds j (some k)).getD j none=some k:=by
  unfold Array.getD
  rw[dif_pos (by rw[Array.size_setIfInBounds];exact hlt)]
  simp
 have hoth:∀i,i≠j->(owner.setIfInBounds j (some k)).getD i none=owner.getD i none:=λ i hi=>by
  unfold Array.getD
  by_cases hl:i<owner.size
  ·rw[dif_pos (by rw[Array.size_setIfInBounds];exact hl),dif_pos hl]
   exact Array.getElem_setIfInBounds_ne hl (Ne.symm hi)
  ·rw[dif_neg (by rw[Array.size_setIfInBounds];exact hl),dif_neg hl]
 refine⟨by rw[Array.size_setIfInBounds,o.size],?_,λ i v e=>?_⟩
 ·rw[Nx (f:=λ i=>(owner.getD i none).isSome) (j:=j) (by rw[hn];rfl) (by rw[hself];rfl) (λ i hi=>by rw[hoth i hi]),o.cnt,if_pos (by rw[<-o.size];exact hlt)]
 ·by_cases hi:i=j
  ·subst hi
   rw[hself]at e
   injection e with e
   omega
  ·rw[hoth i hi]at e
   exact Nat.lt_succ_of_lt (o.small i v e)
theorem jD.free{mask:Nat}(hs:hV mask){owner:Array (Option Nat)}{k:Nat}(o:jD mask owner k)(hk:k<=mask)(h:Int):
  ∃j',layClean.free mask owner (turns mask) (bits h%(mask+1)) (bits h)=some j'/\owner.getD j' (some 0)=none:=by
 have:∃j<mask+1,owner.getD j none=none:=by
  refine Classical.byContradiction λ hc=>?_
  have:(List.range (mask+1)).countP (λ j=>(owner.getD j none).isSome)=(List.range (mask+1)).length:=List.countP_eq_length.mpr λ j hj=>by
   cases q:owner.getD j none with
   |some v=>rfl
   |none=>exact absurd ⟨j,List.mem_range.mp hj,q⟩ hc
  rw[o.cnt,List.length_range]at this
  omega
 obtain⟨j,hj,hn⟩:=this
 obtain⟨r,hr,e⟩:=Iu hs (i:=bits h%(mask+1)) (p:=bits h) (j:=j) (Nat.mod_lt _ (Nat.succ_pos _)) (Ot h) hj
 exact Mr owner (Le (by rw[o.size];exact hj) hn) r _ _ _ (by unfold turns;omega) e
noncomputable def Av(mask:Nat)(acc:Option (Array (Option Nat)×Nat))(h:Int):Option (Array (Option Nat)×Nat):=do
 let(owner,k)<-acc
 let j<-layClean.free mask owner (turns mask) (bits h%(mask+1)) (bits h)
 pure (owner.setIfInBounds j (some k),k+1)
theorem Kc{mask:Nat}(hs:hV mask):∀(l:List Int) (owner:Array (Option Nat)) (k:Nat),jD mask owner k->k+l.length<=mask+1->
  ∃owner',l.foldl (Av mask) (some (owner,k))=some (owner',k+l.length)/\jD mask owner' (k+l.length)
 |[],owner,k,o,_=>⟨owner,rfl,o⟩
 |h::r,owner,k,o,hl=>by
  rw[List.length_cons]at hl
  obtain⟨j,e,hn⟩:=o.free hs Qa h
  obtain⟨owner',e2,o2⟩:=Kc hs r _ (k+1) (o.put hn) Qa
  rw[List.length_cons,show k+(r.length+1)=k+1+r.length from Qa]
  refine⟨owner',?_,o2⟩
  rw[List.foldl_cons,<-e2]
  congr 1
  show Option.bind (layClean.free mask owner (turns mask) (bits h%(mask+1)) (bits h)) (λ j=>some (owner.setIfInBounds j (some k),k+1))=_
  rw[e];rfl
theorem Hs(mask:Nat):jD mask (Array.replicate (mask+1) none) 0:=by
 have hg:∀j,(Array.replicate (mask+1) (none:Option Nat)).getD j none=none:=λ j=>by
  unfold Array.getD;split<;>simp
 refine⟨Qb,?_,λ j v e=>?_⟩
 ·rw[List.countP_eq_zero]
  intro j _
  rw[hg];simp
 ·rw[hg]at e;exact nomatch e
theorem Ke(mask:Nat)(hashes:Array Int):layClean mask hashes=(hashes.toList.foldl (Av mask) (some (Array.replicate (mask+1) none,0))).map (·.1):=by
 unfold layClean
 rw[<-Array.foldl_toList]
 rfl
theorem LO{mask:Nat}(hs:hV mask)(hashes:Array Int)(hn:hashes.size<=mask)(finger moves:Nat)(led plain:Bool):
  ∃t order,SetTable.laid mask finger moves led plain hashes=some (t,order)/\t.mask=mask/\t.place.size=hashes.size/\t.dummies= #[]/\t.led=led/\t.plain=plain/\
   order.size=hashes.size/\∀i∈order.toList,i<hashes.size:=by
 obtain⟨owner,e,o⟩:=Kc hs hashes.toList _ 0 (Hs mask) (by rw[Array.length_toList];omega)
 rw[Nat.zero_add,Array.length_toList]at o
 have hlen:((List.range (mask+1)).filterMap λ j=>(owner.getD j none).map (j,·)).length=hashes.size:=by
  rw[<-o.cnt]
  generalize List.range (mask+1)=l
  induction l with
  |nil=>rfl
  |cons j r ih=>
   rw[List.filterMap_cons,List.countP_cons]
   cases q:owner.getD j none with
   |none=>simpa using ih
   |some v=>simpa using ih
 refine⟨{mask,place:=(((List.range (mask+1)).filterMap λ j=>(owner.getD j none).map (j,·)).map (·.1)).toArray,dummies:= #[],finger,led,moves,plain},
  (((List.range (mask+1)).filterMap λ j=>(owner.getD j none).map (j,·)).map (·.2)).toArray,?_,rfl,?_,rfl,rfl,rfl,?_,?_⟩
 ·unfold SetTable.laid
  rw[Ke,e]
  rfl
 ·simpa using hlen
 ·simpa using hlen
 ·intro i hi
  rw[List.toList_toArray]at hi
  obtain⟨x,hx,rfl⟩:=List.mem_map.mp hi
  obtain⟨j,_,e⟩:=List.mem_filterMap.mp hx
  obtain⟨v,e1,e2⟩:=Option.map_eq_some_iff.mp e
  subst e2
  exact o.small j v e1
theorem Tk{mask n:Nat}(hs:hV mask)(h1:n*5<mask*3)(h2:(n+1)*5≥mask*3)(h3:n<200):hV (sizeAbove (grown (n+1))-1)/\(n+1)*5<(sizeAbove (grown (n+1))-1)*3/\sizeAbove (grown (n+1))<=512:=by
 rcases hs with rfl|rfl|rfl|rfl
 ·obtain rfl:n=4:=by omega
  have:sizeAbove (grown 5)=32:=by decide+kernel
  rw[this];exact⟨.inr (.inl rfl),Qa,Qa⟩
 ·obtain rfl:n=18:=by omega
  have:sizeAbove (grown 19)=128:=by decide+kernel
  rw[this];exact⟨.inr (.inr (.inl rfl)),Qa,Qa⟩
 ·obtain rfl:n=76:=by omega
  have:sizeAbove (grown 77)=512:=by decide+kernel
  rw[this];exact⟨.inr (.inr (.inr rfl)),Qa,Qa⟩
 ·omega
end L2
namespace L2
open PySem PyProof.Rows
structure dC(κ:SortKind)(a₀:Array Keyed)(st:SortSt):Prop where
 perm:(arrOf st).Perm a₀
 kind:kindOf st=κ
 failed:failedOf st=none
theorem dC.size{κ:SortKind}{a₀:Array Keyed}{st:SortSt}(h:dC κ a₀ st):(arrOf st).size=a₀.size:=h.perm.size_eq
theorem dC.set{κ:SortKind}{a₀:Array Keyed}{st:SortSt}(h:dC κ a₀ st){xs:Array Keyed}(hp:xs.Perm (arrOf st)):dC κ a₀ (setArr st xs):=⟨hp.trans h.perm,h.kind,h.failed⟩
theorem dC.at{κ:SortKind}{a₀:Array Keyed}{st:SortSt}(h:dC κ a₀ st){i:Nat}(hi:i<a₀.size):∃p,(arrOf st)[i]? =some p/\p∈a₀:=by
 have hi':i<(arrOf st).size:=h.size▸hi
 exact⟨(arrOf st)[i],Array.getElem?_eq_getElem hi',h.perm.mem_iff.mp (Array.getElem_mem hi')⟩
noncomputable def sH:Bool->Keyed->Array Keyed->Nat->Nat->Nat->StateT SortSt Sem (Option Nat):=sortPriv%PySem.Builtin.gallop
noncomputable def Oy(left:Bool)(key:Keyed)(arr:Array Keyed)(base i:Nat):StateT SortSt Sem (Option Bool):=
 elem' arr (base+i)>>=λ mid=>if left=true then lt' mid key else lt' key mid>>=λ told=>pure (told.map (!·))
section
variable{prog:Program}{w:World}{A:Around}{E:Qd}{s:Shared}{a₀:Array Keyed}{κ:SortKind}
end
noncomputable abbrev fH(st:SortSt)(g:Nat):SortSt:=SortSt.mk' (kindOf st) (arrOf st) (pendingOf st) g (failedOf st)
noncomputable def Ii:Array Keyed->Array Keyed->StateT SortSt Sem (Array Keyed):=sortPriv%PySem.Builtin.mergeLo
noncomputable def Ij:Array Keyed->Array Keyed->StateT SortSt Sem (Array Keyed):=sortPriv%PySem.Builtin.mergeHi
section
variable{prog:Program}{w:World}{A:Around}{E:Qd}{s:Shared}{a₀:Array Keyed}{κ:SortKind}
theorem eM{st:SortSt}{arr:Array Keyed}{i:Nat}{Q:Keyed->SortSt->Prop}(hi:i<arr.size)(h:∀p,arr[i]? =some p->p∈arr->Q p st):wpS (model prog w) A E s (elem' arr i) Q st:=by
 rw[elem'_eq,Array.getElem?_eq_getElem hi]
 exact wpS_pure (h _ (Array.getElem?_eq_getElem hi) (Array.getElem_mem hi))
noncomputable def cX(a b out:Array Keyed)(ia ib:Nat):Prop:=out.toList.Perm (a.toList.take ia++b.toList.take ib)
theorem cX.addB{a b out:Array Keyed}{ia ib k:Nat}{y:List Keyed}(h:cX a b out ia ib)(e:b.toList.take (ib+k)=b.toList.take ib++y):(out.toList++y).Perm (a.toList.take ia++b.toList.take (ib+k)):=by
 rw[e,<-List.append_assoc]
 exact List.Perm.append_right _ h
theorem cX.addA{a b out:Array Keyed}{ia ib k:Nat}{y:List Keyed}(h:cX a b out ia ib)(e:a.toList.take (ia+k)=a.toList.take ia++y):(out.toList++y).Perm (a.toList.take (ia+k)++b.toList.take ib):=by
 rw[e,List.append_assoc]
 refine(List.Perm.append_right _ h).trans ?_
 rw[List.append_assoc]
 exact List.Perm.append_left _ List.perm_append_comm
theorem yH{a:Array Keyed}{i:Nat}{x:Keyed}(e:a[i]? =some x):a.toList.take (i+1)=a.toList.take i++[x]:=by
 rw[List.take_add_one]
 have:a.toList[i]? =some x:=by rw[Array.getElem?_toList];exact e
 rw[this]
 rfl
theorem yI(a:Array Keyed)(i k:Nat):a.toList.take (i+k)=a.toList.take i++(a.extract i (i+k)).toList:=by
 rw[Array.toList_extract,List.take_add,List.extract_eq_drop_take]
 congr 1
 rw[Nat.add_sub_cancel_left]
theorem cX.pushB{a b out:Array Keyed}{ia ib:Nat}{x:Keyed}(h:cX a b out ia ib)(e:b[ib]? =some x):cX a b (out.push x) ia (ib+1):=by
 unfold cX
 rw[Array.toList_push]
 exact h.addB (yH e)
theorem cX.pushA{a b out:Array Keyed}{ia ib:Nat}{x:Keyed}(h:cX a b out ia ib)(e:a[ia]? =some x):cX a b (out.push x) (ia+1) ib:=by
 unfold cX
 rw[Array.toList_push]
 exact h.addA (yH e)
theorem cX.extB{a b out:Array Keyed}{ia ib:Nat}(k:Nat)(h:cX a b out ia ib):cX a b (out++b.extract ib (ib+k)) ia (ib+k):=by
 unfold cX
 rw[Array.toList_append]
 exact h.addB (yI b ib k)
theorem cX.extA{a b out:Array Keyed}{ia ib:Nat}(k:Nat)(h:cX a b out ia ib):cX a b (out++a.extract ia (ia+k)) (ia+k) ib:=by
 unfold cX
 rw[Array.toList_append]
 exact h.addA (yI a ia k)
theorem cX.all{a b out:Array Keyed}(h:cX a b out a.size b.size):out.Perm (a++b):=by
 unfold cX at h
 rw[List.take_of_length_le Qb,List.take_of_length_le Qb]at h
 rw[Array.perm_iff_toList_perm,Array.toList_append]
 exact h
theorem cX.done{a b out:Array Keyed}{ia ib:Nat}(h:cX a b out ia ib)(ha:ia<=a.size)(hb:ib<=b.size):(out++a.extract ia a.size++b.extract ib b.size).Perm (a++b):=by
 have h1:=h.extA (a.size-ia)
 rw[Nat.add_sub_cancel' ha]at h1
 have h2:=h1.extB (b.size-ib)
 rw[Nat.add_sub_cancel' hb]at h2
 exact h2.all
theorem cX.last{a b out:Array Keyed}{ia ib:Nat}(h:cX a b out ia ib)(ha:ia<=a.size)(hb:ib<=b.size):(out++b.extract ib b.size++a.extract ia a.size).Perm (a++b):=by
 have h1:=h.extB (b.size-ib)
 rw[Nat.add_sub_cancel' hb]at h1
 have h2:=h1.extA (a.size-ia)
 rw[Nat.add_sub_cancel' ha]at h2
 exact h2.all
end
section
variable{prog:Program}{w:World}{A:Around}{E:Qd}{s:Shared}{a₀:Array Keyed}{κ:SortKind}
noncomputable def dH(a b out:Array Keyed)(na nb:Nat):Prop:=out.toList.Perm (a.toList.drop na++b.toList.drop nb)
theorem dH.addA{a b out:Array Keyed}{na nb m:Nat}{y z:List Keyed}(h:dH a b out na nb)(e:a.toList.drop m=y++a.toList.drop na)(hz:z.Perm y):(out.toList++z).Perm (a.toList.drop m++b.toList.drop nb):=by
 rw[e,List.append_assoc]
 exact List.perm_append_comm.trans (hz.append h)
theorem dH.addB{a b out:Array Keyed}{na nb m:Nat}{y z:List Keyed}(h:dH a b out na nb)(e:b.toList.drop m=y++b.toList.drop nb)(hz:z.Perm y):(out.toList++z).Perm (a.toList.drop na++b.toList.drop m):=by
 rw[e]
 refine List.perm_append_comm.trans ((hz.append h).trans ?_)
 rw[<-List.append_assoc,<-List.append_assoc]
 exact List.Perm.append_right _ List.perm_append_comm
theorem Cf{a:Array Keyed}{n:Nat}{x:Keyed}(h1:1<=n)(e:a[n-1]? =some x):a.toList.drop (n-1)=[x]++a.toList.drop n:=by
 have h2:a.toList[n-1]? =some x:=by rw[Array.getElem?_toList];exact e
 obtain⟨hl,hx⟩:=List.getElem?_eq_some_iff.mp h2
 rw[List.drop_eq_getElem_cons hl,hx,Nat.sub_add_cancel h1]
 rfl
theorem Cg(a:Array Keyed){m n:Nat}(h:m<=n):a.toList.drop m=(a.extract m n).toList++a.toList.drop n:=by
 rw[Array.toList_extract,List.extract_eq_drop_take]
 conv=>lhs;rw[<-List.take_append_drop (n-m) (a.toList.drop m),List.drop_drop,Nat.add_sub_cancel' h]
theorem dH.pushA{a b out:Array Keyed}{na nb:Nat}{x:Keyed}(h:dH a b out na nb)(h1:1<=na)(e:a[na-1]? =some x):dH a b (out.push x) (na-1) nb:=by
 unfold dH
 rw[Array.toList_push]
 exact h.addA (Cf h1 e) (List.Perm.refl _)
theorem dH.pushB{a b out:Array Keyed}{na nb:Nat}{x:Keyed}(h:dH a b out na nb)(h1:1<=nb)(e:b[nb-1]? =some x):dH a b (out.push x) na (nb-1):=by
 unfold dH
 rw[Array.toList_push]
 exact h.addB (Cf h1 e) (List.Perm.refl _)
theorem dH.extA{a b out:Array Keyed}{na nb:Nat}(m:Nat)(h:dH a b out na nb)(hm:m<=na):dH a b (out++(a.extract m na).reverse) m nb:=by
 unfold dH
 rw[Array.toList_append,Array.toList_reverse]
 exact h.addA (Cg a hm) (List.reverse_perm _)
theorem dH.extB{a b out:Array Keyed}{na nb:Nat}(m:Nat)(h:dH a b out na nb)(hm:m<=nb):dH a b (out++(b.extract m nb).reverse) na m:=by
 unfold dH
 rw[Array.toList_append,Array.toList_reverse]
 exact h.addB (Cg b hm) (List.reverse_perm _)
theorem ext0(a:Array Keyed)(n:Nat):(a.extract 0 n).toList++a.toList.drop n=a.toList:=by
 have:=Cg a (Nat.zero_le n)
 rw[List.drop_zero]at this
 exact this.symm
theorem dH.done{a b out:Array Keyed}{na nb:Nat}(h:dH a b out na nb):(a.extract 0 na++b.extract 0 nb++out.reverse).Perm (a++b):=by
 rw[Array.perm_iff_toList_perm,Array.toList_append,Array.toList_append,Array.toList_append,Array.toList_reverse]
 refine(List.Perm.append_left _ ((List.reverse_perm _).trans h)).trans ?_
 conv=>rhs;rw[<-ext0 a na,<-ext0 b nb]
 simp only[List.append_assoc]
 refine List.Perm.append_left _ ?_
 rw[<-List.append_assoc,<-List.append_assoc]
 exact List.Perm.append_right _ List.perm_append_comm
theorem dH.first{a b out:Array Keyed}{na nb:Nat}(h:dH a b out na nb):(b.extract 0 nb++a.extract 0 na++out.reverse).Perm (a++b):=by
 refine Array.Perm.trans ?_ h.done
 rw[Array.perm_iff_toList_perm,Array.toList_append,Array.toList_append,Array.toList_append,Array.toList_append]
 exact List.Perm.append_right _ List.perm_append_comm
end
noncomputable abbrev Ga(st:SortSt)(p:Array (Nat×Nat×Nat)):SortSt:=SortSt.mk' (kindOf st) (arrOf st) p (gallopOf st) (failedOf st)
theorem Bu{sa:Nat}:∀(l:List Keyed) (n:Nat) (arr:Array Keyed),sa+n+l.length<=arr.size->((l.zipIdx n).foldl (λ (a:Array Keyed) (x:Keyed×Nat)=>a.setIfInBounds (sa+x.2) x.1) arr).toList=arr.toList.take (sa+n)++l++arr.toList.drop (sa+n+l.length)
 |[],n,arr,_=>by simp
 | x::l,n,arr,h=>by
  rw[List.zipIdx_cons,List.foldl_cons]
  have hl:sa+n+(l.length+1)<=arr.size:=h
  have h1:sa+n<arr.toList.length:=by rw[Array.length_toList];omega
  rw[Bu l (n+1) (arr.setIfInBounds (sa+n) x) (by rw[Array.size_setIfInBounds];omega)]
  rw[Array.toList_setIfInBounds]
  have e1:(arr.toList.set (sa+n) x).take (sa+(n+1))=arr.toList.take (sa+n)++[x]:=by
   rw[show sa+(n+1)=(sa+n)+1 from Qa,List.take_add_one,List.take_set_of_le (Nat.le_refl _),List.getElem?_set_self h1]
   rfl
  have e2:(arr.toList.set (sa+n) x).drop (sa+(n+1)+l.length)=arr.toList.drop (sa+n+(l.length+1)):=by
   rw[List.drop_set_of_lt Qa]
   congr 1
   omega
  rw[e1,e2]
  simp
theorem Rn{arr m:Array Keyed}{sa k:Nat}(hs:sa+k<=arr.size)(hm:m.Perm (arr.extract sa (sa+k))):(m.toList.zipIdx.foldl (λ (a:Array Keyed) (x:Keyed×Nat)=>a.setIfInBounds (sa+x.2) x.1) arr).Perm arr:=by
 have hl:m.toList.length=k:=by
  have:=hm.size_eq
  rw[Array.length_toList,this,Array.size_extract]
  omega
 rw[Array.perm_iff_toList_perm,Bu m.toList 0 arr Qa]
 have e:arr.toList=arr.toList.take sa++(arr.extract sa (sa+k)).toList++arr.toList.drop (sa+k):=by
  rw[<-yI,List.take_append_drop]
 conv=>rhs;rw[e]
 rw[hl,Nat.add_zero]
 exact List.Perm.append_right _ (List.Perm.append_left _ (Array.perm_iff_toList_perm.mp hm))
section
variable{prog:Program}{w:World}{A:Around}{E:Qd}{s:Shared}{a₀:Array Keyed}{κ:SortKind}
theorem Rq{st st':SortSt}{Q:PUnit->SortSt->Prop}(h:Q ⟨⟩ st'):wpS (model prog w) A E s (set st':StateT SortSt Sem PUnit) Q st:=by
 unfold wpS
 rw[StateT.run_set]
 exact wpAny_pure ⟨rfl,h⟩
theorem wS{arr:Array Keyed}{i j:Nat}{p:Keyed}(h:p∈arr.extract i j):p∈arr:=by
 rw[<-Array.mem_toList_iff,Array.toList_extract]at h
 rw[<-Array.mem_toList_iff]
 rw[List.extract_eq_drop_take]at h
 exact List.mem_of_mem_drop (List.mem_of_mem_take h)
end
noncomputable def eV(κ:SortKind)(a₀:Array Keyed)(p:Array (Nat×Nat×Nat))(st:SortSt):Prop:=dC κ a₀ st/\pendingOf st=p
section
variable{prog:Program}{w:World}{A:Around}{E:Qd}{s:Shared}{a₀:Array Keyed}{κ:SortKind}{pd:Array (Nat×Nat×Nat)}
theorem eV.set{st:SortSt}(h:eV κ a₀ pd st){xs:Array Keyed}(hp:xs.Perm (arrOf st)):eV κ a₀ pd (setArr st xs):=⟨h.1.set hp,h.2⟩
end
theorem MH{p:Prop}[Decidable p]{a:Nat}:(if p then a-1 else a)<=a:=by split<;>omega
section
variable{prog:Program}{w:World}{A:Around}{E:Qd}{s:Shared}{a₀:Array Keyed}{κ:SortKind}
end
structure SOrd where
 blt:Keyed->Keyed->Bool
 irrefl:∀a,blt a a=false
 trans:∀a b c,blt a b=true->blt b c=true->blt a c=true
 weak:∀a b c,blt a c=true->blt a b=true\/blt b c=true
namespace SOrd
variable{O:SOrd}{a b c:Keyed}
noncomputable def le(O:SOrd)(a b:Keyed):Prop:=O.blt b a=false
theorem le_refl(a:Keyed):O.le a a:=O.irrefl a
theorem le_of_lt(h:O.blt a b=true):O.le a b:=by
 unfold le
 cases q:O.blt b a with
 |false=>rfl
 |true=>
  have:=O.trans a b a h q
  rw[O.irrefl]at this
  exact nomatch this
theorem le_trans(h1:O.le a b)(h2:O.le b c):O.le a c:=by
 unfold le at*
 cases q:O.blt c a with
 |false=>rfl
 |true=>
  rcases O.weak c b a q with z|z
  ·rw[h2]at z;exact nomatch z
  ·rw[h1]at z;exact nomatch z
theorem lt_le(h1:O.blt a b=true)(h2:O.le b c):O.blt a c=true:=by
 rcases O.weak a c b h1 with z|z
 ·exact z
 ·unfold le at h2;rw[h2]at z;exact nomatch z
end SOrd
noncomputable def aL(xs:Array Keyed)(i:Nat):Keyed:=(xs[i]?).getD (.none,.none)
theorem fI{xs ys:Array Keyed}{i j:Nat}(h:xs[i]? =ys[j]?):aL xs i=aL ys j:=by unfold aL;rw[h]
noncomputable def bB(O:SOrd)(xs:Array Keyed)(lo hi:Nat):Prop:=∀i j,lo<=i->i<=j->j<hi->O.le (aL xs i) (aL xs j)
section
variable{prog:Program}{w:World}{A:Around}{E:Qd}{s:Shared}{a₀:Array Keyed}{κ:SortKind}{pd:Array (Nat×Nat×Nat)}{O:SOrd}
noncomputable def fJ(prog:Program)(w:World)(A:Around)(s:Shared)(κ:SortKind)(a₀:Array Keyed)(O:SOrd):Prop:=
 ∀(E:Qd) (p q:Keyed) (Q:Bool->Shared->Prop),p∈a₀->q∈a₀->Q (O.blt p q) s->wpAny (model prog w) A (keyLt' κ p.1 q.1) Q E s
theorem qG(C:fJ prog w A s κ a₀ O){st:SortSt}(hk:kindOf st=κ){p q:Keyed}(hp:p∈a₀)(hq:q∈a₀){Q:Option Bool->SortSt->Prop}(h:Q (some (O.blt p q)) st):wpS (model prog w) A E s (lt' p q) Q st:=by
 rw[lt'_eq]
 refine wpS_bind (wpS_get ?_)
 rw[hk]
 exact wpS_bind (wpS_lift (wpAny_attempt (C _ p q _ hp hq ⟨rfl,wpS_pure h⟩)))
theorem mU(C:fJ prog w A s κ a₀ O){st:SortSt}(B:dC κ a₀ st){i j:Nat}(hi:i<a₀.size)(hj:j<a₀.size){Q:Option Bool->SortSt->Prop}(h:Q (some (O.blt (aL (arrOf st) i) (aL (arrOf st) j))) st):wpS (model prog w) A E s (ltAt' i j) Q st:=by
 obtain⟨p,ep,hp⟩:=B.at hi
 obtain⟨q,eq,hq⟩:=B.at hj
 have e1:aL (arrOf st) i=p:=by unfold aL;rw[ep];rfl
 have e2:aL (arrOf st) j=q:=by unfold aL;rw[eq];rfl
 rw[e1,e2]at h
 rw[ltAt'_eq]
 refine wpS_bind (wpS_get ?_)
 change wpS (model prog w) A E s (elem' (arrOf st) i>>=λ x=>elem' (arrOf st) j>>=λ y=>lt' x y) Q st
 rw[elem'_eq,elem'_eq,ep,eq]
 exact wpS_bind (wpS_pure (wpS_bind (wpS_pure (qG C B.kind hp hq h))))
theorem Sa(C:fJ prog w A s κ a₀ O){st:SortSt}(B:eV κ a₀ pd st){lo n ok:Nat}(hn:lo+n<=a₀.size)(hok:ok<=n)(hs:bB O (arrOf st) lo (lo+ok)){Q:Bool->SortSt->Prop}
  (h:∀st',eV κ a₀ pd st'->bB O (arrOf st') lo (lo+n)->(∀i,i<lo\/lo+n<=i->(arrOf st')[i]? =(arrOf st)[i]?)->Q true st'):wpS (model prog w) A E s (binarySort' lo n ok) Q st:=by
 rw[binarySort'_eq]
 refine wpS_bind (wpS_mono (wpS_forRange (I:=λ k c st'=>c=(none,())/\eV κ a₀ pd st'/\bB O (arrOf st') lo (lo+min k n)/\∀i,i<lo\/lo+n<=i->(arrOf st')[i]? =(arrOf st)[i]?)
  (Q:=λ c st'=>c=(none,())/\eV κ a₀ pd st'/\bB O (arrOf st') lo (lo+n)/\∀i,i<lo\/lo+n<=i->(arrOf st')[i]? =(arrOf st)[i]?) ?_ ?_ ⟨rfl,B,λ i j a b c=>?_,λ _ _=>rfl⟩) ?_)
 ·rintro k c st1 k1 kn ⟨rfl,B1,a1,o1⟩
  rw[Nat.min_eq_left (Nat.le_of_lt kn)]at a1
  have hk:lo+k<a₀.size:=by omega
  try dsimp only
  refine wpS_bind (wpS_mono (wpS_forRange (I:=λ x c st2=>st2=st1/\∃l r,c=(none,l,r)/\l<=r/\r<=k/\r-l<=k-x/\(∀i,i<l->O.le (aL (arrOf st1) (lo+i)) (aL (arrOf st1) (lo+k)))/\∀i,r<=i->i<k->O.blt (aL (arrOf st1) (lo+k)) (aL (arrOf st1) (lo+i))=true)
   (Q:=λ c st2=>st2=st1/\∃l r,c=(none,l,r)/\l<=k/\(∀i,i<l->O.le (aL (arrOf st1) (lo+i)) (aL (arrOf st1) (lo+k)))/\∀i,l<=i->i<k->O.blt (aL (arrOf st1) (lo+k)) (aL (arrOf st1) (lo+i))=true) ?_ ?_
   ⟨rfl,0,k,rfl,Nat.zero_le _,Nat.le_refl _,Nat.le_refl _,λ i z=>absurd z (Nat.not_lt_zero _),λ i z1 z2=>absurd z2 Qa⟩) ?_)
  ·rintro x c st2 _ xk ⟨rfl,l,r,rfl,lr,rk,m,below,above⟩
   try dsimp only
   by_cases d:l≥r
   ·rw[if_pos d]
    obtain rfl:l=r:=by omega
    exact wpS_pure ⟨rfl,l,l,rfl,rk,below,above⟩
   ·rw[if_neg d]
    refine wpS_bind (mU C B1.1 hk Qa ?_)
    cases q:O.blt (aL (arrOf st2) (lo+k)) (aL (arrOf st2) (lo+(l+r)/2))with
    |true=>exact wpS_pure ⟨rfl,l,(l+r)/2,rfl,Qa,Qa,Qa,below,λ i z1 z2=>SOrd.lt_le q (a1 _ _ Qa Qa Qa)⟩
    |false=>exact wpS_pure ⟨rfl,(l+r)/2+1,r,rfl,Qa,Qa,Qa,λ i z=>SOrd.le_trans (a1 _ _ Qa Qa Qa) q,above⟩
  ·rintro c st2 ⟨rfl,l,r,rfl,lr,rk,m,below,above⟩
   obtain rfl:l=r:=by omega
   exact⟨rfl,l,l,rfl,rk,below,above⟩
  ·rintro c st2 ⟨rfl,l,r,rfl,lk,below,above⟩
   have hks:lo+k<(arrOf st2).size:=by rw[B1.1.size];exact hk
   have g:=getElem?_bubble hks (k-l) Qa
   have e0:lo+k-(lo+l)=k-l:=by omega
   refine wpS_bind ?_
   rw[moveDown'_eq,e0]
   refine wpS_modify (wpS_pure ⟨rfl,B1.set (bubble_perm _ _ _),λ i j z1 z2 z3=>?_,λ i z=>?_⟩)
   ·rw [Nat.min_eq_left Qa]at z3
    have gi:=g i
    have gj:=g j
    rw[show lo+k-(k-l)=lo+l from Qa]at gi gj
    show O.le (aL (bubble (arrOf st2) (lo+k) (k-l)) i) (aL (bubble (arrOf st2) (lo+k) (k-l)) j)
    have bl:∀i,lo<=i->i<lo+l->O.le (aL (arrOf st2) i) (aL (arrOf st2) (lo+k)):=λ i y1 y2=>by
     have:=below (i-lo) Qa
     rwa[show lo+(i-lo)=i from Qa]at this
    have ab:∀i,lo+l<=i->i<lo+k->O.blt (aL (arrOf st2) (lo+k)) (aL (arrOf st2) i)=true:=λ i y1 y2=>by
     have:=above (i-lo) Qa Qa
     rwa[show lo+(i-lo)=i from Qa]at this
    by_cases i1:i=lo+l
    ·rw[if_pos i1]at gi
     rw[fI gi]
     by_cases j1:j=lo+l
     ·rw[if_pos j1]at gj
      rw[fI gj]
      exact SOrd.le_refl _
     ·rw[if_neg j1,if_pos ⟨Qa,Qa⟩]at gj
      rw[fI gj]
      exact SOrd.le_of_lt (ab _ Qa Qa)
    ·by_cases i2:lo+l<i
     ·rw[if_neg i1,if_pos ⟨i2,Qa⟩]at gi
      rw[if_neg Qa,if_pos ⟨Qa,Qa⟩]at gj
      rw[fI gi,fI gj]
      exact a1 _ _ Qa Qa Qa
     ·rw[if_neg i1,if_neg Qa]at gi
      rw[fI gi]
      by_cases j1:j=lo+l
      ·rw[if_pos j1]at gj
       rw[fI gj]
       exact bl _ Qa Qa
      ·by_cases j2:lo+l<j
       ·rw[if_neg j1,if_pos ⟨j2,Qa⟩]at gj
        rw[fI gj]
        exact a1 _ _ Qa Qa Qa
       ·rw[if_neg j1,if_neg Qa]at gj
        rw[fI gj]
        exact a1 _ _ Qa Qa Qa
   ·have gi:=g i
    rw[if_neg Qa,if_neg Qa]at gi
    exact gi.trans (o1 i z)
 ·rintro c st1 ⟨rfl,B1,a1,o1⟩
  rw[show min (max (max ok 1) n) n=n from Qa]at a1
  exact⟨rfl,B1,a1,o1⟩
 ·by_cases z:ok=0
  ·obtain rfl:i=j:=by omega
   exact SOrd.le_refl _
  ·exact hs i j a b Qa
 ·rintro c st1 ⟨rfl,B1,a1,o1⟩
  exact wpS_pure (h st1 B1 a1 o1)
end
noncomputable def fY(O:SOrd)(xs:Array Keyed)(lo hi:Nat):Prop:=∀i j,lo<=i->i<=j->j<hi->O.le (aL xs j) (aL xs i)
noncomputable def xX(O:SOrd)(xs:Array Keyed)(lo hi:Nat):Prop:=∀i j,lo<=i->i<hi->lo<=j->j<hi->O.le (aL xs i) (aL xs j)
theorem fY.sim{O:SOrd}{xs ys:Array Keyed}{lo hi:Nat}(d:fY O xs lo hi)(e:∀k,lo<=k->k<hi->O.le (aL ys k) (aL xs k)/\O.le (aL xs k) (aL ys k)):fY O ys lo hi:=λ i j a b c=>
 SOrd.le_trans (SOrd.le_trans (e j Qa c).1 (d i j a b c)) (e i a Qa).2
theorem Ak{O:SOrd}{xs:Array Keyed}{a b:Nat}(hb:b<=xs.size)(e:xX O xs a b)(k:Nat):O.le (aL (mirror xs a b ((b-a)/2)) k) (aL xs k)/\O.le (aL xs k) (aL (mirror xs a b ((b-a)/2)) k):=by
 have g:=getElem?_mirror_all (i:=a) hb k
 by_cases h:a<=k/\k<b
 ·rw[if_pos h]at g
  rw[fI g]
  exact⟨e _ _ Qa Qa h.1 h.2,e _ _ h.1 h.2 Qa Qa⟩
 ·rw[if_neg h]at g
  rw[fI g]
  exact⟨SOrd.le_refl _,SOrd.le_refl _⟩
theorem KL{O:SOrd}{xs:Array Keyed}{a b:Nat}(hb:b<=xs.size)(d:fY O xs a b):bB O (mirror xs a b ((b-a)/2)) a b:=λ i j p q r=>by
 have gi:=getElem?_mirror_all (i:=a) hb i
 have gj:=getElem?_mirror_all (i:=a) hb j
 rw[if_pos ⟨p,Qa⟩]at gi
 rw[if_pos ⟨Qa,r⟩]at gj
 rw[fI gi,fI gj]
 exact d _ _ Qa Qa Qa
theorem bB.snoc{O:SOrd}{xs:Array Keyed}{lo n:Nat}(h:bB O xs lo (lo+n))(h1:1<=n)(e:O.le (aL xs (lo+n-1)) (aL xs (lo+n))):bB O xs lo (lo+(n+1)):=λ i j a b c=>by
 by_cases q:j<lo+n
 ·exact h i j a b q
 ·obtain rfl:j=lo+n:=by omega
  by_cases z:i=lo+n
  ·rw[z];exact SOrd.le_refl _
  ·exact SOrd.le_trans (h i (lo+n-1) a Qa Qa) e
theorem fY.snoc{O:SOrd}{xs:Array Keyed}{lo n:Nat}(h:fY O xs lo (lo+n))(h1:1<=n)(e:O.le (aL xs (lo+n)) (aL xs (lo+n-1))):fY O xs lo (lo+(n+1)):=λ i j a b c=>by
 by_cases q:j<lo+n
 ·exact h i j a b q
 ·obtain rfl:j=lo+n:=by omega
  by_cases z:i=lo+n
  ·rw[z];exact SOrd.le_refl _
  ·exact SOrd.le_trans e (h i (lo+n-1) a Qa Qa)
section
variable{prog:Program}{w:World}{A:Around}{E:Qd}{s:Shared}{a₀:Array Keyed}{κ:SortKind}{pd:Array (Nat×Nat×Nat)}{O:SOrd}
theorem qF{st:SortSt}{i j:Nat}{Q:Unit->SortSt->Prop}(B:eV κ a₀ pd st)(h:∀st',eV κ a₀ pd st'->arrOf st'=mirror (arrOf st) i j ((j-i)/2)->Q () st'):wpS (model prog w) A E s (reverseSlice' i j) Q st:=wpS_reverse (h _ (B.set (mirror_perm _ _ _ _)) rfl)
noncomputable def gU(lo n:Nat)(xs ys:Array Keyed):Prop:=∀i,i<lo\/lo+n<=i->ys[i]? =xs[i]?
theorem gU.mirror{lo n a b:Nat}{xs ys:Array Keyed}(h:gU lo n xs ys)(ha:lo<=a)(hb:b<=lo+n)(hs:b<=ys.size):gU lo n xs (mirror ys a b ((b-a)/2)):=λ i z=>by
 have g:=getElem?_mirror_all (i:=a) hs i
 rw[if_neg Qa]at g
 exact g.trans (h i z)
theorem Ry(C:fJ prog w A s κ a₀ O){st:SortSt}(B:eV κ a₀ pd st){lo nrem:Nat}(h1:1<=nrem)(hn:lo+nrem<=a₀.size){Q:Option Nat->SortSt->Prop}
  (h:∀n st',eV κ a₀ pd st'->1<=n->n<=nrem->bB O (arrOf st') lo (lo+n)->gU lo nrem (arrOf st) (arrOf st')->Q (some n) st'):wpS (model prog w) A E s (countRun' lo nrem) Q st:=by
 rw[countRun'_eq]
 have asc1:∀xs,bB O xs lo (lo+1):=λ xs i j a b c=>by
  obtain rfl:i=j:=by omega
  exact SOrd.le_refl _
 have last:∀(n:Nat) (st1:SortSt),eV κ a₀ pd st1->1<=n->n<=nrem->bB O (arrOf st1) lo (lo+n)->gU lo nrem (arrOf st) (arrOf st1)->
   ∀(P:Option (Option Nat)×Nat->SortSt->Prop),(∀m st2,eV κ a₀ pd st2->1<=m->m<=nrem->bB O (arrOf st2) lo (lo+m)->gU lo nrem (arrOf st) (arrOf st2)->(m<nrem->O.blt (aL (arrOf st2) (lo+m)) (aL (arrOf st2) (lo+m-1))=true)->P (none,m) st2)->
   ∀(f:Nat->Option (Option Nat)×Nat->StateT SortSt Sem (ForInStep (Option (Option Nat)×Nat))),
   (∀i m st2 (R:ForInStep (Option (Option Nat)×Nat)->SortSt->Prop),eV κ a₀ pd st2->1<=m->m<nrem->(O.blt (aL (arrOf st2) (lo+m)) (aL (arrOf st2) (lo+m-1))=true->R (.done (none,m)) st2)->(O.blt (aL (arrOf st2) (lo+m)) (aL (arrOf st2) (lo+m-1))=false->R (.yield (none,m+1)) st2)->wpS (model prog w) A E s (f i (none,m)) R st2)->
   wpS (model prog w) A E s (forIn [n:nrem] (none,n) f) P st1:=by
  intro n st1 B1 n1 n2 a1 o1 P hP f hf
  refine wpS_forRange (I:=λ i c st2=>c=(none,i)/\1<=i/\i<=nrem/\eV κ a₀ pd st2/\bB O (arrOf st2) lo (lo+i)/\gU lo nrem (arrOf st) (arrOf st2)) ?_ ?_ ⟨rfl,n1,n2,B1,a1,o1⟩
  ·rintro i c st2 _ hi ⟨rfl,i1,i2,B2,a2,o2⟩
   refine hf i i st2 _ B2 i1 hi (λ q=>hP i st2 B2 i1 (Nat.le_of_lt hi) a2 o2 λ _=>q) λ q=>⟨rfl,Qa,Qa,B2,a2.snoc i1 q,o2⟩
  ·rintro c st2 ⟨rfl,i1,i2,B2,a2,o2⟩
   exact hP _ st2 B2 i1 i2 a2 o2 λ z=>absurd z Qa
 refine wpS_bind (last 1 st B (Nat.le_refl _) h1 (asc1 _) (λ _ _=>rfl) _ (λ n st1 B1 n1 n2 a1 o1 sm=>?_) _ λ i m st2 R B2 m1 m2 hd hy=>?_)
 rotate_left
 ·try dsimp only
  refine wpS_bind (mU C B2.1 Qa Qa ?_)
  cases q:O.blt (aL (arrOf st2) (lo+m)) (aL (arrOf st2) (lo+m-1))with
  |false=>exact wpS_pure (hy q)
  |true=>exact wpS_pure (hd q)
 try dsimp only
 by_cases c1:(n==nrem)=true
 ·rw[if_pos c1]
  exact wpS_pure (h _ _ B1 n1 n2 a1 o1)
 rw[if_neg c1]
 simp only[beq_iff_eq]at c1
 have nn:n+1<=nrem:=by omega
 have sm:=sm Qa
 have sz1:(arrOf st1).size=a₀.size:=B1.1.size
 by_cases c2:n>1
 rw[if_pos c2]
 refine wpS_bind (mU C B1.1 Qa Qa ?_)
 cases rose:O.blt (aL (arrOf st1) lo) (aL (arrOf st1) (lo+n-1))with
 |true=>exact wpS_pure (h _ _ B1 n1 n2 a1 o1)
 |false=>?_
 simp only[Bool.false_eq_true,if_false]
 refine wpS_bind (qF B1 λ st2 B2 e2=>?_)
 have ev:xX O (arrOf st1) lo (lo+n):=λ i j x1 x2 x3 x4=>SOrd.le_trans (SOrd.le_trans (a1 i (lo+n-1) x1 Qa Qa) rose) (a1 lo j (Nat.le_refl _) x3 x4)
 have me:=Ak (xs:=arrOf st1) (a:=lo) (b:=lo+n) Qa ev
 have d2:fY O (arrOf st2) lo (lo+(n+1)):=by
  rw[e2]
  have d:fY O (arrOf st1) lo (lo+(n+1)):=fY.snoc (λ i j x1 x2 x3=>ev j i Qa x3 x1 Qa) n1 (SOrd.le_of_lt sm)
  exact d.sim λ k _ _=>me k
 have o2:gU lo nrem (arrOf st) (arrOf st2):=by
  rw[e2]
  exact o1.mirror (Nat.le_refl _) Qa Qa
 rotate_left
 rw[if_neg c2]
 obtain rfl:n=1:=by omega
 obtain⟨st2,est⟩:∃st2,st2=st1:=⟨_,rfl⟩
 rw[<-est]
 have B2:eV κ a₀ pd st2:=by rw[est];exact B1
 have d2:fY O (arrOf st2) lo (lo+(1+1)):=by
  rw[est]
  exact fY.snoc (λ i j x1 x2 x3=>(show i=j from Qa)▸SOrd.le_refl _) (Nat.le_refl _) (SOrd.le_of_lt sm)
 have o2:gU lo nrem (arrOf st) (arrOf st2):=by rw[est];exact o1
 all_goals
  refine wpS_bind (wpS_lift (wpAny_rule ⟨rfl,?_⟩))
  try dsimp only
  refine wpS_bind (wpS_mono (wpS_forRange (I:=λ i c st3=>∃q,c=(none,i,q)/\1<=i/\i<=nrem/\q+1<=i/\eV κ a₀ pd st3/\fY O (arrOf st3) lo (lo+i)/\xX O (arrOf st3) (lo+i-(q+1)) (lo+i)/\gU lo nrem (arrOf st) (arrOf st3))
   (Q:=λ c st3=>∃m q,c=(none,m,q)/\1<=m/\m<=nrem/\q+1<=m/\eV κ a₀ pd st3/\fY O (arrOf st3) lo (lo+m)/\xX O (arrOf st3) (lo+m-(q+1)) (lo+m)/\gU lo nrem (arrOf st) (arrOf st3)) ?_ ?_ ⟨0,rfl,Qa,Qa,Qa,B2,d2,?_,o2⟩) ?_)
  ·rintro i c st3 _ hi ⟨q,rfl,i1,i2,q1,B3,d3,e3,o3⟩
   have sz3:(arrOf st3).size=a₀.size:=B3.1.size
   try dsimp only
   refine wpS_bind (mU C B3.1 Qa Qa ?_)
   cases s1:O.blt (aL (arrOf st3) (lo+i)) (aL (arrOf st3) (lo+i-1))with
   | true=>
    have d4:=d3.snoc i1 (SOrd.le_of_lt s1)
    simp only[if_true]
    by_cases c4:q>0
    ·rw[if_pos c4]
     refine wpS_bind (qF B3 λ st4 B4 e4=>wpS_pure ⟨0,rfl,Qa,Qa,Qa,B4,?_,λ a b x1 x2 x3 x4=>?_,?_⟩)
     ·rw[e4]
      exact d4.sim λ k _ _=>Ak Qa e3 k
     ·obtain rfl:a=b:=by omega
      exact SOrd.le_refl _
     ·rw[e4]
      exact o3.mirror Qa Qa Qa
    ·rw[if_neg c4]
     exact wpS_pure ⟨0,rfl,Qa,Qa,Qa,B3,d4,λ a b x1 x2 x3 x4=>by
      have:a=b:=by omega
      rw[this];exact SOrd.le_refl _,o3⟩
   | false=>
    simp only[Bool.false_eq_true,if_false]
    refine wpS_bind (mU C B3.1 Qa Qa ?_)
    cases s2:O.blt (aL (arrOf st3) (lo+i-1)) (aL (arrOf st3) (lo+i))with
    |true=>exact wpS_pure ⟨i,q,rfl,i1,i2,q1,B3,d3,e3,o3⟩
    | false=>
     refine wpS_pure ⟨q+1,rfl,Qa,Qa,Qa,B3,d3.snoc i1 s2,λ a b x1 x2 x3 x4=>?_,o3⟩
     have up:∀k,lo+i-(q+1)<=k->k<lo+i->O.le (aL (arrOf st3) k) (aL (arrOf st3) (lo+i))/\O.le (aL (arrOf st3) (lo+i)) (aL (arrOf st3) k):=λ k y1 y2=>
      ⟨SOrd.le_trans (e3 k (lo+i-1) y1 y2 Qa Qa) s1,SOrd.le_trans s2 (e3 (lo+i-1) k Qa Qa y1 y2)⟩
     by_cases za:a=lo+i
     ·by_cases zb:b=lo+i
      ·rw[za,zb];exact SOrd.le_refl _
      ·rw[za];exact(up b Qa Qa).2
     ·by_cases zb:b=lo+i
      ·rw[zb];exact(up a Qa Qa).1
      ·exact e3 a b Qa Qa Qa Qa
  ·rintro c st3 ⟨q,rfl,i1,i2,q1,B3,d3,e3,o3⟩
   exact⟨_,q,rfl,i1,i2,q1,B3,d3,e3,o3⟩
  ·intro a b x1 x2 x3 x4
   have:a=b:=by omega
   rw[this];exact SOrd.le_refl _
  rintro c st3 ⟨m,q,rfl,m1,m2,q1,B3,d3,e3,o3⟩
  have sz3:(arrOf st3).size=a₀.size:=B3.1.size
  try dsimp only
  have fin:∀st5,eV κ a₀ pd st5->fY O (arrOf st5) lo (lo+m)->gU lo nrem (arrOf st) (arrOf st5)->∀st6,eV κ a₀ pd st6->arrOf st6=mirror (arrOf st5) lo (lo+m) ((lo+m-lo)/2)->bB O (arrOf st6) lo (lo+m)/\gU lo nrem (arrOf st) (arrOf st6):=λ st5 B5 d5 o5 st6 B6 e6=>by
   have sz5:(arrOf st5).size=a₀.size:=B5.1.size
   rw[e6]
   exact⟨KL Qa d5,o5.mirror (Nat.le_refl _) Qa Qa⟩
  by_cases c3:q>0
  ·rw[if_pos c3]
   refine wpS_bind (qF B3 λ st5 B5 e5=>?_)
   have d5:fY O (arrOf st5) lo (lo+m):=by
    rw[e5]
    exact d3.sim λ k _ _=>Ak Qa e3 k
   have o5:gU lo nrem (arrOf st) (arrOf st5):=by
    rw[e5]
    exact o3.mirror Qa Qa Qa
   refine wpS_bind (qF B5 λ st6 B6 e6=>?_)
   obtain⟨a6,o6⟩:=fin st5 B5 d5 o5 st6 B6 e6
   refine wpS_bind (last m st6 B6 m1 m2 a6 o6 _ (λ n' st7 B7 x1 x2 a7 o7 _=>wpS_pure (h _ _ B7 x1 x2 a7 o7)) _ λ i' m' st7 R B7 y1 y2 hd hy=>?_)
   try dsimp only
   refine wpS_bind (mU C B7.1 Qa Qa ?_)
   cases q':O.blt (aL (arrOf st7) (lo+m')) (aL (arrOf st7) (lo+m'-1))with
   |false=>exact wpS_pure (hy q')
   |true=>exact wpS_pure (hd q')
  ·rw[if_neg c3]
   refine wpS_bind (qF B3 λ st6 B6 e6=>?_)
   obtain⟨a6,o6⟩:=fin st3 B3 d3 o3 st6 B6 e6
   refine wpS_bind (last m st6 B6 m1 m2 a6 o6 _ (λ n' st7 B7 x1 x2 a7 o7 _=>wpS_pure (h _ _ B7 x1 x2 a7 o7)) _ λ i' m' st7 R B7 y1 y2 hd hy=>?_)
   try dsimp only
   refine wpS_bind (mU C B7.1 Qa Qa ?_)
   cases q':O.blt (aL (arrOf st7) (lo+m')) (aL (arrOf st7) (lo+m'-1))with
   |false=>exact wpS_pure (hy q')
   |true=>exact wpS_pure (hd q')
end
theorem SOrd.le_lt{O:SOrd}{a b c:Keyed}(h1:O.le a b)(h2:O.blt b c=true):O.blt a c=true:=by
 rcases O.weak b a c h2 with z|z
 ·unfold SOrd.le at h1;rw[h1]at z;exact nomatch z
 ·exact z
noncomputable def cA(O:SOrd)(left:Bool)(key x:Keyed):Bool:=if left=true then O.blt x key else !O.blt key x
theorem XW{O:SOrd}{left:Bool}{key x y:Keyed}(h:O.le x y)(b:cA O left key y=true):cA O left key x=true:=by
 unfold cA at*
 cases left
 ·simp only[Bool.false_eq_true,if_false,Bool.not_eq_true']at*
  exact SOrd.le_trans h b
 ·simp only[if_true]at*
  exact SOrd.le_lt h b
theorem Cn{O:SOrd}{left:Bool}{key x:Keyed}(b:cA O left key x=true):O.le x key:=by
 unfold cA at b
 cases left
 ·simp only[Bool.false_eq_true,if_false,Bool.not_eq_true']at b
  exact b
 ·simp only[if_true]at b
  exact SOrd.le_of_lt b
theorem Co{O:SOrd}{left:Bool}{key x:Keyed}(b:cA O left key x=false):O.le key x:=by
 unfold cA at b
 cases left
 ·simp only[Bool.false_eq_true,if_false,Bool.not_eq_false']at b
  exact SOrd.le_of_lt b
 ·simp only[if_true]at b
  exact b
section
variable{prog:Program}{w:World}{A:Around}{E:Qd}{s:Shared}{a₀:Array Keyed}{κ:SortKind}{O:SOrd}
theorem qH(C:fJ prog w A s κ a₀ O){st:SortSt}(hk:kindOf st=κ){left:Bool}{key:Keyed}{arr:Array Keyed}{base i n:Nat}(hkey:key∈a₀)(harr:∀p,p∈arr->p∈a₀)(hb:base+n<=arr.size)(hi:i<n){Q:Option Bool->SortSt->Prop}(h:Q (some (cA O left key (aL arr (base+i)))) st):
  wpS (model prog w) A E s (Oy left key arr base i) Q st:=by
 have hlt:base+i<arr.size:=by omega
 have ek:aL arr (base+i)=arr[base+i]:=by unfold aL;rw[Array.getElem?_eq_getElem hlt];rfl
 rw[ek]at h
 unfold Oy
 rw[elem'_eq,Array.getElem?_eq_getElem hlt]
 refine wpS_bind (wpS_pure ?_)
 have hm:=harr _ (Array.getElem_mem hlt)
 unfold cA at h
 cases left
 ·simp only[Bool.false_eq_true,if_false]at h⊢
  exact wpS_bind (qG C hk hkey hm (wpS_pure h))
 ·simp only[if_true]at h⊢
  exact qG C hk hm hkey h
theorem yC(C:fJ prog w A s κ a₀ O){st:SortSt}(hk:kindOf st=κ){left:Bool}{key:Keyed}{arr:Array Keyed}{base n hint:Nat}(hkey:key∈a₀)(harr:∀p,p∈arr->p∈a₀)(hb:base+n<=arr.size)(hh:hint<n)(hs:bB O arr base (base+n)){Q:Option Nat->SortSt->Prop}
  (h:∀k,k<=n->(∀i,i<k->cA O left key (aL arr (base+i))=true)->(∀i,k<=i->i<n->cA O left key (aL arr (base+i))=false)->Q (some k) st):
  wpS (model prog w) A E s (sH left key arr base n hint) Q st:=by
 have mono:∀i j,i<=j->j<n->cA O left key (aL arr (base+j))=true->cA O left key (aL arr (base+i))=true:=λ i j ij jn b=>
  XW (hs (base+i) (base+j) Qa Qa Qa) b
 have monf:∀i j,i<=j->j<n->cA O left key (aL arr (base+i))=false->cA O left key (aL arr (base+j))=false:=λ i j ij jn b=>by
  cases q:cA O left key (aL arr (base+j))with
  |false=>rfl
  |true=>rw[mono i j ij jn q]at b;exact nomatch b
 unfold sH
 refine wpS_bind (qH C hk hkey harr hb hh ?_)
 dsimp only
 cases b0:cA O left key (aL arr (base+hint))
 ·simp only[Bool.false_eq_true,if_false]
  refine wpS_bind (wpS_mono (wpS_forRange (I:=λ x c st'=>st=st'/\∃l o,c=(none,l,o)/\x+1<=o/\l<o/\l<=hint/\cA O left key (aL arr (base+(hint-l)))=false) (Q:=λ c st'=>st=st'/\∃l o,c=(none,l,o)/\l<o/\l<=hint/\cA O left key (aL arr (base+(hint-l)))=false/\(o≥hint+1\/cA O left key (aL arr (base+(hint-o)))=true)) ?_ ?_ ⟨rfl,0,1,rfl,Qa,Qa,Qa,b0⟩) ?_)
  ·rintro i c st' _ hi ⟨rfl,l,o,rfl,ho,lo,lh,bl⟩
   dsimp only
   by_cases hc:o≥hint+1
   ·rw[if_pos hc]
    exact wpS_pure ⟨rfl,l,o,rfl,lo,lh,bl,.inl hc⟩
   ·rw[if_neg hc]
    refine wpS_bind (qH C hk hkey harr hb Qa ?_)
    cases b1:cA O left key (aL arr (base+(hint-o)))
    ·exact wpS_pure ⟨rfl,_,_,rfl,Qa,Qa,Qa,b1⟩
    ·exact wpS_pure ⟨rfl,_,_,rfl,lo,lh,bl,.inr b1⟩
  ·rintro c st' ⟨rfl,l,o,rfl,ho,lo,lh,bl⟩
   exact⟨rfl,l,o,rfl,lo,lh,bl,.inl Qa⟩
  ·rintro c st' ⟨rfl,l,o,rfl,lo,lh,bl,ho⟩
   dsimp only
   have i1:∀i,i<hint+1-min o (hint+1)->cA O left key (aL arr (base+i))=true:=λ i hi=>by
    rcases ho with ho|ho
    ·omega
    ·exact mono i (hint-o) Qa Qa ho
   have i2:∀i,hint-l<=i->i<n->cA O left key (aL arr (base+i))=false:=λ i h1 h2=>monf (hint-l) i h1 h2 bl
   refine wpS_bind (wpS_mono (wpS_forRange (I:=λ x c st'=>st=st'/\∃lo hi,c=(none,lo,hi)/\lo<=hi/\hi<=n/\hi-lo<=n-x/\(∀i,i<lo->cA O left key (aL arr (base+i))=true)/\∀i,hi<=i->i<n->cA O left key (aL arr (base+i))=false)
    (Q:=λ c st'=>st=st'/\∃lo hi,c=(none,lo,hi)/\hi<=n/\(∀i,i<hi->cA O left key (aL arr (base+i))=true)/\∀i,hi<=i->i<n->cA O left key (aL arr (base+i))=false) ?_ ?_ ⟨rfl,_,_,rfl,Qa,Qa,Qa,i1,i2⟩) ?_)
   ·rintro i c st' _ hi2 ⟨rfl,lo,hi,rfl,lh',hhi,ms,j1,j2⟩
    dsimp only
    by_cases hc:lo≥hi
    ·rw[if_pos hc]
     obtain rfl:lo=hi:=by omega
     exact wpS_pure ⟨rfl,lo,lo,rfl,hhi,j1,j2⟩
    ·rw[if_neg hc]
     refine wpS_bind (qH C hk hkey harr hb Qa ?_)
     cases b1:cA O left key (aL arr (base+(lo+(hi-lo)/2)))
     ·exact wpS_pure ⟨rfl,_,_,rfl,Qa,Qa,Qa,j1,λ i h1 h2=>monf _ i h1 h2 b1⟩
     ·exact wpS_pure ⟨rfl,_,_,rfl,Qa,Qa,Qa,λ i h1=>mono i _ Qa Qa b1,j2⟩
   ·rintro c st' ⟨rfl,lo,hi,rfl,lh',hhi,ms,j1,j2⟩
    obtain rfl:lo=hi:=by omega
    exact⟨rfl,lo,lo,rfl,hhi,j1,j2⟩
   ·rintro c st' ⟨rfl,lo,hi,rfl,hhi,j1,j2⟩
    exact wpS_pure (h hi hhi j1 j2)
 ·simp only[if_true]
  refine wpS_bind (wpS_mono (wpS_forRange (I:=λ x c st'=>st=st'/\∃l o,c=(none,l,o)/\x+1<=o/\l<o/\hint+l<n/\cA O left key (aL arr (base+(hint+l)))=true) (Q:=λ c st'=>st=st'/\∃l o,c=(none,l,o)/\l<o/\hint+l<n/\cA O left key (aL arr (base+(hint+l)))=true/\(o≥n-hint\/cA O left key (aL arr (base+(hint+o)))=false)) ?_ ?_ ⟨rfl,0,1,rfl,Qa,Qa,Qa,b0⟩) ?_)
  ·rintro i c st' _ hi ⟨rfl,l,o,rfl,ho,lo,lh,bl⟩
   dsimp only
   by_cases hc:o≥n-hint
   ·rw[if_pos hc]
    exact wpS_pure ⟨rfl,l,o,rfl,lo,lh,bl,.inl hc⟩
   ·rw[if_neg hc]
    refine wpS_bind (qH C hk hkey harr hb Qa ?_)
    cases b1:cA O left key (aL arr (base+(hint+o)))
    ·exact wpS_pure ⟨rfl,_,_,rfl,lo,lh,bl,.inr b1⟩
    ·exact wpS_pure ⟨rfl,_,_,rfl,Qa,Qa,Qa,b1⟩
  ·rintro c st' ⟨rfl,l,o,rfl,ho,lo,lh,bl⟩
   exact⟨rfl,l,o,rfl,lo,lh,bl,.inl Qa⟩
  ·rintro c st' ⟨rfl,l,o,rfl,lo,lh,bl,ho⟩
   dsimp only
   have i1:∀i,i<hint+l+1->cA O left key (aL arr (base+i))=true:=λ i hi=>mono i (hint+l) Qa Qa bl
   have i2:∀i,hint+min o (n-hint)<=i->i<n->cA O left key (aL arr (base+i))=false:=λ i h1 h2=>by
    rcases ho with ho|ho
    ·omega
    ·by_cases z:o<=n-hint
     ·exact monf (hint+o) i Qa h2 ho
     ·omega
   refine wpS_bind (wpS_mono (wpS_forRange (I:=λ x c st'=>st=st'/\∃lo hi,c=(none,lo,hi)/\lo<=hi/\hi<=n/\hi-lo<=n-x/\(∀i,i<lo->cA O left key (aL arr (base+i))=true)/\∀i,hi<=i->i<n->cA O left key (aL arr (base+i))=false)
    (Q:=λ c st'=>st=st'/\∃lo hi,c=(none,lo,hi)/\hi<=n/\(∀i,i<hi->cA O left key (aL arr (base+i))=true)/\∀i,hi<=i->i<n->cA O left key (aL arr (base+i))=false) ?_ ?_ ⟨rfl,_,_,rfl,Qa,Qa,Qa,i1,i2⟩) ?_)
   ·rintro i c st' _ hi2 ⟨rfl,lo,hi,rfl,lh',hhi,ms,j1,j2⟩
    dsimp only
    by_cases hc:lo≥hi
    ·rw[if_pos hc]
     obtain rfl:lo=hi:=by omega
     exact wpS_pure ⟨rfl,lo,lo,rfl,hhi,j1,j2⟩
    ·rw[if_neg hc]
     refine wpS_bind (qH C hk hkey harr hb Qa ?_)
     cases b1:cA O left key (aL arr (base+(lo+(hi-lo)/2)))
     ·exact wpS_pure ⟨rfl,_,_,rfl,Qa,Qa,Qa,j1,λ i h1 h2=>monf _ i h1 h2 b1⟩
     ·exact wpS_pure ⟨rfl,_,_,rfl,Qa,Qa,Qa,λ i h1=>mono i _ Qa Qa b1,j2⟩
   ·rintro c st' ⟨rfl,lo,hi,rfl,lh',hhi,ms,j1,j2⟩
    obtain rfl:lo=hi:=by omega
    exact⟨rfl,lo,lo,rfl,hhi,j1,j2⟩
   ·rintro c st' ⟨rfl,lo,hi,rfl,hhi,j1,j2⟩
    exact wpS_pure (h hi hhi j1 j2)
theorem gE{arr:Array Keyed}{i:Nat}{x:Keyed}(h:arr[i]? =some x):aL arr i=x:=by unfold aL;rw[h];rfl
theorem nL{arr:Array Keyed}{i j:Nat}{x:Keyed}(h:x∈(arr.extract i j).toList):∃k,i<=k/\k<j/\arr[k]? =some x:=by
 rw[Array.mem_toList_iff,Array.mem_iff_getElem?]at h
 obtain⟨m,hm⟩:=h
 rw[Array.getElem?_extract]at hm
 split at hm
 ·exact⟨i+m,Qa,Qa,hm⟩
 ·exact nomatch hm
theorem Np{arr:Array Keyed}{i:Nat}{x:Keyed}(h:x∈arr.toList.drop i):∃k,i<=k/\k<arr.size/\arr[k]? =some x:=by
 obtain⟨m,hm⟩:=List.mem_iff_getElem?.mp h
 rw[List.getElem?_drop,Array.getElem?_toList]at hm
 exact⟨i+m,Qa,(Array.getElem?_eq_some_iff.mp hm).1,hm⟩
theorem yJ{arr:Array Keyed}{i:Nat}{x:Keyed}(h:x∈arr.toList.take i):∃k,k<i/\k<arr.size/\arr[k]? =some x:=by
 obtain⟨m,hm⟩:=List.mem_iff_getElem?.mp h
 rw[List.getElem?_take]at hm
 split at hm
 ·rw[Array.getElem?_toList]at hm
  exact⟨m,Qa,(Array.getElem?_eq_some_iff.mp hm).1,hm⟩
 ·exact nomatch hm
theorem Ea(C:fJ prog w A s κ a₀ O){st:SortSt}(hk:kindOf st=κ){left:Bool}{key:Keyed}{arr:Array Keyed}{base n hint:Nat}(hkey:key∈a₀)(harr:∀p,p∈arr->p∈a₀)(hb:base+n<=arr.size)(hh:hint<n)(hs:bB O arr base (base+n)){Q:Option Nat->SortSt->Prop}
  (h:∀k,k<=n->(∀x∈(arr.extract base (base+k)).toList,O.le x key)->(∀x∈(arr.extract (base+k) (base+n)).toList,O.le key x)->Q (some k) st):
  wpS (model prog w) A E s (sH left key arr base n hint) Q st:=
 yC C hk hkey harr hb hh hs λ k hk j1 j2=>h k hk
  (λ x hx=>by
   obtain⟨m,h1,h2,e⟩:=nL hx
   have:=j1 (m-base) Qa
   rw[show base+(m-base)=m from Qa,gE e]at this
   exact Cn this)
  (λ x hx=>by
   obtain⟨m,h1,h2,e⟩:=nL hx
   have:=j2 (m-base) Qa Qa
   rw[show base+(m-base)=m from Qa,gE e]at this
   exact Co this)
end
noncomputable def iA(O:SOrd)(a b out:Array Keyed):Prop:=out.Perm (a++b)/\out.toList.Pairwise O.le
theorem c6{O:SOrd}{a:Array Keyed}(h:bB O a 0 a.size):a.toList.Pairwise O.le:=by
 rw[List.pairwise_iff_getElem]
 intro i j hi hj hij
 simp only[Array.length_toList]at hi hj
 have:=h i j (Nat.zero_le _) (Nat.le_of_lt hij) hj
 unfold aL at this
 rw[Array.getElem?_eq_getElem hi,Array.getElem?_eq_getElem hj]at this
 simpa using this
theorem jA{O:SOrd}{a:Array Keyed}{i:Nat}{x z:Keyed}(h:bB O a 0 a.size)(e:a[i]? =some x)(hz:z∈a.toList.drop i):O.le x z:=by
 obtain⟨k,h1,h2,e2⟩:=Np hz
 have:=h i k (Nat.zero_le _) h1 h2
 rw[gE e,gE e2]at this
 exact this
theorem mF{α:Type}{l:List α}{i j:Nat}{x:α}(h:i<=j)(hx:x∈l.drop j):x∈l.drop i:=by
 obtain⟨k,rfl⟩:=Nat.exists_eq_add_of_le h
 rw[<-List.drop_drop]at hx
 exact List.mem_of_mem_drop hx
structure dD(O:SOrd)(a b out:Array Keyed)(ia ib:Nat):Prop where
 v:cX a b out ia ib
 s:out.toList.Pairwise O.le
 ua:∀x∈out.toList,∀y∈a.toList.drop ia,O.le x y
 ub:∀x∈out.toList,∀y∈b.toList.drop ib,O.le x y
section
variable{O:SOrd}{a b out:Array Keyed}{ia ib:Nat}
theorem oS{a:Array Keyed}{i:Nat}{x y:Keyed}(h:a[i]? =some x)(h2:a[i]? =some y):y=x:=Option.some.inj (h2.symm.trans h)
theorem Cs{a:Array Keyed}{i j:Nat}{x:Keyed}(h:a[j]? =some x)(hij:i<=j):x∈a.toList.drop i:=by
 rw[List.mem_iff_getElem?]
 exact⟨j-i,by rw[List.getElem?_drop,show i+(j-i)=j from Qa,Array.getElem?_toList];exact h⟩
theorem jV{a:Array Keyed}{i j:Nat}{x:Keyed}(h:x∈(a.extract i j).toList):x∈a.toList.drop i:=by
 obtain⟨k,h1,_,e⟩:=nL h
 exact Cs e h1
theorem iP(sa:bB O a 0 a.size)(i j:Nat):(a.extract i j).toList.Pairwise O.le:=by
 rw[Array.toList_extract,List.extract_eq_drop_take]
 exact((c6 sa).sublist (List.drop_sublist _ _)).sublist (List.take_sublist _ _)
theorem Nf(sa:bB O a 0 a.size){i j:Nat}{x z:Keyed}(hx:x∈(a.extract i j).toList)(hz:z∈a.toList.drop j):O.le x z:=by
 obtain⟨k,h1,h2,e⟩:=nL hx
 exact jA sa e (mF (Nat.le_of_lt h2) hz)
theorem dD.start(sb:bB O b 0 b.size){p0:Keyed}(e0:b[0]? =some p0)(hF:∀x∈a.toList,O.le p0 x):dD O a b #[p0] 0 1 where
 v:=by
  unfold cX
  rw[show 1=0+1 from rfl,yH e0]
  exact List.Perm.refl _
 s:=List.pairwise_singleton _ _
 ua:=λ x hx y hy=>by
  have:x=p0:=by simpa using hx
  rw[this]
  exact hF y (List.mem_of_mem_drop hy)
 ub:=λ x hx y hy=>by
  have:x=p0:=by simpa using hx
  rw[this]
  exact jA sb e0 (mF (Nat.zero_le _) hy)
theorem dD.pushA(h:dD O a b out ia ib)(sa:bB O a 0 a.size){x y:Keyed}(e:a[ia]? =some x)(e':a[ia]? =some y)(hb:∀z∈b.toList.drop ib,O.le x z):dD O a b (out.push y) (ia+1) ib:=by
 obtain rfl:=oS e e'
 refine⟨h.v.pushA e,?_,λ u hu z hz=>?_,λ u hu z hz=>?_⟩
 ·rw[Array.toList_push,List.pairwise_append]
  exact⟨h.s,List.pairwise_singleton _ _,λ u hu z hz=>by rw[List.mem_singleton.mp hz];exact h.ua u hu _ (Cs e (Nat.le_refl _))⟩
 ·rw[Array.toList_push,List.mem_append,List.mem_singleton]at hu
  rcases hu with hu|rfl
  ·exact h.ua u hu z (mF (Nat.le_succ _) hz)
  ·exact jA sa e (mF (Nat.le_succ _) hz)
 ·rw[Array.toList_push,List.mem_append,List.mem_singleton]at hu
  rcases hu with hu|rfl
  ·exact h.ub u hu z hz
  ·exact hb z hz
theorem dD.pushB(h:dD O a b out ia ib)(sb:bB O b 0 b.size){x y:Keyed}(e:b[ib]? =some x)(e':b[ib]? =some y)(ha:∀z∈a.toList.drop ia,O.le x z):dD O a b (out.push y) ia (ib+1):=by
 obtain rfl:=oS e e'
 refine⟨h.v.pushB e,?_,λ u hu z hz=>?_,λ u hu z hz=>?_⟩
 ·rw[Array.toList_push,List.pairwise_append]
  exact⟨h.s,List.pairwise_singleton _ _,λ u hu z hz=>by rw[List.mem_singleton.mp hz];exact h.ub u hu _ (Cs e (Nat.le_refl _))⟩
 ·rw[Array.toList_push,List.mem_append,List.mem_singleton]at hu
  rcases hu with hu|rfl
  ·exact h.ua u hu z hz
  ·exact ha z hz
 ·rw[Array.toList_push,List.mem_append,List.mem_singleton]at hu
  rcases hu with hu|rfl
  ·exact h.ub u hu z (mF (Nat.le_succ _) hz)
  ·exact jA sb e (mF (Nat.le_succ _) hz)
theorem dD.extA(k:Nat)(h:dD O a b out ia ib)(sa:bB O a 0 a.size)(hb:∀x∈(a.extract ia (ia+k)).toList,∀z∈b.toList.drop ib,O.le x z):dD O a b (out++a.extract ia (ia+k)) (ia+k) ib:=by
 refine⟨h.v.extA k,?_,λ u hu z hz=>?_,λ u hu z hz=>?_⟩
 ·rw[Array.toList_append,List.pairwise_append]
  exact⟨h.s,iP sa _ _,λ u hu z hz=>h.ua u hu z (jV hz)⟩
 ·rw[Array.toList_append,List.mem_append]at hu
  rcases hu with hu|hu
  ·exact h.ua u hu z (mF (Nat.le_add_right _ _) hz)
  ·exact Nf sa hu hz
 ·rw[Array.toList_append,List.mem_append]at hu
  rcases hu with hu|hu
  ·exact h.ub u hu z hz
  ·exact hb u hu z hz
theorem dD.extB(k:Nat)(h:dD O a b out ia ib)(sb:bB O b 0 b.size)(ha:∀x∈(b.extract ib (ib+k)).toList,∀z∈a.toList.drop ia,O.le x z):dD O a b (out++b.extract ib (ib+k)) ia (ib+k):=by
 refine⟨h.v.extB k,?_,λ u hu z hz=>?_,λ u hu z hz=>?_⟩
 ·rw[Array.toList_append,List.pairwise_append]
  exact⟨h.s,iP sb _ _,λ u hu z hz=>h.ub u hu z (jV hz)⟩
 ·rw[Array.toList_append,List.mem_append]at hu
  rcases hu with hu|hu
  ·exact h.ua u hu z hz
  ·exact ha u hu z hz
 ·rw[Array.toList_append,List.mem_append]at hu
  rcases hu with hu|hu
  ·exact h.ub u hu z (mF (Nat.le_add_right _ _) hz)
  ·exact Nf sb hu hz
theorem OP(a:Array Keyed)(i:Nat):(a.extract i a.size).toList=a.toList.drop i:=by
 rw[Array.toList_extract,List.extract_eq_drop_take,List.take_of_length_le Qb]
theorem dD.done(h:dD O a b out ia ib)(ha:ia<=a.size)(hb:ib<=b.size)(he:ia=a.size\/ib=b.size)(sa:bB O a 0 a.size)(sb:bB O b 0 b.size):iA O a b (out++a.extract ia a.size++b.extract ib b.size):=by
 refine⟨h.v.done ha hb,?_⟩
 have e:∀x∈a.toList.drop ia,∀z∈b.toList.drop ib,O.le x z:=λ x hx z hz=>by
  rcases he with rfl|rfl
  ·rw[List.drop_of_length_le Qb]at hx;exact nomatch hx
  ·rw[List.drop_of_length_le Qb]at hz;exact nomatch hz
 rw[Array.toList_append,Array.toList_append,List.pairwise_append,List.pairwise_append]
 refine⟨⟨h.s,iP sa _ _,λ u hu z hz=>h.ua u hu z (jV hz)⟩,iP sb _ _,λ u hu z hz=>?_⟩
 rw[List.mem_append]at hu
 rcases hu with hu|hu
 ·exact h.ub u hu z (jV hz)
 ·exact e u (jV hu) z (jV hz)
theorem dD.last(h:dD O a b out ia ib)(ha:ia+1=a.size)(hb:ib<=b.size)(hL:∀y∈b.toList,O.le y (aL a (a.size-1)))(sa:bB O a 0 a.size)(sb:bB O b 0 b.size):iA O a b (out++b.extract ib b.size++a.extract ia a.size):=by
 refine⟨h.v.last Qa hb,?_⟩
 have e:∀x∈a.toList.drop ia,∀z∈b.toList.drop ib,O.le z x:=λ x hx z hz=>by
  obtain⟨k,h1,h2,e⟩:=Np hx
  have:=hL z (List.mem_of_mem_drop hz)
  rw[show a.size-1=k from Qa,gE e]at this
  exact this
 rw[Array.toList_append,Array.toList_append,List.pairwise_append,List.pairwise_append]
 refine⟨⟨h.s,iP sb _ _,λ u hu z hz=>h.ub u hu z (jV hz)⟩,iP sa _ _,λ u hu z hz=>?_⟩
 rw[List.mem_append]at hu
 rcases hu with hu|hu
 ·exact h.ua u hu z (jV hz)
 ·exact e z (jV hz) u (jV hu)
end
section
variable{prog:Program}{w:World}{A:Around}{E:Qd}{s:Shared}{a₀:Array Keyed}{κ:SortKind}{O:SOrd}
theorem Dz(C:fJ prog w A s κ a₀ O){st:SortSt}(hk:kindOf st=κ){left:Bool}{key:Keyed}{arr:Array Keyed}{base n hint:Nat}(hkey:key∈a₀)(harr:∀p,p∈arr->p∈a₀)(hb:base+n=arr.size)(hh:hint<n)(hs:bB O arr 0 arr.size){Q:Option Nat->SortSt->Prop}
  (h:∀k,k<=n->(∀x∈(arr.extract base (base+k)).toList,O.le x key)->(∀x∈arr.toList.drop (base+k),O.le key x)->Q (some k) st):
  wpS (model prog w) A E s (sH left key arr base n hint) Q st:=
 Ea C hk hkey harr (Nat.le_of_eq hb) hh (λ i j h1 h2 h3=>hs i j (Nat.zero_le _) h2 Qa) λ k hk j1 j2=>h k hk j1 λ x hx=>j2 x (by rw[hb,OP];exact hx)
theorem Dy{M:Model}{β X:Type}{c:Prop}[Decidable c]{f:Unit->X->StateT SortSt Sem β}{m m':X}{Q:β->SortSt->Prop}{st:SortSt}(h:∀m,wpS M A E s (f () m) Q st):wpS M A E s (if c then f () m else f () m') Q st:=by
 split<;>exact h _
theorem Dx{M:Model}{β X Y:Type}{c d:Prop}[Decidable c][Decidable d]{f:Unit->X->Y->StateT SortSt Sem β}{n n':X}{o o':Y}{r:StateT SortSt Sem β}{Q:β->SortSt->Prop}{st:SortSt}(P:X->Y->Prop)(h1:c->d->wpS M A E s r Q st)(h2:c->¬d->P n' o')(h3:¬c->P n o)(h:∀n o,P n o->wpS M A E s (f () n o) Q st):wpS M A E s (if c then(if d then r else f () n' o')else f () n o) Q st:=by
 split
 ·split
  ·exact h1 ‹_› ‹_›
  ·exact h _ _ (h2 ‹_› ‹_›)
 ·exact h _ _ (h3 ‹_›)
theorem Dw{M:Model}{β X Y:Type}{c d e:Prop}[Decidable c][Decidable d][Decidable e]{f:Unit->X->Y->StateT SortSt Sem β}{n n':X}{o o':Y}{r r':StateT SortSt Sem β}{Q:β->SortSt->Prop}{st:SortSt}(P:X->Y->Prop)(h1:c->d->wpS M A E s r Q st)(h1':c->¬d->e->wpS M A E s r' Q st)(h2:c->¬d->¬e->P n' o')(h3:¬c->P n o)(h:∀n o,P n o->wpS M A E s (f () n o) Q st):wpS M A E s (if c then(if d then r else if e then r' else f () n' o')else f () n o) Q st:=by
 split
 ·split
  ·exact h1 ‹_› ‹_›
  ·split
   ·exact h1' ‹_› ‹_› ‹_›
   ·exact h _ _ (h2 ‹_› ‹_› ‹_›)
 ·exact h _ _ (h3 ‹_›)
noncomputable abbrev aF0(O:SOrd)(a b:Array Keyed)(st:SortSt)(i:Nat)(c:Option (Array Keyed)×Array Keyed×Nat×Nat×Nat)(st':SortSt):Prop:=∃out ia ib mg g,c=(none,out,ia,ib,mg)/\st'=fH st g/\dD O a b out ia ib/\ia+1<a.size/\ib<b.size/\i+1<=ia+ib
noncomputable abbrev aC0(O:SOrd)(a b:Array Keyed)(st:SortSt)(c:Option (Array Keyed)×Array Keyed×Nat×Nat×Nat)(st':SortSt):Prop:=∃r out ia ib mg g,c=(some r,out,ia,ib,mg)/\st'=fH st g/\iA O a b r
noncomputable abbrev aE0(O:SOrd)(a b:Array Keyed)(st:SortSt)(i:Nat)(g:Nat)(j:Nat)(c:Option (Array Keyed)×Array Keyed×Nat×Nat×Nat×Nat)(st':SortSt):Prop:=∃out ia ib ac bc,c=(none,out,ia,ib,ac,bc)/\st'=fH st g/\dD O a b out ia ib/\ia+1<a.size/\ib<b.size/\i+1+j<=ia+ib
noncomputable abbrev aB0(O:SOrd)(a b:Array Keyed)(st:SortSt)(i:Nat)(g:Nat)(c:Option (Array Keyed)×Array Keyed×Nat×Nat×Nat×Nat)(st':SortSt):Prop:=st'=fH st g/\((∃r out ia ib ac bc,c=(some r,out,ia,ib,ac,bc)/\iA O a b r)\/∃out ia ib ac bc,c=(none,out,ia,ib,ac,bc)/\dD O a b out ia ib/\ia+1<a.size/\ib<b.size/\i+1<=ia+ib)
noncomputable abbrev aD0(O:SOrd)(a b:Array Keyed)(st:SortSt)(i:Nat)(j:Nat)(c:Option (Array Keyed)×Array Keyed×Nat×Nat×Nat×Nat×Nat)(st':SortSt):Prop:=∃out ia ib mg ac bc g,c=(none,out,ia,ib,mg,ac,bc)/\st'=fH st g/\dD O a b out ia ib/\ia+1<a.size/\ib<b.size/\i+1+j<=ia+ib
noncomputable abbrev aA0(O:SOrd)(a b:Array Keyed)(st:SortSt)(i:Nat)(c:Option (Array Keyed)×Array Keyed×Nat×Nat×Nat×Nat×Nat)(st':SortSt):Prop:=∃g,st'=fH st g/\((∃r out ia ib mg ac bc,c=(some r,out,ia,ib,mg,ac,bc)/\iA O a b r)\/∃out ia ib mg ac bc,c=(none,out,ia,ib,mg,ac,bc)/\dD O a b out ia ib/\ia+1<a.size/\ib<b.size/\i+2<=ia+ib)
theorem Rr(C:fJ prog w A s κ a₀ O){st:SortSt}(hk:kindOf st=κ){a b:Array Keyed}(ha:∀p,p∈a->p∈a₀)(hb:∀p,p∈b->p∈a₀)(na:1<=a.size)(nb:1<=b.size)(sa:bB O a 0 a.size)(sb:bB O b 0 b.size)(hF:∀x∈a.toList,O.le (aL b 0) x)(hL:∀y∈b.toList,O.le y (aL a (a.size-1))){Q:Array Keyed->SortSt->Prop}(h:∀out g,iA O a b out->Q out (fH st g)):
  wpS (model prog w) A E s (Ii a b) Q st:=by
 unfold Ii
 have hkg:∀g,kindOf (fH st g)=κ:=λ _=>hk
 refine wpS_bind (wpS_lift (wpAny_rule ⟨rfl,?_⟩))
 try dsimp-zeta-zetaHave only
 refine wpS_bind (eM nb λ p0 e0 _=>?_)
 have v0:dD O a b #[p0] 0 1:=dD.start sb e0 (λ x hx=>gE e0▸hF x hx)
 by_cases c1:(1==b.size)=true
 ·rw[if_pos c1]
  exact wpS_pure (h _ (gallopOf st) (v0.done Qa nb (.inr (eq_of_beq c1)) sa sb))
 rw[if_neg c1]
 by_cases c2:(0+1==a.size)=true
 ·rw[if_pos c2]
  exact wpS_pure (h _ (gallopOf st) (v0.last (eq_of_beq c2) nb hL sa sb))
 rw[if_neg c2]
 simp only[beq_iff_eq]at c1 c2
 refine wpS_bind (wpS_get ?_)
 refine wpS_bind (wpS_mono (wpS_forRange (I:=aF0 O a b st)
  (Q:=aC0 O a b st) ?_ ?_ ⟨_,0,1,_,gallopOf st,rfl,rfl,v0,Qa,Qa,Qa⟩) ?_)
 ·rintro i c st' _ hi ⟨out,ia,ib,mg,g,rfl,rfl,v,la,lb,hp⟩
  try dsimp-zeta-zetaHave only
  refine wpS_bind (wpS_mono (wpS_forRange (I:=aE0 O a b st i g)
   (Q:=aB0 O a b st i g) ?_ ?_ ⟨_,_,_,_,_,rfl,rfl,v,la,lb,Qa⟩) ?_)
  ·skip
   rintro j c st' _ _ ⟨out,ia,ib,ac,bc,rfl,rfl,v,la,lb,hp⟩
   try dsimp only
   refine wpS_bind (eM lb λ p ep hpm=>?_)
   refine wpS_bind (eM Qa λ q eq hqm=>?_)
   refine wpS_bind (qG C (hkg _) (hb p hpm) (ha q hqm) ?_)
   try dsimp only
   cases bw:O.blt p q
   ·simp only[Bool.false_eq_true,if_false]
    refine wpS_bind (eM Qa λ q' eq' _=>?_)
    have v2:=v.pushA sa eq eq' (λ z hz=>SOrd.le_trans bw (jA sb ep hz))
    by_cases d1:(ia+1+1==a.size)=true
    ·rw[if_pos d1]
     simp only[beq_iff_eq]at d1
     exact wpS_pure ⟨rfl,.inl ⟨_,_,_,_,_,_,rfl,v2.last Qa Qa hL sa sb⟩⟩
    ·rw[if_neg d1]
     simp only[beq_iff_eq]at d1
     split
     ·exact wpS_pure ⟨rfl,.inr ⟨_,_,_,_,_,rfl,v2,Qa,Qa,Qa⟩⟩
     ·exact wpS_pure ⟨_,_,_,_,_,rfl,rfl,v2,Qa,Qa,Qa⟩
   ·simp only[if_true]
    refine wpS_bind (eM lb λ q' eq' _=>?_)
    have v2:=v.pushB sb ep eq' (λ z hz=>SOrd.le_trans (SOrd.le_of_lt bw) (jA sa eq hz))
    by_cases d1:(ib+1==b.size)=true
    ·rw[if_pos d1]
     simp only[beq_iff_eq]at d1
     exact wpS_pure ⟨rfl,.inl ⟨_,_,_,_,_,_,rfl,v2.done Qa Qa Qa sa sb⟩⟩
    ·rw[if_neg d1]
     simp only[beq_iff_eq]at d1
     split
     ·exact wpS_pure ⟨rfl,.inr ⟨_,_,_,_,_,rfl,v2,Qa,Qa,Qa⟩⟩
     ·exact wpS_pure ⟨_,_,_,_,_,rfl,rfl,v2,Qa,Qa,Qa⟩
  ·rintro c st' ⟨out,ia,ib,ac,bc,rfl,rfl,v,la,lb,hp⟩
   exact⟨rfl,.inr ⟨_,_,_,_,_,rfl,v,la,lb,Qa⟩⟩
  ·skip
   rintro c st' ⟨rfl,⟨r,out,ia,ib,ac,bc,rfl,hr⟩|⟨out,ia,ib,ac,bc,rfl,v,la,lb,hp⟩⟩
   ·exact wpS_pure ⟨_,_,_,_,_,_,rfl,rfl,hr⟩
   try dsimp-zeta-zetaHave only
   refine wpS_bind (wpS_lift (wpAny_rule ⟨rfl,?_⟩))
   try dsimp-zeta-zetaHave only
   refine wpS_bind (wpS_mono (wpS_forRange (I:=aD0 O a b st i)
    (Q:=aA0 O a b st i) ?_ ?_ ⟨_,_,_,_,_,_,g,rfl,rfl,v,la,lb,Qa⟩) ?_)
   ·rintro j c st' _ _ ⟨out,ia,ib,mg,ac,bc,g,rfl,rfl,v,la,lb,hp⟩
    extract_lets _ out1 _ ia1 _ ib1 _ mg1 _ ac1 bc1 jb jp
    refine Dy (f:=jp) λ m=>?_
    refine wpS_bind (wpS_modify ?_)
    refine wpS_bind (eM (i:=ib) lb λ q1 eq1 hq1=>?_)
    refine wpS_bind (Dz (base:=ia) (n:=a.size-ia) (hint:=0) C (hkg _) (hb q1 hq1) ha Qa Qa sa λ k1 hk1 G1 G2=>?_)
    dsimp-zeta-zetaHave only
    extract_lets ack jp2
    refine Dw (f:=jp2) (λ o ix=>dD O a b o ix ib/\ix+1<a.size/\ia<=ix/\∀x∈a.toList.drop ix,O.le q1 x) (λ c d=>?_) (λ c d e=>?_) (λ c d e=>?_) (λ c=>?_) ?_
    ·exact wpS_pure ⟨_,rfl,.inl ⟨_,_,_,_,_,_,_,rfl,(v.extA k1 sa (λ x hx z hz=>SOrd.le_trans (G1 x hx) (jA sb eq1 hz))).last (eq_of_beq d) Qa hL sa sb⟩⟩
    ·exact wpS_pure ⟨_,rfl,.inl ⟨_,_,_,_,_,_,_,rfl,(v.extA k1 sa (λ x hx z hz=>SOrd.le_trans (G1 x hx) (jA sb eq1 hz))).done Qa Qa (.inl (eq_of_beq e)) sa sb⟩⟩
    ·have d:¬ia+k1+1=a.size:=λ h=>d (beq_iff_eq.mpr h)
     have e:¬ia+k1=a.size:=λ h=>e (beq_iff_eq.mpr h)
     exact⟨v.extA k1 sa (λ x hx z hz=>SOrd.le_trans (G1 x hx) (jA sb eq1 hz)),(by omega:ia+k1+1<a.size),Nat.le_add_right _ _,G2⟩
    ·have c:¬k1>0:=c
     rw[show ia+k1=ia from Qa]at G2
     exact⟨v,la,Nat.le_refl _,G2⟩
    rintro o1 ix ⟨v1,l1,z1,F1⟩
    refine wpS_bind (eM (i:=ib) lb λ q2 eq2 _=>?_)
    have v2:=v1.pushB sb eq1 eq2 F1
    extract_lets o2
    split
    ·rename_i d1
     exact wpS_pure ⟨_,rfl,.inl ⟨_,_,_,_,_,_,_,rfl,v2.done Qa Qa (.inr (eq_of_beq d1)) sa sb⟩⟩
    rename_i d1
    have d1:¬ib+1=b.size:=λ h=>d1 (beq_iff_eq.mpr h)
    refine wpS_bind (eM (i:=ix) Qa λ q3 eq3 hq3=>?_)
    refine wpS_bind (Dz (base:=ib+1) (n:=b.size-(ib+1)) (hint:=0) C (hkg _) (ha q3 hq3) hb Qa Qa sb λ k2 hk2 G3 G4=>?_)
    dsimp-zeta-zetaHave only
    extract_lets bck jp3
    refine Dx (f:=jp3) (λ o iy=>dD O a b o ix iy/\iy<b.size/\ib+1<=iy/\∀x∈b.toList.drop iy,O.le q3 x) (λ c d=>?_) (λ c d=>?_) (λ c=>?_) ?_
    ·exact wpS_pure ⟨_,rfl,.inl ⟨_,_,_,_,_,_,_,rfl,(v2.extB k2 sb (λ x hx z hz=>SOrd.le_trans (G3 x hx) (jA sa eq3 hz))).done Qa Qa (.inr (eq_of_beq d)) sa sb⟩⟩
    ·have d:¬ib+1+k2=b.size:=λ h=>d (beq_iff_eq.mpr h)
     exact⟨v2.extB k2 sb (λ x hx z hz=>SOrd.le_trans (G3 x hx) (jA sa eq3 hz)),(by omega:ib+1+k2<b.size),Nat.le_add_right _ _,G4⟩
    ·have c:¬k2>0:=c
     rw[show ib+1+k2=ib+1 from Qa]at G4
     exact⟨v2,(by omega:ib+1<b.size),Nat.le_refl _,G4⟩
    rintro o3 iy ⟨v3,l3,z3,F3⟩
    refine wpS_bind (eM (i:=ix) Qa λ q4 eq4 _=>?_)
    have v4:=v3.pushA sa eq3 eq4 F3
    extract_lets o4
    split
    ·rename_i f1
     exact wpS_pure ⟨_,rfl,.inl ⟨_,_,_,_,_,_,_,rfl,v4.last (eq_of_beq f1) Qa hL sa sb⟩⟩
    rename_i f1
    have f1:¬ix+1+1=a.size:=λ h=>f1 (beq_iff_eq.mpr h)
    have B:ix+1+1<a.size/\i+2<=ix+1+iy/\i+1+(j+1)<=ix+1+iy:=by omega
    split
    ·exact wpS_pure ⟨_,rfl,.inr ⟨_,_,_,_,_,_,rfl,v4,B.1,l3,B.2.1⟩⟩
    ·exact wpS_pure ⟨_,_,_,_,_,_,_,rfl,rfl,v4,B.1,l3,B.2.2⟩
   ·rintro c st' ⟨out,ia,ib,mg,ac,bc,g,rfl,rfl,v,la,lb,hp⟩
    exact absurd hp Qa
   ·skip
    rintro c st' ⟨g,rfl,⟨r,out,ia,ib,mg,ac,bc,rfl,hr⟩|⟨out,ia,ib,mg,ac,bc,rfl,v,la,lb,hp⟩⟩
    ·exact wpS_pure ⟨_,_,_,_,_,_,rfl,rfl,hr⟩
    ·exact wpS_bind (wpS_modify (wpS_pure ⟨_,_,_,_,_,rfl,rfl,v,la,lb,Qa⟩))
 ·rintro c st' ⟨out,ia,ib,mg,g,rfl,rfl,v,la,lb,hp⟩
  exact absurd hp Qa
 ·rintro c st' ⟨r,out,ia,ib,mg,g,rfl,rfl,hr⟩
  exact wpS_pure (h r g hr)
end
theorem jH{O:SOrd}{a:Array Keyed}{i:Nat}{x z:Keyed}(h:bB O a 0 a.size)(e:a[i-1]? =some x)(hz:z∈a.toList.take i):O.le z x:=by
 obtain⟨k,h1,h2,e2⟩:=yJ hz
 have hl:i-1<a.size:=(Array.getElem?_eq_some_iff.mp e).1
 have:=h k (i-1) (Nat.zero_le _) Qa hl
 rw[gE e,gE e2]at this
 exact this
theorem mW{α:Type}{l:List α}{i j:Nat}{x:α}(h:i<=j)(hx:x∈l.take i):x∈l.take j:=by
 rw[<-Nat.min_eq_left h,<-List.take_take]at hx
 exact List.mem_of_mem_take hx
structure dE(O:SOrd)(a b out:Array Keyed)(na nb:Nat):Prop where
 v:dH a b out na nb
 s:out.toList.Pairwise (λ x y=>O.le y x)
 ua:∀x∈out.toList,∀y∈a.toList.take na,O.le y x
 ub:∀x∈out.toList,∀y∈b.toList.take nb,O.le y x
section
variable{O:SOrd}{a b out:Array Keyed}{na nb:Nat}
theorem Cr{a:Array Keyed}{i j:Nat}{x:Keyed}(h:a[j]? =some x)(hij:j<i):x∈a.toList.take i:=by
 rw[List.mem_iff_getElem?]
 exact⟨j,by rw[List.getElem?_take,if_pos hij,Array.getElem?_toList];exact h⟩
theorem jU{a:Array Keyed}{i j:Nat}{x:Keyed}(h:x∈(a.extract i j).toList):x∈a.toList.take j:=by
 obtain⟨k,_,h1,e⟩:=nL h
 exact Cr e h1
theorem Ng(sa:bB O a 0 a.size){i j:Nat}{x z:Keyed}(hx:x∈(a.extract i j).toList)(hz:z∈a.toList.take i):O.le z x:=by
 obtain⟨k,h1,h2,e⟩:=nL hx
 obtain⟨m,g1,g2,e2⟩:=yJ hz
 have:=sa m k (Nat.zero_le _) Qa (Array.getElem?_eq_some_iff.mp e).1
 rw[gE e,gE e2]at this
 exact this
theorem dE.start(sa:bB O a 0 a.size)(h1:1<=a.size){p0:Keyed}(e0:a[a.size-1]? =some p0)(hL:∀y∈b.toList,O.le y p0):dE O a b #[p0] (a.size-1) b.size where
 v:=by
  unfold dH
  rw[Cf h1 e0,List.drop_of_length_le Qb,List.drop_of_length_le Qb]
  exact List.Perm.refl _
 s:=List.pairwise_singleton _ _
 ua:=λ x hx y hy=>by
  have:x=p0:=by simpa using hx
  rw[this]
  exact jH sa e0 (mW Qa hy)
 ub:=λ x hx y hy=>by
  have:x=p0:=by simpa using hx
  rw[this]
  exact hL y (List.mem_of_mem_take hy)
theorem dE.pushA(h:dE O a b out na nb)(h1:1<=na)(sa:bB O a 0 a.size){x y:Keyed}(e:a[na-1]? =some x)(e':a[na-1]? =some y)(hb:∀z∈b.toList.take nb,O.le z x):dE O a b (out.push y) (na-1) nb:=by
 obtain rfl:=oS e e'
 refine⟨h.v.pushA h1 e,?_,λ u hu z hz=>?_,λ u hu z hz=>?_⟩
 ·rw[Array.toList_push,List.pairwise_append]
  exact⟨h.s,List.pairwise_singleton _ _,λ u hu z hz=>by rw[List.mem_singleton.mp hz];exact h.ua u hu _ (Cr e Qa)⟩
 ·rw[Array.toList_push,List.mem_append,List.mem_singleton]at hu
  rcases hu with hu|rfl
  ·exact h.ua u hu z (mW (Nat.sub_le _ _) hz)
  ·exact jH sa e (mW (Nat.sub_le _ _) hz)
 ·rw[Array.toList_push,List.mem_append,List.mem_singleton]at hu
  rcases hu with hu|rfl
  ·exact h.ub u hu z hz
  ·exact hb z hz
theorem dE.pushB(h:dE O a b out na nb)(h1:1<=nb)(sb:bB O b 0 b.size){x y:Keyed}(e:b[nb-1]? =some x)(e':b[nb-1]? =some y)(ha:∀z∈a.toList.take na,O.le z x):dE O a b (out.push y) na (nb-1):=by
 obtain rfl:=oS e e'
 refine⟨h.v.pushB h1 e,?_,λ u hu z hz=>?_,λ u hu z hz=>?_⟩
 ·rw[Array.toList_push,List.pairwise_append]
  exact⟨h.s,List.pairwise_singleton _ _,λ u hu z hz=>by rw[List.mem_singleton.mp hz];exact h.ub u hu _ (Cr e Qa)⟩
 ·rw[Array.toList_push,List.mem_append,List.mem_singleton]at hu
  rcases hu with hu|rfl
  ·exact h.ua u hu z hz
  ·exact ha z hz
 ·rw[Array.toList_push,List.mem_append,List.mem_singleton]at hu
  rcases hu with hu|rfl
  ·exact h.ub u hu z (mW (Nat.sub_le _ _) hz)
  ·exact jH sb e (mW (Nat.sub_le _ _) hz)
theorem Gm{l:List Keyed}(h:l.Pairwise O.le):l.reverse.Pairwise (λ x y=>O.le y x):=List.pairwise_reverse.mpr h
theorem dE.extA(m:Nat)(h:dE O a b out na nb)(hm:m<=na)(sa:bB O a 0 a.size)(hb:∀x∈(a.extract m na).toList,∀z∈b.toList.take nb,O.le z x):dE O a b (out++(a.extract m na).reverse) m nb:=by
 refine⟨h.v.extA m hm,?_,λ u hu z hz=>?_,λ u hu z hz=>?_⟩
 ·rw[Array.toList_append,Array.toList_reverse,List.pairwise_append]
  exact⟨h.s,Gm (iP sa _ _),λ u hu z hz=>h.ua u hu z (jU (List.mem_reverse.mp hz))⟩
 ·rw[Array.toList_append,Array.toList_reverse,List.mem_append,List.mem_reverse]at hu
  rcases hu with hu|hu
  ·exact h.ua u hu z (mW hm hz)
  ·exact Ng sa hu hz
 ·rw[Array.toList_append,Array.toList_reverse,List.mem_append,List.mem_reverse]at hu
  rcases hu with hu|hu
  ·exact h.ub u hu z hz
  ·exact hb u hu z hz
theorem dE.extB(m:Nat)(h:dE O a b out na nb)(hm:m<=nb)(sb:bB O b 0 b.size)(ha:∀x∈(b.extract m nb).toList,∀z∈a.toList.take na,O.le z x):dE O a b (out++(b.extract m nb).reverse) na m:=by
 refine⟨h.v.extB m hm,?_,λ u hu z hz=>?_,λ u hu z hz=>?_⟩
 ·rw[Array.toList_append,Array.toList_reverse,List.pairwise_append]
  exact⟨h.s,Gm (iP sb _ _),λ u hu z hz=>h.ub u hu z (jU (List.mem_reverse.mp hz))⟩
 ·rw[Array.toList_append,Array.toList_reverse,List.mem_append,List.mem_reverse]at hu
  rcases hu with hu|hu
  ·exact h.ua u hu z hz
  ·exact ha u hu z hz
 ·rw[Array.toList_append,Array.toList_reverse,List.mem_append,List.mem_reverse]at hu
  rcases hu with hu|hu
  ·exact h.ub u hu z (mW hm hz)
  ·exact Ng sb hu hz
theorem dE.done(h:dE O a b out na nb)(he:na=0\/nb=0)(sa:bB O a 0 a.size)(sb:bB O b 0 b.size):iA O a b (a.extract 0 na++b.extract 0 nb++out.reverse):=by
 refine⟨h.v.done,?_⟩
 have e:∀x∈a.toList.take na,∀z∈b.toList.take nb,O.le x z:=λ x hx z hz=>by
  rcases he with rfl|rfl
  ·exact nomatch hx
  ·exact nomatch hz
 rw[Array.toList_append,Array.toList_append,Array.toList_reverse,List.pairwise_append,List.pairwise_append]
 refine⟨⟨iP sa _ _,iP sb _ _,λ u hu z hz=>e u (jU hu) z (jU hz)⟩,List.pairwise_reverse.mpr h.s,λ u hu z hz=>?_⟩
 rw[List.mem_reverse]at hz
 rw[List.mem_append]at hu
 rcases hu with hu|hu
 ·exact h.ua z hz u (jU hu)
 ·exact h.ub z hz u (jU hu)
theorem dE.first(h:dE O a b out na nb)(h1:nb=1)(hF:∀x∈a.toList,O.le (aL b 0) x)(sa:bB O a 0 a.size)(sb:bB O b 0 b.size):iA O a b (b.extract 0 nb++a.extract 0 na++out.reverse):=by
 refine⟨h.v.first,?_⟩
 have e:∀x∈a.toList.take na,∀z∈b.toList.take nb,O.le z x:=λ x hx z hz=>by
  obtain⟨k,g1,g2,e⟩:=yJ hz
  have:=hF x (List.mem_of_mem_take hx)
  rw[show 0=k from Qa,gE e]at this
  exact this
 rw[Array.toList_append,Array.toList_append,Array.toList_reverse,List.pairwise_append,List.pairwise_append]
 refine⟨⟨iP sb _ _,iP sa _ _,λ u hu z hz=>e z (jU hz) u (jU hu)⟩,List.pairwise_reverse.mpr h.s,λ u hu z hz=>?_⟩
 rw[List.mem_reverse]at hz
 rw[List.mem_append]at hu
 rcases hu with hu|hu
 ·exact h.ub z hz u (jU hu)
 ·exact h.ua z hz u (jU hu)
end
section
variable{prog:Program}{w:World}{A:Around}{E:Qd}{s:Shared}{a₀:Array Keyed}{κ:SortKind}{O:SOrd}
theorem OM(a:Array Keyed)(i:Nat):(a.extract 0 i).toList=a.toList.take i:=by
 rw[Array.toList_extract,List.extract_eq_drop_take,List.drop_zero,Nat.sub_zero]
theorem Eb(C:fJ prog w A s κ a₀ O){st:SortSt}(hk:kindOf st=κ){left:Bool}{key:Keyed}{arr:Array Keyed}{n hint:Nat}(hkey:key∈a₀)(harr:∀p,p∈arr->p∈a₀)(hb:n<=arr.size)(hh:hint<n)(hs:bB O arr 0 arr.size){Q:Option Nat->SortSt->Prop}
  (h:∀k,k<=n->(∀x∈arr.toList.take k,O.le x key)->(∀x∈(arr.extract k n).toList,O.le key x)->Q (some k) st):
  wpS (model prog w) A E s (sH left key arr 0 n hint) Q st:=
 Ea C hk hkey harr Qa hh (λ i j h1 h2 h3=>hs i j (Nat.zero_le _) h2 Qa) λ k hk j1 j2=>h k hk (λ x hx=>j1 x (by rw[Nat.zero_add,OM];exact hx)) (λ x hx=>j2 x (by rw[Nat.zero_add,Nat.zero_add];exact hx))
noncomputable abbrev aR0(O:SOrd)(a b:Array Keyed)(st:SortSt)(i:Nat)(c:Option (Array Keyed)×Nat×Nat×Array Keyed×Nat)(st':SortSt):Prop:=∃na nb out mg g,c=(none,na,nb,out,mg)/\st'=fH st g/\dE O a b out na nb/\1<=na/\2<=nb/\na<=a.size/\nb<=b.size/\i+na+nb+1<=a.size+b.size
noncomputable abbrev aO0(O:SOrd)(a b:Array Keyed)(st:SortSt)(c:Option (Array Keyed)×Nat×Nat×Array Keyed×Nat)(st':SortSt):Prop:=∃r na nb out mg g,c=(some r,na,nb,out,mg)/\st'=fH st g/\iA O a b r
noncomputable abbrev aQ0(O:SOrd)(a b:Array Keyed)(st:SortSt)(i:Nat)(g:Nat)(j:Nat)(c:Option (Array Keyed)×Nat×Nat×Array Keyed×Nat×Nat)(st':SortSt):Prop:=∃na nb out ac bc,c=(none,na,nb,out,ac,bc)/\st'=fH st g/\dE O a b out na nb/\1<=na/\2<=nb/\na<=a.size/\nb<=b.size/\i+j+na+nb+1<=a.size+b.size
noncomputable abbrev aN0(O:SOrd)(a b:Array Keyed)(st:SortSt)(i:Nat)(g:Nat)(c:Option (Array Keyed)×Nat×Nat×Array Keyed×Nat×Nat)(st':SortSt):Prop:=st'=fH st g/\((∃r na nb out ac bc,c=(some r,na,nb,out,ac,bc)/\iA O a b r)\/∃na nb out ac bc,c=(none,na,nb,out,ac,bc)/\dE O a b out na nb/\1<=na/\2<=nb/\na<=a.size/\nb<=b.size/\i+na+nb+1<=a.size+b.size)
noncomputable abbrev aP0(O:SOrd)(a b:Array Keyed)(st:SortSt)(i:Nat)(j:Nat)(c:Option (Array Keyed)×Nat×Nat×Array Keyed×Nat×Nat×Nat)(st':SortSt):Prop:=∃na nb out mg ac bc g,c=(none,na,nb,out,mg,ac,bc)/\st'=fH st g/\dE O a b out na nb/\1<=na/\2<=nb/\na<=a.size/\nb<=b.size/\i+j+na+nb+1<=a.size+b.size
noncomputable abbrev aM0(O:SOrd)(a b:Array Keyed)(st:SortSt)(i:Nat)(c:Option (Array Keyed)×Nat×Nat×Array Keyed×Nat×Nat×Nat)(st':SortSt):Prop:=∃g,st'=fH st g/\((∃r na nb out mg ac bc,c=(some r,na,nb,out,mg,ac,bc)/\iA O a b r)\/∃na nb out mg ac bc,c=(none,na,nb,out,mg,ac,bc)/\dE O a b out na nb/\1<=na/\2<=nb/\na<=a.size/\nb<=b.size/\i+na+nb+2<=a.size+b.size)
theorem Rt(C:fJ prog w A s κ a₀ O){st:SortSt}(hk:kindOf st=κ){a b:Array Keyed}(ha:∀p,p∈a->p∈a₀)(hb:∀p,p∈b->p∈a₀)(na1:1<=a.size)(nb1:1<=b.size)(sa:bB O a 0 a.size)(sb:bB O b 0 b.size)(hF:∀x∈a.toList,O.le (aL b 0) x)(hL:∀y∈b.toList,O.le y (aL a (a.size-1))){Q:Array Keyed->SortSt->Prop}(h:∀out g,iA O a b out->Q out (fH st g)):
  wpS (model prog w) A E s (Ij a b) Q st:=by
 unfold Ij
 have hkg:∀g,kindOf (fH st g)=κ:=λ _=>hk
 refine wpS_bind (wpS_lift (wpAny_rule ⟨rfl,?_⟩))
 try dsimp-zeta-zetaHave only
 refine wpS_bind (eM Qa λ p0 e0 _=>?_)
 have v0:dE O a b #[p0] (a.size-1) b.size:=dE.start sa na1 e0 (λ y hy=>gE e0▸hL y hy)
 by_cases c1:(a.size-1==0)=true
 ·rw[if_pos c1]
  exact wpS_pure (h _ (gallopOf st) (v0.done (.inl (eq_of_beq c1)) sa sb))
 rw[if_neg c1]
 by_cases c2:(b.size==1)=true
 ·rw[if_pos c2]
  exact wpS_pure (h _ (gallopOf st) (v0.first (eq_of_beq c2) hF sa sb))
 rw[if_neg c2]
 simp only[beq_iff_eq]at c1 c2
 refine wpS_bind (wpS_get ?_)
 refine wpS_bind (wpS_mono (wpS_forRange (I:=aR0 O a b st)
  (Q:=aO0 O a b st) ?_ ?_ ⟨_,_,_,_,gallopOf st,rfl,rfl,v0,Qa,Qa,Qa,Qa,Qa⟩) ?_)
 ·rintro i c st' _ hi ⟨na,nb,out,mg,g,rfl,rfl,v,la,lb,za,zb,hp⟩
  try dsimp-zeta-zetaHave only
  refine wpS_bind (wpS_mono (wpS_forRange (I:=aQ0 O a b st i g)
   (Q:=aN0 O a b st i g) ?_ ?_ ⟨_,_,_,_,_,rfl,rfl,v,la,lb,za,zb,Qa⟩) ?_)
  ·rintro j c st' _ _ ⟨na,nb,out,ac,bc,rfl,rfl,v,la,lb,za,zb,hp⟩
   try dsimp only
   refine wpS_bind (eM Qa λ p ep hpm=>?_)
   refine wpS_bind (eM Qa λ q eq hqm=>?_)
   refine wpS_bind (qG C (hkg _) (hb p hpm) (ha q hqm) ?_)
   try dsimp only
   cases bw:O.blt p q
   ·simp only[Bool.false_eq_true,if_false]
    refine wpS_bind (eM Qa λ q' eq' _=>?_)
    have v2:=v.pushB Qa sb ep eq' (λ z hz=>SOrd.le_trans (jH sa eq hz) bw)
    by_cases d1:(nb-1==1)=true
    ·rw[if_pos d1]
     simp only[beq_iff_eq]at d1
     exact wpS_pure ⟨rfl,.inl ⟨_,_,_,_,_,_,rfl,v2.first Qa hF sa sb⟩⟩
    ·rw[if_neg d1]
     simp only[beq_iff_eq]at d1
     split
     ·exact wpS_pure ⟨rfl,.inr ⟨_,_,_,_,_,rfl,v2,Qa,Qa,Qa,Qa,Qa⟩⟩
     ·exact wpS_pure ⟨_,_,_,_,_,rfl,rfl,v2,Qa,Qa,Qa,Qa,Qa⟩
   ·simp only[if_true]
    refine wpS_bind (eM Qa λ q' eq' _=>?_)
    have v2:=v.pushA Qa sa eq eq' (λ z hz=>SOrd.le_trans (jH sb ep hz) (SOrd.le_of_lt bw))
    by_cases d1:(na-1==0)=true
    ·rw[if_pos d1]
     simp only[beq_iff_eq]at d1
     exact wpS_pure ⟨rfl,.inl ⟨_,_,_,_,_,_,rfl,v2.done Qa sa sb⟩⟩
    ·rw[if_neg d1]
     simp only[beq_iff_eq]at d1
     split
     ·exact wpS_pure ⟨rfl,.inr ⟨_,_,_,_,_,rfl,v2,Qa,Qa,Qa,Qa,Qa⟩⟩
     ·exact wpS_pure ⟨_,_,_,_,_,rfl,rfl,v2,Qa,Qa,Qa,Qa,Qa⟩
  ·rintro c st' ⟨na,nb,out,ac,bc,rfl,rfl,v,la,lb,za,zb,hp⟩
   exact⟨rfl,.inr ⟨_,_,_,_,_,rfl,v,la,lb,za,zb,Qa⟩⟩
  ·rintro c st' ⟨rfl,⟨r,na,nb,out,ac,bc,rfl,hr⟩|⟨na,nb,out,ac,bc,rfl,v,la,lb,za,zb,hp⟩⟩
   ·exact wpS_pure ⟨_,_,_,_,_,_,rfl,rfl,hr⟩
   try dsimp-zeta-zetaHave only
   refine wpS_bind (wpS_lift (wpAny_rule ⟨rfl,?_⟩))
   try dsimp-zeta-zetaHave only
   refine wpS_bind (wpS_mono (wpS_forRange (I:=aP0 O a b st i)
    (Q:=aM0 O a b st i) ?_ ?_ ⟨_,_,_,_,_,_,g,rfl,rfl,v,la,lb,za,zb,Qa⟩) ?_)
   ·rintro j c st' _ _ ⟨na,nb,out,mg,ac,bc,g,rfl,rfl,v,la,lb,za,zb,hp⟩
    extract_lets _ na1 _ nb1 _ out1 _ mg1 _ ac1 bc1 nm1 jp
    refine Dy (f:=jp) λ m=>?_
    refine wpS_bind (wpS_modify ?_)
    refine wpS_bind (eM (i:=nb-1) Qa λ q1 eq1 hq1=>?_)
    refine wpS_bind (Eb (n:=na) (hint:=na-1) C (hkg _) (hb q1 hq1) ha Qa Qa sa λ k1 hk1 G1 G2=>?_)
    dsimp-zeta-zetaHave only
    extract_lets k ack jp2
    refine Dx (f:=jp2) (λ ix o=>dE O a b o ix nb/\1<=ix/\ix<=na/\∀x∈a.toList.take ix,O.le x q1) (λ c d=>?_) (λ c d=>?_) (λ c=>?_) ?_
    ·exact wpS_pure ⟨_,rfl,.inl ⟨_,_,_,_,_,_,_,rfl,(v.extA k1 hk1 sa (λ x hx z hz=>SOrd.le_trans (jH sb eq1 hz) (G2 x hx))).done (.inl (eq_of_beq d)) sa sb⟩⟩
    ·have d:¬k1=0:=λ h=>d (beq_iff_eq.mpr h)
     exact⟨v.extA k1 hk1 sa (λ x hx z hz=>SOrd.le_trans (jH sb eq1 hz) (G2 x hx)),Qa,hk1,G1⟩
    ·have c:¬na-k1>0:=c
     rw[show k1=na from Qa]at G1
     exact⟨v,la,Nat.le_refl _,G1⟩
    rintro ix o1 ⟨v1,l1,z1,F1⟩
    refine wpS_bind (eM (i:=nb-1) Qa λ q2 eq2 _=>?_)
    have v2:=v1.pushB Qa sb eq1 eq2 F1
    extract_lets o2
    split
    ·rename_i d1
     exact wpS_pure ⟨_,rfl,.inl ⟨_,_,_,_,_,_,_,rfl,v2.first (eq_of_beq d1) hF sa sb⟩⟩
    rename_i d1
    have d1:¬nb-1=1:=λ h=>d1 (beq_iff_eq.mpr h)
    refine wpS_bind (eM (i:=ix-1) Qa λ q3 eq3 hq3=>?_)
    refine wpS_bind (Eb (n:=nb-1) (hint:=nb-1-1) C (hkg _) (ha q3 hq3) hb Qa Qa sb λ k2 hk2 G3 G4=>?_)
    dsimp-zeta-zetaHave only
    extract_lets k' bck jp3
    refine Dw (f:=jp3) (λ iy o=>dE O a b o ix iy/\2<=iy/\iy<=nb-1/\∀x∈b.toList.take iy,O.le x q3) (λ c d=>?_) (λ c d e=>?_) (λ c d e=>?_) (λ c=>?_) ?_
    ·exact wpS_pure ⟨_,rfl,.inl ⟨_,_,_,_,_,_,_,rfl,(v2.extB k2 hk2 sb (λ x hx z hz=>SOrd.le_trans (jH sa eq3 hz) (G4 x hx))).first (eq_of_beq d) hF sa sb⟩⟩
    ·exact wpS_pure ⟨_,rfl,.inl ⟨_,_,_,_,_,_,_,rfl,(v2.extB k2 hk2 sb (λ x hx z hz=>SOrd.le_trans (jH sa eq3 hz) (G4 x hx))).done (.inr (eq_of_beq e)) sa sb⟩⟩
    ·have d:¬k2=1:=λ h=>d (beq_iff_eq.mpr h)
     have e:¬k2=0:=λ h=>e (beq_iff_eq.mpr h)
     exact⟨v2.extB k2 hk2 sb (λ x hx z hz=>SOrd.le_trans (jH sa eq3 hz) (G4 x hx)),Qa,hk2,G3⟩
    ·have c:¬nb-1-k2>0:=c
     rw[show k2=nb-1 from Qa]at G3
     exact⟨v2,(by omega:2<=nb-1),Nat.le_refl _,G3⟩
    rintro iy o3 ⟨v3,l3,z3,F3⟩
    refine wpS_bind (eM (i:=ix-1) Qa λ q4 eq4 _=>?_)
    have v4:=v3.pushA Qa sa eq3 eq4 F3
    extract_lets o4
    split
    ·rename_i f1
     exact wpS_pure ⟨_,rfl,.inl ⟨_,_,_,_,_,_,_,rfl,v4.done (.inl (eq_of_beq f1)) sa sb⟩⟩
    rename_i f1
    have f1:¬ix-1=0:=λ h=>f1 (beq_iff_eq.mpr h)
    have B:1<=ix-1/\ix-1<=a.size/\iy<=b.size/\i+(ix-1)+iy+2<=a.size+b.size/\i+j+1+(ix-1)+iy+1<=a.size+b.size:=by omega
    split
    ·exact wpS_pure ⟨_,rfl,.inr ⟨_,_,_,_,_,_,rfl,v4,B.1,l3,B.2.1,B.2.2.1,B.2.2.2.1⟩⟩
    ·exact wpS_pure ⟨_,_,_,_,_,_,_,rfl,rfl,v4,B.1,l3,B.2.1,B.2.2.1,B.2.2.2.2⟩
   ·rintro c st' ⟨na,nb,out,mg,ac,bc,g,rfl,rfl,v,la,lb,za,zb,hp⟩
    exact absurd hp Qa
   ·rintro c st' ⟨g,rfl,⟨r,na,nb,out,mg,ac,bc,rfl,hr⟩|⟨na,nb,out,mg,ac,bc,rfl,v,la,lb,za,zb,hp⟩⟩
    ·exact wpS_pure ⟨_,_,_,_,_,_,rfl,rfl,hr⟩
    ·exact wpS_bind (wpS_modify (wpS_pure ⟨na,nb,out,_,_,rfl,rfl,v,la,lb,za,zb,Qa⟩))
 ·rintro c st' ⟨na,nb,out,mg,g,rfl,rfl,v,la,lb,za,zb,hp⟩
  exact absurd hp Qa
 ·rintro c st' ⟨r,na,nb,out,mg,g,rfl,rfl,hr⟩
  exact wpS_pure (h r g hr)
end
theorem Ro{arr m:Array Keyed}{sa:Nat}(hs:sa+m.size<=arr.size)(i:Nat):(m.toList.zipIdx.foldl (λ (a:Array Keyed) (x:Keyed×Nat)=>a.setIfInBounds (sa+x.2) x.1) arr)[i]? =if i<sa then arr[i]? else if i<sa+m.size then m[i-sa]? else arr[i]?:=by
 have hl:m.toList.length=m.size:=Array.length_toList
 have e:=Bu m.toList 0 arr (sa:=sa) Qa
 rw[hl,Nat.add_zero]at e
 rw[<-Array.getElem?_toList,e]
 have h1:sa<=arr.toList.length:=by rw[Array.length_toList];omega
 have ht:(arr.toList.take sa).length=sa:=by rw[List.length_take];omega
 by_cases c1:i<sa
 ·rw[if_pos c1,List.append_assoc,List.getElem?_append_left (by rw[ht];exact c1),List.getElem?_take,if_pos c1,Array.getElem?_toList]
 ·rw[if_neg c1]
  by_cases c2:i<sa+m.size
  ·rw[if_pos c2,List.append_assoc,List.getElem?_append_right (by rw[ht];omega),ht,List.getElem?_append_left (by rw[hl];omega),Array.getElem?_toList]
  ·rw[if_neg c2,List.getElem?_append_right (by rw[List.length_append,ht,hl];omega),List.length_append,ht,hl,List.getElem?_drop,show sa+m.size+(i-(sa+m.size))=i from Qa,Array.getElem?_toList]
theorem Pc{O:SOrd}{xs:Array Keyed}{lo m hi:Nat}(h1:bB O xs lo m)(h2:bB O xs m hi)(hm:lo<m)(e:O.le (aL xs (m-1)) (aL xs m)):bB O xs lo hi:=λ i j a b c=>by
 by_cases q:j<m
 ·exact h1 i j a b q
 ·by_cases z:i<m
  ·exact SOrd.le_trans (h1 i (m-1) a Qa Qa) (SOrd.le_trans e (h2 m j (Nat.le_refl _) Qa c))
  ·exact h2 i j Qa b c
theorem Nh{O:SOrd}{arr:Array Keyed}{lo hi i j:Nat}(h:bB O arr lo hi)(h1:lo<=i)(h2:j<=hi)(h3:j<=arr.size):bB O (arr.extract i j) 0 (arr.extract i j).size:=λ u v _ b c=>by
 have hz:(arr.extract i j).size=j-i:=by rw[Array.size_extract];omega
 rw[hz]at c
 have g:∀k,k<j-i->aL (arr.extract i j) k=aL arr (i+k):=λ k hk=>by
  unfold aL
  rw[Array.getElem?_extract,if_pos Qa]
 rw[g u Qa,g v c]
 exact h _ _ Qa Qa Qa
theorem vU{arr:Array Keyed}{i j:Nat}{x:Keyed}(h:x∈(arr.extract i j).toList):∃k,i<=k/\k<j/\aL arr k=x:=by
 obtain⟨k,h1,h2,e⟩:=nL h
 exact⟨k,h1,h2,gE e⟩
theorem BU{O:SOrd}{m:Array Keyed}(h:m.toList.Pairwise O.le){i j:Nat}(hij:i<=j)(hj:j<m.size):O.le (aL m i) (aL m j):=by
 by_cases z:i=j
 ·rw[z];exact SOrd.le_refl _
 ·have:=List.pairwise_iff_getElem.mp h i j (by simp;omega) (by simp;omega) Qa
  unfold aL
  rw[Array.getElem?_eq_getElem Qa,Array.getElem?_eq_getElem hj]
  simpa using this
section
variable{prog:Program}{w:World}{A:Around}{E:Qd}{s:Shared}{a₀:Array Keyed}{κ:SortKind}{O:SOrd}
theorem Rv(C:fJ prog w A s κ a₀ O){st:SortSt}(B:dC κ a₀ st){i sa na pw sb nb pw2:Nat}(e1:(pendingOf st)[i]? =some (sa,na,pw))(e2:(pendingOf st)[i+1]? =some (sb,nb,pw2))(hsb:sb=sa+na)(h1:1<=na)(h2:1<=nb)(hz:sb+nb<=a₀.size)
  (aa:bB O (arrOf st) sa sb) (ab:bB O (arrOf st) sb (sb+nb)) {Q:Bool->SortSt->Prop} (h:∀st',dC κ a₀ st'->pendingOf st'=((pendingOf st).setIfInBounds i (sa,na+nb,pw)).eraseIdxIfInBounds (i+1)->bB O (arrOf st') sa (sb+nb)->(∀j,j<sa\/sb+nb<=j->(arrOf st')[j]? =(arrOf st)[j]?)->Q true st'):wpS (model prog w) A E s (mergeAt' i) Q st:=by
 have hsz:=B.size
 have hin:∀p,p∈arrOf st->p∈a₀:=λ p hp=>B.perm.mem_iff.mp hp
 unfold mergeAt'
 refine wpS_bind (wpS_get ?_)
 rw[e1,e2]
 try dsimp only
 refine wpS_bind (Rq ?_)
 obtain⟨st1,es⟩:∃st1,st1=Ga st (((pendingOf st).setIfInBounds i (sa,na+nb,pw)).eraseIdxIfInBounds (i+1)):=⟨_,rfl⟩
 have B1:dC κ a₀ st1:=by rw[es];exact⟨B.perm,B.kind,B.failed⟩
 have ep1:pendingOf st1=((pendingOf st).setIfInBounds i (sa,na+nb,pw)).eraseIdxIfInBounds (i+1):=by rw[es]
 have ea1:arrOf st1=arrOf st:=by rw[es]
 change wpS (model prog w) A E s _ Q (Ga st (((pendingOf st).setIfInBounds i (sa,na+nb,pw)).eraseIdxIfInBounds (i+1)))
 rw[<-es]
 refine wpS_bind (eM (arr:=arrOf st) Qa λ p ep hp=>?_)
 refine wpS_bind (yC (base:=sa) (n:=na) (hint:=0) C B1.kind (hin p hp) hin Qa Qa (by rw[<-hsb];exact aa) λ k hk j1 j2=>?_)
 have kp:aL (arrOf st) sb=p:=gE ep
 have g1:∀t,sa<=t->t<sa+k->O.le (aL (arrOf st) t) (aL (arrOf st) sb):=λ t x1 x2=>by
  rw[kp]
  have:=j1 (t-sa) Qa
  rw[show sa+(t-sa)=t from Qa]at this
  exact Cn this
 have g2:∀t,sa+k<=t->t<sb->O.le (aL (arrOf st) sb) (aL (arrOf st) t):=λ t x1 x2=>by
  rw[kp]
  have:=j2 (t-sa) Qa Qa
  rw[show sa+(t-sa)=t from Qa]at this
  exact Co this
 try dsimp only
 by_cases c1:(na-k==0)=true
 ·rw[if_pos c1]
  simp only[beq_iff_eq]at c1
  refine wpS_pure (h _ B1 ep1 ?_ λ j _=>by rw[ea1])
  rw[ea1]
  exact Pc aa ab Qa (g1 _ Qa Qa)
 rw[if_neg c1]
 simp only[beq_iff_eq]at c1
 refine wpS_bind (eM (arr:=arrOf st) Qa λ q eq hq=>?_)
 have kq:aL (arrOf st) (sb-1)=q:=by
  rw[show sb-1=sa+k+(na-k)-1 from Qa]
  exact gE eq
 refine wpS_bind (yC (base:=sb) (n:=nb) (hint:=nb-1) C B1.kind (hin q hq) hin Qa Qa ab λ m hm j3 j4=>?_)
 have g3:∀t,sb<=t->t<sb+m->O.le (aL (arrOf st) t) (aL (arrOf st) (sb-1)):=λ t x1 x2=>by
  rw[kq]
  have:=j3 (t-sb) Qa
  rw[show sb+(t-sb)=t from Qa]at this
  exact Cn this
 have g4:∀t,sb+m<=t->t<sb+nb->O.le (aL (arrOf st) (sb-1)) (aL (arrOf st) t):=λ t x1 x2=>by
  rw[kq]
  have:=j4 (t-sb) Qa Qa
  rw[show sb+(t-sb)=t from Qa]at this
  exact Co this
 try dsimp only
 by_cases c2:(m==0)=true
 ·rw[if_pos c2]
  simp only[beq_iff_eq]at c2
  refine wpS_pure (h _ B1 ep1 ?_ λ j _=>by rw[ea1])
  rw[ea1]
  exact Pc aa ab Qa (g4 _ Qa Qa)
 rw[if_neg c2]
 simp only[beq_iff_eq]at c2
 have zx:((arrOf st).extract (sa+k) sb).size=na-k:=by rw[Array.size_extract];omega
 have zy:((arrOf st).extract sb (sb+m)).size=m:=by rw[Array.size_extract];omega
 have ax:bB O ((arrOf st).extract (sa+k) sb) 0 ((arrOf st).extract (sa+k) sb).size:=Nh aa Qa (Nat.le_refl _) Qa
 have ay:bB O ((arrOf st).extract sb (sb+m)) 0 ((arrOf st).extract sb (sb+m)).size:=Nh ab (Nat.le_refl _) Qa Qa
 have ky:aL ((arrOf st).extract sb (sb+m)) 0=aL (arrOf st) sb:=by
  unfold aL
  rw[Array.getElem?_extract,if_pos Qa,Nat.add_zero]
 have kx:aL ((arrOf st).extract (sa+k) sb) (((arrOf st).extract (sa+k) sb).size-1)=aL (arrOf st) (sb-1):=by
  rw[zx]
  unfold aL
  rw[Array.getElem?_extract,if_pos Qa,show sa+k+(na-k-1)=sb-1 from Qa]
 have hF:∀x∈((arrOf st).extract (sa+k) sb).toList,O.le (aL ((arrOf st).extract sb (sb+m)) 0) x:=λ x hx=>by
  rw[ky]
  obtain⟨t,t1,t2,rfl⟩:=vU hx
  exact g2 t t1 t2
 have hL:∀y∈((arrOf st).extract sb (sb+m)).toList,O.le y (aL ((arrOf st).extract (sa+k) sb) (((arrOf st).extract (sa+k) sb).size-1)):=λ y hy=>by
  rw[kx]
  obtain⟨t,t1,t2,rfl⟩:=vU hy
  exact g3 t t1 t2
 have fin:∀(out:Array Keyed) (g:Nat),iA O ((arrOf st).extract (sa+k) sb) ((arrOf st).extract sb (sb+m)) out->wpS (model prog w) A E s (do
   modify λ s=>setArr s (out.toList.zipIdx.foldl (λ a (x:Keyed×Nat)=>a.setIfInBounds (sa+k+x.2) x.1) (arrOf s))
   let s'<-get
   return(failedOf s').isNone) Q (fH st1 g):=by
  intro out g ⟨ho,hpw⟩
  have src:∀x∈out.toList,∃t,sa+k<=t/\t<sb+m/\aL (arrOf st) t=x:=λ x hx=>by
   have:=(Array.perm_iff_toList_perm.mp ho).mem_iff.mp hx
   rw[Array.toList_append,List.mem_append]at this
   rcases this with h|h
   ·obtain⟨t,t1,t2,e⟩:=vU h
    exact⟨t,t1,Qa,e⟩
   ·obtain⟨t,t1,t2,e⟩:=vU h
    exact⟨t,Qa,t2,e⟩
  have zo:out.size=na-k+m:=by
   have:=ho.size_eq
   rw[Array.size_append,zx,zy]at this
   exact this
  have he:(arrOf st).extract (sa+k) sb++(arrOf st).extract sb (sb+m)=(arrOf st).extract (sa+k) (sa+k+(na-k+m)):=by
   rw[Array.extract_append_extract]
   congr 1<;>omega
  rw[he]at ho
  have wp:(out.toList.zipIdx.foldl (λ a (x:Keyed×Nat)=>a.setIfInBounds (sa+k+x.2) x.1) (arrOf st1)).Perm (arrOf st1):=Rn (sa:=sa+k) (k:=na-k+m) (by rw[ea1];omega) (by rw[ea1];exact ho)
  have wg:=Ro (arr:=arrOf st) (m:=out) (sa:=sa+k) Qa
  rw[<-ea1]at wg
  refine wpS_bind (wpS_modify (wpS_bind (wpS_get ?_)))
  have B2:dC κ a₀ (setArr (fH st1 g) (out.toList.zipIdx.foldl (λ a (x:Keyed×Nat)=>a.setIfInBounds (sa+k+x.2) x.1) (arrOf st1))):=⟨wp.trans B1.perm,B1.kind,B1.failed⟩
  have hf:(failedOf st1).isNone=true:=by rw[B1.failed];rfl
  show wpS _ _ _ _ (pure (failedOf st1).isNone) _ _
  rw[hf]
  refine wpS_pure (h _ B2 ep1 ?_ λ j hj=>?_)
  ·show bB O (out.toList.zipIdx.foldl (λ a (x:Keyed×Nat)=>a.setIfInBounds (sa+k+x.2) x.1) (arrOf st1)) sa (sb+nb)
   generalize out.toList.zipIdx.foldl (λ a (x:Keyed×Nat)=>a.setIfInBounds (sa+k+x.2) x.1) (arrOf st1)=arr' at wg
   rw[ea1]at wg
   have out_at:∀t,sa+k<=t->t<sb+m->aL arr' t=aL out (t-(sa+k))/\aL out (t-(sa+k))∈out.toList:=λ t t1 t2=>by
    have w:=wg t
    rw[if_neg Qa,if_pos Qa]at w
    refine⟨fI w,?_⟩
    unfold aL
    rw[Array.getElem?_eq_getElem Qa]
    exact Array.mem_toList_iff.mpr (Array.getElem_mem _)
   have old_at:∀t,t<sa+k\/sb+m<=t->aL arr' t=aL (arrOf st) t:=λ t ht=>by
    have w:=wg t
    rcases ht with ht|ht
    ·rw[if_pos ht]at w;exact fI w
    ·rw[if_neg Qa,if_neg Qa]at w;exact fI w
   have ft:∀u t,sa<=u->u<sa+k->sa+k<=t->t<sb+nb->O.le (aL (arrOf st) u) (aL (arrOf st) t):=λ u t u1 u2 t1 t2=>by
    by_cases z:t<sb
    ·exact aa u t u1 Qa z
    ·exact SOrd.le_trans (g1 u u1 u2) (ab sb t (Nat.le_refl _) Qa t2)
   have tt:∀u t,sa+k<=u->u<sb+m->sb+m<=t->t<sb+nb->O.le (aL (arrOf st) u) (aL (arrOf st) t):=λ u t u1 u2 t1 t2=>by
    by_cases z:u<sb
    ·exact SOrd.le_trans (aa u (sb-1) Qa Qa Qa) (g4 t t1 t2)
    ·exact ab u t Qa Qa t2
   intro i j a b c
   by_cases i1:i<sa+k
   ·rw[old_at i (.inl i1)]
    by_cases j1:j<sa+k
    ·rw[old_at j (.inl j1)]
     exact aa i j a b Qa
    ·by_cases j2:j<sb+m
     ·obtain⟨e,hm⟩:=out_at j Qa j2
      rw[e]
      obtain⟨t,t1,t2,et⟩:=src _ hm
      rw[<-et]
      exact ft i t a i1 t1 Qa
     ·rw[old_at j (.inr Qa)]
      exact ft i j a i1 Qa c
   ·by_cases i2:i<sb+m
    ·obtain⟨e,hm⟩:=out_at i Qa i2
     rw[e]
     by_cases j2:j<sb+m
     ·obtain⟨e2,_⟩:=out_at j Qa j2
      rw[e2]
      exact BU hpw Qa Qa
     ·rw[old_at j (.inr Qa)]
      obtain⟨t,t1,t2,et⟩:=src _ hm
      rw[<-et]
      exact tt t j t1 t2 Qa c
    ·rw[old_at i (.inr Qa),old_at j (.inr Qa)]
     exact ab i j Qa b c
  ·have w:=wg j
   rw[<-ea1]
   rcases hj with hj|hj
   ·rw[if_pos Qa]at w;exact w
   ·rw[if_neg Qa,if_neg Qa]at w;exact w
 by_cases c3:na-k<=m
 ·rw[if_pos c3]
  exact wpS_bind (Rr C B1.kind (λ p hp=>hin p (wS hp)) (λ p hp=>hin p (wS hp)) Qa Qa ax ay hF hL fin)
 ·rw[if_neg c3]
  exact wpS_bind (Rt C B1.kind (λ p hp=>hin p (wS hp)) (λ p hp=>hin p (wS hp)) Qa Qa ax ay hF hL fin)
end
noncomputable def Po(lo hi:Nat)(xs ys:Array Keyed):Prop:=∀i,lo<=i->i<hi->ys[i]? =xs[i]?
theorem Pb{O:SOrd}{xs ys:Array Keyed}{lo hi a b:Nat}(s:Po lo hi xs ys)(h:bB O xs a b)(h1:lo<=a)(h2:b<=hi):bB O ys a b:=λ i j x y z=>by
 rw[fI (s i Qa Qa),fI (s j Qa Qa)]
 exact h i j x y z
noncomputable def cF(O:SOrd)(xs:Array Keyed):Nat->List (Nat×Nat×Nat)->Nat->Prop
 |lo,[],hi=>lo=hi
 |lo,x::r,hi=>x.1=lo/\1<=x.2.1/\bB O xs lo (lo+x.2.1)/\cF O xs (lo+x.2.1) r hi
section
variable{O:SOrd}{xs ys:Array Keyed}
theorem cF.le:∀{p:List (Nat×Nat×Nat)} {lo hi:Nat},cF O xs lo p hi->lo+p.length<=hi
 |[],_,_,h=>Nat.le_of_eq h
 |x::r,lo,hi,⟨_,h1,_,h2⟩=>by have:=cF.le h2;rw[List.length_cons];omega
theorem cF.congr:∀{p:List (Nat×Nat×Nat)} {lo hi:Nat},cF O xs lo p hi->Po lo hi xs ys->cF O ys lo p hi
 |[],_,_,h,_=>h
 |x::r,lo,hi,⟨h0,h1,h2,h3⟩,s=>by
  have:=h3.le
  exact⟨h0,h1,Pb s h2 (Nat.le_refl _) Qa,cF.congr h3 λ i a b=>s i Qa b⟩
theorem cF.two:∀{p:List (Nat×Nat×Nat)} {lo hi i:Nat} {x y:Nat×Nat×Nat},cF O xs lo p hi->p[i]? =some x->p[i+1]? =some y->
  lo<=x.1/\y.1=x.1+x.2.1/\1<=x.2.1/\1<=y.2.1/\y.1+y.2.1<=hi/\bB O xs x.1 y.1/\bB O xs y.1 (y.1+y.2.1)/\
  ∀ys,(∀j,j<x.1\/y.1+y.2.1<=j->ys[j]? =xs[j]?)->bB O ys x.1 (y.1+y.2.1)->cF O ys lo ((p.set i (x.1,x.2.1+y.2.1,x.2.2)).eraseIdx (i+1)) hi
 |[],_,_,_,_,_,_,h,_=>by simp at h
 |[u],_,_,0,_,_,_,_,h=>by simp at h
 | u::v::r,lo,hi,0,x,y,⟨h1,h2,ha,h3,h4,hb,h5⟩,e1,e2=>by
  obtain rfl:u=x:=by simpa using e1
  obtain rfl:v=y:=by simpa using e2
  refine⟨Qa,Qa,h2,h4,by have:=h5.le;omega,by rw[h1,h3];exact ha,by rw[h3];exact hb,λ ys s a=>?_⟩
  show u.1=lo/\1<=u.2.1+v.2.1/\bB O ys lo (lo+(u.2.1+v.2.1))/\cF O ys (lo+(u.2.1+v.2.1)) r hi
  refine⟨h1,Qa,?_,?_⟩
  ·rw[h1,h3,Nat.add_assoc]at a
   exact a
  ·rw[<-Nat.add_assoc]
   exact h5.congr λ j a _=>s j (.inr Qa)
 |u::r,lo,hi,i+1,x,y,⟨h1,h2,ha,h3⟩,e1,e2=>by
  obtain⟨z,a,b,c,d,f,g,e⟩:=cF.two (i:=i) h3 (by simpa using e1) (by simpa using e2)
  refine⟨Qa,a,b,c,d,f,g,λ ys s as=>?_⟩
  exact⟨h1,h2,Pb (hi:=lo+u.2.1) (λ j _ q=>s j (.inl Qa)) ha (Nat.le_refl _) (Nat.le_refl _),e ys s as⟩
theorem cF.push:∀{p:List (Nat×Nat×Nat)} {lo hi n k:Nat},cF O xs lo p hi->1<=n->bB O xs hi (hi+n)->cF O xs lo (p++[(hi,n,k)]) (hi+n)
 |[],_,_,_,_,h,h1,a=>by cases h;exact⟨rfl,h1,a,rfl⟩
 |_::_,_,_,_,_,⟨a,b,c,d⟩,h1,h2=>⟨a,b,c,cF.push d h1 h2⟩
end
theorem cF.modifyL{O:SOrd}{xs:Array Keyed}{f:Nat×Nat×Nat->Nat×Nat×Nat}(hf:∀x,(f x).1=x.1/\(f x).2.1=x.2.1):∀{p q:List (Nat×Nat×Nat)} {lo hi i:Nat},cF O xs lo (p++q) hi->cF O xs lo (p.modify i f++q) hi
 |[],_,_,_,i,h=>by cases i<;>exact h
 |x::r,q,lo,hi,0,⟨a,b,c,d⟩=>by
  rw[List.modify_zero_cons]
  exact⟨(hf x).1.trans a,by rw[(hf x).2];exact b,by rw[(hf x).2];exact c,by rw[(hf x).2];exact d⟩
 |x::r,q,lo,hi,i+1,⟨a,b,c,d⟩=>by
  rw[List.modify_succ_cons]
  exact⟨a,b,c,cF.modifyL hf d⟩
theorem AD{α:Type}{p q:List α}{i:Nat}{x:α}(h:i+1<p.length):((p++q).set i x).eraseIdx (i+1)=(p.set i x).eraseIdx (i+1)++q:=by
 rw[List.set_append_left _ _ Qa,List.eraseIdx_append_of_lt_length (by rw[List.length_set];exact h)]
section
variable{prog:Program}{w:World}{A:Around}{E:Qd}{s:Shared}{a₀:Array Keyed}{κ:SortKind}{O:SOrd}
theorem Dv(C:fJ prog w A s κ a₀ O){st:SortSt}(B:dC κ a₀ st){hi i:Nat}{q:List (Nat×Nat×Nat)}(R:cF O (arrOf st) 0 ((pendingOf st).toList++q) hi)(hz:hi<=a₀.size)(hi2:i+1<(pendingOf st).size){Q:Bool->SortSt->Prop}
  (h:∀st',dC κ a₀ st'->cF O (arrOf st') 0 ((pendingOf st').toList++q) hi->(pendingOf st').size+1=(pendingOf st).size->Q true st'):wpS (model prog w) A E s (mergeAt' i) Q st:=by
 obtain⟨⟨sa,na,pw⟩,e1⟩:∃x,(pendingOf st)[i]? =some x:=⟨_,Array.getElem?_eq_getElem Qa⟩
 obtain⟨⟨sb,nb,pw2⟩,e2⟩:∃x,(pendingOf st)[i+1]? =some x:=⟨_,Array.getElem?_eq_getElem hi2⟩
 have hl:(pendingOf st).toList.length=(pendingOf st).size:=Array.length_toList
 obtain⟨_,a,b,c,d,f,g,e⟩:=R.two (i:=i) (by rw[List.getElem?_append_left Qa,Array.getElem?_toList];exact e1) (by rw[List.getElem?_append_left Qa,Array.getElem?_toList];exact e2)
 refine Rv C B e1 e2 a b c (Nat.le_trans d hz) f g λ st' B' ep as ss=>h st' B' ?_ ?_
 ·rw[ep]
  have:(((pendingOf st).setIfInBounds i (sa,na+nb,pw)).eraseIdxIfInBounds (i+1)).toList=((pendingOf st).toList.set i (sa,na+nb,pw)).eraseIdx (i+1):=by
   simp
  rw[this,<-AD Qa]
  exact e _ ss as
 ·rw[ep]
  have:(((pendingOf st).setIfInBounds i (sa,na+nb,pw)).eraseIdxIfInBounds (i+1)).toList.length+1=(pendingOf st).size:=by
   simp only[Array.toList_eraseIdxIfInBounds,Array.toList_setIfInBounds]
   rw[List.length_eraseIdx_of_lt (by rw[List.length_set,Array.length_toList];exact hi2),List.length_set,Array.length_toList]
   omega
  rw[Array.length_toList]at this
  exact this
theorem Ru(C:fJ prog w A s κ a₀ O){st:SortSt}(B:dC κ a₀ st){hi i:Nat}{q:List (Nat×Nat×Nat)}(R:cF O (arrOf st) 0 ((pendingOf st).toList++q) hi)(hz:hi<=a₀.size)(hi2:i+1<(pendingOf st).size){Q:Bool->SortSt->Prop}
  (h:∀st',dC κ a₀ st'->cF O (arrOf st') 0 ((pendingOf st').toList++q) hi->Q true st'):wpS (model prog w) A E s (mergeAt' i) Q st:=Dv C B R hz hi2 λ st' b r _=>h st' b r
theorem Rx(C:fJ prog w A s κ a₀ O){st:SortSt}(B:dC κ a₀ st){hi i:Nat}(R:cF O (arrOf st) 0 (pendingOf st).toList hi)(hz:hi<=a₀.size)(hi2:i+1<(pendingOf st).size){Q:Bool->SortSt->Prop}
  (h:∀st',dC κ a₀ st'->cF O (arrOf st') 0 (pendingOf st').toList hi->(pendingOf st').size+1=(pendingOf st).size->Q true st'):wpS (model prog w) A E s (mergeAt' i) Q st:=
 Dv (q:=[]) C B (by rw[List.append_nil];exact R) hz hi2 λ st' b r e=>h st' b (by rw[List.append_nil]at r;exact r) e
theorem Rp(C:fJ prog w A s κ a₀ O){st:SortSt}(B:dC κ a₀ st)(e0:pendingOf st= #[]){Q:Unit->SortSt->Prop}(h:∀st',dC κ a₀ st'->bB O (arrOf st') 0 a₀.size->Q () st'):wpS (model prog w) A E s sortRuns' Q st:=by
 rw[sortRuns'_eq]
 refine wpS_bind (wpS_get ?_)
 try dsimp only
 have hsz:=B.size
 rw[hsz]
 generalize minRun' a₀.size a₀.size 0=mr
 refine wpS_bind (wpS_mono (wpS_forRange (I:=λ i c st'=>∃lo,c=(none,lo)/\i<=lo/\lo<=a₀.size/\dC κ a₀ st'/\cF O (arrOf st') 0 (pendingOf st').toList lo) (Q:=λ c st'=>c=(none,a₀.size)/\dC κ a₀ st'/\cF O (arrOf st') 0 (pendingOf st').toList a₀.size) ?_ ?_ ⟨0,rfl,Qa,Qa,B,by rw[e0];rfl⟩) ?_)
 ·rintro i c st' _ hi ⟨lo,rfl,hil,hlo,B,R⟩
  try dsimp only
  by_cases c1:lo≥a₀.size
  ·rw[if_pos c1]
   obtain rfl:lo=a₀.size:=by omega
   exact wpS_pure ⟨rfl,B,R⟩
  rw[if_neg c1]
  refine wpS_bind (Ry C ⟨B,rfl⟩ Qa Qa λ n st1 B1 n1 n2 a1 o1=>?_)
  try dsimp only
  obtain⟨B1,ep1⟩:=B1
  have R1:cF O (arrOf st1) 0 (pendingOf st1).toList lo:=by rw[ep1];exact R.congr λ j _ q=>o1 j (.inl q)
  by_cases c2:n<mr
  rw[if_pos c2]
  refine wpS_bind (wpS_lift (wpAny_rule ⟨rfl,?_⟩))
  try dsimp only
  refine wpS_bind (Sa C ⟨B1,rfl⟩ Qa Qa a1 λ st2 B2 a2 o2=>?_)
  obtain⟨B2,ep2⟩:=B2
  have R2:cF O (arrOf st2) 0 (pendingOf st2).toList lo:=by rw[ep2];exact R1.congr λ j _ q=>o2 j (.inl q)
  have hm1:1<=min (a₀.size-lo) mr:=by omega
  simp only[Bool.not_true,Bool.false_eq_true,if_false]
  obtain⟨m,em⟩:∃m,m=min (a₀.size-lo) mr:=⟨_,rfl⟩
  rw[<-em]at hm1 a2⊢
  have hm2:lo+m<=a₀.size:=by omega
  rotate_left
  rw[if_neg c2]
  obtain⟨st2,es2⟩:∃st2,st2=st1:=⟨_,rfl⟩
  rw[<-es2]at B1 R1 a1⊢
  have B2:=B1
  have R2:=R1
  have a2:=a1
  have hm1:=n1
  obtain⟨m,em⟩:∃m,m=n:=⟨_,rfl⟩
  rw[<-em]at hm1 a2⊢
  have hm2:lo+m<=a₀.size:=by omega
  all_goals
   refine wpS_bind (wpS_get ?_)
   try dsimp only
   cases hbk:(pendingOf st2).back? with
   |none=>
    try dsimp only
    refine wpS_bind (wpS_modify (wpS_pure ⟨_,rfl,Qa,Qa,⟨B2.perm,B2.kind,B2.failed⟩,?_⟩))
    show cF O (arrOf st2) 0 ((pendingOf st2).push (lo,m,0)).toList (lo+m)
    rw[Array.toList_push]
    exact R2.push hm1 a2
   | some x=>
    obtain⟨s1,k1,z1⟩:=x
    try dsimp only
    refine wpS_bind (wpS_mono (wpS_forRange (I:=λ _ c st'=>c=(none,())/\dC κ a₀ st'/\cF O (arrOf st') 0 ((pendingOf st').toList++[(lo,m,0)]) (lo+m)) (Q:=λ c st'=>c=(none,())/\dC κ a₀ st'/\cF O (arrOf st') 0 ((pendingOf st').toList++[(lo,m,0)]) (lo+m)) ?_ (λ _ _ z=>z) ⟨rfl,B2,R2.push hm1 a2⟩) ?_)
    ·rintro j c st4 _ _ ⟨rfl,B4,R4⟩
     refine wpS_bind (wpS_get ?_)
     by_cases d:(pendingOf st4).size>1
     ·rw[if_pos d]
      obtain⟨⟨u1,u2,u3⟩,eu⟩:∃x,(pendingOf st4)[(pendingOf st4).size-2]? =some x:=⟨_,Array.getElem?_eq_getElem Qa⟩
      rw[eu]
      try dsimp only
      split
      ·exact wpS_pure ⟨rfl,B4,R4⟩
      ·refine wpS_bind (Ru C B4 R4 Qa Qa λ st5 B5 R5=>?_)
       exact wpS_pure ⟨rfl,B5,R5⟩
     ·rw[if_neg d]
      exact wpS_pure ⟨rfl,B4,R4⟩
    ·rintro c st4 ⟨rfl,B4,R4⟩
     try dsimp only
     refine wpS_bind (wpS_modify (wpS_bind (wpS_modify (wpS_pure ⟨_,rfl,Qa,Qa,⟨B4.perm,B4.kind,B4.failed⟩,?_⟩))))
     show cF O (arrOf st4) 0 (((pendingOf st4).modify _ _).push (lo,m,0)).toList (lo+m)
     rw[Array.toList_push,Array.toList_modify]
     refine cF.modifyL ?_ R4
     exact λ _=>⟨rfl,rfl⟩
 ·rintro c st' ⟨lo,rfl,hil,hlo,B,R⟩
  obtain rfl:lo=a₀.size:=by omega
  exact⟨rfl,B,R⟩
 ·rintro c st' ⟨rfl,B,R⟩
  try dsimp only
  have z0:=R.le
  rw[Array.length_toList]at z0
  refine wpS_bind (wpS_mono (wpS_forRange (I:=λ i c st'=>c=(none,())/\dC κ a₀ st'/\cF O (arrOf st') 0 (pendingOf st').toList a₀.size/\((pendingOf st').size+i<=a₀.size\/(pendingOf st').size<=1)) (Q:=λ c st'=>c=(none,())/\dC κ a₀ st'/\cF O (arrOf st') 0 (pendingOf st').toList a₀.size/\(pendingOf st').size<=1) ?_ (λ _ _ z=>⟨z.1,z.2.1,z.2.2.1,by have:=z.2.2.2;omega⟩) ⟨rfl,B,R,Qa⟩) ?_)
  ·rintro i c st2 _ hi ⟨rfl,B2,R2,zi⟩
   refine wpS_bind (wpS_get ?_)
   by_cases d:(pendingOf st2).size<=1
   ·rw[if_pos d]
    exact wpS_pure ⟨rfl,B2,R2,d⟩
   ·rw[if_neg d]
    refine wpS_bind (Rx C B2 R2 (Nat.le_refl _) (Nat.lt_of_le_of_lt (Nat.add_le_add_right MH 1) Qa) λ st3 B3 R3 z3=>?_)
    exact wpS_pure ⟨rfl,B3,R3,Qa⟩
  ·rintro c st2 ⟨rfl,B2,R2,z2⟩
   refine wpS_pure (h _ B2 ?_)
   have one:(pendingOf st2).toList.length<=1:=by rw[Array.length_toList];exact z2
   generalize(pendingOf st2).toList=p at R2 one
   match p,R2,one with
   |[],e,_=>
    have e:0=a₀.size:=e
    exact λ i j _ _ c=>absurd c Qa
   |[x],⟨x0,_,a,e⟩,_=>
    have e:0+x.2.1=a₀.size:=e
    rw[e]at a
    exact a
end
section
variable{prog:Program}{w:World}{A:Around}{E:Qd}{s:Shared}
noncomputable def pQ(h:Heap)(a:Addr)(vs:List Value):Heap:=((h.update a (Obj.mapSeq λ _=>#[])).push (seqObj "tuple" vs.toArray 0)).push (seqObj "list" #[] 0)
theorem Pd{h:Heap}{a b:Addr}{vs:List Value}(lt:b<h.objs.size):(pQ h a vs).get? b=(h.update a (Obj.mapSeq λ _=>#[])).get? b:=by
 unfold pQ
 have l1:b<(h.update a (Obj.mapSeq λ _=>#[])).objs.size:=by rw[Heap.size_update];exact lt
 rw[Heap.get?_push_ne _ _ _ (Nat.ne_of_lt (by rw[size_push'];exact Nat.lt_succ_of_lt l1))]
 exact Heap.get?_push_ne _ _ _ (Nat.ne_of_lt l1)
end
section
variable{prog:Program}{w:World}{A:Around}{E:Qd}{s:Shared}{O:SOrd}
noncomputable def Pn(prog:Program)(w:World)(A:Around)(s:Shared)(a:Addr)(vs:List Value)(O:SOrd):Prop:=
 ∀sI:Shared,(∀b o,b≠a->s.heap.get? b=some o->sI.heap.get? b=some o)->∃κ:SortKind,(∀(E:Qd) (Q:SortKind->Shared->Prop),Q κ sI->wpAny (model prog w) A (keyKind' vs.toArray) Q E sI)/\fJ prog w A sI κ (pairsOf vs) O
noncomputable def xP(O:SOrd)(us:List Value):Prop:=us.Pairwise λ x y=>O.le (x,x) (y,y)
theorem Gk{vs:List Value}{xs:Array Keyed}(p:xs.Perm (pairsOf vs))(a:bB O xs 0 vs.length):(xs.map (·.2)).toList.Perm vs/\xP O (xs.map (·.2)).toList:=by
 have same:∀q∈xs,q.1=q.2:=λ q hq=>by
  have:=p.mem_iff.mp hq
  rw[<-Array.mem_toList_iff,pairsOf_toList]at this
  have e:∀(l:List Value) (q:Keyed),q∈l.zip l->q.1=q.2:=λ l=>by
   induction l with
   |nil=>intro q h;simp at h
   |cons v l ih=>
    intro q h
    rcases List.mem_cons.mp h with rfl|h
    ·rfl
    ·exact ih q h
  exact e vs q this
 have sz:xs.size=vs.length:=p.size_eq.trans (pairsOf_size _)
 constructor
 ·rw[Array.toList_map]
  have:=(Array.perm_iff_toList_perm.mp p).map (·.2)
  rw[pairsOf_toList]at this
  have e:∀l:List Value,(l.zip l).map (·.2)=l:=λ l=>by
   induction l with
   |nil=>rfl
   |cons v l ih=>simp[ih]
  rw[e]at this
  exact this
 ·unfold xP
  rw[List.pairwise_iff_getElem]
  intro i j hi hj hij
  simp only[Array.length_toList,Array.size_map]at hi hj
  have g:∀k (hk:k<xs.size),aL xs k=((xs.map (·.2)).toList[k]'(by simpa using hk),(xs.map (·.2)).toList[k]'(by simpa using hk)):=λ k hk=>by
   unfold aL
   rw[Array.getElem?_eq_getElem hk]
   have:=same xs[k] (Array.getElem_mem hk)
   simp only[Option.getD_some,Array.getElem_toList,Array.getElem_map]
   exact Prod.ext this rfl
  have:=a i j (Nat.zero_le _) (Nat.le_of_lt hij) Qa
  rw[g i hi,g j hj]at this
  exact this
theorem LC{a:Addr}{vs:List Value}{n:Nat}{P:Fin->Shared->Prop}(hob:s.heap.get? a=some (seqObj "list" vs.toArray n))(hS:2<=vs.length->Pn prog w A s a vs O)(hlen:vs.length<=1000)
  (h:∀out:Array Value,out.toList.Perm vs->xP O out.toList->P (.done (.ret .none)) {s with heap:=sortedHeap s.heap a vs out}):wpAny (model prog w) A (Builtin.«list.sort» ⟨[.ref a],[]⟩) P E s:=by
 rw[list_sort_plain]
 have few:vs.toArray.size=vs.length:=List.size_toArray
 have fit:vs.toArray.size<=sizeLine:=by rw[few];exact Nat.le_trans hlen Fu
 obtain⟨ep,gone⟩:∃ep,(s.heap.update a (Obj.mapSeq λ _=>#[])).get? a=some (seqObj "list" #[] ep):=⟨_,get?_update_seq hob _⟩
 have gone':(pQ s.heap a vs).get? a=some (seqObj "list" #[] ep):=(Pd (Heap.lt_size hob)).trans gone
 refine wpAny_bind (listItems_at hob rfl (wpAny_bind (listUpdate_at hob rfl ?_ (hsz:=fit) (hsz2:=Nat.zero_le _))))
 refine wpAny_bind (seqEpoch_at gone rfl (wpAny_bind (wpAny_newTuple (wpAny_bind (wpAny_newList (wpAny_holding ?_))))))
 change wpAny (model prog w) A _ P E {s with heap:=pQ s.heap a vs}
 dsimp only
 by_cases two:vs.toArray.size<2
 ·rw[if_pos two,if_pos two]
  refine wpAny_bind (wpAny_pure ?_)
  rw[StateT.run_pure]
  refine wpAny_bind (wpAny_pure (wpAny_bind (seqEpoch_at gone' rfl (wpAny_bind (listUpdate_at gone' rfl ?_ (hsz2:=?_))))))
  ·rw[bne_self_eq_false,if_neg Bool.false_ne_true]
   have r:=Gk (O:=O) (vs:=vs) (xs:=pairsOf vs) (Array.Perm.refl _) λ i j _ hij hj=>by
    have:i=j:=by omega
    rw[this];exact SOrd.le_refl _
   exact wpAny_pure (h _ r.1 r.2)
  ·rw[Array.size_map]
   show(pairsOf vs).size<=_
   rw[pairsOf_size,<-few]
   omega
 ·rw[if_neg two,if_neg two]
  obtain⟨κ,kk,cmp⟩:=hS Qa {s with heap:=pQ s.heap a vs} λ b o ne get=>by
   show(pQ s.heap a vs).get? b=some o
   rw[Pd (Heap.lt_size get),Heap.get?_update_ne _ _ _ _ ne]
   exact get
  have sz0:(pairsOf vs).size=vs.length:=pairsOf_size _
  refine wpAny_bind (kk _ _ (wpAny_bind (wpAny_mono (Rp (a₀:=pairsOf vs) cmp (st:=SortSt.mk' κ (vs.toArray.zip vs.toArray) #[] 7 none) ⟨Array.Perm.refl _,rfl,rfl⟩ rfl
   (Q:=λ _ st'=>(arrOf st').Perm (pairsOf vs)/\failedOf st'=none/\bB O (arrOf st') 0 vs.length) λ _ B up=>⟨B.perm,B.failed,by rw[<-sz0];exact up⟩) ?_ λ _ _ z=>z)))
  rintro⟨_,st'⟩ _ ⟨rfl,perm,sound,up⟩
  refine wpAny_bind (seqEpoch_at gone' rfl (wpAny_bind (listUpdate_at gone' rfl ?_ (hsz2:=?_))))
  ·rw[bne_self_eq_false,if_neg Bool.false_ne_true]
   dsimp only
   rw[sound]
   have r:=Gk perm up
   exact wpAny_pure (h _ r.1 r.2)
  ·have:=(Array.size_map (f:=λ x:Keyed=>x.2) (xs:=arrOf st')).trans (perm.size_eq.trans (pairsOf_size _))
   exact Nat.le_trans (Nat.le_of_eq this) Qa
end
end L2
namespace L2
open PySem PySem.Spec PyProof.Rows PySem.W
noncomputable def W3(h:Heap)(v:Value):Prop:=∃a o n x t i u y k,v= .ref a/\h.get? a=some o/\o.cls= .type "tuple"/\o.data= .seq #[.str x t,.int i u,.str y k] n
noncomputable def gB(x:List Nat)(i:Int)(y:List Nat):List Int:=x.map Int.ofNat++(-1::i::y.map Int.ofNat)
noncomputable def lW:Option Obj->List Int
 | some o=>match o.data with
  |.seq its _=>match(its[0]?:Option Value),(its[1]?:Option Value),(its[2]?:Option Value)with
   |some (.str x _),some (.int i _),some (.str y _)=>gB x.cps.toList i y.cps.toList
   |_,_,_=>[]
  |_=>[]
 |none=>[]
noncomputable def fD(h:Heap):Value->List Int
 |.ref a=>lW (h.get? a)
 |_=>[]
theorem Az{o:Obj}{x y:Str}{t k:Tok}{i:Int}{u:Tok}{n:Nat}(hd:o.data= .seq #[.str x t,.int i u,.str y k] n):lW (some o)=gB x.cps.toList i y.cps.toList:=by
 unfold lW
 dsimp only
 rw[hd]
 rfl
noncomputable def qS(h:Heap):SOrd where
 blt p q:=decide (fD h p.1<fD h q.1)
 irrefl a:=decide_eq_false (List.lt_irrefl _)
 trans a b c h1 h2:=decide_eq_true (List.lt_trans (of_decide_eq_true h1) (of_decide_eq_true h2))
 weak a b c h1:=by
  by_cases z:fD h a.1<fD h b.1
  ·exact .inl (decide_eq_true z)
  ·exact .inr (decide_eq_true (List.lt_of_le_of_lt (List.not_lt.mp z) (of_decide_eq_true h1)))
theorem app_lt{α:Type}[LT α][DecidableLT α][Std.Irrefl (α:=α) (· < ·)]:∀{a r r':List α},(a++r<a++r')↔r<r'
 |[],_,_=>Iff.rfl
 | x::a,r,r'=>by
  rw[List.cons_append,List.cons_append,List.cons_lt_cons_iff]
  constructor
  ·rintro(h|⟨_,h⟩)
   ·exact absurd h (Std.Irrefl.irrefl x)
   ·exact app_lt.mp h
  ·exact λ h=>.inr ⟨rfl,app_lt.mpr h⟩
theorem Ay:∀{a b:List Nat} {r r':List Int},a≠b->((a.map Int.ofNat++(-1::r)<b.map Int.ofNat++(-1::r'))↔a<b)
 |[],[],_,_,h=>absurd rfl h
 |[],y::b,r,r',_=>by
  show(-1::r<(Int.ofNat y::(b.map Int.ofNat++(-1::r'))))↔_
  rw[List.cons_lt_cons_iff]
  exact⟨λ _=>List.nil_lt_cons _ _,λ _=>.inl (by show(-1:Int)<(y:Int);omega)⟩
 | x::a,[],r,r',_=>by
  show(Int.ofNat x::(a.map Int.ofNat++(-1::r))<(-1::r'))↔_
  rw[List.cons_lt_cons_iff]
  refine⟨λ h=>?_,λ h=>absurd h (List.not_lt_nil _)⟩
  rcases h with h|⟨h,_⟩
  ·have h:(x:Int)< -1:=h
   omega
  ·have h:(x:Int)= -1:=h
   omega
 | x::a,y::b,r,r',h=>by
  show(Int.ofNat x::(a.map Int.ofNat++(-1::r))<(Int.ofNat y::(b.map Int.ofNat++(-1::r'))))↔_
  rw[List.cons_lt_cons_iff,List.cons_lt_cons_iff]
  by_cases e:x=y
  ·subst e
   have hab:a≠b:=λ z=>h (by rw[z])
   constructor
   ·rintro(h|⟨_,h⟩)
    ·exact absurd h (Int.lt_irrefl _)
    ·exact .inr ⟨rfl,(Ay hab).mp h⟩
   ·rintro(h|⟨_,h⟩)
    ·exact absurd h (Nat.lt_irrefl _)
    ·exact .inr ⟨rfl,(Ay hab).mpr h⟩
  ·constructor
   ·rintro(h|⟨h,_⟩)
    ·exact .inl (by have h:(x:Int)<(y:Int):=h;omega)
    ·exact absurd (Int.ofNat.inj h) e
   ·rintro(h|⟨h,_⟩)
    ·exact .inl (by show(x:Int)<(y:Int);omega)
    ·exact absurd h e
theorem Io:∀{a b:List Nat},(a.map Int.ofNat<b.map Int.ofNat)↔a<b
 |[],[]=>⟨λ h=>absurd h (List.not_lt_nil _),λ h=>absurd h (List.not_lt_nil _)⟩
 |[],_::_=>⟨λ _=>List.nil_lt_cons _ _,λ _=>List.nil_lt_cons _ _⟩
 |_::_,[]=>⟨λ h=>absurd h (List.not_lt_nil _),λ h=>absurd h (List.not_lt_nil _)⟩
 | x::a,y::b=>by
  rw[List.map_cons,List.map_cons,List.cons_lt_cons_iff,List.cons_lt_cons_iff,Io]
  constructor
  ·rintro(h|⟨h,g⟩)
   ·exact .inl (by have h:(x:Int)<(y:Int):=h;omega)
   ·exact .inr ⟨Int.ofNat.inj h,g⟩
  ·rintro(h|⟨h,g⟩)
   ·exact .inl (by show(x:Int)<(y:Int);omega)
   ·exact .inr ⟨by rw[h],g⟩
theorem uA{x x' y y':List Nat}{i i':Int}(h:x≠x'):(gB x i y<gB x' i' y')↔x<x':=Ay h
theorem tZ{x y y':List Nat}{i i':Int}(h:i≠i'):(gB x i y<gB x i' y')↔i<i':=by
 unfold gB
 rw[app_lt,List.cons_lt_cons_iff,List.cons_lt_cons_iff]
 constructor
 ·rintro(h|⟨_,h|⟨e,_⟩⟩)
  ·exact absurd h (Int.lt_irrefl _)
  ·exact h
  ·exact absurd e h
 ·exact λ h=>.inr ⟨rfl,.inl h⟩
theorem wKey_lt3{x y y':List Nat}{i:Int}:(gB x i y<gB x i y')↔y<y':=by
 unfold gB
 rw[app_lt,List.cons_lt_cons_iff,List.cons_lt_cons_iff,Io]
 constructor
 ·rintro(h|⟨_,h|⟨_,h⟩⟩)
  ·exact absurd h (Int.lt_irrefl _)
  ·exact absurd h (Int.lt_irrefl _)
  ·exact h
 ·exact λ h=>.inr ⟨rfl,.inr ⟨rfl,h⟩⟩
theorem W3.stayK{h h':Heap}{v:Value}(x:W3 h v)(k:∀b o,v= .ref b->h.get? b=some o->h'.get? b=some o):W3 h' v/\fD h' v=fD h v:=by
 obtain⟨a,o,n,x,t,i,u,y,j,rfl,ho,hc,hd⟩:=x
 refine⟨⟨a,o,n,x,t,i,u,y,j,rfl,k a o rfl ho,hc,hd⟩,?_⟩
 show lW (h'.get? a)=lW (h.get? a)
 rw[ho,k a o rfl ho]
theorem SA{x y:Str}(h:(x==y)=false):x.cps.toList≠y.cps.toList:=λ z=>by
 have:x.cps=y.cps:=Array.toList_inj.mp z
 have e:x=y:=by
  cases x
  cases y
  cases this
  rfl
 rw[e]at h
 simp at h
section
variable{prog:Program}{w:World}{A:Around}{E:Qd}{s:Shared}
theorem SH{a₀:Array Keyed}{h0:Heap}(h3:∀p,p∈a₀->W3 s.heap p.1/\fD s.heap p.1=fD h0 p.1):fJ prog w A s (tuples' true) a₀ (qS h0):=by
 intro E p q Q hp hq hQ
 obtain⟨p1,p2⟩:=p
 obtain⟨q1,q2⟩:=q
 obtain⟨⟨a,o,n,x,t,i,u,y,k,rfl,ho,_,hd⟩,ka⟩:=h3 _ hp
 obtain⟨⟨a',o',n',x',t',i',u',y',k',rfl,ho',_,hd'⟩,kb⟩:=h3 _ hq
 have ea:fD h0 (.ref a)=gB x.cps.toList i y.cps.toList:=by
  rw[<-ka]
  show lW (s.heap.get? a)=_
  rw[ho,Az hd]
 have eb:fD h0 (.ref a')=gB x'.cps.toList i' y'.cps.toList:=by
  rw[<-kb]
  show lW (s.heap.get? a')=_
  rw[ho',Az hd']
 have hQ:Q (decide (fD h0 (.ref a)<fD h0 (.ref a'))) s:=hQ
 rw[ea,eb]at hQ
 refine kat_lt ho hd ho' hd' ?_
 show KatLex prog w A true _ Q [(.str x t,.str x' t'),(.int i u,.int i' u'),(.str y k,.str y' k')] 0 s
 refine kat_cons (eqBool_str (kat_go (λ e=>kat_yes ?_) λ e=>kat_no (oneLt_str ?_)))
 ·have ex:x=x':=eq_of_beq e
  subst ex
  refine kat_cons (wpAny_eqBool_int (kat_go (λ e=>kat_yes ?_) λ e=>kat_no (kat_one _ _ (lt_int ?_))))
  ·have ei:i=i':=eq_of_beq e
   subst ei
   refine kat_cons (eqBool_str (kat_go (λ e=>kat_yes (kat_nil ?_)) λ e=>kat_no (kat_one _ _ (lt_str ?_))))
   ·have ey:y=y':=eq_of_beq e
    subst ey
    rw[decide_eq_false (List.lt_irrefl _)]at hQ
    exact hQ
   ·rw[decide_eq_decide.mpr wKey_lt3]at hQ
    exact hQ
  ·have ni:i≠i':=by simpa using e
   rw[decide_eq_decide.mpr (tZ ni)]at hQ
   exact hQ
 ·rw[decide_eq_decide.mpr (uA (SA e))]at hQ
  exact hQ
theorem LQ{vs:List Value}(h3:∀v∈vs,W3 s.heap v)(hne:0<vs.length){Q:SortKind->Shared->Prop}(h:Q (tuples' true) s):wpAny (model prog w) A (keyKind' vs.toArray) Q E s:=by
 have:∀{vs:List Value},(∀v∈vs,W3 s.heap v)->∃fs,KatTups s.heap vs fs/\fs.length=vs.length/\∀v∈fs,∃x t,v= .str x t:=by
  intro vs h3
  induction vs with
  |nil=>exact⟨[],.nil,rfl,λ _ h=>nomatch h⟩
  |cons v r ih=>
   obtain⟨fs,hk,hl,hs⟩:=ih λ v hv=>h3 v (List.mem_cons_of_mem _ hv)
   obtain⟨a,o,n,x,t,i,u,y,k,rfl,ho,hc,hd⟩:=h3 v List.mem_cons_self
   refine⟨.str x t::fs,.cons ho hc hd rfl hk,by simp[hl],λ v hv=>?_⟩
   rcases List.mem_cons.mp hv with rfl|hv
   ·exact⟨_,_,rfl⟩
   ·exact hs v hv
 obtain⟨fs,hk,hl,hs⟩:=this h3
 refine kat_kind (T:=.type "str") hk Qa (λ v hv=>?_) Qc h
 obtain⟨x,t,rfl⟩:=hs v hv
 exact .now
theorem Xm{a:Addr}{vs:List Value}{h0:Heap}(h3:∀v∈vs,(W3 s.heap v/\fD s.heap v=fD h0 v)/\v≠ .ref a)(hne:0<vs.length):Pn prog w A s a vs (qS h0):=by
 intro sI hsI
 have at3:∀v∈vs,W3 sI.heap v/\fD sI.heap v=fD h0 v:=λ v hv=>by
  obtain⟨⟨c,k⟩,ne⟩:=h3 v hv
  obtain⟨c',k'⟩:=c.stayK (h':=sI.heap) λ b o e g=>hsI b o (λ z=>ne (by rw[e,z])) g
  exact⟨c',k'.trans k⟩
 have inv:∀p,p∈pairsOf vs->p.1∈vs:=λ p hp=>by
  rw[<-Array.mem_toList_iff,pairsOf_toList]at hp
  exact(List.of_mem_zip (a:=p.1) (b:=p.2) hp).1
 exact⟨tuples' true,λ E Q h=>LQ (λ v hv=>(at3 v hv).1) hne h,SH λ p hp=>at3 _ (inv p hp)⟩
end
end L2
namespace L2
open PySem PySem.Spec PyProof.Rows PySem.W PySem.SetTable
structure gR(t:SetTable)(n:Nat):Prop where
 place:t.place.size=n
 dum:t.dummies= #[]
 sz:hV t.mask
 room:n*5<t.mask*3
theorem gR.le{t:SetTable}{n:Nat}(h:gR t n):n<=t.mask:=by have:=h.room;omega
theorem gR.fits{t:SetTable}{n:Nat}(h:gR t n):t.fits n=true:=by
 unfold SetTable.fits SetTable.fill
 rw[h.dum,h.place]
 simpa using h.le
theorem gR.gave{t:SetTable}{n:Nat}(h:gR t n):t.gaveWay=false:=by
 unfold SetTable.gaveWay
 rcases h.sz with e|e|e|e<;>rw[e]<;>rfl
section
variable{prog:Program}{w:World}{A:Around}{E:Qd}{s:Shared}
theorem W3.key{h:Heap}{v:Value}(x:W3 h v):∃a ks,v= .ref a/\IsTupleKey (gK prog w) h ks a:=by
 obtain⟨a,o,n,x,t,i,u,y,k,rfl,ho,hc,hd⟩:=x
 exact⟨a,[.inr x,.inl i,.inr y],rfl,o,_,n,ho,hc,hd,.cons (vT ..) (.cons (Ih ..) (.cons (vT ..) .nil))⟩
theorem W3.quiet{v:Value}(x:W3 s.heap v){Q:Bool->Shared->Prop}(h:Q true s):wpAny (model prog w) A (eqIsQuiet 8 v) Q E s:=by
 obtain⟨a,ka,rfl,ha⟩:=x.key (prog:=prog) (w:=w)
 exact wpAny_eqIsQuiet_tuple ha h
theorem W3.noCls{v:Value}(x:W3 s.heap v){Q:Bool->Shared->Prop}(h:Q false s):wpAny (model prog w) A (ofAClassStatement 8 v) Q E s:=by
 obtain⟨a,o,n,x,t,i,u,y,k,rfl,ho,hc,hd⟩:=x
 unfold ofAClassStatement
 refine wpAny_bind (wpAny_typeOf (T:= "tuple") ⟨o,ho,hc⟩ ?_)
 refine wpAny_bind (wpAny_pure ?_)
 refine wpAny_bind (wpAny_seqItems ho hd ?_)
 refine wpAny_bind ?_
 rw[<-Array.forIn_toList]
 refine wpAny_forIn_list _ (λ rest r s'=>r.1=none/\s'=s/\∀v∈rest,carriedByValue v=true) _ ?_ ?_ _ _ ⟨rfl,rfl,?_⟩
 ·rintro v rest r s' ⟨hr,rfl,hall⟩
  have:ofAClassStatement 7 v=pure false:=by
   have:=hall v List.mem_cons_self
   cases v<;>first|rfl|(simp[carriedByValue]at this)|(unfold ofAClassStatement;rfl)
  rw[this]
  exact wpAny_bind (wpAny_pure (wpAny_pure ⟨rfl,rfl,λ u hu=>hall u (List.mem_cons_of_mem _ hu)⟩))
 ·rintro⟨r1,r2⟩ s' ⟨hr,rfl,_⟩
  simp only at hr
  subst hr
  exact wpAny_pure h
 ·intro v hv
  simp only[List.mem_cons,List.not_mem_nil,or_false]at hv
  rcases hv with rfl|rfl|rfl<;>rfl
theorem W3.byVal{v:Value}(x:W3 s.heap v){Q:Bool->Shared->Prop}(h:Q false s):wpAny (model prog w) A (hashByValue 8 v) Q E s:=by
 obtain⟨a,o,n,x,t,i,u,y,k,rfl,ho,hc,hd⟩:=x
 unfold hashByValue
 refine wpAny_bind (wpAny_specialOf (T:= "tuple") ⟨o,ho,hc⟩ F.slot_tuple_hash.lookup ?_)
 dsimp only
 refine wpAny_bind (wpAny_seqItems ho hd ?_)
 refine wpAny_bind ?_
 show wpAny _ _ (forIn (#[.str x t,.int i u,.str y k]:Array Value) _ _) _ _ _
 rw[<-Array.forIn_toList]
 rw[List.forIn_cons]
 refine wpAny_bind ?_
 refine wpAny_bind (m:=hashByValue 7 (.str x t)) (wpAny_pure ?_)
 exact wpAny_pure (wpAny_pure (wpAny_pure h))
theorem AK{x:Value}(hx:W3 s.heap x){ys:List Value}(hy:∀y∈ys,W3 s.heap y){Q:Bool->Shared->Prop}(h:Q false s):wpAny (model prog w) A (searchCouldBeSeen x ys) Q E s:=by
 unfold searchCouldBeSeen
 obtain⟨ax,_,rfl,_⟩:=hx.key (prog:=prog) (w:=w)
 refine wpAny_bind ?_
 refine wpAny_forIn_list _ (λ rest r s'=>r.1=none/\s'=s/\∀v∈rest,W3 s.heap v) _ ?_ ?_ _ _ ⟨rfl,rfl,hy⟩
 ·rintro v rest r s' ⟨hr,rfl,hall⟩
  have hv:=hall v List.mem_cons_self
  have hend:r.1=none/\s'=s'/\∀v∈rest,W3 s'.heap v:=⟨hr,rfl,λ u hu=>hall u (List.mem_cons_of_mem _ hu)⟩
  obtain⟨av,_,rfl,_⟩:=hv.key (prog:=prog) (w:=w)
  dsimp only
  by_cases hb:(ax==av||carriedByValue (.ref ax)&&carriedByValue (.ref av))=true
  ·rw[if_pos hb]
   exact wpAny_pure ⟨rfl,hend.2⟩
  ·rw[if_neg hb]
   refine wpAny_bind (hx.quiet ?_)
   simp only[Bool.not_true,Bool.false_eq_true,if_false]
   refine wpAny_bind (hv.quiet ?_)
   simp only[Bool.not_true,Bool.false_eq_true,if_false]
   refine wpAny_bind (hx.noCls ?_)
   simp only[Bool.false_eq_true,if_false]
   refine wpAny_bind (hv.noCls ?_)
   simp only[Bool.false_eq_true,if_false]
   exact wpAny_pure ⟨rfl,hend.2⟩
 ·rintro⟨r1,r2⟩ s' ⟨hr,rfl,_⟩
  simp only at hr
  subst hr
  exact wpAny_pure h
end
section
variable{prog:Program}{w:World}{A:Around}{E:Qd}{s:Shared}
theorem Ks{α:Type}(xs:Array α)(p:Nat)(x:α):(SetTable.insertAt xs p x).size=xs.size+1:=by
 unfold SetTable.insertAt
 rw[Array.size_append,Array.size_push,Array.size_extract,Array.size_extract]
 omega
theorem Il{α:Type}{xs:Array α}{a b:Nat}{y:α}(h:y∈xs.extract a b):y∈xs:=by
 obtain⟨i,hi,e⟩:=Array.mem_iff_getElem.mp h
 rw[<-e,Array.getElem_extract]
 exact Array.getElem_mem _
theorem Kt{α:Type}{xs:Array α}{p:Nat}{x y:α}(h:y∈SetTable.insertAt xs p x):y∈xs\/y=x:=by
 unfold SetTable.insertAt at h
 rcases Array.mem_append.mp h with h|h
 ·rcases Array.mem_push.mp h with h|h
  ·exact .inl (Il h)
  ·exact .inr h
 ·exact .inl (Il h)
theorem BY{t:SetTable}{n:Nat}(ht:gR t n)(j:Nat):(t.put j).1.place.size=n+1/\(t.put j).1.dummies= #[]/\(t.put j).1.mask=t.mask/\(t.put j).1.led=t.led/\(t.put j).1.plain=t.plain:=by
 unfold SetTable.put
 dsimp only
 refine⟨by rw[Ks,ht.place],?_,rfl,rfl,rfl⟩
 rw[if_neg]
 ·exact ht.dum
 ·unfold SetTable.has;rw[ht.dum];simp
theorem Fg{a:Addr}{o:Obj}{es es':Array (Int×Value)}{ep:Nat}{t t':SetTable}{h:Heap}(ho:h.get? a=some o)(hd:o.data= .set es ep t):
  (h.update a (Obj.putSet es' t')).get? a=some {o with data:=.set es' (ep+1) t'}:=by
 have:=Heap.get?_update_self (Obj.putSet es' t') ho (by rw[putSet_of es' t' hd];rfl)
 rw[putSet_of es' t' hd]at this
 exact this
end
end L2
namespace L2
open PySem PySem.SetTable
noncomputable def nX(xs:Array Nat):Prop:=∀i j,i<j->j<xs.size->xs.getD i 0<xs.getD j 0
theorem Cp{xs:Array Nat}{j:Nat}(R:nX xs):∀(fuel lo hi:Nat),hi-lo<=fuel->lo<=hi->hi<=xs.size->(∀i,i<lo->xs.getD i 0<j)->(∀i,hi<=i->i<xs.size->j<=xs.getD i 0)->
  below.go xs j fuel lo hi<=xs.size/\(∀i,i<below.go xs j fuel lo hi->xs.getD i 0<j)/\∀i,below.go xs j fuel lo hi<=i->i<xs.size->j<=xs.getD i 0
 |0,lo,hi,h,h1,h2,a,b=>by
  obtain rfl:lo=hi:=by omega
  unfold below.go
  exact⟨h2,a,b⟩
 | fuel+1,lo,hi,h,h1,h2,a,b=>by
  unfold below.go
  by_cases c:lo<hi
  ·rw[if_pos c]
   dsimp only
   have mono:∀i k,i<=k->k<xs.size->xs.getD i 0<=xs.getD k 0:=λ i k x y=>by
    by_cases z:i=k
    ·rw[z];exact Nat.le_refl _
    ·exact Nat.le_of_lt (R i k Qa y)
   have gd:xs.getD ((lo+hi)/2) j=xs.getD ((lo+hi)/2) 0:=by
    unfold Array.getD
    rw[dif_pos Qa,dif_pos Qa]
   rw[gd]
   by_cases d:xs.getD ((lo+hi)/2) 0<j
   ·rw[if_pos d]
    exact Cp R fuel _ _ Qa Qa h2 (λ i x=>Nat.lt_of_le_of_lt (mono i _ Qa Qa) d) b
   ·rw[if_neg d]
    exact Cp R fuel _ _ Qa Qa Qa a λ i x y=>Nat.le_trans (Nat.not_lt.mp d) (mono _ i x y)
  ·rw[if_neg c]
   obtain rfl:lo=hi:=by omega
   exact⟨h2,a,b⟩
theorem xJ{xs:Array Nat}(R:nX xs)(j:Nat):below xs j<=xs.size/\(∀i,i<below xs j->xs.getD i 0<j)/\∀i,below xs j<=i->i<xs.size->j<=xs.getD i 0:=
 Cp R _ _ _ Qa (Nat.zero_le _) (Nat.le_refl _) (λ i h=>absurd h (Nat.not_lt_zero _)) λ i h1 h2=>absurd h2 Qa
theorem NY{xs:Array Nat}{i x:Nat}(h:xs[i]? =some x):xs.getD i 0=x/\i<xs.size:=by
 obtain⟨hl,e⟩:=Array.getElem?_eq_some_iff.mp h
 exact⟨by unfold Array.getD;rw[dif_pos hl];exact e,hl⟩
theorem mK{xs:Array Nat}{i:Nat}(h:i<xs.size):xs[i]? =some (xs.getD i 0):=by
 rw[Array.getElem?_eq_getElem h]
 unfold Array.getD
 rw[dif_pos h]
 rfl
theorem yY{t:SetTable}(R:nX t.place){i j:Nat}(h:t.place[i]? =some j):t.slot j= .live i:=by
 obtain⟨e,l⟩:=NY h
 obtain⟨b0,b1,b2⟩:=xJ R j
 have hb:below t.place j=i:=by
  rcases Nat.lt_trichotomy (below t.place j) i with c|c|c
  ·have x:=b2 (below t.place j) (Nat.le_refl _) Qa
   have y:=R _ i c l
   omega
  ·exact c
  ·have:=b1 i c;omega
 unfold slot
 dsimp only
 rw[hb,h]
 simp
theorem Xo{t:SetTable}{i j:Nat}(h:t.slot j= .live i):t.place[i]? =some j:=by
 unfold slot at h
 dsimp only at h
 split at h
 ·rename_i e
  injection h with h
  subst h
  exact eq_of_beq e
 ·split at h<;>exact nomatch h
noncomputable def pW(t:SetTable)(j:Nat):Prop:=∃i:Nat,t.place[i]? =some j
noncomputable def tF(t:SetTable)(h:Int)(j:Nat):Prop:=∃c,(bH t c (t.probeStart h)).j=j/\∀c',c'<c->pW t (bH t c' (t.probeStart h)).j
theorem i9{t t':SetTable}(h:t'.mask=t.mask)(p:Probe):t'.advance p=t.advance p:=by
 unfold advance
 rw[h]
theorem nU{t t':SetTable}(h:t'.mask=t.mask):∀(c:Nat) (p:Probe),bH t' c p=bH t c p
 |0,p=>rfl
 |c+1,p=>by
  show bH t' c (t'.advance p)=bH t c (t.advance p)
  rw[i9 h,nU h]
theorem oP{t t':SetTable}(h:t'.mask=t.mask)(x:Int):t'.probeStart x=t.probeStart x:=by
 unfold probeStart
 rw[h]
theorem tF.more{t t':SetTable}{h:Int}{j:Nat}(hm:t'.mask=t.mask)(ho:∀j,pW t j->pW t' j)(p:tF t h j):tF t' h j:=by
 obtain⟨c,e,o⟩:=p
 refine⟨c,by rw[oP hm,nU hm];exact e,λ c' hc=>?_⟩
 rw[oP hm,nU hm]
 exact ho _ (o c' hc)
theorem Lc{t:SetTable}(hd:t.dummies= #[])(hashAt:Nat->Int)(h:Int):∀(k fuel:Nat) (p:Probe),k<fuel->nW t p k->
  (∃c,probe.go t hashAt h fuel p=some (.empty (bH t c p).j none)/\t.slot (bH t c p).j= .empty/\∀c',c'<c->∃i,t.slot (bH t c' p).j= .live i/\hashAt i≠h)\/
  ∃c i,probe.go t hashAt h fuel p=some (.candidate (bH t c p).j i (bH t (c+1) p))/\t.slot (bH t c p).j= .live i/\hashAt i=h/\c+1<=k/\nW t (bH t (c+1) p) (k-(c+1))/\∀c',c'<c->∃i,t.slot (bH t c' p).j= .live i/\hashAt i≠h
 |k,0,p,hk,_=>absurd hk (Nat.not_lt_zero _)
 |0,fuel+1,p,hk,e=>by
  have e2:t.slot p.j= .empty:=e.2
  refine .inl ⟨0,?_,e2,λ c' hc=>absurd hc (Nat.not_lt_zero _)⟩
  unfold probe.go
  rw[e2,e.1]
  rfl
 | k +1,fuel+1,p,hk,e=>by
  unfold probe.go
  cases hsl:t.slot p.j with
  |empty=>exact .inl ⟨0,by rw[e.1];rfl,hsl,λ c' hc=>absurd hc (Nat.not_lt_zero _)⟩
  |dummy=>exact absurd hsl (Xn hd)
  | live i=>
   dsimp only
   by_cases hh:(hashAt i==h)=true
   ·rw[if_pos hh]
    exact .inr ⟨0,i,rfl,hsl,eq_of_beq hh,Qa,e.next,λ c' hc=>absurd hc (Nat.not_lt_zero _)⟩
   ·rw[if_neg hh]
    have hne:hashAt i≠h:=λ z=>hh (by rw[z];exact beq_self_eq_true _)
    have ext:∀c,(∀c',c'<c->∃i,t.slot (bH t c' (t.advance p)).j= .live i/\hashAt i≠h)->∀c',c'<c+1->∃i,t.slot (bH t c' p).j= .live i/\hashAt i≠h:=λ c H c' hc=>by
     cases c' with
     |zero=>exact⟨i,hsl,hne⟩
     |succ c'=>exact H c' Qa
    rcases Lc hd hashAt h k fuel (t.advance p) (Nat.lt_of_succ_lt_succ hk) e.next with⟨c,a,b,d⟩|⟨c,i',a,b,b2,l,f,d⟩
    ·exact .inl ⟨c+1,a,b,ext c d⟩
    ·refine .inr ⟨c+1,i',a,b,b2,Qa,?_,ext c d⟩
     rw[show k+1-(c+1+1)=k-(c+1)from Qa]
     exact f
theorem rY{α:Type}{xs:Array α}{p:Nat}{x:α}(hp:p<=xs.size)(i:Nat):(SetTable.insertAt xs p x)[i]? =if i<p then xs[i]? else if i=p then some x else xs[i-1]?:=by
 unfold SetTable.insertAt
 have h1:((xs.extract 0 p).push x).size=p+1:=by rw[Array.size_push,Array.size_extract];omega
 by_cases c:i<p
 ·rw[if_pos c,Array.getElem?_append_left Qa,Array.getElem?_push_lt (by rw[Array.size_extract];omega)]
  rw[Array.getElem_extract,Array.getElem?_eq_getElem Qa]
  simp
 ·rw[if_neg c]
  by_cases d:i=p
  ·subst d
   rw[if_pos rfl,Array.getElem?_append_left Qa]
   have:(xs.extract 0 i).size=i:=by rw[Array.size_extract];omega
   rw[Array.getElem?_push,if_pos this.symm]
  ·rw[if_neg d,Array.getElem?_append_right Qa,h1,Array.getElem?_extract]
   by_cases l:i-1<xs.size
   ·rw[if_pos Qa,show p+(i-(p+1))=i-1 from Qa]
   ·rw[if_neg Qa,Array.getElem?_eq_none Qa]
theorem BX{t:SetTable}(hd:t.dummies= #[])(j:Nat):(t.put j).1.place=SetTable.insertAt t.place (below t.place j) j/\(t.put j).2=below t.place j:=⟨rfl,rfl⟩
theorem wL{α:Type}(xs:Array α)(p:Nat)(x:α)(hp:p<=xs.size):(SetTable.insertAt xs p x).size=xs.size+1:=by
 unfold SetTable.insertAt
 rw[Array.size_append,Array.size_push,Array.size_extract,Array.size_extract]
 omega
theorem AU{xs:Array Nat}(R:nX xs){j:Nat}(hn:∀i:Nat,xs[i]?≠some j):nX (SetTable.insertAt xs (below xs j) j):=by
 obtain⟨b0,b1,b2⟩:=xJ R j
 have g:∀i,i<xs.size+1->(SetTable.insertAt xs (below xs j) j).getD i 0=if i<below xs j then xs.getD i 0 else if i=below xs j then j else xs.getD (i-1) 0:=λ i hi=>by
  have e:=rY (x:=j) b0 i
  have l:i<(SetTable.insertAt xs (below xs j) j).size:=by rw[wL _ _ _ b0];exact hi
  rw[mK l]at e
  by_cases c:i<below xs j
  ·rw[if_pos c]at e⊢
   rw[mK Qa]at e
   exact Option.some.inj e
  ·rw[if_neg c]at e⊢
   by_cases d:i=below xs j
   ·rw[if_pos d]at e⊢
    exact Option.some.inj e
   ·rw[if_neg d]at e⊢
    rw[mK Qa]at e
    exact Option.some.inj e
 intro a b hab hb
 rw[wL _ _ _ b0]at hb
 rw[g a Qa,g b hb]
 have up:∀i,below xs j<=i->i<xs.size->j<xs.getD i 0:=λ i h1 h2=>by
  have:=b2 i h1 h2
  have ne:xs.getD i 0≠j:=λ z=>hn i (by rw[mK h2,z])
  omega
 by_cases c1:a<below xs j
 ·rw[if_pos c1]
  by_cases c2:b<below xs j
  ·rw[if_pos c2];exact R a b hab Qa
  ·rw[if_neg c2]
   by_cases c3:b=below xs j
   ·rw[if_pos c3];exact b1 a c1
   ·rw[if_neg c3];exact Nat.lt_trans (b1 a c1) (up (b-1) Qa Qa)
 ·rw[if_neg c1,if_neg (show¬b<below xs j from Qa),if_neg (show¬b=below xs j from Qa)]
  by_cases c3:a=below xs j
  ·rw[if_pos c3];exact up (b-1) Qa Qa
  ·rw[if_neg c3];exact R (a-1) (b-1) Qa Qa
theorem Kw{α β:Type}{xs:Array α}{ys:Array β}{p:Nat}{x:α}{y:β}(h1:p<=xs.size)(h2:p<=ys.size){i:Nat}{a:α}{b:β}(ha:(SetTable.insertAt xs p x)[i]? =some a)(hb:(SetTable.insertAt ys p y)[i]? =some b):
  (i=p/\a=x/\b=y)\/∃i0,xs[i0]? =some a/\ys[i0]? =some b/\i=if i0<p then i0 else i0+1:=by
 rw[rY h1]at ha
 rw[rY h2]at hb
 by_cases c:i<p
 ·rw[if_pos c]at ha hb
  exact .inr ⟨i,ha,hb,by rw[if_pos c]⟩
 ·rw[if_neg c]at ha hb
  by_cases d:i=p
  ·rw[if_pos d]at ha hb
   exact .inl ⟨d,(Option.some.inj ha).symm,(Option.some.inj hb).symm⟩
  ·rw[if_neg d]at ha hb
   exact .inr ⟨i-1,ha,hb,by rw[if_neg Qa];omega⟩
theorem Kv{α:Type}{xs:Array α}{p:Nat}{x a:α}(hp:p<=xs.size){i0:Nat}(h:xs[i0]? =some a):(SetTable.insertAt xs p x)[if i0<p then i0 else i0+1]? =some a:=by
 rw[rY hp]
 by_cases c:i0<p
 ·rw[if_pos c,if_pos c];exact h
 ·rw[if_neg c,if_neg Qa,if_neg Qa]
  exact h
theorem MT{α:Type}{xs:Array α}{p:Nat}{x:α}(hp:p<=xs.size):(SetTable.insertAt xs p x)[p]? =some x:=by
 rw[rY hp,if_neg Qa,if_pos rfl]
noncomputable def tM(mask:Nat):SetTable:={mask:=mask,place:= #[],dummies:= #[],finger:=0,led:=true,moves:=0,plain:=true}
theorem Ph{t:SetTable}:∀(m:Nat) (q:Probe),m<=q.more->bH t m q={q with j:=q.j+m,more:=q.more-m}
 |0,q,_=>rfl
 |m+1,q,h=>by
  show bH t m (t.advance q)=_
  have e:t.advance q={q with j:=q.j+1,more:=q.more-1}:=by unfold advance;rw[if_pos Qa]
  rw[Ph m _ (by rw[e];show m<=q.more-1;omega),e]
  show({q with j:=q.j+1+m,more:=q.more-1-m}:Probe)=_
  rw[show q.j+1+m=q.j+(m+1)from Qa,show q.more-1-m=q.more-(m+1)from Qa]
theorem AO{mask i:Nat}(h:i<=mask):i<=runEnd mask i/\runEnd mask i<=mask:=by
 unfold runEnd
 split<;>omega
theorem Ms{mask:Nat}(owner:Array (Option Nat)):∀(fuel i p:Nat) {j':Nat},layClean.free mask owner fuel i p=some j'->∀q:Probe,tU (tM mask) q->q.i=i->q.perturb=p->i<=mask->
  owner.getD j' (some 0)=none/\∃c,(bH (tM mask) c q).j=j'/\∀c',c'<c->(bH (tM mask) c' q).j<=mask/\owner.getD (bH (tM mask) c' q).j (some 0)≠none
 |0,i,p,j',h,_,_,_,_,_=>by unfold layClean.free at h;exact nomatch h
 | fuel+1,i,p,j',h,q,a,e1,e2,hi=>by
  obtain⟨r1,r2⟩:=AO hi
  have hq:q.j=i:=a.1.trans e1
  have hm:q.more=runEnd mask i-i:=by rw[a.2,e1];rfl
  have run:∀m,m<=runEnd mask i-i->(bH (tM mask) m q).j=i+m:=λ m h=>by
   rw[Ph m q Qa]
   show q.j+m=_
   rw[hq]
  unfold layClean.free at h
  cases hf:(List.range (runEnd mask i+1-i)).find? λ k=>(owner.getD (i+k) (some 0)).isNone with
  |some k=>
   rw[hf]at h
   have h:some (i+k)=some j':=h
   injection h with h
   obtain⟨p1,p2,p3⟩:=List.find?_range_eq_some.mp hf
   have hk:k<runEnd mask i+1-i:=List.mem_range.mp p2
   refine⟨by rw[<-h];simpa using p1,k,by rw[run k Qa,h],λ c' hc=>?_⟩
   rw[run c' Qa]
   refine⟨Qa,λ z=>?_⟩
   have:=p3 c' hc
   rw[z]at this
   exact absurd this Qb
  | none=>
   rw[hf]at h
   dsimp only at h
   have all:=List.find?_range_eq_none.mp hf
   obtain⟨q',e3,a',l⟩:=zK (tM mask) _ q rfl
   have l1:q'.i=(leap mask i p).1:=by
    have:=congrArg Prod.fst l
    rw[e1,e2]at this
    exact this
   have l2:q'.perturb=(leap mask i p).2:=by
    have:=congrArg Prod.snd l
    rw[e1,e2]at this
    exact this
   obtain⟨f1,c,f2,f3⟩:=Ms owner fuel _ _ h q' a' l1 l2 (Nat.le_of_lt_succ (Nat.mod_lt _ (Nat.succ_pos _)))
   refine⟨f1,q.more+1+c,by rw[mL,e3];exact f2,λ c' hc=>?_⟩
   by_cases d:c'<=q.more
   ·rw[run c' Qa]
    refine⟨Qa,λ z=>?_⟩
    have:=all c' Qa
    rw[z]at this
    exact absurd this Qb
   ·have:=f3 (c'-(q.more+1)) Qa
    rw[show c'=q.more+1+(c'-(q.more+1))from Qa,mL,e3]
    exact this
structure pT(mask:Nat)(hs:List Int)(owner:Array (Option Nat))(k:Nat):Prop where
 inj:∀j j' v,owner.getD j none=some v->owner.getD j' none=some v->j=j'
 all:∀v,v<k->∃j,owner.getD j none=some v
 path:∀j v h,owner.getD j none=some v->hs[v]? =some h->∃c,(bH (tM mask) c ((tM mask).probeStart h)).j=j/\∀c',c'<c->(bH (tM mask) c' ((tM mask).probeStart h)).j<=mask/\owner.getD (bH (tM mask) c' ((tM mask).probeStart h)).j (some 0)≠none
theorem pT.put{mask:Nat}{hs:List Int}{owner:Array (Option Nat)}{k j:Nat}{h:Int}(o:jD mask owner k)(op:pT mask hs owner k)(hh:hs[k]? =some h)(e:layClean.free mask owner (turns mask) (bits h%(mask+1)) (bits h)=some j):pT mask hs (owner.setIfInBounds j (some k)) (k+1):=by
 obtain⟨f1,c,f2,f3⟩:=Ms owner _ _ _ e ((tM mask).probeStart h) ⟨rfl,rfl⟩ rfl rfl (Nat.le_of_lt_succ (Nat.mod_lt _ (Nat.succ_pos _)))
 obtain⟨hlt,hn⟩:=Ld f1
 have hself:∀d,(owner.setIfInBounds j (some k)).getD j d=some k:=λ d=>by
  unfold Array.getD
  rw[dif_pos (by rw[Array.size_setIfInBounds];exact hlt)]
  simp
 have hoth:∀i d,i≠j->(owner.setIfInBounds j (some k)).getD i d=owner.getD i d:=λ i d hi=>by
  unfold Array.getD
  by_cases hl:i<owner.size
  ·rw[dif_pos (by rw[Array.size_setIfInBounds];exact hl),dif_pos hl]
   exact Array.getElem_setIfInBounds_ne hl (Ne.symm hi)
  ·rw[dif_neg (by rw[Array.size_setIfInBounds];exact hl),dif_neg hl]
 have keep:∀i,owner.getD i (some 0)≠none->(owner.setIfInBounds j (some k)).getD i (some 0)≠none:=λ i z=>by
  by_cases q:i=j
  ·rw[q,hself];exact λ z=>nomatch z
  ·rw[hoth i _ q];exact z
 refine⟨λ a b v ha hb=>?_,λ v hv=>?_,λ i v x hi hx=>?_⟩
 ·by_cases qa:a=j
  ·by_cases qb:b=j
   ·rw[qa,qb]
   ·rw[qa,hself]at ha
    rw[hoth b _ qb]at hb
    have:=o.small b v hb
    injection ha with ha
    omega
  ·rw[hoth a _ qa]at ha
   by_cases qb:b=j
   ·rw[qb,hself]at hb
    have:=o.small a v ha
    injection hb with hb
    omega
   ·rw[hoth b _ qb]at hb
    exact op.inj a b v ha hb
 ·by_cases q:v=k
  ·exact⟨j,by rw[hself,q]⟩
  ·obtain⟨i,hi⟩:=op.all v Qa
   refine⟨i,?_⟩
   rw[hoth i _ (λ z=>by rw[z,hn]at hi;exact nomatch hi)]
   exact hi
 ·by_cases q:i=j
  ·rw[q,hself]at hi
   injection hi with hi
   rw[<-hi,hh]at hx
   injection hx with hx
   rw[<-hx]
   exact⟨c,by rw[f2,q],λ c' hc=>⟨(f3 c' hc).1,keep _ (f3 c' hc).2⟩⟩
  ·rw[hoth i _ q]at hi
   obtain⟨c2,g1,g2⟩:=op.path i v x hi hx
   exact⟨c2,g1,λ c' hc=>⟨(g2 c' hc).1,keep _ (g2 c' hc).2⟩⟩
theorem Kb{mask:Nat}(hs:hV mask){all:List Int}:∀(l:List Int) (owner:Array (Option Nat)) (k:Nat),jD mask owner k->pT mask all owner k->(∀i h,l[i]? =some h->all[k+i]? =some h)->k+l.length<=mask+1->
  ∃owner',l.foldl (Av mask) (some (owner,k))=some (owner',k+l.length)/\jD mask owner' (k+l.length)/\pT mask all owner' (k+l.length)
 |[],owner,k,o,op,_,_=>⟨owner,rfl,o,op⟩
 | h::r,owner,k,o,op,ha,hl=>by
  rw[List.length_cons]at hl
  obtain⟨j,e,hn⟩:=o.free hs Qa h
  obtain⟨owner',e2,o2,op2⟩:=Kb hs r _ (k+1) (o.put hn) (op.put o (ha 0 h rfl) e) (λ i x hx=>by
   have:=ha (i+1) x (by simpa using hx)
   rw[show k+1+i=k+(i+1)from Qa];exact this) Qa
  rw[List.length_cons,show k+(r.length+1)=k+1+r.length from Qa]
  refine⟨owner',?_,o2,op2⟩
  rw[List.foldl_cons,<-e2]
  congr 1
  show Option.bind (layClean.free mask owner (turns mask) (bits h%(mask+1)) (bits h)) (λ j=>some (owner.setIfInBounds j (some k),k+1))=_
  rw[e];rfl
theorem GZ(mask:Nat)(all:List Int):pT mask all (Array.replicate (mask+1) none) 0:=by
 have hg:∀j,(Array.replicate (mask+1) (none:Option Nat)).getD j none=none:=λ j=>by
  unfold Array.getD;split<;>simp
 exact⟨λ j _ v e _=>(by rw[hg]at e;exact nomatch e),λ v h=>absurd h (Nat.not_lt_zero _),λ j v h e=>(by rw[hg]at e;exact nomatch e)⟩
theorem LP{mask:Nat}(hs:hV mask)(hashes:Array Int)(hn:hashes.size<=mask)(finger moves:Nat)(led plain:Bool):
  ∃t order,SetTable.laid mask finger moves led plain hashes=some (t,order)/\t.mask=mask/\t.place.size=hashes.size/\t.dummies= #[]/\t.led=led/\t.plain=plain/\
   order.size=hashes.size/\(∀i∈order.toList,i<hashes.size)/\nX t.place/\(∀(i j v:Nat) h,t.place[i]? =some j->order[i]? =some v->hashes[v]? =some h->tF t h j)/\
   (∀i i' v:Nat,order[i]? =some v->order[i']? =some v->i=i')/\∀v,v<hashes.size->∃i:Nat,order[i]? =some v:=by
 obtain⟨t,order,e,m1,m2,m3,m4,m5,m6,m7⟩:=LO hs hashes hn finger moves led plain
 refine⟨t,order,e,m1,m2,m3,m4,m5,m6,m7,?_⟩
 obtain⟨owner,e2,o,op⟩:=Kb hs hashes.toList _ 0 (Hs mask) (GZ mask hashes.toList) (λ i h hi=>by rw[Nat.zero_add];exact hi) (by rw[Array.length_toList];omega)
 rw[Nat.zero_add,Array.length_toList]at o op
 have ee:SetTable.laid mask finger moves led plain hashes=some ({mask,place:=(((List.range (mask+1)).filterMap λ j=>(owner.getD j none).map (j,·)).map (·.1)).toArray,dummies:= #[],finger,led,moves,plain},
  (((List.range (mask+1)).filterMap λ j=>(owner.getD j none).map (j,·)).map (·.2)).toArray):=by
  unfold SetTable.laid
  rw[Ke,e2]
  rfl
 rw[ee]at e
 injection e with e
 injection e with et eo
 have hp:t.place=(((List.range (mask+1)).filterMap λ j=>(owner.getD j none).map (j,·)).map (·.1)).toArray:=by rw[<-et]
 have mem:∀x,x∈((List.range (mask+1)).filterMap λ j=>(owner.getD j none).map (j,·))↔x.1<mask+1/\owner.getD x.1 none=some x.2:=λ x=>by
  rw[List.mem_filterMap]
  constructor
  ·rintro⟨j,hj,q⟩
   obtain⟨v,q1,q2⟩:=Option.map_eq_some_iff.mp q
   subst q2
   exact⟨List.mem_range.mp hj,q1⟩
  ·rintro⟨h1,h2⟩
   exact⟨x.1,List.mem_range.mpr h1,by rw[h2];rfl⟩
 have pw:((List.range (mask+1)).filterMap λ j=>(owner.getD j none).map (j,·)).Pairwise (λ a b=>a.1<b.1):=by
  refine List.Pairwise.filterMap _ (λ a b hab x hx y hy=>?_) List.pairwise_lt_range
  obtain⟨v,q1,q2⟩:=Option.map_eq_some_iff.mp hx
  obtain⟨u,q3,q4⟩:=Option.map_eq_some_iff.mp hy
  subst q2
  subst q4
  exact hab
 generalize((List.range (mask+1)).filterMap λ j=>(owner.getD j none).map (j,·))=live at hp eo mem pw
 have at1:∀(i j:Nat),t.place[i]? =some j->∃x,live[i]? =some x/\x.1=j:=λ i j h=>by
  rw[hp,List.getElem?_toArray,List.getElem?_map]at h
  obtain⟨x,h1,h2⟩:=Option.map_eq_some_iff.mp h
  exact⟨x,h1,h2⟩
 have at2:∀(i v:Nat),order[i]? =some v->∃x,live[i]? =some x/\x.2=v:=λ i v h=>by
  rw[<-eo,List.getElem?_toArray,List.getElem?_map]at h
  obtain⟨x,h1,h2⟩:=Option.map_eq_some_iff.mp h
  exact⟨x,h1,h2⟩
 have occ:∀j,j<mask+1->owner.getD j (some 0)≠none->pW t j:=λ j hj hne=>by
  have hlt:j<owner.size:=by rw[o.size];exact hj
  have:∃v,owner.getD j none=some v:=by
   cases q:owner.getD j none with
   |some v=>exact⟨v,rfl⟩
   |none=>exact absurd (Le hlt q) hne
  obtain⟨v,hv⟩:=this
  obtain⟨i,hi⟩:=List.mem_iff_getElem?.mp ((mem (j,v)).mpr ⟨hj,hv⟩)
  refine⟨i,?_⟩
  rw[hp,List.getElem?_toArray,List.getElem?_map,hi]
  rfl
 refine⟨λ i j hij hj=>?_,λ i j v h h1 h2 h3=>?_,λ i i' v h1 h2=>?_,λ v hv=>?_⟩
 ·obtain⟨x,x1,x2⟩:=at1 i _ (mK Qa)
  obtain⟨y,y1,y2⟩:=at1 j _ (mK hj)
  obtain⟨l1,g1⟩:=List.getElem?_eq_some_iff.mp x1
  obtain⟨l2,g2⟩:=List.getElem?_eq_some_iff.mp y1
  have:=List.pairwise_iff_getElem.mp pw i j l1 l2 hij
  rw[g1,g2,x2,y2]at this
  exact this
 ·obtain⟨x,x1,x2⟩:=at1 i j h1
  obtain⟨y,y1,y2⟩:=at2 i v h2
  rw[x1]at y1
  injection y1 with y1
  subst y1
  obtain⟨b1,b2⟩:=(mem x).mp (List.mem_of_getElem? x1)
  rw[x2]at b1 b2
  rw[y2]at b2
  obtain⟨c,c1,c2⟩:=op.path j v h b2 (by rw[Array.getElem?_toList];exact h3)
  refine⟨c,by rw[oP (t:=tM mask) m1,nU (t:=tM mask) m1];exact c1,λ c' hc=>?_⟩
  rw[oP (t:=tM mask) m1,nU (t:=tM mask) m1]
  obtain⟨d1,d2⟩:=c2 c' hc
  exact occ _ Qa d2
 ·obtain⟨x,x1,x2⟩:=at2 i v h1
  obtain⟨y,y1,y2⟩:=at2 i' v h2
  have bx:=((mem x).mp (List.mem_of_getElem? x1)).2
  have byy:=((mem y).mp (List.mem_of_getElem? y1)).2
  rw[x2]at bx
  rw[y2]at byy
  have ej:=op.inj _ _ _ bx byy
  obtain⟨l1,g1⟩:=List.getElem?_eq_some_iff.mp x1
  obtain⟨l2,g2⟩:=List.getElem?_eq_some_iff.mp y1
  rcases Nat.lt_trichotomy i i' with q|q|q
  ·have:=List.pairwise_iff_getElem.mp pw i i' l1 l2 q
   rw[g1,g2]at this
   omega
  ·exact q
  ·have:=List.pairwise_iff_getElem.mp pw i' i l2 l1 q
   rw[g1,g2]at this
   omega
 ·obtain⟨j,hj⟩:=op.all v hv
  have hlt:j<mask+1:=by
   rw[<-o.size]
   refine Nat.lt_of_not_le λ z=>?_
   unfold Array.getD at hj
   rw[dif_neg Qa]at hj
   exact nomatch hj
  obtain⟨i,hi⟩:=List.mem_iff_getElem?.mp ((mem (j,v)).mpr ⟨hlt,hj⟩)
  refine⟨i,?_⟩
  rw[<-eo,List.getElem?_toArray,List.getElem?_map,hi]
  rfl
end L2
namespace L2
open PySem PySem.Spec PyProof.Rows PySem.W PySem.SetTable
noncomputable def lB(prog:Program)(w:World)(h:Heap)(v:Value)(ks:List bP):Prop:=∃a,v= .ref a/\IsTupleKey (gK prog w) h ks a
structure oC(kk:Value->List bP)(hsh:List bP->Int)(t:SetTable)(es:Array (Int×Value)):Prop where
 rise:nX t.place
 path:∀(i:Nat) e j,es[i]? =some e->t.place[i]? =some j->tF t e.1 j
 hash:∀(i:Nat) e,es[i]? =some e->e.1=hsh (kk e.2)
 once:∀(i i':Nat) e e',es[i]? =some e->es[i']? =some e'->kk e.2=kk e'.2->i=i'
section
variable{prog:Program}{w:World}{A:Around}{E:Qd}{s:Shared}{kk:Value->List bP}{hsh:List bP->Int}
theorem Gf{a:Addr}{o:Obj}{es:Array (Int×Value)}{ep:Nat}{t:SetTable}{x:Value}{h:Int}{kx:List bP}(ho:s.heap.get? a=some o)(hd:o.data= .set es ep t)(ht:gR t es.size)
  (hx:W3 s.heap x) (hes:∀e∈es.toList,W3 s.heap e.2) (hkx:lB prog w s.heap x kx) (hke:∀e∈es.toList,lB prog w s.heap e.2 (kk e.2)) (hu:A.units<cLine) {Q:SetFound->Shared->Prop}
  (hf:∀c,t.slot (bH t c (t.probeStart h)).j= .empty->(∀c',c'<c->∃(i:Nat) (e:Int×Value),t.slot (bH t c' (t.probeStart h)).j= .live i/\es[i]? =some e/\(e.1=h->kk e.2≠kx))->Q (.free (bH t c (t.probeStart h)).j false) s)
  (hq:∀(i:Nat) e,es[i]? =some e->kk e.2=kx->Q (.there none) s):
  ∀(fuel k c:Nat) (stand:Option Probe),stand.getD (t.probeStart h)=bH t c (t.probeStart h)->k<fuel->k<10*turns t.mask->nW t (bH t c (t.probeStart h)) k->
   (∀c',c'<c->∃(i:Nat) (e:Int×Value),t.slot (bH t c' (t.probeStart h)).j= .live i/\es[i]? =some e/\(e.1=h->kk e.2≠kx))->wpAny (model prog w) A (setSearchFrom a x h true fuel stand) Q E s
 |0,k,_,_,_,hk,_,_,_=>absurd hk (Nat.not_lt_zero _)
 | fuel+1,k,c,stand,hst,hk,hk2,e,pass=>by
  unfold setSearchFrom
  refine wpAny_bind (wpAny_setState_of ho hd ht.fits ?_)
  dsimp only
  rw[ht.gave,hst]
  simp only[Bool.false_eq_true,if_false]
  have live_at:∀(i:Nat) (j:Nat),t.slot j= .live i->∃en:Int×Value,es[i]? =some en:=λ i j hl=>by
   have hi:i<es.size:=by rw[<-ht.place];exact Fq hl
   exact⟨es[i],Array.getElem?_eq_getElem hi⟩
  have more:∀f:Nat->Int,(∀(i:Nat) en,es[i]? =some en->f i=en.1)->∀c2,(∀c',c'<c2->∃i,t.slot (bH t c' (bH t c (t.probeStart h))).j= .live i/\f i≠h)->∀c',c'<c+c2->∃(i:Nat) (e:Int×Value),t.slot (bH t c' (t.probeStart h)).j= .live i/\es[i]? =some e/\(e.1=h->kk e.2≠kx):=λ f hfe c2 H c' hc=>by
   by_cases d:c'<c
   ·exact pass c' d
   ·obtain⟨i,h1,h2⟩:=H (c'-c) Qa
    rw[<-mL,show c+(c'-c)=c' from Qa]at h1
    obtain⟨en,hen⟩:=live_at i _ h1
    exact⟨i,en,h1,hen,λ z=>absurd ((hfe i en hen).trans z) h2⟩
  generalize hg:t.probe _ h (bH t c (t.probeStart h))=pr
  rcases Lc ht.dum _ h k (10*turns t.mask) _ hk2 e with⟨c2,e1,e2,e3⟩|⟨c2,i,e1,e2,e3,e4,e5,e6⟩
  ·have e1:pr=some (.empty (bH t c2 (bH t c (t.probeStart h))).j none):=hg.symm.trans e1
   subst e1
   rw[<-mL]at e2⊢
   exact wpAny_pure (hf (c+c2) e2 (more _ (λ i en hen=>by show(es[i]?.map (·.1)).getD 0=en.1;rw[hen];rfl) c2 e3))
  ·have e1:pr=some (.candidate (bH t c2 (bH t c (t.probeStart h))).j i (bH t (c2+1) (bH t c (t.probeStart h)))):=hg.symm.trans e1
   subst e1
   dsimp only
   have hi:i<es.size:=by rw[<-ht.place];exact Fq e2
   have hei:es[i]? =some (es[i].1,es[i].2):=by rw[Array.getElem?_eq_getElem hi]
   have hmi:es[i]∈es.toList:=by rw[Array.mem_toList_iff];exact Array.getElem_mem hi
   have hwi:W3 s.heap es[i].2:=hes _ hmi
   by_cases hl:(!t.led)=true
   rw[if_pos hl]
   refine wpAny_bind (AK hx (λ y hy=>?_) ?_)
   ·obtain⟨e',he',rfl⟩:=List.mem_map.mp hy
    exact hes e' (Array.mem_toList_iff.mpr (Array.mem_filter.mp (Array.mem_toList_iff.mp he')).1)
   rw[if_neg Bool.false_ne_true]
   rotate_left
   rw[if_neg hl]
   all_goals
    rw[hei]
    dsimp only
    obtain⟨ay,hy1,hy2⟩:=hke _ hmi
    obtain⟨ax,hx1,hx2⟩:=hkx
    have heq:∀{Q:Bool->Shared->Prop},Q (decide (kk es[i].2=kx)) s->wpAny (model prog w) A (eqBool es[i].2 x) Q E s:=λ h=>by
     rw[hx1]
     have:∀y,y=es[i].2->kk y=kk es[i].2:=λ y z=>by rw[z]
     rw[hy1]
     exact wpAny_eqBool_tuple hu hy2 hx2 h
    refine wpAny_bind (wpAny_holding (heq ?_))
    refine wpAny_bind (wpAny_setState_of ho hd ht.fits ?_)
    dsimp only
    by_cases b:kk es[i].2=kx
    ·rw[decide_eq_true b]
     exact wpAny_pure (hq i es[i] (Array.getElem?_eq_getElem hi) b)
    ·rw[decide_eq_false b]
     simp only[Bool.and_false,Bool.false_eq_true,if_false]
     have hm:t.sameMemory t.moves t.mask=some true:=by unfold sameMemory;rw[if_pos (beq_self_eq_true _)]
     rw[hm]
     dsimp only
     rw[if_pos rfl,e2]
     dsimp only
     rw[hei]
     dsimp only
     rw[hy1]
     refine wpAny_bind (wpAny_isSame_ref_self (wpAny_bind (wpAny_pure ?_)))
     rw[<-mL]at e2 e5
     rw[show c+(c2+1)=c+c2+1 from Qa]at e5
     refine Gf ho hd ht hx hes ⟨ax,hx1,hx2⟩ hke hu hf hq fuel (k-(c2+1)) (c+c2+1) (some _) ?_ Qa Qa e5 λ c' hc=>?_
     ·show bH t (c2+1) (bH t c (t.probeStart h))=_
      rw[<-mL,show c+(c2+1)=c+c2+1 from Qa]
     ·by_cases d:c'<c+c2
      ·exact more _ (λ i en hen=>by show(es[i]?.map (·.1)).getD 0=en.1;rw[hen];rfl) c2 e6 c' d
      ·obtain rfl:c'=c+c2:=by omega
       exact⟨i,es[i],e2,Array.getElem?_eq_getElem hi,λ _=>b⟩
theorem II{t:SetTable}{es:Array (Int×Value)}{h:Int}{kx:List bP}{c:Nat}(N:oC kk hsh t es)(hsz:t.place.size=es.size)(hh:h=hsh kx)(he:t.slot (bH t c (t.probeStart h)).j= .empty)
  (pass:∀c',c'<c->∃(i:Nat) (e:Int×Value),t.slot (bH t c' (t.probeStart h)).j= .live i/\es[i]? =some e/\(e.1=h->kk e.2≠kx)):∀(i:Nat) e,es[i]? =some e->kk e.2≠kx:=λ i e hi z=>by
 have hl:i<t.place.size:=by rw[hsz];exact(Array.getElem?_eq_some_iff.mp hi).1
 have h1:e.1=h:=by rw[N.hash i e hi,z,hh]
 obtain⟨c1,p1,p2⟩:=N.path i e _ hi (mK hl)
 rw[h1]at p1 p2
 have sl:=yY N.rise (mK hl)
 rw[<-p1]at sl
 rcases Nat.lt_trichotomy c1 c with q|q|q
 ·obtain⟨i',e',a1,a2,a3⟩:=pass c1 q
  rw[sl]at a1
  injection a1 with a1
  subst a1
  rw[hi]at a2
  injection a2 with a2
  subst a2
  exact a3 h1 z
 ·rw[q,he]at sl
  exact nomatch sl
 ·obtain⟨i',o⟩:=p2 c q
  have:=yY N.rise o
  rw[he]at this
  exact nomatch this
theorem oC.put{t t2:SetTable}{es:Array (Int×Value)}{h:Int}{x:Value}{c:Nat}(N:oC kk hsh t es)(hsz:t.place.size=es.size)(hh:h=hsh (kk x))(he:t.slot (bH t c (t.probeStart h)).j= .empty)
  (pass:∀c',c'<c->∃(i:Nat) (e:Int×Value),t.slot (bH t c' (t.probeStart h)).j= .live i/\es[i]? =some e/\(e.1=h->kk e.2≠kk x)) (hm:t2.mask=t.mask) (hp:t2.place=SetTable.insertAt t.place (below t.place (bH t c (t.probeStart h)).j) (bH t c (t.probeStart h)).j):
  oC kk hsh t2 (SetTable.insertAt es (below t.place (bH t c (t.probeStart h)).j) (h,x)):=by
 have nt:=II N hsz hh he pass
 generalize ej:(bH t c (t.probeStart h)).j=j at*
 have b0:=(xJ N.rise j).1
 have b1:below t.place j<=es.size:=by rw[<-hsz];exact b0
 have fresh:∀i:Nat,t.place[i]?≠some j:=λ i z=>by
  have:=yY N.rise z
  rw[he]at this
  exact nomatch this
 have occ:∀j',pW t j'->pW t2 j':=λ j' ⟨i,o⟩=>by
  exact⟨_,hp▸Kv b0 o⟩
 have old:∀(i:Nat) e,(SetTable.insertAt es (below t.place j) (h,x))[i]? =some e->(i=below t.place j/\e=(h,x))\/∃i0,es[i0]? =some e/\i=if i0<below t.place j then i0 else i0+1:=λ i e hi=>by
  have hl:i<(SetTable.insertAt t.place (below t.place j) j).size:=by
   rw[wL _ _ _ b0,hsz,<-wL es _ (h,x) b1]
   exact(Array.getElem?_eq_some_iff.mp hi).1
  rcases Kw b1 b0 hi (Array.getElem?_eq_getElem hl)with⟨a,b,_⟩|⟨i0,a,_,b⟩
  ·exact .inl ⟨a,b⟩
  ·exact .inr ⟨i0,a,b⟩
 refine⟨by rw[hp];exact AU N.rise fresh,λ i e k h1 h2=>?_,λ i e h1=>?_,λ i i' e e' h1 h2 h3=>?_⟩
 ·rw[hp]at h2
  rcases Kw b1 b0 h1 h2 with⟨_,rfl,rfl⟩|⟨i0,g1,g2,_⟩
  ·refine⟨c,by rw[oP hm,nU hm];exact ej,λ c' hc=>?_⟩
   rw[oP hm,nU hm]
   obtain⟨i',e',a1,_,_⟩:=pass c' hc
   exact occ _ ⟨i',Xo a1⟩
  ·exact(N.path i0 e k g1 g2).more hm occ
 ·rcases old i e h1 with⟨_,rfl⟩|⟨i0,g1,_⟩
  ·exact hh
  ·exact N.hash i0 e g1
 ·rcases old i e h1 with⟨a,rfl⟩|⟨i0,g1,a⟩
  ·rcases old i' e' h2 with⟨b,rfl⟩|⟨i1,g2,b⟩
   ·rw[a,b]
   ·exact absurd h3.symm (nt i1 e' g2)
  ·rcases old i' e' h2 with⟨b,rfl⟩|⟨i1,g2,b⟩
   ·exact absurd h3 (nt i0 e g1)
   ·rw[a,b,N.once i0 i1 e e' g1 g2 h3]
noncomputable def eU(w:World)(h:Heap)(a:Addr)(P:Value->Prop)(kk:Value->List bP)(hsh:List bP->Int)(L:List (List bP))(m:Nat):Prop:=∃o es ep t,h.get? a=some o/\o.ExactSet/\o.data= .set es ep t/\gR t es.size/\
 t.led=(!w.params.followText "set-order")/\(es.size≠0->t.plain=false)/\(∀e∈es.toList,P e.2)/\es.size<=m/\oC kk hsh t es/\(∀e∈es.toList,kk e.2∈L)/\∀k∈L,∃e∈es.toList,kk e.2=k
theorem eU.stay{w:World}{h h':Heap}{a:Addr}{P:Value->Prop}{L:List (List bP)}{m:Nat}(x:eU w h a P kk hsh L m)(k:∀o,h.get? a=some o->h'.get? a=some o):eU w h' a P kk hsh L m:=by
 obtain⟨o,es,ep,t,h1,r⟩:=x
 exact⟨o,es,ep,t,k o h1,r⟩
theorem eU.mono{w:World}{h:Heap}{a:Addr}{P:Value->Prop}{L:List (List bP)}{m m':Nat}(x:eU w h a P kk hsh L m)(hm:m<=m'):eU w h a P kk hsh L m':=by
 obtain⟨o,es,ep,t,h1,h2,h3,h4,h5,h6,h7,h8,r⟩:=x
 exact⟨o,es,ep,t,h1,h2,h3,h4,h5,h6,h7,Nat.le_trans h8 hm,r⟩
theorem Mw{α:Type}{xs:Array α}:∀{l:List Nat},(∀i∈l,i<xs.size)->(l.filterMap (xs[·]?)).length=l.length/\∀(k v:Nat),l[k]? =some v->(l.filterMap (xs[·]?))[k]? =xs[v]?
 |[],_=>⟨rfl,λ k v h=>by simp at h⟩
 | i::l,hl=>by
  have hi:=hl i List.mem_cons_self
  obtain⟨a,b⟩:=Mw (xs:=xs) (l:=l) λ j hj=>hl j (List.mem_cons_of_mem _ hj)
  rw[List.filterMap_cons,Array.getElem?_eq_getElem hi]
  refine⟨by simp[a],λ k v h=>?_⟩
  cases k with
  |zero=>
   have:i=v:=by simpa using h
   subst this
   rw[Array.getElem?_eq_getElem hi]
   rfl
  |succ k=>exact b k v (by simpa using h)
theorem AV{a:Addr}{o:Obj}{es:Array (Int×Value)}{ep:Nat}{t:SetTable}{wanted:Nat}{P:Value->Prop}{L:List (List bP)}(ho:s.heap.get? a=some o)(hex:o.ExactSet)(hd:o.data= .set es ep t)
  (hf:t.fits es.size=true) (hl:t.led=(!w.params.followText "set-order")) (hp:es.size≠0->t.plain=false) (hP:∀e∈es.toList,P e.2) (N:oC kk hsh t es) (hL:∀e∈es.toList,kk e.2∈L) (hL2:∀k∈L,∃e∈es.toList,kk e.2=k)
  (hs:hV (sizeAbove wanted-1)) (hr:es.size*5<(sizeAbove wanted-1)*3) (h5:sizeAbove wanted<=512) {Q:Unit->Shared->Prop}
  (h:∀h',Heap.SameBut a s.heap h'->eU w h' a P kk hsh L es.size->Q () {s with heap:=h'}):wpAny (model prog w) A (setRelay a wanted) Q E s:=by
 obtain⟨t',order,e,m1,m2,m3,m4,m5,m6,m7,m8,m9,m10,m11⟩:=LP hs (es.map (·.1)) (by rw[Array.size_map];omega) t.finger (t.movedTo (sizeAbove wanted-1)) t.led t.plain
 rw[Array.size_map]at m2 m6 m7 m11
 unfold setRelay
 refine wpAny_bind (wpAny_setState_of ho hd hf ?_)
 dsimp only
 have hline:¬sizeAbove wanted>sizeLine:=by
  have:(512:Nat)<=sizeLine:=by decide+kernel
  omega
 rw[if_neg hline]
 obtain⟨f1,f2⟩:=Mw (xs:=es) m7
 have hsz:(order.filterMap (es[·]?)).size=es.size:=by
  rw[<-m6,<-Array.length_toList,Array.toList_filterMap,f1,Array.length_toList]
 have e':t.relaid (es.map (·.1)) wanted=some (t',order):=e
 rw[e']
 refine wpAny_bind (wpAny_of_eq (a:=(order.filterMap (es[·]?),t')) ?_ ?_)
 ·show(if((order.filterMap (es[·]?)).size !=es.size)=true then _ else _)=_
  rw[hsz,bne_self_eq_false,if_neg Bool.false_ne_true]
 dsimp only
 have at_:∀(i:Nat) en,(order.filterMap (es[·]?))[i]? =some en->∃v:Nat,order[i]? =some v/\es[v]? =some en:=λ i en hi=>by
  have hil:i<order.size:=by rw[m6,<-hsz];exact(Array.getElem?_eq_some_iff.mp hi).1
  refine⟨order[i],Array.getElem?_eq_getElem hil,?_⟩
  have:=f2 i order[i] (by rw[Array.getElem?_toList];exact Array.getElem?_eq_getElem hil)
  rw[<-Array.toList_filterMap,Array.getElem?_toList]at this
  rw[<-this]
  exact hi
 have mem:∀en,en∈(order.filterMap (es[·]?)).toList->en∈es.toList:=λ en he=>by
  obtain⟨i,hi⟩:=List.mem_iff_getElem?.mp he
  rw[Array.getElem?_toList]at hi
  obtain⟨v,_,hv⟩:=at_ i en hi
  exact Array.mem_toList_iff.mpr (Array.mem_of_getElem? hv)
 refine wpAny_storeSet_of ho hd (h _ (Heap.SameBut.update s.heap a _) ?_) ?_
 ·refine⟨_,_,_,t',Fg ho hd,hex,rfl,⟨by rw[hsz,m2],m3,by rw[m1];exact hs,by rw[hsz,m1];exact hr⟩,by rw[m4,hl],λ hz=>by rw[m5];exact hp (by rw[<-hsz];exact hz),λ e he=>hP e (mem e he),by rw[hsz];exact Nat.le_refl _,
   ⟨m8,λ i en j h1 h2=>?_,λ i en h1=>?_,λ i i' en en' h1 h2 h3=>?_⟩,λ en he=>hL en (mem en he),λ k hk=>?_⟩
  ·obtain⟨v,v1,v2⟩:=at_ i en h1
   exact m9 i j v en.1 h2 v1 (by rw[Array.getElem?_map,v2];rfl)
  ·obtain⟨v,v1,v2⟩:=at_ i en h1
   exact N.hash v en v2
  ·obtain⟨v,v1,v2⟩:=at_ i en h1
   obtain⟨v',v3,v4⟩:=at_ i' en' h2
   have:=N.once v v' en en' v2 v4 h3
   subst this
   exact m10 i i' v v1 v3
  ·obtain⟨en,hen,ek⟩:=hL2 k hk
   obtain⟨v,hv⟩:=List.mem_iff_getElem?.mp hen
   rw[Array.getElem?_toList]at hv
   obtain⟨i,hi⟩:=m11 v (Array.getElem?_eq_some_iff.mp hv).1
   refine⟨en,?_,ek⟩
   rw[Array.toList_filterMap,List.mem_filterMap]
   exact⟨v,Array.mem_toList_iff.mpr (Array.mem_of_getElem? hi),hv⟩
 ·rw[hsz]
  have:(512:Nat)<=sizeLine:=by decide+kernel
  omega
end
theorem W3.stay{h h':Heap}{v:Value}(x:W3 h v)(k:∀b o,v= .ref b->h.get? b=some o->h'.get? b=some o):W3 h' v:=by
 obtain⟨a,o,n,x,t,i,u,y,j,rfl,ho,r⟩:=x
 exact⟨a,o,n,x,t,i,u,y,j,rfl,k a o rfl ho,r⟩
section
variable{prog:Program}{w:World}{A:Around}{R:Result->Shared->Prop}{I:Addr}{fp wr:List Addr}{G:Array GenState->Array GenState->Prop}{n:Nat}{Pi:Nat->Value->Prop}{St:Nat->Shared->Prop}
end
section
variable{prog:Program}{w:World}{A:Around}{E:Qd}{s:Shared}
noncomputable def iL(w:World):Obj:={cls:=.type "set",dict:=none,data:=.set #[] 0 (.fresh 0 0 (!w.params.followText "set-order"))}
theorem AA(x:Value){Q:Qd}(h:Q (.ref s.heap.objs.size) {s with heap:=s.heap.push (iL w)}):
  codeAny (model prog w) A (.call (.builtin "set.__new__") ⟨[.type "set",x],[]⟩) (wants Q E) s:=by
 refine codeAny_of_tree ?_
 show wpAny _ A.in1 (do checkBuiltinCall "set.__new__" ⟨[.type "set",x],[]⟩;again (.builtin "set.__new__" ⟨[.type "set",x],[]⟩)) _ _ s
 refine wpAny_bind (wpAny_of_eq (F.newCall_set_1 x) (wpAny_pure ⟨plainId_quiet F.plain_set_new _,codeAny_builtin F.entry_set_new ?_⟩))
 rw[Around.under_plainId F.plain_set_new _]
 unfold Builtin.«set.__new__» Builtin.Frozenset.newClass
 have sub:=sub_set_self
 cases s with
 |mk hp g d tk os=>
  dsimp only at h⊢
  wp_walk
  refine wpAny_askSetting (wpAny_pure ?_)
  dsimp only
  simp only[newObj]
  exact wpAny_bind (wpAny_alloc (wpAny_pure (wpAny_pure h)))
end
theorem Ik{α:Type}{xs:Array α}{p:Nat}{x y:α}(hp:p<=xs.size)(h:y∈xs.toList\/y=x):y∈(SetTable.insertAt xs p x).toList:=by
 rw[Array.mem_toList_iff]
 rcases h with h|rfl
 ·obtain⟨i,hi⟩:=List.mem_iff_getElem?.mp h
  rw[Array.getElem?_toList]at hi
  exact Array.mem_of_getElem? (Kv hp hi)
 ·exact Array.mem_of_getElem? (MT hp)
section
variable{prog:Program}{w:World}{A:Around}{E:Qd}{s:Shared}{kk:Value->List bP}{hsh:List bP->Int}
theorem AH{a:Addr}{x:Value}{P:Value->Prop}{L:List (List bP)}{m:Nat}(hS:eU w s.heap a P kk hsh L m)(hm:m<200)(hP:∀v,P v->W3 s.heap v/\lB prog w s.heap v (kk v))(hx:P x)(hu:A.units<cLine)(eh:hsh=tupleKeyHash (gK prog w)){Q:Bool->Shared->Prop}
  (h:∀b h' tk,Heap.SameBut a s.heap h'->eU w h' a P kk hsh (kk x::L) (m+1)->s.toks<=tk->Q b {s with heap:=h',toks:=tk}):wpAny (model prog w) A (setAdd a x) Q E s:=by
 obtain⟨hx3,ax,ex,hk⟩:=hP x hx
 unfold setAdd
 rw[ex]
 refine wpAny_holding (wpAny_bind (wpAny_pyHash_tuple hu hk ?_))
 rw[<-ex]
 generalize hs2:({s with toks:=s.toks+((kk x).length+1)}:Shared)=s2
 have hh:s2.heap=s.heap:=by rw[<-hs2]
 have hS':=hS
 obtain⟨o,es,ep,t,ho,hex,hd,ht,hl,hpl,hall,hle,N,hL,hL2⟩:=hS
 rw[<-hh]at ho
 have hbs:byScan x es=false:=by rw[ex];rfl
 unfold setAddHashed
 refine wpAny_holding ?_
 show wpAny _ _ (setAddHashedIn a x _ (99999+1)) _ _ _
 unfold setAddHashedIn
 refine wpAny_bind (wpAny_setState_of ho hd ht.fits ?_)
 dsimp only
 rw[hbs]
 simp only[Bool.false_eq_true,if_false]
 obtain⟨hv,ehv⟩:∃hv,hv=tupleKeyHash (gK prog w) (kk x):=⟨_,rfl⟩
 rw[<-ehv]
 have ehk:hv=hsh (kk x):=by rw[eh];exact ehv
 obtain⟨k,hk1,hk2⟩:=Vz ht.sz ht.dum (by rw[ht.place];exact ht.le) hv
 have hkf:k<100000:=by
  unfold turns at hk1
  rcases ht.sz with e|e|e|e<;>rw[e]at hk1<;>omega
 refine wpAny_bind (Gf (kk:=kk) ho hd ht (by rw[hh];exact hx3) (λ e he=>by rw[hh];exact(hP _ (hall e he)).1) (by rw[hh];exact⟨ax,ex,hk⟩) (λ e he=>by rw[hh];exact(hP _ (hall e he)).2) hu (λ c he pass=>?_) (λ i0 e0 hi0 hk0=>?_) 100000 k 0 none rfl hkf hk1 hk2 λ c' hc=>absurd hc (Nat.not_lt_zero _))
 ·dsimp only
  refine wpAny_bind (wpAny_setState_of ho hd ht.fits ?_)
  dsimp only
  have NP:=λ (t2:SetTable)=>oC.put (t2:=t2) N ht.place ehk he pass
  generalize(bH t c (t.probeStart hv)).j=j at NP⊢
  obtain⟨q1,q2,q3,q4,q5⟩:=BY ht j
  obtain⟨q6,q7⟩:=BX ht.dum j
  have b1:below t.place j<=es.size:=by rw[<-ht.place];exact(xJ N.rise j).1
  generalize t.put j=tp at q1 q2 q3 q4 q5 q6 q7⊢
  obtain⟨t1,p⟩:=tp
  dsimp only at q1 q2 q3 q4 q5 q6 q7⊢
  subst q7
  have hsz:(SetTable.insertAt es (below t.place j) (hv,x)).size=es.size+1:=Ks _ _ _
  have hmem:∀e∈(SetTable.insertAt es (below t.place j) (hv,x)).toList,P e.2:=λ e he=>by
   rcases Kt (Array.mem_toList_iff.mp he)with h1|rfl
   ·exact hall e (Array.mem_toList_iff.mpr h1)
   ·exact hx
  have hL':∀e∈(SetTable.insertAt es (below t.place j) (hv,x)).toList,kk e.2∈kk x::L:=λ e he=>by
   rcases Kt (Array.mem_toList_iff.mp he)with h1|rfl
   ·exact List.mem_cons_of_mem _ (hL e (Array.mem_toList_iff.mpr h1))
   ·exact List.mem_cons_self
  have hL2':∀k∈kk x::L,∃e∈(SetTable.insertAt es (below t.place j) (hv,x)).toList,kk e.2=k:=λ k hk=>by
   rcases List.mem_cons.mp hk with rfl|hk
   ·exact⟨(hv,x),Ik b1 (.inr rfl),rfl⟩
   ·obtain⟨e,he,z⟩:=hL2 k hk
    exact⟨e,Ik b1 (.inl he),z⟩
  have hbig:es.size+1<=sizeLine:=by
   have:(512:Nat)<=sizeLine:=by decide+kernel
   omega
  have fin:∀t2:SetTable,t2.place.size=es.size+1->t2.dummies= #[]->t2.mask=t.mask->t2.led=t.led->t2.plain=false->t2.place=SetTable.insertAt t.place (below t.place j) j->
    wpAny (model prog w) A (do
     storeSet a (SetTable.insertAt es (below t.place j) (hv,x)) t2
     if !false&&t2.tooFull then setRelay a (SetTable.grown (es.size+1))
     return true) Q E s2:=by
   intro t2 r1 r2 r3 r4 r5 r6
   have N2:=NP t2 r3 r6
   refine wpAny_bind (wpAny_storeSet_of ho hd ?_ (by rw[hsz];exact hbig))
   have hst:(s2.heap.update a (Obj.putSet (SetTable.insertAt es (below t.place j) (hv,x)) t2)).get? a=some {o with data:=.set (SetTable.insertAt es (below t.place j) (hv,x)) (ep+1) t2}:=Fg ho hd
   have hsb:Heap.SameBut a s2.heap (s2.heap.update a (Obj.putSet (SetTable.insertAt es (below t.place j) (hv,x)) t2)):=Heap.SameBut.update s2.heap a _
   by_cases hfull:t2.tooFull=true
   ·simp only[hfull,Bool.not_false,Bool.and_self,if_true]
    have hfull:(es.size+1)*5≥t.mask*3:=by
     unfold SetTable.tooFull SetTable.fill at hfull
     rw[r1,r2,r3]at hfull
     simpa using hfull
    obtain⟨g1,g2,g3⟩:=Tk ht.sz ht.room hfull Qa
    refine wpAny_bind (AV (kk:=kk) (hsh:=hsh) (L:=kk x::L) (s:={s2 with heap:=s2.heap.update a (Obj.putSet (SetTable.insertAt es (below t.place j) (hv,x)) t2)}) (P:=P) hst hex rfl ?_ (by rw[r4,hl]) (λ _=>r5) hmem N2 hL' hL2' g1 (by rw[hsz];exact g2) g3 λ h' sb2 hR=>?_)
    ·unfold SetTable.fits SetTable.fill
     rw[r1,r2,r3,hsz]
     have:=ht.room
     simp;omega
    ·refine wpAny_pure ?_
     rw[hsz]at hR
     have:=h true h' (s.toks+((kk x).length+1)) (by rw[<-hh];exact hsb.trans sb2) (hR.mono Qa) Qa
     rw[<-hs2];exact this
   ·simp only[hfull,Bool.and_false,Bool.false_eq_true,if_false]
    have hfull:(es.size+1)*5<t.mask*3:=by
     unfold SetTable.tooFull SetTable.fill at hfull
     rw[r1,r2,r3]at hfull
     simpa using hfull
    refine wpAny_pure ?_
    have:=h true _ (s.toks+((kk x).length+1)) (by rw[<-hh];exact hsb) ⟨_,_,_,t2,hst,hex,rfl,⟨by rw[r1,hsz],r2,by rw[r3];exact ht.sz,by rw[hsz,r3];exact hfull⟩,by rw[r4,hl],λ _=>r5,hmem,by rw[hsz];omega,N2,hL',hL2'⟩ Qa
    rw[<-hs2]at this⊢;exact this
  by_cases hpl1:t1.plain=true
  ·rw[if_pos hpl1]
   refine wpAny_bind (W3.byVal (by rw[hh];exact hx3) ?_)
   simp only[Bool.false_eq_true,if_false]
   exact fin {t1 with plain:=false} q1 q2 q3 q4 rfl q6
  ·rw[if_neg hpl1]
   refine wpAny_bind (wpAny_pure ?_)
   simp only[if_true]
   exact fin t1 q1 q2 q3 q4 (by simpa using hpl1) q6
 ·dsimp only
  refine wpAny_pure ?_
  have:=h false s.heap (s.toks+((kk x).length+1)) (Heap.SameBut.refl a s.heap) ⟨o,es,ep,t,by rw[<-hh];exact ho,hex,hd,ht,hl,hpl,hall,Qa,N,λ e he=>List.mem_cons_of_mem _ (hL e he),λ k hk=>?_⟩ Qa
  ·rw[<-hs2];exact this
  ·rcases List.mem_cons.mp hk with rfl|hk
   ·exact⟨e0,Array.mem_toList_iff.mpr (Array.mem_of_getElem? hi0),hk0⟩
   ·exact hL2 k hk
end
theorem W3.both{prog:Program}{w:World}{h h':Heap}{v:Value}{ks:List bP}(x:W3 h v)(y:lB prog w h v ks)(k:∀b o,v= .ref b->h.get? b=some o->h'.get? b=some o):W3 h' v/\lB prog w h' v ks:=by
 refine⟨x.stay k,?_⟩
 obtain⟨a,e,o,its,n,ho,r⟩:=y
 exact⟨a,e,o,its,n,k a o e ho,r⟩
section
variable{prog:Program}{w:World}{A:Around}{R:Result->Shared->Prop}{I:Addr}{fp wr:List Addr}{G:Array GenState->Array GenState->Prop}{n:Nat}{Pi:Nat->Value->Prop}{St:Nat->Shared->Prop}{kk:Value->List bP}{hsh:List bP->Int}{its:List Value}
theorem Sm(W:WalksS prog w A.in1 I fp wr G n Pi St)(S:Addr)(hSf:S∉fp){P:Value->Prop}(hPi:∀i v,Pi i v->P v/\its[i]? =some v)(hlen:its.length=n)(eh:hsh=tupleKeyHash (gK prog w))(hne:∀b,P (.ref b)->b∉S::wr)(hn:n<200)(hu:A.in1.units<cLine):
  ∀(k i:Nat) (s:Shared),n-i=k->i<=n->St i s->(∀v,P v->W3 s.heap v/\lB prog w s.heap v (kk v))->eU w s.heap S P kk hsh (((its.take i).map kk).reverse) i->
   (∀s',Moved (S::wr) G s s'->eU w s'.heap S P kk hsh ((its.map kk).reverse) n->R (.ok (.ret .none)) s')->codeAny (model prog w) A (.builtin "set.update.loop" ⟨[.ref S,.ref I],[]⟩) R s:=by
 have hSw:S∉wr:=λ z=>hSf (W.sub S z)
 have up:∀b∈wr,b∈S::wr:=λ b z=>List.mem_cons_of_mem S z
 intro k
 induction k with
 |zero=>
  intro i s hk hi st hW hS fin
  obtain rfl:i=n:=by omega
  refine codeAny_builtin F.entry_set_update_loop ?_
  rw[Around.under_plainId F.plain_set_update_loop _]
  show wpAny _ A.in1 (pyNext (.ref I)>>=_) _ _ s
  refine wpAny_bind (W.done s _ _ st λ s1 hm=>?_)
  refine wpAny_pure (fin s1 (hm.mono up) ?_)
  rw[List.take_of_length_le Qa]at hS
  exact hS.stay λ o e=>hm.heap S o hSw e
 | succ k ih=>
  intro i s hk hi st hW hS fin
  have lt:i<n:=by omega
  refine codeAny_builtin F.entry_set_update_loop ?_
  rw[Around.under_plainId F.plain_set_update_loop _]
  show wpAny _ A.in1 (pyNext (.ref I)>>=_) _ _ s
  refine wpAny_bind (W.item i s _ _ lt st λ v s1 hv st1 hm=>?_)
  have hW1:∀v,P v->W3 s1.heap v/\lB prog w s1.heap v (kk v):=λ u hp=>(hW u hp).1.both (hW u hp).2 λ b o e q=>hm.heap b o (λ z=>hne b (by rw[<-e];exact hp) (up b z)) q
  obtain⟨hv1,hv2⟩:=hPi i v hv
  have hS1:eU w s1.heap S P kk hsh (((its.take i).map kk).reverse) i:=hS.stay λ o e=>hm.heap S o hSw e
  show wpAny _ A.in1 (holding [v] (setAdd S v)>>=_) _ _ s1
  refine wpAny_bind (wpAny_holding (AH hS1 Qa hW1 hv1 hu eh λ _ h' tk sb hS2 htk=>?_))
  have etk:(((its.take (i+1)).map kk).reverse)=kk v::(((its.take i).map kk).reverse):=by
   rw[List.take_add_one,hv2]
   simp
  rw[<-etk]at hS2
  refine wpAny_pure ⟨plainId_quiet F.plain_set_update_loop _,ih (i+1) _ Qa lt (W.frame _ s1 _ _ st1 htk λ b hb o e=>?_) (λ u hp=>(hW1 u hp).1.both (hW1 u hp).2 λ b o e q=>?_) hS2 λ s2 hm2 hS3=>?_⟩
  ·rw[sb.2 b (λ z=>hSf (by rw[<-z];exact hb))];exact e
  ·show h'.get? b=some o
   rw[sb.2 b (λ z=>hne b (by rw[<-e];exact hp) (by rw[z];exact List.mem_cons_self))];exact q
  ·refine fin s2 (Moved.trans W.gtrans ((hm.mono up).then_heap htk λ b o hb e=>?_) hm2) hS3
   rw[sb.2 b (λ z=>hb (by rw[z];exact List.mem_cons_self))];exact e
end
section
variable{prog:Program}{w:World}{A:Around}{E:Qd}{s:Shared}{kk:Value->List bP}{hsh:List bP->Int}
theorem OG(P:Value->Prop){h:Heap}{a:Addr}(e:h.get? a=some (iL w)):eU w h a P kk hsh [] 0:=
 ⟨_,#[],0,_,e,⟨rfl,rfl,rfl⟩,rfl,⟨rfl,rfl,.inl rfl,show 0*5<7*3 from Qc⟩,rfl,λ z=>absurd rfl z,λ e he=>by simp at he,Nat.le_refl _,⟨λ i j _ h=>absurd h (Nat.not_lt_zero _),λ i e j h=>by simp at h,λ i e h=>by simp at h,λ i i' e e' h=>by simp at h⟩,λ e he=>by simp at he,λ k hk=>nomatch hk⟩
theorem SX{l:Addr}{its:Array Value}{P:Value->Prop}{Q:Qd}(hh:A.handled=none)(hl:s.heap.IsList l its)(hP:∀(i:Nat) v,its[i]? =some v->P v)(hW:∀v,P v->W3 s.heap v/\lB prog w s.heap v (kk v))(eh:hsh=tupleKeyHash (gK prog w))(hn:its.size<200)
  (hu:A.units+64<cLine) (h:∀h' tk,eU w h' s.heap.objs.size P kk hsh ((its.toList.map kk).reverse) its.size->(∀b o,s.heap.get? b=some o->h'.get? b=some o)->Q (.ref s.heap.objs.size) {s with heap:=h',toks:=tk}):
  wpAny (model prog w) A (call (.type "set") [.ref l]) Q E s:=by
 obtain⟨c,tl,mro⟩:=F.called_set.mro
 have made:=F.called_set.made
 have sub:=F.called_set.sub
 refine wpAny_call (codeAny_of_tree ?_)
 show wpAny _ _ (callAny (.type "set") _) _ _ _
 refine wpAny_pure ⟨Code.quiet_builtin _ Qe,codeAny_builtin F.entry_type_call ?_⟩
 rw[Around.under_plain (weight_type_call_type "set" [.ref l] []) rfl]
 have eH:=F.called_set.notType
 have canC:=F.called_set.canCreate
 have tcall:=F.typeCall_set_1 (.ref l)
 repeat (any_goals (first|assumption|wp_step))
 refine codeAny_mono (AA (.ref l) (E:=E) (Q:=λ obj s₁=>obj= .ref s.heap.objs.size/\s₁={s with heap:=s.heap.push (iL w)}) ⟨rfl,rfl⟩) λ r s₁ hr=>?_
 cases r with
 |error e=>exact hr
 | ok fl=>
  cases fl with
  | ret obj=>
   obtain⟨rfl,rfl⟩:=hr
   have gS:(s.heap.push (iL w)).get? s.heap.objs.size=some (iL w):=Heap.get?_push_size _ rfl
   have tS:Shared.TypeIs {s with heap:=s.heap.push (iL w)} (.ref s.heap.objs.size) "set" :=⟨_,gS,rfl⟩
   have ini:=F.called_set.init.lookup
   have bnd:=F.called_set.init.bind (.ref s.heap.objs.size)
   repeat (any_goals (first|assumption|wp_step))
   refine codeAny_mono (codeAny_call_builtin (R:=wants (λ r s₂=>r= .none/\∃h' tk,s₂={s with heap:=h',toks:=tk}/\eU w h' s.heap.objs.size P kk hsh ((its.toList.map kk).reverse) its.size/\
    (∀b o,s.heap.get? b=some o->h'.get? b=some o)) E) F.called_set.init.plain F.entry_set_init (check_set_init_1 tS ?_)) λ r₂ s₂ hr₂=>?_
   ·have hl0:=hl
    obtain⟨⟨oc,od,oda,osl⟩,hol,hcl,nl,hdl⟩:=hl
    simp only at hcl hdl
    subst hcl;subst hdl
    have lt:l<s.heap.objs.size:=Heap.lt_size hol
    have hol':(s.heap.push (iL w)).get? l=some {cls:=.type "list",dict:=od,data:=.seq its nl,slots:=osl}:=Heap.get?_push_of_some _ hol
    have n1:=F.sub_list_set
    have n2:=F.sub_list_frozenset
    have n3:(Value.type "list" ==Value.type "dict")=false:=by decide
    have hl1:(s.heap.push (iL w)).IsList l its:=⟨_,hol',rfl,nl,rfl⟩
    unfold Builtin.«set.__init__» noKeywords Builtin.Frozenset.updateFrom
    generalize hPI:pyIter=PI
    wp_walk
    subst hPI
    refine wpAny_pyIter_list hl1 ?_
    refine wpAny_bind (wpAny_runValue ?_)
    have hh3:A.in1.in1.in1.handled=none:=by simp[hh]
    have szI:(s.heap.push (iL w)).objs.size=s.heap.objs.size+1:=Heap.size_push ..
    have neI:l≠(s.heap.push (iL w)).objs.size:=by rw[szI];exact Nat.ne_of_lt (Nat.lt_succ_of_lt lt)
    have nf:s.heap.objs.size∉[(s.heap.push (iL w)).objs.size,l]:=by
     simp only[List.mem_cons,List.not_mem_nil,or_false,not_or]
     exact⟨by rw[szI];exact Nat.ne_of_lt (Nat.lt_succ_self _),Nat.ne_of_gt lt⟩
    have old:∀b o,s.heap.get? b=some o->((s.heap.push (iL w)).push {cls:=.type "list_iterator",data:=.fields #[.ref l,.int 0 0]}).get? b=some o:=λ b o e=>Heap.get?_push_of_some _ (Heap.get?_push_of_some _ e)
    refine Sm (kk:=kk) (hsh:=hsh) (its:=its.toList) ((Walks.list hh3 _ l neI its).toS) s.heap.objs.size nf (P:=P) (λ i v h=>⟨hP i v h,by rw[Array.getElem?_toList];exact h⟩) (Array.length_toList) eh (λ b hb=>?_) hn (by show A.units+1+1+1<cLine;omega) its.size 0 _ Qa (Nat.zero_le _)
     ⟨⟨_,Heap.get?_push_size _ rfl,rfl,rfl⟩,hl1.push _⟩ (λ v hp=>(hW v hp).1.both (hW v hp).2 λ b o _ e=>old b o e) (OG P (Heap.get?_push_of_some _ gS)) λ s' hm hS'=>?_
    ·obtain⟨b',o',_,_,_,_,_,_,_,hv,ho',_⟩:=(hW _ hb).1
     injection hv with hv
     subst hv
     have:=Heap.lt_size ho'
     simp only[List.mem_cons,List.not_mem_nil,or_false,not_or]
     exact⟨Nat.ne_of_lt this,by rw[szI];exact Nat.ne_of_lt (Nat.lt_succ_of_lt this)⟩
    ·obtain⟨h',g',d',tk',os'⟩:=s'
     have eg:g'=s.gens:=hm.gens
     have ed:d'=s.drawn:=hm.drawn
     have eo:os'=s.os:=hm.os
     subst eg;subst ed;subst eo
     show wpAny _ _ _ _ _ _
     refine wpAny_pure ?_
     show wpAny _ _ (ret Value.none) _ _ _
     refine wpAny_pure ⟨rfl,h',tk',rfl,hS',λ b o e=>?_⟩
     have:=Heap.lt_size e
     exact hm.heap b o (by simp only[List.mem_cons,List.not_mem_nil,or_false,not_or];exact⟨Nat.ne_of_lt this,by rw[szI];exact Nat.ne_of_lt (Nat.lt_succ_of_lt this)⟩) (old b o e)
   ·cases r₂ with
    |error e=>exact hr₂
    | ok fl₂=>
     cases fl₂ with
     |ret r=>
      obtain⟨rfl,h',tk,rfl,hS',hk'⟩:=hr₂
      repeat (any_goals (first|assumption|wp_step))
      exact h _ _ hS' hk'
     |_=>exact hr₂.elim
  |_=>exact hr.elim
end
theorem si_slot:Slot "set_iterator" "__next__" "set_iterator.__next__" := .of (owner:= "set_iterator") (n:= "__next__") (by rw[typeLookup_type,builtinLookup_eq_fast];kernel_rfl) Qe Qe Qe (by first|exact .inl Qe|exact .inr Qe) (by rw[isSubtype_type];kernel_rfl)
theorem Fv:entryFor table "set_iterator.__next__" =some Builtin.«set_iterator.__next__»:=entryFor_of_tree (by kernel_rfl)
theorem Xx:Manifest.owners.lookup (String.ofList ['r','o','t','a','r','e','t','i','_','t','e','s'].reverse)=some Manifest.sig_set_iterator:=by kernel_rfl
theorem Fw(a:Value):argsOk "set_iterator.__next__" ⟨[a],[]⟩:=by
 unfold argsOk;rw[signature?_of (id:= "set_iterator.__next__") (n:=['_','_','t','x','e','n','_','_']) (o:=['r','o','t','a','r','e','t','i','_','t','e','s']) (by kernel_rfl) Xx];kernel_rfl
theorem AC:entryFor table "set.__iter__" =some Builtin.«frozenset.__iter__»:=entryFor_alias (id':= "frozenset.__iter__") (by kernel_rfl) rfl Qe (by kernel_rfl)
theorem Hi{α:Type}(next:Nat->Nat):∀(fuel k:Nat) (left:List α) (out:Array α),fuel=left.length->(pickOrder.go next fuel k left out).size=out.size+left.length/\∀x∈pickOrder.go next fuel k left out,x∈out\/x∈left
 |0,k,left,out,h=>by
  obtain rfl:left=[]:=List.length_eq_zero_iff.mp h.symm
  unfold pickOrder.go
  exact⟨rfl,λ x hx=>.inl hx⟩
 | fuel+1,k,left,out,h=>by
  unfold pickOrder.go
  have hlt:next k%left.length<left.length:=Nat.mod_lt _ Qa
  rw[List.getElem?_eq_getElem hlt]
  dsimp only
  obtain⟨h1,h2⟩:=Hi next fuel (k+1) (left.eraseIdx (next k%left.length)) (out.push left[next k%left.length]) (by rw[List.length_eraseIdx_of_lt hlt];omega)
  refine⟨by rw[h1,Array.size_push,List.length_eraseIdx_of_lt hlt];omega,λ x hx=>?_⟩
  rcases h2 x hx with h3|h3
  ·rcases Array.mem_push.mp h3 with h4|rfl
   ·exact .inl h4
   ·exact .inr (List.getElem_mem hlt)
  ·exact .inr (List.mem_of_mem_eraseIdx h3)
theorem Hg{α:Type}(next:Nat->Nat)(xs:Array α):(pickOrder next xs).size=xs.size/\∀x∈pickOrder next xs,x∈xs:=by
 unfold pickOrder
 obtain⟨h1,h2⟩:=Hi next xs.size 0 xs.toList #[] Qb
 refine⟨by simpa using h1,λ x hx=>?_⟩
 rcases h2 x hx with h|h
 ·simp at h
 ·exact Array.mem_toList_iff.mp h
section
variable{prog:Program}{w:World}{A:Around}{E:Qd}{s:Shared}
end
section
variable{prog:Program}{w:World}{A:Around}{E:Qd}{s:Shared}{P:Value->Prop}{S I T:Addr}{n i:Nat}
theorem sR{b:Bool}(e:w.params.followText "set-order" =b){Q:Bool->Shared->Prop}(h:Q b s):wpAny (model prog w) A setsByText Q E s:=by
 unfold setsByText
 refine wpAny_bind (wpAny_askSetting (wpAny_pure ?_))
 have:(model prog w).w.params.followText "set-order" =b:=e
 rw[this]
 exact h
section
variable{o:Obj}{es:Array (Int×Value)}{ep:Nat}{t:SetTable}
theorem Oz{xs:Array Nat}{j:Nat}(h:xs[0]? =some j)(hs:xs.size=1):below xs 0=0/\below xs (j+1)=1:=by
 obtain⟨l⟩:=xs
 match l,hs,h with
 |[y],_,h=>
  have e:y=j:=by simpa using h
  subst e
  unfold below
  show below.go _ _ 1 0 1=0/\below.go _ _ 1 0 1=1
  unfold below.go
  constructor
  ·simp[below.go]
  ·simp[below.go]
theorem Ge(e:w.params.followText "set-order" =false)(hS:s.heap.get? S=some o)(hd:o.data= .set es ep t)(ht:gR t es.size)(hn:es.size<=1)(hl:t.led=true){slot given:Nat}{Q:Option (Value×Nat)->Shared->Prop}
  (h:∀r,(∀x,es[below t.place slot]? =some x->∀j,t.place[below t.place slot]? =some j->r=some (x.2,j+1))->(es[below t.place slot]? =none->r=none)->Q r s):wpAny (model prog w) A (setNext S slot given ep) Q E s:=by
 unfold setNext
 refine wpAny_bind (wpAny_setState_of hS hd ht.fits ?_)
 dsimp only
 refine wpAny_bind (sR e ?_)
 rw[if_neg Bool.false_ne_true]
 show wpAny _ _ (if(!t.plain&&decide (es.size>1))=true then _ else _) _ _ _
 rw[if_neg (by rw[decide_eq_false Qa];simp)]
 refine wpAny_bind ?_
 show wpAny _ _ (if(!t.led&& !es.isEmpty)=true then _ else _) _ _ _
 rw[hl,Bool.not_true,Bool.false_and,if_neg Bool.false_ne_true]
 refine wpAny_pure (wpAny_pure (h _ (λ x e1 j e2=>?_) λ e1=>?_))
 ·rw[e1,e2]
 ·rw[e1]
theorem AG(hS:s.heap.get? S=some o)(hd:o.data= .set es ep t)(ht:gR t es.size){p:Nat}(hp:p<es.size){Q:Qd}(h:Q es[p].2 s):wpAny (model prog w) A (setNextDrawn S p ep) Q E s:=by
 unfold setNextDrawn
 refine wpAny_bind (wpAny_setState_of hS hd ht.fits ?_)
 dsimp only
 simp only[bne_self_eq_false,Bool.false_eq_true,if_false]
 rw[Array.getElem?_eq_getElem hp]
 exact wpAny_pure h
end
theorem lH{h:Heap}{I:Addr}{fs:Array Value}{k:Nat}{v:Value}(hI:h.get? I=some {cls:=.type "set_iterator",data:=.fields fs}):
  (h.update I (Obj.mapFields (·.setIfInBounds k v))).get? I=some {cls:=.type "set_iterator",data:=.fields (fs.setIfInBounds k v)}:=by
 have:=Heap.get?_update_self (Obj.mapFields (·.setIfInBounds k v)) hI (Obj.isFreed_of_fields (Obj.data_mapFields rfl _))
 exact this
end
section
variable{prog:Program}{w:World}{A:Around}{E:Qd}{s:Shared}{P:Value->Prop}{S I T:Addr}{n i:Nat}
theorem yS(hh:A.handled=none){P2:PySem.Fin->Shared->Prop}(h:∀e h',(∀b o,s.heap.get? b=some o->h'.get? b=some o)->Shared.TypeIs {s with heap:=h'} e "StopIteration"->E e {s with heap:=h'}):
  wpAny (model prog w) A (newExc (.type "StopIteration") []>>=raiseNew (α:=PySem.Fin)) P2 E s:=by
 refine wpAny_bind ?_
 simp only[newExc,newTuple]
 refine wpAny_bind (wpAny_newObj_type ?_ (by size_fits))
 refine wpAny_bind (m:=firstArgMember _ _) (wpAny_of_eq (a:=Value.none) (by first|rfl|(simp only[firstArgMember];rfl)) ?_)
 refine wpAny_newObj_type ?_ (by size_fits)
 simp only[raiseNew]
 refine wpAny_bind (wpAny_handled ?_)
 rw[hh]
 refine wpAny_bind (wpAny_pure (wpAny_throw ?_))
 exact h _ _ (λ b o e=>Heap.get?_push_of_some _ (Heap.get?_push_of_some _ e)) ⟨_,Heap.get?_push_size _ rfl,rfl⟩
end
section
variable{prog:Program}{w:World}{A:Around}{E:Qd}{s:Shared}{P:Value->Prop}{S I T L:Addr}{n i:Nat}{R:Result->Shared->Prop}
end
theorem Nl{α:Type}{l:List α}{i:Nat}(h:i<l.length):(l[i]::l.eraseIdx i).Perm l:=by
 rw[List.eraseIdx_eq_take_drop_succ]
 refine List.Perm.trans List.perm_middle.symm (List.Perm.of_eq ?_)
 rw[<-List.drop_eq_getElem_cons h,List.take_append_drop]
theorem Hh{α:Type}(next:Nat->Nat):∀(fuel k:Nat) (left:List α) (out:Array α),fuel=left.length->(pickOrder.go next fuel k left out).toList.Perm (out.toList++left)
 |0,k,left,out,h=>by
  obtain rfl:left=[]:=List.length_eq_zero_iff.mp h.symm
  unfold pickOrder.go
  rw[List.append_nil]
 |fuel+1,k,left,out,h=>by
  unfold pickOrder.go
  have hlt:next k%left.length<left.length:=Nat.mod_lt _ Qa
  rw[List.getElem?_eq_getElem hlt]
  dsimp only
  refine(Hh next fuel (k+1) (left.eraseIdx (next k%left.length)) (out.push left[next k%left.length]) (by rw[List.length_eraseIdx_of_lt hlt];omega)).trans ?_
  rw[Array.toList_push,List.append_assoc]
  exact List.Perm.append_left _ (Nl hlt)
theorem DW{α:Type}(next:Nat->Nat)(xs:Array α):(pickOrder next xs).toList.Perm xs.toList:=by
 unfold pickOrder
 exact Hh next xs.size 0 xs.toList #[] Qb
section
variable{prog:Program}{w:World}{A:Around}{E:Qd}{s:Shared}
theorem Nq{α:Type}:∀(n:Nat) (xs:List α) (s:Shared) {Q:List α->Shared->Prop},n=xs.length->(∀ys d,ys.Perm xs->Q ys {s with drawn:=d})->wpAny (model prog w) A (drawOrder n xs) Q E s
 |0,xs,s,Q,e,h=>by
  unfold drawOrder
  obtain rfl:xs=[]:=List.length_eq_zero_iff.mp e.symm
  exact wpAny_pure (h [] s.drawn (List.Perm.refl _))
 |n+1,[],s,Q,e,h=>nomatch e
 |n+1,x::r,s,Q,e,h=>by
  unfold drawOrder
  refine wpAny_bind ?_
  intro Γ p hΓ
  refine⟨Qb,?_⟩
  show Sem.wp _ _ (Sem.pure _) _ _ _ _
  generalize hi:(model prog w).w.draws Source.order (s.drawn.get Source.order)%(x::r).length=i
  have hlt:i<(x::r).length:=by rw[<-hi];exact Nat.mod_lt _ Qb
  show wpAny (model prog w) A _ Q E _
  rw[List.getElem?_eq_getElem hlt]
  dsimp only
  refine wpAny_bind (Nq n ((x::r).eraseIdx i) _ (by rw[List.length_eraseIdx_of_lt hlt];omega) λ ys d hp=>?_)
  exact wpAny_pure (h _ d ((hp.cons _).trans (Nl hlt)))
end
inductive sY(w:World)(h:Heap)(S T:Addr)(n i ep:Nat)(t:SetTable)(es:Array (Int×Value))(vs:List Value):Value->Prop
 |text {k:Int} {u:Tok} (e:w.params.followText "set-order" =true) (hv:vs=(pickOrder (w.params.setOrder S ep) es).toList.map (·.2)):sY w h S T n i ep t es vs (.int k u)
 |drawn {ps:List Nat} {m:Nat} (e:w.params.followText "set-order" =false) (hT:h.get? T=some {cls:=.type "tuple",data:=.seq (ps.map λ (p:Nat)=>rawInt p).toArray m}) (hl:ps.length=n) (hp:∀p∈ps,p<n) (hv:∀(k p:Nat) (x:Int×Value),ps[k]? =some p->es[p]? =some x->vs[k]? =some x.2):sY w h S T n i ep t es vs (.ref T)
 |few {k:Nat} {u:Tok} (e:w.params.followText "set-order" =false) (hn:n<=1) (hl:t.led=true) (h0:i=0->k=0) (h1:i=1->∃j,t.place[0]? =some j/\k=j+1) (hv:vs=es.toList.map (·.2)):sY w h S T n i ep t es vs (.int k u)
noncomputable def mN(w:World)(vs:List Value)(S I T:Addr)(n i:Nat)(h:Heap):Prop:=∃o es ep t first,h.get? S=some o/\o.data= .set es ep t/\gR t es.size/\es.size=n/\vs.length=n/\
 h.get? I=some {cls:=.type "set_iterator",data:=.fields #[first,.int i 0,.ref S,.int n 0,.int ep 0]}/\sY w h S T n i ep t es vs first
section
variable{prog:Program}{w:World}{A:Around}{E:Qd}{s:Shared}{vs:List Value}{S I T:Addr}{n i:Nat}
section
variable{o:Obj}{es:Array (Int×Value)}{ep:Nat}{t:SetTable}
theorem AE(e:w.params.followText "set-order" =true)(hS:s.heap.get? S=some o)(hd:o.data= .set es ep t)(ht:gR t es.size){Q:Array (Int×Value)->Shared->Prop}(h:Q (pickOrder (w.params.setOrder S ep) es) s):
  wpAny (model prog w) A (setWalk S) Q E s:=by
 unfold setWalk
 refine wpAny_bind (wpAny_setState_of hS hd ht.fits ?_)
 dsimp only
 refine wpAny_bind (sR e ?_)
 rw[if_pos rfl]
 refine wpAny_bind (wpAny_askSetting (wpAny_pure ?_))
 exact h
theorem Gc(e:w.params.followText "set-order" =true)(hS:s.heap.get? S=some o)(hd:o.data= .set es ep t)(ht:gR t es.size){slot given:Nat}{Q:Option (Value×Nat)->Shared->Prop}
  (h:∀r,(∀x,(pickOrder (w.params.setOrder S ep) es)[given]? =some x->r=some (x.2,slot))->(es.size<=given->r=none)->Q r s):wpAny (model prog w) A (setNext S slot given ep) Q E s:=by
 unfold setNext
 refine wpAny_bind (wpAny_setState_of hS hd ht.fits ?_)
 dsimp only
 refine wpAny_bind (sR e ?_)
 rw[if_pos rfl]
 simp only[bne_self_eq_false,Bool.false_eq_true,if_false]
 refine wpAny_bind (AE e hS hd ht (wpAny_pure (h _ (λ x hx=>?_) λ hle=>?_)))
 ·rw[hx];rfl
 ·rw[Array.getElem?_eq_none (by rw[(Hg _ es).1];exact hle)];rfl
end
theorem IN(st:mN w vs S I T n i s.heap)(hIS:I≠S)(hIT:I≠T)(hi:i<n){Q:Option Value->Shared->Prop}
  (h:∀v h',vs[i]? =some v->mN w vs S I T n (i+1) h'->Heap.SameBut I s.heap h'->Q (some v) {s with heap:=h'}):wpAny (model prog w) A (pyNext (.ref I)) Q E s:=by
 obtain⟨o,es,ep,t,first,hS,hd,ht,hn,hvl,hI,way⟩:=st
 have tI:s.TypeIs (.ref I) "set_iterator" :=⟨_,hI,rfl⟩
 unfold pyNext
 refine wpAny_bind (wpAny_attempt (wpAny_callSpecial?_slot (name:=Str.ofString "__next__") tI si_slot (wpAny_call_entry si_slot tI Fv ?_ (Fw _))))
 unfold Builtin.«set_iterator.__next__»
 refine wpAny_bind (m:=slotArgs "__next__" 0 _) (wpAny_pure ?_)
 dsimp only
 refine wpAny_bind (wpAny_fieldsOf hI rfl ?_)
 dsimp only
 refine wpAny_bind (wpAny_setEntries_of hS hd ht.fits ?_)
 rw[hn]
 simp only[bne_self_eq_false,Bool.false_eq_true,if_false]
 cases way with
 | @text k u e hv=>
  dsimp only
  refine wpAny_bind (Gc e hS hd ht λ r h1 _=>?_)
  have hil:i<(pickOrder (w.params.setOrder S ep) es).size:=by rw[(Hg _ es).1,hn];exact hi
  obtain⟨x,hx⟩:∃x,x=(pickOrder (w.params.setOrder S ep) es)[i]:=⟨_,rfl⟩
  have hxi:(pickOrder (w.params.setOrder S ep) es)[i]? =some x:=by rw[hx];exact Array.getElem?_eq_getElem hil
  have hvi:vs[i]? =some x.2:=by rw[hv,List.getElem?_map,Array.getElem?_toList,hxi];rfl
  obtain rfl:=h1 x (by simpa using hxi)
  dsimp only
  refine wpAny_bind (wpAny_setField hI rfl Qb ?_)
  refine wpAny_bind (wpAny_setField (lH hI) rfl Qb ?_)
  refine wpAny_pure ⟨_,rfl,wpAny_pure (h x.2 _ hvi ⟨o,es,ep,t,rawInt k.toNat,?_,hd,ht,hn,hvl,?_,.text e hv⟩ ((Heap.SameBut.update ..).trans (Heap.SameBut.update ..)))⟩
  ·rw[Heap.get?_update_other _ _ hIS,Heap.get?_update_other _ _ hIS];exact hS
  ·exact lH (lH hI)
 | @drawn ps m e hT hl hp hv=>
  dsimp only
  refine wpAny_bind (wpAny_seqItems hT rfl ?_)
  dsimp only
  have hpi:(ps.map λ (p:Nat)=>rawInt p).toArray[(i:Int).toNat]? =some (rawInt (ps[i]' Qa:Nat)):=by
   simp[hl,hi]
  rw[hpi]
  have hpb:ps[i]' Qa<es.size:=by rw[hn];exact hp _ (List.getElem_mem _)
  show wpAny _ _ (setNextDrawn S ((ps[i]' Qa:Nat):Int).toNat (ep:Int).toNat>>=_) _ _ _
  rw[Int.toNat_natCast,Int.toNat_natCast]
  refine wpAny_bind (AG hS hd ht hpb ?_)
  refine wpAny_bind (wpAny_setField hI rfl Qb ?_)
  refine wpAny_pure ⟨_,rfl,wpAny_pure (h _ _ (hv i _ _ (List.getElem?_eq_getElem Qa) (Array.getElem?_eq_getElem hpb)) ⟨o,es,ep,t,.ref T,?_,hd,ht,hn,hvl,?_,.drawn (ps:=ps) (m:=m) e ?_ hl hp hv⟩ (Heap.SameBut.update ..))⟩
  ·rw[Heap.get?_update_other _ _ hIS];exact hS
  ·exact lH hI
  ·rw[Heap.get?_update_other _ _ hIT];exact hT
 | @few k u e hn1 hl h0 h1 hv=>
  dsimp only
  obtain rfl:i=0:=by omega
  obtain rfl:n=1:=by omega
  obtain rfl:k=0:=h0 rfl
  have hp0:(0:Nat)<t.place.size:=by rw[ht.place];omega
  obtain⟨b0,b1⟩:=Oz (Array.getElem?_eq_getElem hp0) (by rw[ht.place];omega)
  refine wpAny_bind (Ge e hS hd ht Qa hl λ r h1 _=>?_)
  have he0:(0:Nat)<es.size:=by omega
  obtain rfl:=h1 es[0] (by show es[below t.place 0]? =_;rw[b0];exact Array.getElem?_eq_getElem he0) t.place[0] (by show t.place[below t.place 0]? =_;rw[b0];exact Array.getElem?_eq_getElem hp0)
  dsimp only
  refine wpAny_bind (wpAny_setField hI rfl Qb ?_)
  refine wpAny_bind (wpAny_setField (lH hI) rfl Qb ?_)
  refine wpAny_pure ⟨_,rfl,wpAny_pure (h es[0].2 _ (by rw[hv,List.getElem?_map,Array.getElem?_toList,Array.getElem?_eq_getElem he0];rfl) ⟨o,es,ep,t,rawInt (t.place[0]+1:Nat),?_,hd,ht,hn,hvl,?_,.few e (Nat.le_refl _) hl (λ z=>nomatch z) (λ _=>⟨_,Array.getElem?_eq_getElem hp0,rfl⟩) hv⟩ ((Heap.SameBut.update ..).trans (Heap.SameBut.update ..)))⟩
  ·rw[Heap.get?_update_other _ _ hIS,Heap.get?_update_other _ _ hIS];exact hS
  ·exact lH (lH hI)
theorem IP(st:mN w vs S I T n n s.heap)(hh:A.handled=none){Q:Option Value->Shared->Prop}(h:∀h',(∀b o,b≠I->s.heap.get? b=some o->h'.get? b=some o)->Q none {s with heap:=h'}):
  wpAny (model prog w) A (pyNext (.ref I)) Q E s:=by
 obtain⟨o,es,ep,t,first,hS,hd,ht,hn,hvl,hI,way⟩:=st
 have tI:s.TypeIs (.ref I) "set_iterator" :=⟨_,hI,rfl⟩
 unfold pyNext
 refine wpAny_bind (wpAny_attempt (wpAny_callSpecial?_slot (name:=Str.ofString "__next__") tI si_slot (wpAny_call_entry si_slot tI Fv ?_ (Fw _))))
 unfold Builtin.«set_iterator.__next__»
 refine wpAny_bind (m:=slotArgs "__next__" 0 _) (wpAny_pure ?_)
 dsimp only
 refine wpAny_bind (wpAny_fieldsOf hI rfl ?_)
 dsimp only
 refine wpAny_bind (wpAny_setEntries_of hS hd ht.fits ?_)
 rw[hn]
 simp only[bne_self_eq_false,Bool.false_eq_true,if_false]
 have fin:∀e h',(∀b o,b≠I->s.heap.get? b=some o->h'.get? b=some o)->Shared.TypeIs {s with heap:=h'} e "StopIteration" ->
   wpAny (model prog w) A (do if<-isInstance e (.type "StopIteration")then pure none else throw e) Q E {s with heap:=h'}:=λ e h' hk hT=>by
  refine wpAny_bind (wpAny_isInstance (b:=true) hT isSubtype_stop ?_)
  exact wpAny_pure (h h' hk)
 have one:∀(k:Nat) (v:Value) (b:Addr) (o:Obj),b≠I->s.heap.get? b=some o->(s.heap.update I (Obj.mapFields (·.setIfInBounds k v))).get? b=some o:=λ k v b o hb e=>by
  rw[Heap.get?_update_other _ _ (Ne.symm hb)];exact e
 cases way with
 | @text k u e hv=>
  dsimp only
  refine wpAny_bind (Gc e hS hd ht λ r _ h2=>?_)
  obtain rfl:=h2 (by rw[hn];simp)
  dsimp only
  refine wpAny_bind (wpAny_setField hI rfl Qb ?_)
  refine yS (A:=A.in1) hh ?_
  exact λ e h' hk hT=>fin e h' (λ b o hb q=>hk b o (one _ _ b o hb q)) hT
 | @drawn ps m e hT hl hp hv=>
  dsimp only
  refine wpAny_bind (wpAny_seqItems hT rfl ?_)
  dsimp only
  have hpi:(ps.map λ (p:Nat)=>rawInt p).toArray[(n:Int).toNat]? =none:=by simp[hl]
  rw[hpi]
  dsimp only
  refine wpAny_bind (wpAny_setField hI rfl Qb ?_)
  refine wpAny_bind (wpAny_setField (lH hI) rfl Qb ?_)
  refine yS (A:=A.in1) hh ?_
  exact λ e h' hk hT=>fin e h' (λ b o hb q=>hk b o (by
   show((s.heap.update I _).update I _).get? b=some o
   rw[Heap.get?_update_other _ _ (Ne.symm hb)];exact one _ _ b o hb q)) hT
 | @few k u e hn1 hl h0 h1 hv=>
  dsimp only
  refine wpAny_bind (Ge e hS hd ht Qa hl λ r _ h2=>?_)
  obtain rfl:=h2 (by
   rcases(show n=0\/n=1 from Qa)with rfl|rfl
   ·exact Array.getElem?_eq_none Qa
   ·obtain⟨j,hj,rfl⟩:=h1 rfl
    obtain⟨_,b1⟩:=Oz hj (by rw[ht.place];omega)
    show es[below t.place (j+1)]? =none
    rw[b1]
    exact Array.getElem?_eq_none Qa)
  dsimp only
  refine wpAny_bind (wpAny_setField hI rfl Qb ?_)
  refine yS (A:=A.in1) hh ?_
  exact λ e h' hk hT=>fin e h' (λ b o hb q=>hk b o (one _ _ b o hb q)) hT
theorem PH{es:Array (Int×Value)}{ys:List Nat}(p:ys.Perm (List.range es.size)):(ys.map λ p=>(es.getD p default).2).Perm (es.toList.map (·.2)):=by
 refine(p.map _).trans (List.Perm.of_eq ?_)
 apply List.ext_getElem
 ·simp
 ·intro i h1 h2
  simp only[List.length_map,List.length_range]at h1
  simp only[List.getElem_map,List.getElem_range,Array.getElem_toList]
  unfold Array.getD
  rw[dif_pos h1]
  rfl
theorem MG{P:Value->Prop}{kk:Value->List bP}{hsh:List bP->Int}{L:List (List bP)}(hS:eU w s.heap S P kk hsh L n)(hn:n<=1000){Q:Qd}(h:∀I T m h' d vs,m<=n->(∀v∈vs,P v)->(vs.map kk).Nodup->(∀v∈vs,kk v∈L)->(∀k∈L,k∈vs.map kk)->s.heap.objs.size<=I->I≠T->I≠S->I<h'.objs.size->(T=S\/s.heap.objs.size<=T)->(∀b o,s.heap.get? b=some o->h'.get? b=some o)->mN w vs S I T m 0 h'->Q (.ref I) {s with heap:=h',drawn:=d}):
  wpAny (model prog w) A (pyIter (.ref S)) Q E s:=by
 obtain⟨o,es,ep,t,ho,hex,hd,ht,hl,hpl,hP,hle,N,hL,hL2⟩:=hS
 have facts:∀vs:List Value,vs.Perm (es.toList.map (·.2))->(∀v∈vs,P v)/\(vs.map kk).Nodup/\(∀v∈vs,kk v∈L)/\∀k∈L,k∈vs.map kk:=λ vs p=>by
  refine⟨λ v hv=>?_,?_,λ v hv=>?_,λ k hk=>?_⟩
  ·obtain⟨e,he,rfl⟩:=List.mem_map.mp (p.mem_iff.mp hv)
   exact hP e he
  ·rw[(p.map kk).nodup_iff,List.map_map]
   unfold List.Nodup
   rw[List.pairwise_iff_getElem]
   intro a b ha hb hab z
   rw[List.length_map]at ha hb
   rw[List.getElem_map,List.getElem_map]at z
   have:=N.once a b es.toList[a] es.toList[b] (by rw[<-Array.getElem?_toList];exact List.getElem?_eq_getElem ha) (by rw[<-Array.getElem?_toList];exact List.getElem?_eq_getElem hb) z
   omega
  ·obtain⟨e,he,rfl⟩:=List.mem_map.mp (p.mem_iff.mp hv)
   exact hL e he
  ·obtain⟨e,he,rfl⟩:=hL2 k hk
   exact List.mem_map.mpr ⟨e.2,p.mem_iff.mpr (List.mem_map.mpr ⟨e,he,rfl⟩),rfl⟩
 have tS:s.TypeIs (.ref S) "set" :=⟨o,ho,hex.1⟩
 have eA:S<s.heap.objs.size:=Heap.lt_size ho
 refine wpAny_pyIter_slot tS F.slot_set_iter (wpAny_call_entry F.slot_set_iter tS AC ?_ (F.args_set_iter_1 _))
 unfold Builtin.«frozenset.__iter__» Builtin.Frozenset.slot0
 refine wpAny_bind (wpAny_bind (m:=slotArgs "__iter__" 0 _) (wpAny_pure ?_))
 refine wpAny_pure ?_
 unfold Builtin.Frozenset.sizeOf
 refine wpAny_bind (wpAny_bind (wpAny_setEntries_of ho hd ht.fits (wpAny_pure ?_)))
 refine wpAny_bind ?_
 unfold setDrawn
 have line:(1000:Nat)<=sizeLine:=by decide+kernel
 have fin:∀(first:Value) (T:Addr) (h1:Heap) (d:Drawn),(∀b o,s.heap.get? b=some o->h1.get? b=some o)->s.heap.objs.size<=h1.objs.size->T<h1.objs.size->(T=S\/s.heap.objs.size<=T)->∀vs:List Value,vs.Perm (es.toList.map (·.2))->sY w h1 S T es.size 0 ep t es vs first->
   wpAny (model prog w) A.in1 (do ret (<-newFields "set_iterator" [first,rawInt 0,.ref S,rawInt es.size,rawInt (<-setEpoch S)])) (λ fin s'=>∃r,fin= .done (.ret r)/\∃T' r',s'.TypeIs r T'/\typeLookup (.type T') "__next__" =pure (some r')/\Q r s') E {s with heap:=h1,drawn:=d}:=by
  intro first T h1 d hk hle1 hT hTS vs pv way
  obtain⟨w1,w2,w3,w4⟩:=facts vs pv
  refine wpAny_bind (wpAny_setEpoch_of (s:={s with heap:=h1,drawn:=d}) (hk S o ho) hd ht.fits ?_)
  refine wpAny_bind (wpAny_newObj_type ?_)
  have keep:∀b o,h1.get? b=some o->(h1.push {cls:=.type "set_iterator",data:=.fields #[first,rawInt 0,.ref S,rawInt es.size,rawInt ep]}).get? b=some o:=λ b o e=>Heap.get?_push_of_some _ e
  refine wpAny_pure ⟨_,rfl,"set_iterator",_,⟨_,Heap.get?_push_size _ rfl,rfl⟩,si_slot.lookup,?_⟩
  refine h h1.objs.size T es.size _ d vs hle w1 w2 w3 w4 hle1 (Nat.ne_of_gt hT) (Nat.ne_of_gt (Nat.lt_of_lt_of_le eA hle1)) (by rw[Heap.size_push];exact Nat.lt_succ_self _) hTS (λ b o e=>keep b o (hk b o e))
   ⟨o,es,ep,t,first,keep S o (hk S o ho),hd,ht,rfl,by rw[pv.length_eq,List.length_map,Array.length_toList],Heap.get?_push_size _ rfl,?_⟩
  cases way with
  |text e hv=>exact .text e hv
  |drawn e q hl hp hv=>exact .drawn e (keep _ _ q) hl hp hv
  |few e hn hl h0 h1 hv=>exact .few e hn hl h0 h1 hv
 refine wpAny_bind (wpAny_setState_of ho hd ht.fits ?_)
 dsimp only
 cases e:w.params.followText "set-order" with
 |true=>
  refine wpAny_bind (sR e (wpAny_pure ?_))
  simp only[Bool.not_true,Bool.false_and,Bool.false_eq_true,if_false]
  refine wpAny_bind (wpAny_pure ?_)
  exact fin (rawInt 0) S s.heap s.drawn (λ _ _ q=>q) (Nat.le_refl _) eA (.inl rfl) _ ((DW _ es).map _) (.text e rfl)
 | false=>
  refine wpAny_bind (sR e (wpAny_pure ?_))
  by_cases h1:es.size<=1
  ·have:(!false&&(!t.plain&&decide (es.size>1)))=false:=by rw[decide_eq_false Qa];simp
   show wpAny _ _ (if(!false&&(!t.plain&&decide (es.size>1)))=true then _ else _) _ _ _
   rw[this,if_neg Bool.false_ne_true]
   refine wpAny_bind (wpAny_pure ?_)
   exact fin (rawInt 0) S s.heap s.drawn (λ _ _ q=>q) (Nat.le_refl _) eA (.inl rfl) _ (List.Perm.refl _) (.few (k:=0) e h1 (by rw[hl,e];rfl) (λ _=>rfl) (λ z=>nomatch z) rfl)
  ·have:(!false&&(!t.plain&&decide (es.size>1)))=true:=by rw[decide_eq_true Qa,hpl Qa];simp
   show wpAny _ _ (if(!false&&(!t.plain&&decide (es.size>1)))=true then _ else _) _ _ _
   rw[this,if_pos rfl]
   refine wpAny_bind (Nq _ _ _ Qb λ ys d hpy=>?_)
   have hly:ys.length=es.size:=by rw[hpy.length_eq,List.length_range]
   have hmy:∀y∈ys,y<es.size:=λ y hy=>List.mem_range.mp (hpy.mem_iff.mp hy)
   refine wpAny_bind (wpAny_newTuple ?_ (by rw[List.length_map,hly];omega))
   exact fin (.ref s.heap.objs.size) s.heap.objs.size _ d (λ b o q=>Heap.get?_push_of_some _ q) (by rw[Heap.size_push];exact Nat.le_succ _) (by rw[Heap.size_push];exact Nat.lt_succ_self _) (.inr (Nat.le_refl _)) (ys.map λ p=>(es.getD p default).2) (PH hpy)
    (.drawn (m:=0) e (Heap.get?_push_size _ rfl) hly hmy λ k p x h1 h2=>by rw[List.getElem?_map,h1];show some (es.getD p default).2=_;unfold Array.getD;rw[dif_pos (Array.getElem?_eq_some_iff.mp h2).1];exact congrArg (λ z:Int×Value=>some z.2) (Array.getElem?_eq_some_iff.mp h2).2)
end
theorem mN.stay{w:World}{vs:List Value}{S I T:Addr}{n i:Nat}{h h':Heap}(x:mN w vs S I T n i h)(k:∀b o,b=S\/b=I\/b=T->h.get? b=some o->h'.get? b=some o):mN w vs S I T n i h':=by
 obtain⟨o,es,ep,t,first,hS,hd,ht,hn,hvl,hI,way⟩:=x
 refine⟨o,es,ep,t,first,k S o (.inl rfl) hS,hd,ht,hn,hvl,k I _ (.inr (.inl rfl)) hI,?_⟩
 cases way with
 |text e hv=>exact .text e hv
 |drawn e q hl hp hv=>exact .drawn e (k T _ (.inr (.inr rfl)) q) hl hp hv
 |few e hn hl h0 h1 hv=>exact .few e hn hl h0 h1 hv
section
variable{prog:Program}{w:World}{A:Around}{E:Qd}{s:Shared}{P:Value->Prop}{vs:List Value}{S I T L:Addr}{n i:Nat}{R:Result->Shared->Prop}
theorem ON(hIS:I≠S)(hIT:I≠T)(hLI:L≠I)(hLS:L≠S)(hLT:L≠T)(hh:A.handled=none)(hn:n<=1000)(res:Value):∀(k i:Nat) (s:Shared) (acc:Array Value) (c:Nat),n-i=k->i<=n->mN w vs S I T n i s.heap->
  s.heap.get? L=some {cls:=.type "list",data:=.seq acc c}->acc.toList=vs.take i->vs.length=n->
  (∀h' acc' c',h'.get? L=some {cls:=.type "list",data:=.seq acc' c'}->acc'.toList=vs->(∀b o,b≠I->b≠L->s.heap.get? b=some o->h'.get? b=some o)->R (.ok (.ret res)) {s with heap:=h'})->
  codeAny (model prog w) A (.builtin "list.extend.loop" ⟨[.ref L,.ref I,res],[]⟩) R s:=by
 have line:(1000:Nat)<=sizeLine:=by decide+kernel
 intro k
 induction k with
 |zero=>
  intro i s acc c hk hi st hL hacc hvn fin
  have hsz:acc.size=i:=by rw[<-Array.length_toList,hacc,List.length_take];omega
  obtain rfl:i=n:=by omega
  refine codeAny_builtin F.entry_extend_loop ?_
  rw[Around.under_plainId F.plain_extend_loop _]
  show wpAny _ A.in1 (pyNext (.ref I)>>=_) _ _ s
  refine wpAny_bind (IP (A:=A.in1) st hh λ h' hk'=>?_)
  exact wpAny_pure (fin h' acc c (hk' L _ hLI hL) (by rw[hacc,List.take_of_length_le Qa]) λ b o hb _ e=>hk' b o hb e)
 | succ k ih=>
  intro i s acc c hk hi st hL hacc hvn fin
  have hsz:acc.size=i:=by rw[<-Array.length_toList,hacc,List.length_take];omega
  have lt:i<n:=by omega
  refine codeAny_builtin F.entry_extend_loop ?_
  rw[Around.under_plainId F.plain_extend_loop _]
  show wpAny _ A.in1 (pyNext (.ref I)>>=_) _ _ s
  refine wpAny_bind (IN st hIS hIT lt λ v h' hv st1 sb=>?_)
  have hL1:h'.get? L=some {cls:=.type "list",data:=.seq acc c}:=by rw[sb.2 L hLI];exact hL
  show wpAny _ A.in1 (updateSeq L (·.push v)>>=_) _ _ _
  refine wpAny_bind ?_
  refine wpAny_updateSeq (s:={s with heap:=h'}) hL1 rfl (wpAny_pure ⟨plainId_quiet F.plain_extend_loop _,ih (i+1) _ (acc.push v) _ Qa lt (st1.stay λ b o hb e=>?_) (Heap.get?_update_self _ hL1 rfl) (by rw[Array.toList_push,hacc,List.take_add_one,hv];rfl) hvn λ h2 acc' c' q1 q3 q4=>?_⟩) Qa (by show(acc.push v).size<=sizeLine+1;rw[Array.size_push];omega)
  ·refine(Heap.get?_update_other _ _ ?_).trans e
   rcases hb with rfl|rfl|rfl
   ·exact hLS
   ·exact hLI
   ·exact hLT
  ·refine fin h2 acc' c' q1 q3 λ b o hb1 hb2 e=>q4 b o hb1 hb2 ?_
   refine(Heap.get?_update_other _ _ (Ne.symm hb2)).trans ?_
   show h'.get? b=some o
   rw[sb.2 b hb1];exact e
theorem SC{kk:Value->List bP}{hsh:List bP->Int}{LL:List (List bP)}(hS:eU w s.heap S P kk hsh LL n)(hn:n<=1000)(hh:A.handled=none){Q:List Value->Shared->Prop}
  (h:∀(vs:List Value) h' d,vs.length<=n->(∀v∈vs,P v)->(vs.map kk).Nodup->(∀v∈vs,kk v∈LL)->(∀k∈LL,k∈vs.map kk)->(∀b o,s.heap.get? b=some o->h'.get? b=some o)->s.heap.objs.size<h'.objs.size->Q vs {s with heap:=h',drawn:=d}):wpAny (model prog w) A (collect (.ref S)) Q E s:=by
 have hS0:=hS
 obtain⟨o,es,ep,t,ho,hex,hd,ht,hl,hpl,hP,hle,_⟩:=hS
 have eA:S<s.heap.objs.size:=Heap.lt_size ho
 unfold collect
 refine wpAny_bind (wpAny_runValue (codeAny_builtin F.entry_proto_collect ?_))
 rw[Around.under_plainId F.plain_proto_collect _]
 show wpAny _ A.in1 (newList []>>=λ l=>again (.builtin "list.__iadd__" ⟨[l,.ref S],[]⟩)) _ _ s
 refine wpAny_bind (wpAny_newList ?_ (by size_fits))
 refine wpAny_pure ⟨plainId_quiet F.plain_list_iadd _,codeAny_builtin F.entry_list_iadd ?_⟩
 rw[Around.under_plainId F.plain_list_iadd _]
 show wpAny _ A.in1 (Builtin.List.listExtendWith (.ref s.heap.objs.size) (.ref S) (.ref s.heap.objs.size)) _ _ _
 unfold Builtin.List.listExtendWith
 have gL:(s.heap.push {cls:=.type "list",data:=.seq ([]:List Value).toArray}).get? s.heap.objs.size=some {cls:=.type "list",data:=.seq ([]:List Value).toArray}:=Heap.get?_push_size _ rfl
 have old:∀b o,s.heap.get? b=some o->(s.heap.push {cls:=.type "list",data:=.seq ([]:List Value).toArray}).get? b=some o:=λ b o e=>Heap.get?_push_of_some _ e
 refine wpAny_bind (wpAny_typeOf (T:= "set") ⟨o,old S o ho,hex.1⟩ ?_)
 have h1:Builtin.List.listSameRef (.ref s.heap.objs.size) (.ref S)=false:=by simp[Builtin.List.listSameRef,Nat.ne_of_gt eA]
 have h2:(Value.type "set" ==Value.type "list")=false:=by decide
 have h3:(Value.type "set" ==Value.type "tuple")=false:=by decide
 simp only[h1,h2,h3,Bool.or_false,Bool.false_eq_true,if_false]
 refine wpAny_bind (MG (hS0.stay λ o e=>old S o e) hn λ I T m h2 d vs hm w1 w2 w3 w4 hI hIT hIS hlI hT keep st=>?_)
 have hvn:vs.length=m:=by obtain⟨_,_,_,_,_,_,_,_,_,q,_⟩:=st;exact q
 have sz1:(s.heap.push {cls:=.type "list",data:=.seq ([]:List Value).toArray}).objs.size=s.heap.objs.size+1:=Heap.size_push ..
 have hLI:s.heap.objs.size≠I:=Nat.ne_of_lt (Nat.lt_of_lt_of_le (by rw[sz1];exact Nat.lt_succ_self _) hI)
 have hLS:s.heap.objs.size≠S:=Nat.ne_of_gt eA
 have hLT:s.heap.objs.size≠T:=by
  rcases hT with rfl|hT
  ·exact hLS
  ·exact Nat.ne_of_lt (Nat.lt_of_lt_of_le (by rw[sz1];exact Nat.lt_succ_self _) hT)
 have tS2:Shared.TypeIs {s with heap:=h2,drawn:=d} (.ref S) "set" :=⟨o,keep S o (old S o ho),hex.1⟩
 refine wpAny_bind (wpAny_holding ?_)
 unfold Builtin.List.listLengthHint
 refine wpAny_bind (wpAny_specialOf tS2 F.slot_set_len.lookup ?_)
 dsimp only
 have sp:splitId "set.__len__" =some ("set","__len__"):=by kernel_rfl
 rw[sp]
 dsimp only
 refine wpAny_bind (wpAny_isInstance tS2 sub_set_self ?_)
 simp only[Bool.not_true,Bool.false_eq_true,if_false]
 rw[if_pos Qe]
 refine wpAny_bind (wpAny_typeOf tS2 ?_)
 dsimp only
 refine wpAny_pure ?_
 rw[if_pos Qe]
 refine wpAny_bind (wpAny_rule ?_)
 have g2:=keep _ _ gL
 refine wpAny_bind ?_
 show wpAny _ A.in1 (updateSeq s.heap.objs.size (·.push .none)>>=λ _=>updateSeq s.heap.objs.size (·.pop)) _ _ _
 refine wpAny_bind (wpAny_updateSeq (s:={s with heap:=h2,drawn:=d}) g2 rfl ?_)
 have g3:=Heap.get?_update_self (Obj.mapSeq (·.push Value.none)) g2 rfl
 refine wpAny_updateSeq (s:={s with heap:=h2.update s.heap.objs.size (Obj.mapSeq (·.push Value.none)),drawn:=d}) g3 rfl ?_
 have g4:=Heap.get?_update_self (Obj.mapSeq (·.pop)) g3 rfl
 have oth:∀b o,b≠s.heap.objs.size->h2.get? b=some o->((h2.update s.heap.objs.size (Obj.mapSeq (·.push Value.none))).update s.heap.objs.size (Obj.mapSeq (·.pop))).get? b=some o:=λ b o hb e=>
  (Heap.get?_update_other _ _ (Ne.symm hb)).trans ((Heap.get?_update_other _ _ (Ne.symm hb)).trans e)
 refine wpAny_pure ⟨plainId_quiet F.plain_extend_loop _,ON (A:=A) hIS hIT hLI hLS hLT hh (Nat.le_trans hm hn) _ m 0 _ #[] _ rfl (Nat.zero_le _) (st.stay λ b o hb e=>oth b o ?_ e) g4 Qb hvn λ h3 acc c q1 q3 q4=>?_⟩
 ·rcases hb with rfl|rfl|rfl
  ·exact Ne.symm hLS
  ·exact Ne.symm hLI
  ·exact Ne.symm hLT
 ·show wpAny _ A (load s.heap.objs.size>>=_) _ _ _
  refine wpAny_bind (wpAny_load q1 ?_)
  refine wpAny_pure (h acc.toList h3 d (by rw[q3,hvn];exact hm) (by rw[q3];exact w1) (by rw[q3];exact w2) (by rw[q3];exact w3) (by rw[q3];exact w4) (λ b o e=>?_) (Heap.lt_size q1))
  have lt:=Heap.lt_size e
  exact q4 b o (λ z=>Nat.lt_irrefl _ (Nat.lt_of_lt_of_le lt (z▸Nat.le_trans (by rw[sz1];exact Nat.le_succ _) hI))) (Nat.ne_of_lt lt) (oth b o (Nat.ne_of_lt lt) (keep b o (old b o e)))
end
section
variable{prog:Program}{w:World}{A:Around}{E:Qd}{s:Shared}{P:Value->Prop}{S:Addr}{n:Nat}
end
noncomputable def zH(ps:List Addr):Value->Prop:=λ v=>∃p∈ps,v= .ref p
section
variable{X:Cx}
end
section
variable{prog:Program}{w:World}{A:Around}{E:Qd}{s:Shared}{P:Value->Prop}{S:Addr}{n:Nat}{kk:Value->List bP}{hsh:List bP->Int}{LL:List (List bP)}
theorem Xk(hS:eU w s.heap S P kk hsh LL n)(hn:n<=1000)(hh:A.handled=none)(hW:∀v,P v->W3 s.heap v){Q:Qd}
  (h:∀L (us:List Value) e h' d,s.heap.objs.size<=L->us.length<=n->(∀v∈us,P v)->(us.map kk).Nodup->(∀k∈LL,k∈us.map kk)->xP (qS s.heap) us->(∀b o,s.heap.get? b=some o->h'.get? b=some o)->h'.get? L=some {cls:=.type "list",data:=.seq us.toArray e}->Q (.ref L) {s with heap:=h',drawn:=d}):
  wpAny (model prog w) A (call (.builtin "sorted") [.ref S]) Q E s:=by
 refine Calls.call_function_entry kind_sorted plain_sorted entry_sorted (args_sorted1 _) ?_
 unfold Builtin.«sorted»
 refine wpAny_bind (m:=checkCount "sorted" 1 1 _) (wpAny_pure ?_)
 refine wpAny_bind (SC (A:=A.in1) hS hn hh λ vs h1 d hlen hP w2 w3 w4 keep big=>?_)
 have line:(1000:Nat)<=sizeLine:=by decide+kernel
 refine wpAny_bind (wpAny_newList ?_ Qa)
 have hoL:(h1.push (seqObj "list" vs.toArray 0)).get? h1.objs.size=some (seqObj "list" vs.toArray 0):=Heap.get?_push_size _ rfl
 have old:∀b o,s.heap.get? b=some o->(h1.push (seqObj "list" vs.toArray 0)).get? b=some o:=λ b o e=>Heap.get?_push_of_some _ (keep b o e)
 show wpAny _ _ _ _ _ {s with heap:=h1.push (seqObj "list" vs.toArray 0),drawn:=d}
 refine wpAny_bind (wpAny_holding (wpAny_call_entry slot_list_sort ⟨_,hoL,rfl⟩ entry_list_sort (LC (s:={s with heap:=h1.push (seqObj "list" vs.toArray 0),drawn:=d}) (O:=qS s.heap) hoL (λ h2=>Xm (λ v hv=>?_) Qa) Qa λ out perm ris=>⟨_,rfl,?_⟩) (args_list_sort _)))
 ·refine⟨(hW v (hP v hv)).stayK λ b o _ e=>old b o e,λ z=>?_⟩
  obtain⟨b,o,_,_,_,_,_,_,_,hv',ho,_⟩:=hW v (hP v hv)
  rw[hv']at z
  injection z with z
  exact Nat.lt_irrefl _ (Nat.lt_of_lt_of_le (Heap.lt_size ho) (z▸Nat.le_of_lt big))
 ·obtain⟨e,he⟩:=sortedHeap_at (out:=out) hoL
  refine wpAny_pure ⟨_,rfl,h h1.objs.size out.toList e _ d (Nat.le_of_lt big) ?_ (λ v hv=>hP v (perm.mem_iff.mp hv)) ((perm.map kk).nodup_iff.mpr w2) (λ k hk=>(perm.map kk).mem_iff.mpr (w4 k hk)) ris (λ b o q=>?_) (by rw[Array.toArray_toList];exact he)⟩
  ·rw[perm.length_eq];exact hlen
  ·have lt:=Heap.lt_size (keep b o q)
   show(sortedHeap _ _ _ _).get? b=some o
   rw[sortedHeap_old (Nat.ne_of_lt lt) (by rw[size_push'];exact Nat.lt_succ_of_lt lt)]
   exact old b o q
end
noncomputable def gA(w:Wt):List bP:=[.inr w.cd,.inl w.ln,.inr w.ot]
noncomputable def lG(w:Wt):List Int:=gB w.cd.cps.toList w.ln w.ot.cps.toList
noncomputable def pS(a b:Wt):Prop:=lG a<lG b
theorem Sb{a b:Wt}(h:gA a=gA b):a=b:=by
 cases a
 cases b
 unfold gA at h
 simp only[List.cons.injEq,Sum.inr.injEq,Sum.inl.injEq,and_true]at h
 obtain⟨rfl,rfl,rfl⟩:=h
 rfl
theorem Sg{x x' y y':List Nat}{i i':Int}(h:gB x i y=gB x' i' y'):x=x'/\i=i'/\y=y':=by
 have e1:x=x':=by
  refine Classical.byContradiction λ z=>?_
  have h1:=not_congr (uA (i:=i) (i':=i') (y:=y) (y':=y') z)
  have h2:=not_congr (uA (i:=i') (i':=i) (y:=y') (y':=y) (Ne.symm z))
  rw[h]at h1 h2
  exact z (List.le_antisymm (List.not_lt.mp (h2.mp (List.lt_irrefl _))) (List.not_lt.mp (h1.mp (List.lt_irrefl _))))
 subst e1
 have e2:i=i':=by
  refine Classical.byContradiction λ z=>?_
  have h1:=not_congr (tZ (x:=x) (y:=y) (y':=y') z)
  have h2:=not_congr (tZ (x:=x) (y:=y') (y':=y) (Ne.symm z))
  rw[h]at h1 h2
  have g1:=h1.mp (List.lt_irrefl _)
  have g2:=h2.mp (List.lt_irrefl _)
  omega
 subst e2
 refine⟨rfl,rfl,?_⟩
 have h1:=not_congr (wKey_lt3 (x:=x) (i:=i) (y:=y) (y':=y'))
 have h2:=not_congr (wKey_lt3 (x:=x) (i:=i) (y:=y') (y':=y))
 rw[h]at h1 h2
 exact List.le_antisymm (List.not_lt.mp (h2.mp (List.lt_irrefl _))) (List.not_lt.mp (h1.mp (List.lt_irrefl _)))
theorem Ef{a b:Wt}(h:lG a=lG b):a=b:=by
 obtain⟨h1,h2,h3⟩:=Sg h
 have e1:a.cd=b.cd:=by
  have:a.cd.cps=b.cd.cps:=Array.toList_inj.mp h1
  cases ha:a.cd
  cases hb:b.cd
  rw[ha,hb]at this
  cases this
  rfl
 have e3:a.ot=b.ot:=by
  have:a.ot.cps=b.ot.cps:=Array.toList_inj.mp h3
  cases ha:a.ot
  cases hb:b.ot
  rw[ha,hb]at this
  cases this
  rfl
 cases a
 cases b
 simp only at h2 e1 e3
 subst h2 e1 e3
 rfl
noncomputable def Ax:Option Obj->List bP
 | some o=>match o.data with
  |.seq its _=>match(its[0]?:Option Value),(its[1]?:Option Value),(its[2]?:Option Value)with
   |some (.str x _),some (.int i _),some (.str y _)=>[.inr x,.inl i,.inr y]
   |_,_,_=>[]
  |_=>[]
 |none=>[]
noncomputable def rV(h:Heap):Value->List bP
 |.ref a=>Ax (h.get? a)
 |_=>[]
noncomputable def mO(P:Program)(w:World)(a:Addr)(pl:List (Addr×Wt)):HO:=.ext λ h=>∃kk:Value->List bP,(∀q∈pl,kk (.ref q.1)=gA q.2)/\eU w h a (zH (pl.map (·.1))) kk (tupleKeyHash (gK P w)) ((pl.map λ q=>gA q.2).reverse) pl.length
theorem AF{P:Program}{w:World}{H:Hp}{h:Heap}{a:Addr}{pl:List (Addr×Wt)}(x:∃kk:Value->List bP,(∀q∈pl,kk (.ref q.1)=gA q.2)/\eU w h a (zH (pl.map (·.1))) kk (tupleKeyHash (gK P w)) ((pl.map λ q=>gA q.2).reverse) pl.length):dN P w H h a (mO P w a pl):=by
 refine⟨x,?_,λ h1 h2 y k=>?_⟩
 ·obtain⟨_,_,o,_,_,_,e,_⟩:=x
  exact⟨o,e⟩
 ·obtain⟨kk,a1,a2⟩:=y
  exact⟨kk,a1,a2.stay k⟩
theorem Ee{ex:List Addr}{H:Hp}:∀{ws:List Wt} {vs:List V},dY ex H (ws.map Wt.d) vs->∃pl:List (Addr×Wt),pl.map (·.2)=ws/\vs=pl.map (λ q=>V.ref q.1)/\∀q∈pl,dO ex H q.2.d (.ref q.1)
 |[],vs,h=>by
  obtain rfl:vs=[]:=List.length_eq_zero_iff.mp h.length
  exact⟨[],rfl,rfl,λ _ z=>nomatch z⟩
 |w::ws,vs,h=>by
  obtain⟨v,vs',rfl,h1,h2⟩:=h
  obtain⟨pl,e1,rfl,hq⟩:=Ee h2
  obtain⟨a,rfl,_⟩:=Wt.view h1
  refine⟨(a,w)::pl,by rw[List.map_cons,e1],rfl,λ q z=>?_⟩
  rcases List.mem_cons.mp z with e|z
  ·rw[e];exact h1
  ·exact hq q z
theorem Hr{ex:List Addr}{H:Hp}:∀{pl:List (Addr×Wt)},(∀q∈pl,dO ex H q.2.d (.ref q.1))->dY ex H ((pl.map (·.2)).map Wt.d) (pl.map λ q=>V.ref q.1)
 |[],_=>rfl
 |q::pl,h=>⟨_,_,rfl,h q List.mem_cons_self,Hr λ x z=>h x (List.mem_cons_of_mem _ z)⟩
section
variable{X:Cx}
theorem aE.w3k{pins:List (Addr×Obj)}{σ:St}{H:Hp}{s:Shared}{ex:List Addr}(I:aE X pins σ H s){w:Wt}{p:Addr}(h:dO ex H w.d (.ref p)):W3 s.heap (.ref p)/\fD s.heap (.ref p)=lG w/\rV s.heap (.ref p)=gA w/\lB X.prog X.w s.heap (.ref p) (gA w):=by
 obtain⟨a,e,q⟩:=Wt.view h
 injection e with e
 subst e
 obtain⟨_,its,r,⟨o,ho,hc,n,hd⟩,_⟩:=(I.hok p _ q:dN X.prog X.w H s.heap p (.tup _))
 cases r with
 | cons r1 r=>cases r with
  | cons r2 r=>cases r with
   | cons r3 r=>cases r with
    | nil=>
     obtain⟨t,rfl⟩:=r1
     obtain⟨u,rfl⟩:=r2
     obtain⟨k,rfl⟩:=r3
     refine⟨⟨p,o,n,_,t,_,u,_,k,rfl,ho,hc,hd⟩,?_,?_,p,rfl,o,_,n,ho,hc,hd,.cons (vT ..) (.cons (Ih ..) (.cons (vT ..) .nil))⟩
     ·show lW (s.heap.get? p)=_
      rw[ho,Az hd]
      rfl
     ·show Ax (s.heap.get? p)=_
      rw[ho]
      unfold Ax
      dsimp only
      rw[hd]
      rfl
theorem Gq:∀{pl:List (Addr×Wt)} {us:List Value},aW (pl.map λ q=>V.ref q.1) us->us=pl.map λ q=>Value.ref q.1
 |[],us,r=>by cases r;rfl
 | q::pl,us,r=>by
  cases r with
  |cons r1 r2=>
   rw[Gq r2]
   cases r1
   rfl
end
end L2
namespace L2
open PySem PySem.Spec PyProof.Rows
theorem MW{c:Nat}(h:inL ⟨#[c]⟩=true):c<1114112:=by
 unfold inL at h
 rw[PySem.StrLaws.found_one]at h
 have h1:c∈az.cps.toList:=of_decide_eq_true h
 have h2:∀x∈az.cps.toList,x<1114112:=by decide+kernel
 exact h2 c h1
theorem Ag{x:Str}(h:nm x=true):PySem.PyData.strOk x=true/\x.length<=8:=by
 unfold nm at h
 split at h
 ·cases h
 ·rw[Bool.and_eq_true,Bool.and_eq_true,decide_eq_true_eq,decide_eq_true_eq]at h
  refine⟨?_,Qa⟩
  unfold PySem.PyData.strOk
  rw[Array.all_eq_true']
  intro c hc
  have:=List.all_eq_true.mp h.2.2 ⟨#[c]⟩ (List.mem_map.mpr ⟨c,Array.mem_toList_iff.mpr hc,rfl⟩)
  exact decide_eq_true (MW this)
noncomputable def Sh(n:Nat)(d:PyData):Prop:=d.canLay0=true/\d.depth<=n
theorem yZ{n:Nat}:∀{ds:List PyData},(∀d∈ds,Sh n d)->PyData.canLayAll0 ds=true/\PyData.depthAll ds<=n
 |[],_=>⟨rfl,Nat.zero_le _⟩
 | d::ds,h=>by
  obtain⟨a,b⟩:=h d List.mem_cons_self
  obtain⟨c,e⟩:=yZ λ x hx=>h x (List.mem_cons_of_mem _ hx)
  refine⟨?_,?_⟩
  ·show(d.canLay0&&PyData.canLayAll0 ds)=true
   rw[a,c]
   rfl
  ·show max d.depth (PyData.depthAll ds)<=n
   omega
theorem Sh.tup{n:Nat}{ds:List PyData}(h:∀d∈ds,Sh n d):Sh (n+1) (.tuple ds):=by
 obtain⟨a,b⟩:=yZ h
 exact⟨a,by show PyData.depthAll ds+1<=n+1;omega⟩
theorem Sh.lst{n:Nat}{ds:List PyData}(h:∀d∈ds,Sh n d):Sh (n+1) (.list ds):=by
 obtain⟨a,b⟩:=yZ h
 exact⟨a,by show PyData.depthAll ds+1<=n+1;omega⟩
theorem Sh.shaped{n:Nat}{d:PyData}(h:Sh n d)(k:n<=64:=by decide):SeqAt.shaped d=true:=by
 unfold SeqAt.shaped
 rw[h.1,decide_eq_true (Nat.le_trans h.2 k)]
 rfl
theorem Fy(i:Int):Sh 0 (.int i):=⟨rfl,Nat.le_refl _⟩
theorem Xy(b:Bool):Sh 0 (.bool b):=⟨rfl,Nat.le_refl _⟩
theorem Fx{x:Str}(h:nm x=true):Sh 0 (.str x):=⟨(Ag h).1,Nat.le_refl _⟩
structure cY(p:Pl):Prop where
 l1:1<=p.ls.length
 l6:p.ls.length<=6
 k1:1<=p.ks.length
 k6:p.ks.length<=6
 ln:∀l∈p.ls,nm l.1=true/\1<=l.2/\l.2<=99
 lnd:(p.ls.map (·.1)).Nodup
 kn:∀k∈p.ks,nm k.nm=true/\1<=k.way.length/\k.way.length<=p.ls.length/\k.way.Pairwise (· < ·)/\(∀i∈k.way,0<=i/\i<p.n)/\k.bds.length=k.way.length/\∀b∈k.bds,1<=b/\b<=99
 knd:(p.ks.map (·.nm)).Nodup
theorem Hz{x:Str}(h:nm x=true):x.length<=1000:=Nat.le_trans (Ag h).2 Qc
end L2
namespace L2
open PySem PySem.Spec PyProof.Rows PySem.W
structure SdG(p:Pl)(s:Sd):Prop where
 nb:s.bs.length=p.ls.length
 bd:∀b∈s.bs,1<=b/\b<=99
 nc:s.cs.length<=30
 c:∀c∈s.cs,tQ p c
 cn:∀c∈s.cs,nm c.nm=true
 nd:(s.cs.map (·.nm)).Nodup
 srt:sortedS (s.cs.map (·.nm))=true
 bk:∀c∈s.cs,c.bk=true->∀k,p.kd? c.kd=some k->c.pl<=k.way.length
 nw:s.ws.length<=60
 w:∀w∈s.ws,(∃c∈s.cs,c.nm=w.cd)/\(∃c∈s.cs,c.nm=w.ot)/\0<=w.ln/\w.ln<=p.n
theorem kR{α:Type}{f:α->Str}{a:α}:∀{l:List α},(l.map f).Nodup->a∈l->l.find? (λ b=>f b==f a)=some a
 |[],_,h=>nomatch h
 | b::l,hn,h=>by
  rw[List.map_cons,List.nodup_cons]at hn
  rcases List.mem_cons.mp h with rfl|h
  ·exact List.find?_cons_of_pos Qb
  ·rw[List.find?_cons_of_neg]
   ·exact kR hn.2 h
   ·intro e
    have e:f b=f a:=by simpa using e
    exact hn.1 (by rw[e];exact List.mem_map_of_mem h)
theorem LN{p:Pl}(G:cY p){x:Str}{k:Kd}{j:Int}(hk:p.kd? x=some k)(h0:0<=j):p.at x j<=p.n:=by
 have l1:=G.l1
 rcases(show j=0\/(1<=j/\j<=k.way.length)\/(k.way.length:Int)<j from Qa)with rfl|⟨q1,q2⟩|q1
 ·rw[sU]
  unfold Pl.n
  omega
 ·obtain⟨wv,hw,ew⟩:=xM hk q1 q2
  rw[ew]
  have:=((G.kn k (iI hk).1).2.2.2.2.1 wv (List.mem_of_getElem? hw)).2
  omega
 ·rw[sV hk q1]
  exact Int.le_refl _
noncomputable def jM(p:Pl)(s:Sd)(l:Int)(k:Kd):Str:=
 if 0<=l/\l<p.n then(if s.bs.getD l.toNat 0<=((s.inL p l).length:Int)then "Full" else if p.kb k.nm l<=(s.many p l k.nm:Int)then "KindFull" else "")else ""
noncomputable def Sd.hold(s:Sd)(p:Pl)(w:Wt):Bool:=match s.cd? w.cd with
 |some c=>decide (p.lane c<w.ln)||s.out p w.ot
 |none=>false
structure mP(p:Pl)(s:Sd):Prop extends SdG p s where
 rise:s.ws.Pairwise pS
 hold:∀w∈s.ws,s.hold p w=true
 room:∀l:Int,0<=l->l<p.n->((s.inL p l).length:Int)<=s.bs.getD l.toNat 0
 kroom:∀(l:Int) (k:Kd),0<=l->l<p.n->k∈p.ks->l∈k.way->(s.many p l k.nm:Int)<=p.kb k.nm l
theorem MV(p:Pl)(bs:List Int)(cs:List Cd)(ws:List Wt)(c:Cd)(l:Int):(Sd.inL ⟨bs,cs++[c],ws⟩ p l).length=(Sd.inL ⟨bs,cs,ws⟩ p l).length+if p.lane c=l then 1 else 0:=by
 unfold Sd.inL
 simp only[List.filter_append,List.map_append,List.length_append,List.length_map,List.filter_cons,List.filter_nil]
 by_cases h:p.lane c=l<;>simp[h]
theorem KO(p:Pl)(bs:List Int)(cs:List Cd)(ws:List Wt)(c:Cd)(l:Int)(k:Str):Sd.many ⟨bs,cs++[c],ws⟩ p l k=Sd.many ⟨bs,cs,ws⟩ p l k+if c.kd=k/\p.at k c.pl=l then 1 else 0:=by
 unfold Sd.many
 simp only[List.filter_append,List.length_append,List.filter_cons,List.filter_nil]
 by_cases h:c.kd=k/\p.at k c.pl=l
 ·simp[h.1,h.2]
 ·rw[if_neg h]
  have:(c.kd==k&&p.at k c.pl==l)=false:=by
   rw[Bool.eq_false_iff]
   intro z
   rw[Bool.and_eq_true]at z
   exact h ⟨eq_of_beq z.1,eq_of_beq z.2⟩
  simp[this]
noncomputable def pV(p:Pl)(s:Sd):Prop:=(∀l:Int,0<=l->l<p.n->((s.inL p l).length:Int)<=s.bs.getD l.toNat 0)/\∀(l:Int) (k:Kd),0<=l->l<p.n->k∈p.ks->l∈k.way->(s.many p l k.nm:Int)<=p.kb k.nm l
theorem pV.snoc{p:Pl}{bs:List Int}{cs:List Cd}{ws:List Wt}{c:Cd}{kd:Kd}(G:cY p)(h:pV p ⟨bs,cs,ws⟩)(hkf:p.kd? c.kd=some kd)(hr:∀l:Int,0<=l->l<p.n->p.lane c=l->jM p ⟨bs,cs,ws⟩ l kd= ""):pV p ⟨bs,cs++[c],ws⟩:=by
 have strict:∀l:Int,0<=l->l<p.n->p.lane c=l->((Sd.inL ⟨bs,cs,ws⟩ p l).length:Int)<bs.getD l.toNat 0/\(Sd.many ⟨bs,cs,ws⟩ p l kd.nm:Int)<p.kb kd.nm l:=λ l l0 l1 e=>by
  have:=hr l l0 l1 e
  unfold jM at this
  rw[if_pos ⟨l0,l1⟩]at this
  split at this
  ·exact absurd this Qc
  ·split at this
   ·exact absurd this Qc
   ·rename_i a b
    exact⟨Int.not_le.mp a,Int.not_le.mp b⟩
 refine⟨λ l l0 l1=>?_,λ l k l0 l1 hk hw=>?_⟩
 ·rw[MV]
  by_cases e:p.lane c=l
  ·have:=(strict l l0 l1 e).1
   rw[if_pos e]
   show _<=bs.getD l.toNat 0
   omega
  ·rw[if_neg e]
   exact h.1 l l0 l1
 ·rw[KO]
  by_cases e:c.kd=k.nm/\p.at k.nm c.pl=l
  ·have hkk:p.kd? k.nm=some k:=by unfold Pl.kd?;exact kR G.knd hk
   rw[e.1,hkk]at hkf
   obtain rfl:=Option.some.inj hkf
   have:=(strict l l0 l1 (by unfold Pl.lane;rw[e.1];exact e.2)).2
   rw[if_pos e]
   omega
  ·rw[if_neg e]
   exact h.2 l k l0 l1 hk hw
theorem Gh{p:Pl}{bs:List Int}(G:cY p)(hl:bs.length=p.ls.length)(hb:∀b∈bs,1<=b/\b<=99):pV p ⟨bs,[],[]⟩:=by
 refine⟨λ l l0 l1=>?_,λ l k l0 l1 hk hw=>?_⟩
 ·show(0:Int)<=bs.getD l.toNat 0
  have hlt:l.toNat<bs.length:=by unfold Pl.n at l1;omega
  rw[List.getD_eq_getElem?_getD,List.getElem?_eq_getElem hlt]
  have:=hb _ (List.getElem_mem hlt)
  show 0<=bs[l.toNat]
  omega
 ·show(0:Int)<=p.kb k.nm l
  unfold Pl.kb
  have hkk:p.kd? k.nm=some k:=by unfold Pl.kd?;exact kR G.knd hk
  rw[hkk]
  show 0<=k.bds.getD _ 0
  rw[List.getD_eq_getElem?_getD]
  cases e:k.bds[k.way.findIdx (· ==l)]? with
  |none=>exact Int.le_refl _
  |some b=>
   have:=(G.kn k hk).2.2.2.2.2.2 b (List.mem_of_getElem? e)
   show 0<=b
   omega
section
variable{prog:Program}{w:World}{A:Around}{E:Qd}{s:Shared}
end
section
variable{prog:Program}{w:World}{A:Around}{E:Qd}{s:Shared}
end
section
variable{X:Cx}
end
end L2
namespace L2
open PySem PySem.Spec PyProof.Rows PySem.W PySem.SetTable
section
variable{prog:Program}{w:World}{A:Around}{E:Qd}{s:Shared}
end
section
variable{X:Cx}
end
end L2
namespace L2
open PySem PySem.Spec PyProof.Rows
noncomputable def nZ(a b:Cd):Prop:=¬b.nm.cps.toList<a.nm.cps.toList
theorem uT{x y:Str}(h:x.cps.toList=y.cps.toList):x=y:=by
 have:x.cps=y.cps:=Array.toList_inj.mp h
 cases x
 cases y
 cases this
 rfl
theorem nZ.trans{a b c:Cd}(h1:nZ a b)(h2:nZ b c):nZ a c:=λ z=>by
 have h3:b.nm.cps.toList<=c.nm.cps.toList:=List.not_lt.mp h2
 exact h1 (List.lt_of_le_of_lt h3 z)
theorem Gi:∀(p:Cd) (r:List Cd),risingS p.nm (r.map (·.nm))=true->(p::r).Pairwise nZ
 |p,[],_=>.cons (λ _ z=>nomatch z) .nil
 |p,x::r,h=>by
  have h':(!ltCps x.nm.cps.toList p.nm.cps.toList&&risingS x.nm (r.map (·.nm)))=true:=h
  rw[Bool.and_eq_true,ltCps_eq,Bool.not_eq_true',decide_eq_false_iff_not]at h'
  have ih:=Gi x r h'.2
  refine .cons (λ y hy=>?_) ih
  rcases List.mem_cons.mp hy with e|hy
  ·rw[e];exact h'.1
  ·exact nZ.trans h'.1 ((List.pairwise_cons.mp ih).1 y hy)
theorem Fj:∀{cs:List Cd},sortedS (cs.map (·.nm))=true->cs.Pairwise nZ
 |[],_=>.nil
 |p::r,h=>Gi p r h
end L2
namespace L2
open PySem PySem.Spec PyProof.Rows PySem.W PySem.SetTable
section
variable{X:Cx}
end
section
variable{X:Cx}
end
section
variable{X:Cx}
noncomputable def BH(X:Cx):List V->Hp->VK->Prop:=λ vs H Q=>∃(ws:List Wt) (x:V),vs=[x]/\dO [] H (.list (ws.map Wt.d)) x/\ws.length<200/\
 ∀(p:Addr) (pl:List (Addr×Wt)),H p=none->pl.map (·.2)=ws->(∀q∈pl,dO [] H q.2.d (.ref q.1))->Q (.ref p) (aM H p (mO X.prog X.w p pl))
theorem SW(hc:X.calm=true)(hu:X.A.units+64<cLine):eW X (.type "set") (BH X):=by
 intro pins s σ H vs us Q I rv h
 obtain⟨ws,x,rfl,hx,hlen,q⟩:=h
 obtain⟨u,rfl,ru⟩:=rv.one
 obtain⟨a,vs,rfl,hax,ha,hds⟩:=hx
 obtain rfl:u= .ref a:=ru
 obtain⟨pl,rfl,rfl,hps⟩:=Ee hds
 obtain⟨its,r,pls,hl⟩:=I.list (bA.of ha)
 obtain rfl:=Gq r
 rw[List.length_map]at hlen
 have him:∀(i:Nat) v,(pl.map λ q=>Value.ref q.1).toArray[i]? =some v->zH (pl.map (·.1)) v:=λ i v hv=>by
  rw[List.getElem?_toArray,List.getElem?_map]at hv
  obtain⟨q,hq,rfl⟩:=Option.map_eq_some_iff.mp hv
  exact⟨q.1,List.mem_map.mpr ⟨q,List.mem_of_getElem? hq,rfl⟩,rfl⟩
 have hkk:∀q∈pl,rV s.heap (.ref q.1)=gA q.2:=λ q hq=>(I.w3k (hps q hq)).2.2.1
 refine SX (kk:=rV s.heap) (hsh:=tupleKeyHash (gK X.prog X.w)) (I.ok.hd hc) pls.isList him (λ v hv=>?_) rfl (by simp;omega) hu λ h' tk hS keep=>?_
 ·obtain⟨p,hp,rfl⟩:=hv
  obtain⟨q,hq,rfl⟩:=List.mem_map.mp hp
  obtain⟨w1,_,w2,w3⟩:=I.w3k (hps q hq)
  exact⟨w1,by rw[w2];exact w3⟩
 ·have hsz:(pl.map λ q=>Value.ref q.1).toArray.size=pl.length:=by simp
  have hL:((pl.map λ q=>Value.ref q.1).toArray.toList.map (rV s.heap)).reverse=(pl.map λ q=>gA q.2).reverse:=by
   rw[List.toList_toArray,List.map_map]
   congr 1
   exact List.map_congr_left λ q hq=>hkk q hq
  rw[hsz,hL]at hS
  have hnone:H s.heap.objs.size=none:=I.hok.fresh (Nat.le_refl _)
  refine⟨.ref s.heap.objs.size,_,I.laid (t':=tk) (o:=mO X.prog X.w s.heap.objs.size pl) keep (Nat.le_refl _) (AF ⟨rV s.heap,hkk,hS⟩),rfl,q _ pl hnone rfl hps⟩
noncomputable def AZ(X:Cx):List V->Hp->VK->Prop:=λ vs H Q=>∃(p:Addr) (pl:List (Addr×Wt)),vs=[.ref p]/\H p=some (mO X.prog X.w p pl)/\pl.length<200/\(∀q∈pl,dO [] H q.2.d (.ref q.1))/\
 ∀(ws':List Wt) p xs,ws'.length<=pl.length->ws'.Pairwise pS->(∀w,w∈ws'↔w∈pl.map (·.2))->H p=none->dY [] H (ws'.map Wt.d) xs->Q (.ref p) (aM H p (.lst xs))
theorem SU(hc:X.calm=true):eW X (.builtin "sorted") (AZ X):=by
 intro pins s σ H vs us Q I rv h
 obtain⟨p,pl,rfl,hp,hlen,hps,q⟩:=h
 obtain⟨u,rfl,ru⟩:=rv.one
 obtain rfl:u= .ref p:=ru
 obtain⟨kk,hkk,hS⟩:=(I.hok p _ hp:dN X.prog X.w H s.heap p (mO X.prog X.w p pl)).1
 refine Xk hS Qa (I.ok.hd hc) (λ v hv=>?_) λ L us e h' d hL hus hP hnd hall ris keep hg=>?_
 ·obtain⟨b,hb,rfl⟩:=hv
  obtain⟨q,hq,rfl⟩:=List.mem_map.mp hb
  exact(I.w3k (hps q hq)).1
 ·have hnone:H L=none:=I.hok.fresh hL
  have:∃zs:List (Addr×Wt),us=zs.map (λ q=>Value.ref q.1)/\(∀z∈zs,z∈pl):=by
   clear hus hg hnd hall ris
   induction us with
   |nil=>exact⟨[],rfl,λ _ z=>nomatch z⟩
   |cons u us ih=>
    obtain⟨zs,rfl,hz⟩:=ih λ v hv=>hP v (List.mem_cons_of_mem _ hv)
    obtain⟨b,hb,rfl⟩:=hP u List.mem_cons_self
    obtain⟨q,hq,rfl⟩:=List.mem_map.mp hb
    refine⟨q::zs,rfl,λ y hy=>?_⟩
    rcases List.mem_cons.mp hy with rfl|hy
    ·exact hq
    ·exact hz y hy
  obtain⟨zs,rfl,hz⟩:=this
  rw[List.length_map]at hus
  have rel:∀l:List (Addr×Wt),aW (l.map λ q=>V.ref q.1) (l.map λ q=>Value.ref q.1):=λ l=>by
   induction l with
   |nil=>exact .nil
   |cons y l ih=>exact .cons rfl ih
  have line:zs.length<=sizeLine:=Nat.le_trans Qa Fu
  have I2:aE X pins σ (aM H L (.lst (zs.map λ q=>V.ref q.1))) {s with heap:=h',drawn:=d}:=
   I.call (g':=s.gens) (t':=s.toks) (d':=d) (ch:=[]) (Un.laid keep hL hnone) (I.hok.laid keep hL ⟨by rw[List.length_map];exact line,zs.map λ q=>Value.ref q.1,e,rel zs,hg⟩) ⟨I.bare.1,Nat.le_refl _⟩ (λ _ z=>nomatch z)
  have ek:(zs.map λ q=>Value.ref q.1).map kk=zs.map λ q=>gA q.2:=by
   rw[List.map_map]
   exact List.map_congr_left λ q hq=>hkk q (hz q hq)
  rw[ek]at hnd hall
  refine⟨.ref L,_,I2,rfl,q (zs.map (·.2)) L _ (by rw[List.length_map];exact hus) ?_ (λ w=>⟨λ hw=>?_,λ hw=>?_⟩) hnone (Hr λ q hq=>hps q (hz q hq))⟩
  ·have ris:(zs.map λ q=>Value.ref q.1).Pairwise λ x y=>(qS s.heap).le (x,x) (y,y):=ris
   rw[List.pairwise_map]at ris⊢
   have nd2:zs.Pairwise λ a b=>gA a.2≠gA b.2:=by
    unfold List.Nodup at hnd
    rw[List.pairwise_map]at hnd
    exact hnd
   refine List.Pairwise.imp_of_mem (fun{a b} ma mb h=>?_) (ris.and nd2)
   obtain⟨le,ne⟩:=h
   have le:decide (fD s.heap (.ref b.1)<fD s.heap (.ref a.1))=false:=le
   rw[(I.w3k (hps a (hz a ma))).2.1,(I.w3k (hps b (hz b mb))).2.1]at le
   have le:=of_decide_eq_false le
   refine Classical.byContradiction λ z=>ne ?_
   rw[Ef (List.le_antisymm (List.not_lt.mp le) (List.not_lt.mp z))]
  ·obtain⟨q,hq,rfl⟩:=List.mem_map.mp hw
   exact List.mem_map.mpr ⟨q,hz q hq,rfl⟩
  ·obtain⟨q,hq,rfl⟩:=List.mem_map.mp hw
   have:=hall (gA q.2) (List.mem_reverse.mpr (List.mem_map.mpr ⟨q,hq,rfl⟩))
   obtain⟨q',hq',e⟩:=List.mem_map.mp this
   exact List.mem_map.mpr ⟨q',hq',Sb e⟩
end
end L2
namespace L2
open PySem PySem.Spec PyProof.Rows
section
variable{α:Type}(lt:α->α->Bool)
noncomputable def lY(x:α):List α->List α
 |[]=>[x]
 | y::r=>match lt x y with
  |true=>x::y::r
  |false=>match lt y x with
   |true=>y::lY x r
   |false=>y::r
noncomputable def dW(l:List α):List α:=l.foldr (lY lt) []
structure nY:Prop where
 irr:∀x,lt x x=false
 tr:∀x y z,lt x y=true->lt y z=true->lt x z=true
 tri:∀x y,lt x y=false->lt y x=false->x=y
variable{lt}
theorem Bc(O:nY lt){x:α}:∀{l:List α} {y:α},y∈lY lt x l↔y=x\/y∈l
 |[],y=>by simp[lY]
 | z::r,y=>by
  rw[lY]
  cases e:lt x z with
  |true=>simp
  | false=>
   cases e2:lt z x with
   |true=>
    rw[List.mem_cons,Bc O,List.mem_cons]
    exact⟨λ h=>by rcases h with h|h|h<;>simp[h],λ h=>by rcases h with h|h|h<;>simp[h]⟩
   |false=>
    have:=O.tri x z e e2
    subst this
    simp
theorem Ku(O:nY lt){x:α}:∀{l:List α},l.Pairwise (λ a b=>lt a b=true)->(lY lt x l).Pairwise (λ a b=>lt a b=true)
 |[],_=>.cons (λ _ z=>nomatch z) .nil
 | z::r,h=>by
  have h':=List.pairwise_cons.mp h
  rw[lY]
  cases e:lt x z with
  |true=>
   refine .cons (λ y hy=>?_) h
   rcases List.mem_cons.mp hy with rfl|hy
   ·exact e
   ·exact O.tr _ _ _ e (h'.1 y hy)
  | false=>
   cases e2:lt z x with
   |true=>
    refine .cons (λ y hy=>?_) (Ku O h'.2)
    rcases(Bc O).mp hy with rfl|hy
    ·exact e2
    ·exact h'.1 y hy
   |false=>exact h
theorem oQ(O:nY lt):∀l:List α,(dW lt l).Pairwise (λ a b=>lt a b=true)
 |[]=>.nil
 |x::l=>Ku O (oQ O l)
theorem nA(O:nY lt){y:α}:∀{l:List α},y∈dW lt l↔y∈l
 |[]=>by simp[dW]
 |x::l=>by
  show y∈lY lt x (dW lt l)↔_
  rw[Bc O,nA O,List.mem_cons]
theorem zP(O:nY lt):∀{a b:List α},a.Pairwise (λ x y=>lt x y=true)->b.Pairwise (λ x y=>lt x y=true)->(∀w,w∈a↔w∈b)->a=b
 |[],[],_,_,_=>rfl
 |[],y::b,_,_,h=>absurd ((h y).mpr List.mem_cons_self) Qb
 |x::a,[],_,_,h=>absurd ((h x).mp List.mem_cons_self) Qb
 | x::a,y::b,ha,hb,h=>by
  have ha':=List.pairwise_cons.mp ha
  have hb':=List.pairwise_cons.mp hb
  have no:∀z,lt z z=true->False:=λ z h=>by rw[O.irr]at h;cases h
  have e:x=y:=by
   rcases List.mem_cons.mp ((h x).mp List.mem_cons_self)with e|h1
   ·exact e
   ·rcases List.mem_cons.mp ((h y).mpr List.mem_cons_self)with e|h2
    ·exact e.symm
    ·exact(no x (O.tr _ _ _ (ha'.1 y h2) (hb'.1 x h1))).elim
  subst e
  refine congrArg (x:: ·) (zP O ha'.2 hb'.2 λ w=>⟨λ hw=>?_,λ hw=>?_⟩)
  ·rcases List.mem_cons.mp ((h w).mp (List.mem_cons_of_mem _ hw))with e|h1
   ·exact(no w (by have:=ha'.1 w hw;rw[<-e]at this;exact this)).elim
   ·exact h1
  ·rcases List.mem_cons.mp ((h w).mpr (List.mem_cons_of_mem _ hw))with e|h1
   ·exact(no w (by have:=hb'.1 w hw;rw[<-e]at this;exact this)).elim
   ·exact h1
end
noncomputable def eA(a b:Str):Bool:=decide (a.cps.toList<b.cps.toList)
noncomputable def lS(a b:Wt):Bool:=decide (lG a<lG b)
theorem LD{α:Type}{a b:List Nat}(h1:decide (a<b)=false)(h2:decide (b<a)=false):a=b:=
 List.le_antisymm (List.not_lt.mp (of_decide_eq_false h2)) (List.not_lt.mp (of_decide_eq_false h1))
theorem ordS:nY eA:=⟨λ x=>decide_eq_false (List.lt_irrefl _),λ x y z h1 h2=>decide_eq_true (List.lt_trans (of_decide_eq_true h1) (of_decide_eq_true h2)),λ x y h1 h2=>uT (LD (α:=Nat) h1 h2)⟩
theorem oX:nY lS:=⟨λ x=>decide_eq_false (List.lt_irrefl _),λ x y z h1 h2=>decide_eq_true (List.lt_trans (of_decide_eq_true h1) (of_decide_eq_true h2)),λ x y h1 h2=>Ef (List.le_antisymm (List.not_lt.mp (of_decide_eq_false h2)) (List.not_lt.mp (of_decide_eq_false h1)))⟩
noncomputable def bL(c:Cd):D:=.tup [.str c.nm,.str c.kd,.int c.pl,.bl c.bk]
noncomputable def cH(w:Wt):D:=.tup [.str w.cd,.int w.ln,.str w.ot]
noncomputable def mT:D->Option Wt
 |.tup [.str a,.int i,.str b]=>some ⟨a,i,b⟩
 |_=>none
noncomputable def kU{α:Type}(f:D->Option α):List D->Option (List α)
 |[]=>some []
 |d::r=>match f d,kU f r with
  |some x,some xs=>some (x::xs)
  |_,_=>none
theorem Rm{d:D}{c:Wt}(h:mT d=some c):d=cH c:=by
 unfold mT at h
 split at h<;>cases h
 rfl
theorem Pg{α:Type}{f:D->Option α}{g:α->D}(hf:∀d x,f d=some x->d=g x):∀{ds:List D} {xs:List α},kU f ds=some xs->ds=xs.map g
 |[],xs,h=>by cases h;rfl
 | d::ds,xs,h=>by
  simp only[kU]at h
  split at h
  ·rename_i x ys h1 h2
   cases h
   rw[List.map_cons,<-hf d x h1,<-Pg hf h2]
  ·cases h
section
variable{G:Gd}{ρ:Wo}{S:aD}{H:Hp}
theorem SI(c:Cd):gD (bL c)=some c.d:=rfl
theorem Ri(w:Wt):gD (cH w)=some w.d:=rfl
theorem zO{α:Type}{f:α->D}{g:α->PyData}(h:∀x,gD (f x)=some (g x)):∀xs:List α,fK (xs.map f)=some (xs.map g)
 |[]=>rfl
 |x::xs=>by
  rw[List.map_cons,fK,h,zO h xs]
  rfl
theorem Rl(w:Wd G ρ S H){c:Wt}{v:V}(h:dO [] H c.d v):aU G ρ H (cH c) v:=by
 obtain⟨a,vs,rfl,_,h1,h2⟩:=h
 exact⟨a,vs,rfl,w.odd h1 (by intro xs z;cases z) (by intro C dx fs z;cases z),h1,h2⟩
theorem Du(w:Wd G ρ S H):∀{cs:List Wt} {vs:List V},dY [] H (cs.map Wt.d) vs->aN G ρ H (cs.map cH) vs
 |[],_,h=>h
 |c::cs,vs,h=>by
  obtain⟨v,r,rfl,h1,h2⟩:=h
  exact⟨v,r,rfl,Rl w h1,Du w h2⟩
end
noncomputable def yV(x:D)(S:aD):Option (List D):=match x with
 |.tup _=>none
 | x=>match lstD S x with
  | some ds=>match Nat.blt ds.length 64 with
   | true=>match jJ ds with
    |some xs=>match iW xs with
     |true=>some ((dW eA xs).map .str)
     |false=>none
    |none=>none
   |false=>none
  |none=>none
@[simp] noncomputable def oR(ds:List D):EM D:=λ S=>match ds with
 |[x]=>match yV x S with
  |some ys=>.ok (.lst ys) S
  |none=>.bad
 |_=>.bad
noncomputable def uV(x:D):EM D:=λ S=>match(lstD S x).bind (kU mT)with
 |some ws=>match Nat.blt ws.length 200 with
  |true=>.ok (.lst ((dW lS ws).map cH)) S
  |false=>.bad
 |none=>.bad
theorem IM{xs:List Str}(h:iW xs=true):xs.Nodup:=vR h
theorem LH:∀{xs:List Str},sortedS xs=true->xs.Pairwise λ a b=>¬b.cps.toList<a.cps.toList:=fun{xs} h=>by
 have e:xs=(xs.map λ x=>(⟨x,x,0,false⟩:Cd)).map (·.nm):=by rw[List.map_map];exact(List.map_id' xs).symm
 rw[e]at h⊢
 rw[List.pairwise_map]
 exact Fj h
theorem Xe{xs zs:List Str}(nd:xs.Nodup)(p:zs.Perm xs)(h:sortedS zs=true):zs=dW eA xs:=by
 refine zP ordS ?_ (oQ ordS xs) λ w=>by rw[nA ordS];exact p.mem_iff
 have h1:=LH h
 have h2:zs.Nodup:=p.nodup_iff.mpr nd
 refine List.Pairwise.imp_of_mem (fun{a b} ma mb q=>?_) (h1.and h2)
 refine decide_eq_true (Classical.byContradiction λ z=>q.2 (uT ?_))
 exact List.le_antisymm (List.not_lt.mp q.1) (List.not_lt.mp z)
theorem Xc{ws zs:List Wt}(m:∀w,w∈zs↔w∈ws)(h:zs.Pairwise pS):zs=dW lS ws:=
 zP oX (List.Pairwise.imp (λ q=>decide_eq_true q) h) (oQ oX ws) λ w=>by rw[nA oX];exact m w
section
variable{X:Cx}{G:Gd}
theorem aN.ofMap{α:Type}{ρ:Wo}{H:Hp}{f:α->D}{g:α->PyData}(hf:∀x,gD (f x)=some (g x)){xs:List α}{vs:List V}(h:aN G ρ H (xs.map f) vs):dY [] H (xs.map g) vs:=h.py (zO hf xs)
theorem SS:eW X (.builtin "sorted") (rC G oR):=by
 intro pins s σ H xs us Q I r ⟨ρ,S,ds,w,hv,z,S',eq,q⟩
 unfold oR at eq
 split at eq
 ·rename_i x
  obtain⟨v,rfl,h1⟩:=hv.single
  split at eq
  ·rename_i ys e
   cases eq
   have lists:(match lstD S x with
    | some ds=>match Nat.blt ds.length 64 with
     | true=>match jJ ds with
      |some xs=>match iW xs with
       |true=>some ((dW eA xs).map D.str)
       |false=>none
      |none=>none
     |false=>none
    |none=>none)=some ys->wpAny (model X.prog X.w) X.A (call (.builtin "sorted") us) (EP X pins σ Q) X.xe s:=λ e=>by
    split at e
    ·rename_i es e1
     obtain⟨a,vs,rfl,k1,k2⟩:=h1.lstD w e1
     split at e
     ·rename_i hl
      have hl:=Nat.blt_eq.mp hl
      split at e
      ·rename_i xs e2
       split at e
       ·rename_i e3
        cases e
        have:=yR e2
        subst this
        rw[List.length_map]at hl
        exact SV pins s σ H _ us Q I r ⟨a,xs,rfl,bA.at' (k2.strs_of▸k1),hl,λ p zs hp pz hs=>by
         have:=Xe (IM e3) pz hs
         subst this
         exact q ρ _ _ (w.sside hp) (w.side hp) (w.slst hp (aN.strs _))⟩
       ·cases e
      ·cases e
     ·cases e
    ·cases e
   unfold yV at e
   split at e
   ·cases e
   ·exact lists e
  ·cases eq
 ·cases eq
theorem Xi{ds:List D}{S:aD}:∀z S',oR ds S≠ .exc z S':=by
 intro z S' h
 unfold oR at h
 repeat (first|(cases h)|(split at h))
@[simp] noncomputable def yW(ga:EE):EE:=λ η S=>(ga η S).bind uV
variable{U:SK}{Γ:Gb}{fc:Fc}{a:Expr}{ga:EE}{p p2 pos pos2:Pos}
theorem Op:bootBuiltins ("sorted" :Str)=some (.builtin "sorted"):=by decide+kernel
theorem XN:bootBuiltins ("set" :Str)=some (.type "set"):=by decide+kernel
@[simp] noncomputable def yU(gs:En->EM (List D)):EE:=λ η S=>(gs η S).bind oR
theorem FB(C:bK X G U Γ fc){gs:En->EM (List D)}(hg:cN fc.sc "sorted" =true)(hn:cL "sorted" Γ.no=true)(hp:bT a=true)(hs:PA X [a] (tA G U gs)):PE X (.Call (.Name "sorted" p) [a] [] pos) (tE G U (yU gs)):=by
 have hp1:[a].all bT=true:=by
  show(bT a&&true)=true
  rw[hp];rfl
 refine PE.mono (oW (SS (G:=G)) (C.glo hg) (C.gl.no _ (gM hn)) Op hs Qc Qc (fG hp1 _) rfl) λ σ H Q ⟨ρ,S,η,w,i,h⟩=>⟨ρ,S,η,w,i,Af.into h λ xs ρ1 H1 S1 ds s1 w1 h1 q1=>?_⟩
 refine⟨ρ1,S1,ds,w1,h1,?_⟩
 cases e:oR ds S1 with
 |ok z S'=>rw[e]at q1;exact⟨z,S',rfl,q1⟩
 |exc z S'=>exact(Xi z S' e).elim
 |bad=>rw[e]at q1;exact q1.elim
theorem FC(C:bK X G U Γ fc)(hc:fc.calm=true)(hg:cN fc.sc "sorted" =true)(hn:cL "sorted" Γ.no=true)(hg2:cN fc.sc "set" =true)(hn2:cL "set" Γ.no=true)(hp:bT a=true)(ha:PE X a (tE G U ga)):
  PE X (.Call (.Name "sorted" p) [.Call (.Name "set" p2) [a] [] pos2] [] pos) (tE G U (yW ga)):=by
 have ca:=(C.cm hc).1
 have hp1:[a].all bT=true:=by
  show(bT a&&true)=true
  rw[hp];rfl
 refine PE.mono (oW (SU ca) (C.glo hg) (C.gl.no _ (gM hn)) Op (qR (vD (SW ca C.hu) (C.glo hg2) (C.gl.no _ (gM hn2)) XN (qR ha vG hp) Qc Qc (fG hp1 _) rfl) vG rfl) Qc Qc rfl rfl)
  λ σ H Q ⟨ρ,S,η,w,i,h⟩=>⟨ρ,S,η,w,i,Af.into h λ x ρ1 H1 S1 d s1 w1 h1 q1=>?_⟩
 unfold uV at q1
 split at q1
 ·rename_i ws e
  split at q1
  ·rename_i hl
   cases e1:lstD S1 d with
   |none=>rw[e1]at e;cases e
   |some es=>
    rw[e1]at e
    have:=Pg (g:=cH) (λ d x h=>Rm h) (show kU mT es=some ws from e)
    subst this
    obtain⟨l,vs,rfl,k1,k2⟩:=h1.lstD w1 e1
    refine⟨ws,_,rfl,⟨l,vs,rfl,Qb,k1,k2.ofMap Ri⟩,Nat.blt_eq.mp hl,λ A pl hA em hq=>?_⟩
    subst em
    have hl:=Nat.blt_eq.mp hl
    rw[List.length_map]at hl
    have eN:dI [] H1 (aM H1 A (mO X.prog X.w A pl)):=dI.new hA _
    refine⟨A,pl,rfl,dA,hl,λ y hy=>dO.ext eN (hq y hy),λ ws' L xs _ hp hm hL hd=>?_⟩
    have:=Xc hm hp
    subst this
    have s2:=w1.sside (o:=mO X.prog X.w A pl) hA
    have w2:=w1.side (o:=mO X.prog X.w A pl) hA
    exact q1 ρ1 _ _ (s2.trans (w2.sside hL)) (w2.side hL) (w2.slst hL (Du w2 hd))
  ·exact q1.elim
 ·exact q1.elim
end
end L2
end

section
noncomputable section
namespace L2
open PySem PySem.Spec PyProof.Rows
section
variable{X:Cx}{G:Gd}{U:SK}{Γ:Gb}{fc:Fc}{a b c o e:Expr}{ga gb gc:EE}{gs:En->EM (List D)}{es:List Expr}{pos pos' p apos cpos:Pos}{g h:ES}{st:Stmt}{sts:List Stmt}
@[simp] noncomputable def cG0:Nat:=0
end
structure Rc where
 e:Fc->Expr->EE
 t:Fc->Expr->En->EM Bool
 s:Fc->List Stmt->ES
noncomputable def gO:En->EM Bool:=λ _ _=>.bad
noncomputable def XX:En->EM (List D):=λ _ _=>.bad
noncomputable def sT:En->EM Sr:=λ _ _=>.bad
noncomputable def eT:ES:=λ _ _=>.bad
section
variable(Γ:Gb)(r:Rc)(fc:Fc)
noncomputable def eS:List Expr->En->EM (List D)
 |[]=>aG
 |.Starred _ _::_=>XX
 |a::es=>aB (r.e fc a) (eS es)
noncomputable def wU(op:BoolOp):List Expr->EE
 |[]=>bU
 |[a]=>r.e fc a
 |a::b::es=>match op with
  |.And=>gP (r.e fc a) (wU op (b::es))
  |.Or=>vI (r.e fc a) (wU op (b::es))
noncomputable def wT(op:BoolOp):List Expr->En->EM Bool
 |[]=>gO
 |[a]=>r.t fc a
 |a::b::es=>match op with
  |.And=>Cu (r.t fc a) (wT op (b::es))
  |.Or=>gJ (r.t fc a) (wT op (b::es))
noncomputable def Km:Expr->Bool
 |.Tuple ..=>true
 |_=>false
noncomputable def nO(tg e:Expr):En->EM Sr:=match e with
 |.Call (.Name f _) [a] [] _=>match dU f "range",dU f "enumerate" with
  |true,_=>gd (cN fc.sc "range" &&cL "range" Γ.no&&bT a) (gX (eS r fc [a])) sT
  |false,true=>gd (cN fc.sc "enumerate" &&cL "enumerate" Γ.no&&bT a&&Km tg) (wZ (eS r fc [a])) sT
  |false,false=>cW (r.e fc e)
 |.Call (.Name f _) [a,b] [] _=>match dU f "range",dU f "zip" with
  |true,_=>gd (cN fc.sc "range" &&cL "range" Γ.no&&[a,b].all bT) (gX (eS r fc [a,b])) sT
  |false,true=>gd (cN fc.sc "zip" &&cL "zip" Γ.no&&[a,b].all bT&&Km tg) (oE (eS r fc [a,b])) sT
  |false,false=>cW (r.e fc e)
 |_=>cW (r.e fc e)
noncomputable def Bz(fc':Fc):List Expr->Option (En->EM Bool)
 |[]=>some λ _=>EM.ret true
 |[c]=>some (r.t fc' c)
 |_=>none
noncomputable def nN(b:Bool)(elt:Expr)(gens:List Comprehension)(scope:Scope):EE:=match gens with
 |[⟨tg,iter,ifs,as⟩]=>match slots fc.N (iM scope),gH (oM fc scope) tg,Bz r (oM fc scope) ifs with
  |some js,some t,some gt=>gd (decide (as=0)&&jI fc scope&&lT (eY scope).length t&&oZ iter) (fB b (nO Γ r fc tg iter) (eY scope).length js t gt (r.e (oM fc scope) elt)) bU
  |_,_,_=>bU
 |_=>bU
noncomputable def Ca(f:Str)(elt:Expr)(gens:List Comprehension)(scope:Scope):EE:=match gens,fc.room with
 | [⟨tg,iter,ifs,as⟩],k+1=>match slots fc.N (iM scope),gH (mB fc scope k) tg,Bz r (mB fc scope k) ifs with
  | some js,some t,some gt=>match decide (as=0)&&jI fc scope&& !rX scope&&fc.tab&&lT (eY scope).length t&&vQ iter&&cN fc.sc f&&cL f Γ.no with
   |true=>match dU f "all",dU f "tuple" with
    |true,_=>kY (nO Γ r fc tg iter) (eY scope).length js t gt (r.e (mB fc scope k) elt)
    |false,true=>yG (nO Γ r fc tg iter) (eY scope).length js t gt (r.e (mB fc scope k) elt)
    |false,false=>bU
   |false=>bU
  |_,_,_=>bU
 |_,_=>bU
noncomputable def By(a:Expr)(y:Str):EE:=match lk y oI with
 |some T=>gd (cL y Γ.no) (gF T (r.e fc a)) bU
 |none=>bU
noncomputable def Bb:List Expr->Bool
 |[]=>true
 |_=>false
noncomputable def Kn:Expr->Option Expr
 |.Call (.Name g _) [a] [] _=>match dU g "set" with
  |true=>some a
  |false=>none
 |_=>none
noncomputable def Bw(args:List Expr):EE:=match args with
 |[a]=>match Kn a with
  |some b=>gd (fc.calm&&cN fc.sc "sorted" &&cL "sorted" Γ.no&&cN fc.sc "set" &&cL "set" Γ.no&&bT b) (yW (r.e fc b)) bU
  |none=>gd (cN fc.sc "sorted" &&cL "sorted" Γ.no&&bT a) (yU (eS r fc [a])) bU
 |_=>bU
noncomputable def Cb(f :Str)(args:List Expr):EE:=match lk f Γ.fn with
  |some (k,ar,g)=>gd (fc.calm&&Nat.ble k fc.room&&cN fc.sc f&&gY f&&args.all bT&& !Bb args) (aV ar g (eS r fc args)) bU
  |none=>match dU f "sorted" with
     |true=>Bw Γ r fc args
     |false=>match args with
      |[.GeneratorExp elt gens scope _]=>Ca Γ r fc f elt gens scope
      | [a,.Name y _]=>match dU f "isinstance" with
        |true=>gd (cN fc.sc "isinstance" &&cL "isinstance" Γ.no&&cN fc.sc y&&bT a) (By Γ r fc a y) bU
        | false=>match lk f xI with
          |some b=>gd (fc.calm&&cL f Γ.no&&cN fc.sc f&&args.all bT) (bS b (eS r fc args)) bU
          |none=>bU
      | _=>match lk f xI with
        |some b=>gd (fc.calm&&cL f Γ.no&&cN fc.sc f&&args.all bT&& !Bb args) (bS b (eS r fc args)) bU
        |none=>bU
noncomputable def Bx(o:Expr)(m:Str)(l l':Nat)(args:List Expr):EE:=match dU m "append" with
 |true=>match args with
  |[e]=>gd (sS o&&Nat.beq l l'&&bT e) (pP (r.e fc o) (eS r fc [e])) bU
  |_=>bU
 |false=>match lk m Aj with
  |some f=>gd (sS o&&Nat.beq l l'&&Nat.blt args.length 30&&args.all bT&& !Bb args) (iY f (r.e fc o) (eS r fc args)) bU
  |none=>bU
noncomputable def OZ(f:Expr)(args:List Expr)(pos:Pos):EE:=match f with
 |.Name x _=>Cb Γ r fc x args
 |.Attribute o m apos=>Bx r fc o m apos.endLine pos.line args
 |_=>bU
noncomputable def zZ(g:Fc->Expr->EE):Option Expr->Option EE
 |none=>none
 |some a=>some (g fc a)
@[simp] noncomputable def Aa(ga:EE):EE:=λ η S=>(dR ga η S).bind λ b=>EM.ret (.bl (!b))
@[simp] noncomputable def eH(g:En->EM Bool):En->EM Bool:=λ η S=>(g η S).bind λ b=>EM.ret (!b)
noncomputable def OS(op:UnaryOp)(a:Expr):EE:=match op with
 |.USub=>Ah (r.e fc a)
 |.Not=>Aa (r.e fc a)
 |_=>bU
noncomputable def Nj(a:Expr)(ops:List CmpOp)(bs:List Expr):EE:=match ops with
 |[]=>bU
 | op ::os=>match bs with
  |[]=>bU
  | b ::cs=>match os with
   |[]=>match cs with
    |[]=>gd (!behindInMarks op b) (aI (bJ op) (r.e fc a) (r.e fc b)) bU
    |_::_=>bU
   | op'::os'=>match os' with
    | []=>match cs with
     |[]=>bU
     |c::ds=>match ds with
      |[]=>gd (!lastMarks [op,op'] [b,c]) (iQ op op' (r.e fc a) (r.e fc b) (r.e fc c)) bU
      |_::_=>bU
    |_::_=>bU
noncomputable def OX(a:Expr)(ops:List CmpOp)(bs:List Expr):En->EM Bool:=match ops with
 |[]=>gO
 | op ::os=>match bs with
  |[]=>gO
  | b ::cs=>match os with
   |[]=>match cs with
    |[]=>gd (!behindInMarks op b) (cE (aI (bJ op) (r.e fc a) (r.e fc b))) gO
    |_::_=>gO
   | op'::os'=>match os' with
    | []=>match cs with
     |[]=>gO
     |c::ds=>match ds with
      |[]=>gd (!lastMarks [op,op'] [b,c]) (cE (iQ op op' (r.e fc a) (r.e fc b) (r.e fc c))) gO
      |_::_=>gO
    |_::_=>gO
noncomputable def OT(a i:Expr):EE:=match i with
 |.Slice lo hi st _=>match st with
  |none=>jL (r.e fc a) (eF (zZ fc r.e lo)) (eF (zZ fc r.e hi))
  |some _=>bU
 |i=>aI aR (r.e fc a) (r.e fc i)
noncomputable def OY(f:Expr)(args:List Expr)(kws:List Keyword)(pos:Pos):EE:=match kws with
 |[]=>OZ Γ r fc f args pos
 |_::_=>bU
noncomputable def uU(e:Expr):EE:=match e with
 |.Name x _=>Ai Γ fc x
 |.Constant c _ _=>Nz c
 |.BinOp a op b _=>aI (bQ op) (r.e fc a) (r.e fc b)
 |.UnaryOp op a _=>OS r fc op a
 |.BoolOp op vs _=>wU r fc op vs
 |.Compare a ops bs _=>Nj r fc a ops bs
 |.IfExp t a b _=>Bf (r.t fc t) (r.e fc a) (r.e fc b)
 |.Tuple es _ _=>fF (eS r fc es)
 |.List es _=>iG (eS r fc es)
 |.Subscript a i _=>OT r fc a i
 |.Attribute ..=>bU
 |.ListComp elt gens scope _=>nN Γ r fc false elt gens scope
 |.Call f args kws pos=>OY Γ r fc f args kws pos
 |_=>bU
noncomputable def OR(op:UnaryOp)(a:Expr):En->EM Bool:=match op with
 |.Not=>eH (r.t fc a)
 |_=>gO
noncomputable def Fh(e:Expr):En->EM Bool:=match e with
 |.UnaryOp op a _=>OR r fc op a
 |.BoolOp op vs _=>wT r fc op vs
 |.Compare a ops bs _=>OX r fc a ops bs
 |.IfExp ..=>gO
 |e=>dR (uU Γ r fc e)
noncomputable def Cc(t v:Expr):ES:=match t with
 | .Name x _=>match jK fc x with
  |some j=>match v with
   |.ListComp elt gens scope _=>bN (.nm j) (nN Γ r fc (cL x fc.mu) elt gens scope)
   |.List es _=>bN (.nm j) (gd (cL x fc.mu) (kF (eS r fc es)) (iG (eS r fc es)))
   |v=>gd (jO v) (bN (.nm j) (r.e fc v)) eT
  |none=>eT
 |.Tuple es k p=>match gH fc (.Tuple es k p)with
  |some tt=>gd (jO v&&Hw v) (bN tt (r.e fc v)) eT
  |none=>eT
 |.Subscript o i _=>gd (Fb i&&jO v) (zR (r.e fc v) (r.e fc o) (r.e fc i)) eT
 |_=>eT
noncomputable def OW(tg iter:Expr)(body els:List Stmt):ES:=match els with
 |[]=>match gH fc tg with
  |some t=>gd (fc.calm&&fc.loop&&oZ iter) (gZ (nO Γ r fc tg iter) t (r.s fc body)) eT
  |none=>eT
 |_::_=>eT
noncomputable def OU(v:Expr):ES:=match v with
 |.List es _=>bC (gd fc.mr (kF (eS r fc es)) (iG (eS r fc es)))
 |.ListComp elt gens scope _=>bC (nN Γ r fc fc.mr elt gens scope)
 |v=>bC (r.e fc v)
noncomputable def OV(v:Option Expr):ES:=match v with
 |none=>Gp
 |some v=>OU Γ r fc v
noncomputable def PB(ts:List Expr)(v:Expr):ES:=match ts with
 |[]=>eT
 |t::us=>match us with
  |[]=>Cc Γ r fc t v
  |_::_=>eT
noncomputable def Nk(st:Stmt):ES:=match st with
 |.Assign ts v _=>PB Γ r fc ts v
 |.Expr v _=>gd (jO v) (pM (r.e fc v)) eT
 |.If c a b _=>cM (r.t fc c) (r.s fc a) (r.s fc b)
 |.For tg iter body els _=>OW Γ r fc tg iter body els
 |.Return v _=>OV Γ r fc v
 |.Pass _=>aO
 |.Continue _=>Od
 |.Break _=>Ol
 |_=>eT
noncomputable def yT:List Stmt->ES
 |[]=>aO
 |st::sts=>aJ (Nk Γ r fc st) (yT sts)
end
noncomputable def nM(Γ:Gb):Nat->Rc
 |0=>⟨λ _ _=>bU,λ _ _=>gO,λ _ _=>eT⟩
 |n+1=>⟨uU Γ (nM Γ n),Fh Γ (nM Γ n),yT Γ (nM Γ n)⟩
end L2
end

section
noncomputable section
namespace L2
open PySem PySem.Spec PyProof.Rows
structure lA(Γ:Gb)(r:Rc)(X:Cx)(G:Gd)(U:SK)(fc:Fc):Prop where
 e:∀e,PE X e (tE G U (r.e fc e))
 t:∀e,PT X e (tT G U (r.t fc e))
 s:∀ss,eB X ss (tS G U (r.s fc ss))
noncomputable def iT(Γ:Gb)(r:Rc):Prop:=∀X G U fc,bK X G U Γ fc->lA Γ r X G U fc
section
variable{Γ:Gb}{r:Rc}{X:Cx}{G:Gd}{U:SK}{fc:Fc}
theorem iD{b:Bool}{e:Expr}{g:EE}(h:b=true->PE X e (tE G U g)):PE X e (tE G U (gd b g bU)):=by
 cases b with
 |true=>exact h rfl
 |false=>exact PE.bad λ η S=>rfl
theorem qP{b:Bool}{e:Stmt}{g:ES}(h:b=true->PS X e (tS G U g)):PS X e (tS G U (gd b g eT)):=by
 cases b with
 |true=>exact h rfl
 |false=>exact PS.bad λ η S=>rfl
theorem vC{b:Bool}{tg e:Expr}{g:En->EM Sr}(h:b=true->PI X tg e (tI G U g)):PI X tg e (tI G U (gd b g sT)):=by
 cases b with
 |true=>exact h rfl
 |false=>exact PI.bad λ η S=>rfl
theorem dJ{e:Expr}:PE X e (tE G U bU):=PE.bad λ η S=>rfl
theorem bF{a b:Bool}(h:(a&&b)=true):a=true/\b=true:=Bool.and_eq_true_iff.mp h
theorem Xa(e:Expr):bT e=true\/∃a p,e= .Starred a p:=by
 cases e<;>first|exact .inl rfl|exact .inr ⟨_,_,rfl⟩
theorem wV{e:Expr}{es:List Expr}(h:bT e=true):eS r fc (e::es)=aB (r.e fc e) (eS r fc es):=by
 cases e<;>first|rfl|cases h
theorem fL(C:bK X G U Γ fc)(R:lA Γ r X G U fc):∀es:List Expr,PA X es (tA G U (eS r fc es))
 |[]=>GW
 |e::es=>by
  rcases Xa e with h|⟨a,p,rfl⟩
  ·rw[wV h];exact GY h (R.e e) (fL C R es)
  ·exact λ _ pins s σ H Q I ⟨ρ,S,η,_,_,q⟩=>q.elim
theorem zY(R:lA Γ r X G U fc){op:BoolOp}{pos:Pos}:∀vs:List Expr,PE X (.BoolOp op vs pos) (tE G U (wU r fc op vs))
 |[]=>dJ
 |[a]=>FI (R.e a)
 |a::b::es=>by
  cases op with
  |And=>exact GS (R.e a) (zY R (b::es))
  |Or=>exact FF (R.e a) (zY R (b::es))
theorem PW.mono{e:Expr}{t t':TT}(h:PW X e t)(k:∀σ H Q,t' σ H Q->t σ H Q):PW X e t':=λ w pins s σ H Q I q=>h w pins s σ H Q I (k _ _ _ q)
theorem zQ(R:lA Γ r X G U fc){op:BoolOp}{pos:Pos}:∀vs:List Expr,PW X (.BoolOp op vs pos) (tT G U (wT r fc op vs))
 |[]=>λ w pins s σ H Q I ⟨ρ,S,η,_,_,q⟩=>q.elim
 |[a]=>by
  cases op with
  |And=>exact BV (R.t a)
  |Or=>exact BR (R.t a)
 |a::b::es=>by
  cases op with
  |And=>exact PW.mono (BW (R.t a) (zQ R (b::es))) λ σ H Q h=>Tv h
  |Or=>exact PW.mono (BS (R.t a) (zQ R (b::es))) λ σ H Q h=>Tu h
theorem Ir:∀{η:En} {S:aD} {ds:List D} {S':aD},aG η S= .ok ds S'->ds.length=0:=λ h=>by cases h;rfl
theorem Au{ga:EE}{gs:En->EM (List D)}{n:Nat}(hn:∀{η S ds S'},gs η S= .ok ds S'->ds.length=n):∀{η:En} {S:aD} {ds:List D} {S':aD},aB ga gs η S= .ok ds S'->ds.length=n+1:=fun{η S ds S'} h=>by
 unfold aB at h
 cases e:ga η S with
 |ok d S1=>
  rw[e]at h
  simp only[Rs.bind]at h
  cases e2:gs η S1 with
  |ok es S2=>rw[e2]at h;cases h;simp[hn e2]
  |exc x S2=>rw[e2]at h;cases h
  |bad=>rw[e2]at h;cases h
 |exc x S1=>rw[e]at h;cases h
 |bad=>rw[e]at h;cases h
theorem qQ(C:bK X G U Γ fc)(R:lA Γ r X G U fc)(tg e:Expr):PI X tg e (tI G U (nO Γ r fc tg e)):=by
 have v:∀e,PI X tg e (tI G U (cW (r.e fc e))):=λ e=>EB (R.e e)
 unfold nO
 split
 ·rename_i f q a p
  split
  ·rename_i h1
   refine vC λ h=>?_
   obtain⟨h,hp⟩:=bF h
   obtain⟨hg,hn⟩:=bF h
   have h1:=gW h1
   subst h1
   exact EG C hg hn hp (fL C R _) (λ η S ds S' h=>Au (λ h=>Ir h) (wV hp▸h))
  ·rename_i h1
   refine vC λ h=>?_
   obtain⟨h,ht⟩:=bF h
   obtain⟨h,hp⟩:=bF h
   obtain⟨hg,hn⟩:=bF h
   have h1:=gW h1
   subst h1
   cases tg<;>first|(cases ht;done)|exact EL C hg hn hp (fL C R _)
  ·exact v _
 ·rename_i f q a b p
  split
  ·rename_i h1
   refine vC λ h=>?_
   obtain⟨h,hp⟩:=bF h
   obtain⟨hg,hn⟩:=bF h
   have h1:=gW h1
   subst h1
   have p1:bT a=true:=by rw[List.all_cons]at hp;exact(bF hp).1
   have p2:bT b=true:=by have:=fU hp;rw[List.all_cons]at this;exact(bF this).1
   refine EF C hg hn hp (fL C R _) (λ η S ds S' h=>?_)
   rw[wV p1,wV p2]at h
   exact Au (λ h=>Au (λ h=>Ir h) h) h
  ·rename_i h1
   refine vC λ h=>?_
   obtain⟨h,ht⟩:=bF h
   obtain⟨h,hp⟩:=bF h
   obtain⟨hg,hn⟩:=bF h
   have h1:=gW h1
   subst h1
   cases tg<;>first|(cases ht;done)|exact EA C hg hn hp (fL C R _)
  ·exact v _
 ·exact v _
theorem vB(Rk:iT Γ r){fc':Fc}{ifs:List Expr}{gt:En->EM Bool}(C':bK X G U Γ fc')(h:Bz r fc' ifs=some gt):gG X ifs (tT G U gt):=by
 refine CB ?_
 match ifs,h with
 |[],h=>cases h;exact .inl ⟨rfl,rfl⟩
 |[c],h=>cases h;exact .inr ⟨c,rfl,(Rk X G U fc' C').t c⟩
theorem zX(Rk:iT Γ r)(C:bK X G U Γ fc){b:Bool}{elt:Expr}{gens:List Comprehension}{scope:Scope}{pos:Pos}:PE X (.ListComp elt gens scope pos) (tE G U (nN Γ r fc b elt gens scope)):=by
 unfold nN
 split
 ·rename_i tg iter ifs as
  split
  ·rename_i js t gt h1 h2 h3
   refine iD λ h=>?_
   obtain⟨h,hs⟩:=bF h
   obtain⟨h,hk⟩:=bF h
   obtain⟨h0,ha⟩:=bF h
   have h0:=of_decide_eq_true h0
   subst h0
   exact FQ C ha h1 h2 hk (qQ C (Rk X G U fc C) tg iter) (λ c s H ex=>vB Rk (C.sub ha h1 c s H ex) h3) (λ c s H ex=>(Rk _ _ _ _ (C.sub ha h1 c s H ex)).e elt) (Ad hs)
  ·exact dJ
 ·exact dJ
theorem GD(Rk:iT Γ r)(C:bK X G U Γ fc){f:Str}{elt:Expr}{gens:List Comprehension}{scope:Scope}{p pos gpos:Pos}:PE X (.Call (.Name f p) [.GeneratorExp elt gens scope gpos] [] pos) (tE G U (Ca Γ r fc f elt gens scope)):=by
 unfold Ca
 split
 ·rename_i tg iter ifs as k hr
  have hr:k+1<=fc.room:=by rw[hr];exact Nat.le_refl _
  split
  ·rename_i js t gt h1 h2 h3
   split
   ·rename_i h
    obtain⟨h,hn⟩:=bF h
    obtain⟨h,hg⟩:=bF h
    obtain⟨h,hs⟩:=bF h
    obtain⟨h,hk⟩:=bF h
    obtain⟨h,htb⟩:=bF h
    obtain⟨h,hco⟩:=bF h
    obtain⟨h0,ha⟩:=bF h
    have hco:rX scope=false:=by simpa using hco
    have h0:=of_decide_eq_true h0
    subst h0
    split
    ·rename_i e
     have e:=gW e
     subst e
     exact GV C ha hco htb hr h1 h2 hk hg hn (qQ C (Rk X G U fc C) tg iter) (λ c code it s H ex=>vB Rk (C.gen ha h1 hr c code it s H ex).1 h3) (λ c code it s H ex=>(Rk _ _ _ _ (C.gen ha h1 hr c code it s H ex).1).e elt) hs
    ·rename_i e
     have e:=gW e
     subst e
     exact EZ C ha hco htb hr h1 h2 hk hg hn (qQ C (Rk X G U fc C) tg iter) (λ c code it s H ex=>vB Rk (C.gen ha h1 hr c code it s H ex).2 h3) (λ c code it s H ex=>(Rk _ _ _ _ (C.gen ha h1 hr c code it s H ex).2).e elt) hs
    ·exact dJ
   ·exact dJ
  ·exact dJ
 ·exact dJ
theorem GC(C:bK X G U Γ fc)(R:lA Γ r X G U fc){a:Expr}{y:Str}{p q pos:Pos}(hg:cN fc.sc "isinstance" =true)(hn:cL "isinstance" Γ.no=true)(hy:cN fc.sc y=true)(hp:bT a=true):PE X (.Call (.Name "isinstance" p) [a,.Name y q] [] pos) (tE G U (By Γ r fc a y)):=by
 unfold By
 split
 ·rename_i T h
  exact iD λ h2=>FT C h hg hn hy h2 hp (R.e a)
 ·exact dJ
theorem FY(Rk:iT Γ r)(C:bK X G U Γ fc){args:List Expr}{p pos:Pos}:PE X (.Call (.Name "sorted" p) args [] pos) (tE G U (Bw Γ r fc args)):=by
 have R:=Rk X G U fc C
 unfold Bw
 split
 ·rename_i a
  split
  ·rename_i b hb
   refine iD λ h=>?_
   obtain⟨h,hp⟩:=bF h
   obtain⟨h,hn2⟩:=bF h
   obtain⟨h,hg2⟩:=bF h
   obtain⟨h,hn⟩:=bF h
   obtain⟨hc,hg⟩:=bF h
   unfold Kn at hb
   split at hb
   ·split at hb
    ·rename_i e
     cases hb
     have e:=gW e
     subst e
     exact FC C hc hg hn hg2 hn2 hp (R.e _)
    ·cases hb
   ·cases hb
  ·refine iD λ h=>?_
   obtain⟨h,hp⟩:=bF h
   obtain⟨hg,hn⟩:=bF h
   exact FB C hg hn hp (fL C R _)
 ·exact dJ
theorem GE(Rk:iT Γ r)(C:bK X G U Γ fc){f:Str}{args:List Expr}{p pos:Pos}:PE X (.Call (.Name f p) args [] pos) (tE G U (Cb Γ r fc f args)):=by
 have R:=Rk X G U fc C
 unfold Cb
 split
 ·rename_i k ar g hf
  refine iD λ h=>?_
  obtain⟨h,hz⟩:=bF h
  obtain⟨h,hp⟩:=bF h
  obtain⟨h,hd⟩:=bF h
  obtain⟨h,hg⟩:=bF h
  obtain⟨hc,hk⟩:=bF h
  cases args with
  |nil=>cases hz
  |cons e es=>exact GM C hc hf (Nat.le_of_ble_eq_true hk) hg hd hp (fL C R _)
 ·split
  ·rename_i e
   have e:=gW e
   subst e
   exact FY Rk C
  split
  ·exact GD Rk C
  ·split
   ·rename_i e
    have e:=gW e
    subst e
    refine iD λ h=>?_
    obtain⟨h,hp⟩:=bF h
    obtain⟨h,hy⟩:=bF h
    obtain⟨hg,hn⟩:=bF h
    exact GC C R hg hn hy hp
   ·split
    ·rename_i b hb
     refine iD λ h=>?_
     obtain⟨h,hp⟩:=bF h
     obtain⟨h,hg⟩:=bF h
     obtain⟨hc,hn⟩:=bF h
     exact Ho C hc hb hn hg hp (fL C R _)
    ·exact dJ
  ·split
   ·rename_i b hb
    refine iD λ h=>?_
    obtain⟨h,hz⟩:=bF h
    obtain⟨h,hp⟩:=bF h
    obtain⟨h,hg⟩:=bF h
    obtain⟨hc,hn⟩:=bF h
    cases args with
    |nil=>cases hz
    |cons e es=>exact Ho C hc hb hn hg hp (fL C R _)
   ·exact dJ
theorem GA(C:bK X G U Γ fc)(R:lA Γ r X G U fc){o:Expr}{m:Str}{args:List Expr}{apos pos:Pos}:PE X (.Call (.Attribute o m apos) args [] pos) (tE G U (Bx r fc o m apos.endLine pos.line args)):=by
 unfold Bx
 split
 ·rename_i e
  have e:=gW e
  subst e
  split
  ·refine iD λ h=>?_
   obtain⟨h,hp⟩:=bF h
   obtain⟨hb,hl⟩:=bF h
   exact GR hb hl hp (R.e o) (fL C R _)
  ·exact dJ
 ·split
  ·rename_i f hf
   refine iD λ h=>?_
   obtain⟨h,hz⟩:=bF h
   obtain⟨h,hp⟩:=bF h
   obtain⟨h,hn⟩:=bF h
   obtain⟨hb,hl⟩:=bF h
   cases args with
   |nil=>cases hz
   |cons e es=>exact FO C hf hb hl hn hp (R.e o) (fL C R _)
  ·exact dJ
theorem Hf(R:lA Γ r X G U fc)(e:Option Expr):PO X e (tO G U (eF (zZ fc r.e e))):=by
 cases e with
 |none=>exact DR
 |some e=>exact DP (R.e e)
theorem vP{b:Bool}(h:(!b)=true):b=false:=by cases b<;>first|rfl|cases h
theorem DU{e:Expr}(h:∀lo hi st p,e≠ .Slice lo hi st p):Da e:=by
 intro o i
 cases e<;>first|rfl|exact(h _ _ _ _ rfl).elim
theorem GF(R:lA Γ r X G U fc)(C:bK X G U Γ fc){a:Expr}{ops:List CmpOp}{bs:List Expr}{p:Pos}:PE X (.Compare a ops bs p) (tE G U (Nj r fc a ops bs)):=by
 cases ops with
 |nil=>exact dJ
 | cons op os=>cases bs with
  |nil=>exact dJ
  | cons b cs=>cases os with
   |nil=>cases cs with
    |nil=>exact iD λ h=>GI C (vP h) (R.e _) (R.e _)
    |cons _ _=>exact dJ
   | cons op' os'=>cases os' with
    | nil=>cases cs with
     |nil=>exact dJ
     |cons c ds=>cases ds with
      |nil=>exact iD λ h=>GL C (vP h) (R.e _) (R.e _) (R.e _)
      |cons _ _=>exact dJ
    |cons _ _=>exact dJ
theorem Hl(Rk:iT Γ r)(C:bK X G U Γ fc)(e:Expr):PE X e (tE G U (uU Γ r fc e)):=by
 have R:=Rk X G U fc C
 cases e with
 |Name x p=>exact FN C
 |Constant c k p=>exact GG
 |BinOp a op b p=>exact GQ (R.e _) (R.e _)
 |UnaryOp op a p=>cases op with
  |USub=>exact FM (R.e _)
  |Not=>exact FK C (R.e _)
  |_=>exact dJ
 |BoolOp op vs p=>exact zY R _
 |Compare a ops bs p=>exact GF R C
 |IfExp t a b p=>exact FW (R.t _) (R.e _) (R.e _)
 |Tuple es c p=>exact EX (fL C R _)
 |List es p=>exact zW (fL C R _)
 | Subscript a i p=>cases i with
  |Slice lo hi st q=>cases st with
   |none=>exact FE (R.e _) (Hf R _) (Hf R _)
   |some s=>exact dJ
  |_=>exact FR C (DU λ lo hi st p z=>by cases z) (R.e _) (R.e _)
 |Attribute o f p=>exact dJ
 |ListComp elt gens scope p=>exact zX Rk C
 | Call f args kws p=>cases kws with
  |nil=>cases f with
   |Name x q=>exact GE Rk C
   |Attribute o m q=>exact GA C R
   |_=>exact dJ
  |cons _ _=>exact dJ
 |_=>exact dJ
theorem kD{e:Expr}:PT X e (tT G U gO):=PT.bad λ η S=>rfl
theorem CD(Rk:iT Γ r)(C:bK X G U Γ fc)(e:Expr):PT X e (tT G U (Fh Γ r fc e)):=by
  have R:=Rk X G U fc C
  have g:∀{b:Bool} {t:En→EM Bool},(b=true→PT X e (tT G U t))→PT X e (tT G U (gd b t gO)):=fun{b t} h=>by
    cases b with
    |true=>exact h rfl
    |false=>exact kD
  have v:(∀whole,isTrue e X.env whole=(do let v←whole;standAt e.pos;holding [v] (truthy v)))→PT X e (tT G U (dR (uU Γ r fc e))):=λ he=>
    PT.mono (CC (Hl Rk C e) he) λ σ H Q h=>Es C.hK h
  cases e with
  | UnaryOp op a p=>
    cases op with
    |Not=>exact CF (R.t a)
    |_=>exact kD
  |BoolOp op vs p=>exact(zQ R vs).pt
  | Compare a ops bs p=>cases ops with
    |nil=>exact kD
    | cons op os=>cases bs with
      |nil=>exact kD
      | cons b cs=>cases os with
        | nil=>cases cs with
          |nil=>exact g λ h=>CI C (vP h) (R.e _) (R.e _)
          |cons _ _=>exact kD
        | cons op' os'=>cases os' with
          | nil=>cases cs with
            |nil=>exact kD
            | cons c ds=>cases ds with
              |nil=>exact g λ h=>CK C (vP h) (R.e _) (R.e _) (R.e _)
              |cons _ _=>exact kD
          |cons _ _=>exact kD
  |IfExp a b c p=>exact kD
  |_=>exact v λ _=>rfl
end
end L2
end

section
noncomputable section
namespace L2
open PySem PySem.Spec PyProof.Rows
section
variable{Γ:Gb}{r:Rc}{X:Cx}{G:Gd}{U:SK}{fc:Fc}
theorem lM{st:Stmt}:PS X st (tS G U eT):=PS.bad λ η S=>rfl
theorem PE.gd2{b:Bool}{e:Expr}{g h:EE}(h1:PE X e (tE G U g))(h2:PE X e (tE G U h)):PE X e (tE G U (gd b g h)):=by
 cases b with
 |true=>exact h1
 |false=>exact h2
theorem DG(Rk:iT Γ r)(C:bK X G U Γ fc){b:Bool}{x:Str}{j:Nat}{pos pos' cpos:Pos}{elt:Expr}{gens:List Comprehension}{scope:Scope}(hx:jK fc x=some j):
  PS X (.Assign [.Name x pos'] (.ListComp elt gens scope cpos) pos) (tS G U (bN (.nm j) (nN Γ r fc b elt gens scope))):=by
 obtain⟨k1,k2,k3⟩:=uX C hx
 have sw:=Vt (cpos:=cpos) (pos':=pos') C (x:=x) (elt:=elt) (gens:=gens) (scope:=scope) (line:=pos.line)
 cases e:yO fc x pos'.line cpos.line scope with
 |false=>
  rw[e]at sw
  exact PS.mono (Hb C.nd k1 k2 (zX Rk C (b:=b)) sw k3) λ σ H F q=>uN (K:=X.K) (t:=.nm j) q
 | true=>
  rw[e]at sw
  unfold nN
  split
  ·rename_i tg iter ifs as
   split
   ·rename_i js t gt h1 h2 h3
    cases h:decide (as=0)&&jI fc scope&&lT (eY scope).length t&&oZ iter with
    |false=>exact PS.bad λ η S=>rfl
    |true=>
     obtain⟨h,hs⟩:=bF h
     obtain⟨h,hk⟩:=bF h
     obtain⟨h0,ha⟩:=bF h
     have h0:=of_decide_eq_true h0
     subst h0
     exact PS.mono (CZ C ha h1 h2 hk (qQ C (Rk X G U fc C) tg iter) (λ c s H ex=>vB Rk (C.sub ha h1 c s H ex) h3) (λ c s H ex=>(Rk _ _ _ _ (C.sub ha h1 c s H ex)).e elt) (Ad hs) hx sw) λ σ H F q=>uN (K:=X.K) (t:=.nm j) q
   ·exact PS.bad λ η S=>rfl
  ·exact PS.bad λ η S=>rfl
theorem DH(Rk:iT Γ r)(C:bK X G U Γ fc){t v:Expr}{pos:Pos}:PS X (.Assign [t] v pos) (tS G U (Cc Γ r fc t v)):=by
 have R:=Rk X G U fc C
 unfold Cc
 split
 ·split
  ·rename_i j hj
   split
   ·exact DG Rk C hj
   ·exact Ha C hj rfl (PE.gd2 (Hm (fL C R _)) (zW (fL C R _)))
   ·exact qP λ h=>Ha C hj h (R.e _)
  ·exact lM
 ·split
  ·rename_i tt ht
   refine qP λ h=>?_
   obtain⟨h1,h2⟩:=bF h
   exact CP C ht h1 h2 (R.e _)
  ·exact lM
 ·refine qP λ h=>?_
  obtain⟨h1,h2⟩:=bF h
  exact CV h1 h2 (R.e _) (R.e _) (R.e _)
 ·exact lM
theorem DI(Rk:iT Γ r)(C:bK X G U Γ fc)(st:Stmt):PS X st (tS G U (Nk Γ r fc st)):=by
 have R:=Rk X G U fc C
 cases st with
 | Assign ts v p=>cases ts with
  |nil=>exact lM
  |cons t us=>cases us with
   |nil=>exact DH Rk C
   |cons _ _=>exact lM
 |Expr v p=>exact qP λ h=>DE h (R.e _)
 |If c a b p=>exact DA (R.t _) (R.s _) (R.s _)
 | For tg iter body els p=>cases els with
  | nil=>
   show PS X _ (tS G U (match gH fc tg with
    |some t=>gd (fc.calm&&fc.loop&&oZ iter) (gZ (nO Γ r fc tg iter) t (r.s fc body)) eT
    |none=>eT))
   split
   ·rename_i t ht
    refine qP λ h=>?_
    obtain⟨h,hs⟩:=bF h
    obtain⟨hc,hl⟩:=bF h
    exact DC C hc hl ht (qQ C R _ _) hs (R.s _)
   ·exact lM
  |cons _ _=>exact lM
 | Return v p=>cases v with
  |none=>exact CS
  |some v=>cases v with
   |List es q=>exact zU (PE.gd2 (Hm (fL C R _)) (zW (fL C R _)))
   |ListComp elt gens scope q=>exact zU (zX Rk C)
   |_=>exact zU (R.e _)
 |Pass p=>exact CW
 |Continue p=>exact DK
 |Break p=>exact DL
 |_=>exact lM
theorem Gz(Rk:iT Γ r)(C:bK X G U Γ fc):∀ss:List Stmt,eB X ss (tS G U (yT Γ r fc ss))
 |[]=>CL
 |st::ss=>CO (DI Rk C st) (Gz Rk C ss)
end
theorem sL(Γ:Gb):∀n,iT Γ (nM Γ n)
 |0=>λ X G U fc C=>⟨λ e=>PE.bad λ η S=>rfl,λ e=>PT.bad λ η S=>rfl,λ ss=>eB.bad λ η S=>rfl⟩
 |n+1=>λ X G U fc C=>⟨Hl (sL Γ n) C,CD (sL Γ n) C,Gz (sL Γ n) C⟩
noncomputable def qL(N:List Str)(ds:List D):En:=ds.map some++List.replicate (N.length-ds.length) none
noncomputable def vH:Rw->Rs D
 |.ok .nx _ S=>.ok .non S
 |.ok (.rt d) _ S=>.ok d S
 |.exc x _ S=>.exc x S
 |_=>.bad
noncomputable def bR(Γ:Gb)(n:Nat)(fc:Fc)(body:List Stmt)(ds:List D):EM D:=λ S=>vH ((nM Γ n).s fc body (qL fc.N ds) S)
noncomputable def Hq(sc:Scope)(x:Str):Bool:=match lk x sc.names with
 |some .local=>true
 |some .cell=>true
 |_=>false
noncomputable def bW(N P:List Str)(sc:Scope):Bool:=Ko sc.kind&& !sc.isCoroutine&& !sc.isGenerator&&iW N&&(N.take P.length==P)&&P.all (Hq sc)&&sc.names.all (λ y=>!Kp y.2)&&N.all gY
theorem Nr{N P:List Str}{sc:Scope}(h:bW N P sc=true):tL N P sc/\∀x∈N,gY x=true:=by
 obtain⟨h,h8⟩:=bF h
 obtain⟨h,h7⟩:=bF h
 obtain⟨h,h6⟩:=bF h
 obtain⟨h,h5⟩:=bF h
 obtain⟨h,h4⟩:=bF h
 obtain⟨h,h3⟩:=bF h
 obtain⟨h1,h2⟩:=bF h
 refine⟨⟨?_,by simpa using h2,by simpa using h3,vR h4,beq_iff_eq.mp h5,λ x hx=>?_,λ y hy e=>?_⟩,λ x hx=>List.all_eq_true.mp h8 x hx⟩
 ·cases q:sc.kind<;>rw[q]at h1<;>first|rfl|cases h1
 ·have:=List.all_eq_true.mp h6 x hx
  unfold Hq at this
  rw[iH]at this
  split at this
  ·rename_i q;exact .inl q
  ·rename_i q;exact .inr q
  ·cases this
 ·have:=List.all_eq_true.mp h7 y hy
  rw[e]at this;cases this
section
variable{P:Program}{w:World}{K:PySem.W.Frag}{mg:Str->Option Value}{base:Heap}{G:Gd}{Γ:Gb}
theorem Vx{ρ:Wo}{H:Hp}{N:List Str}{ds:List D}{vs:List V}(h:aN G ρ H ds vs):cO G ρ H (qL N ds) (start N vs):=by
 refine⟨by simp[qL,start,h.length],λ i d e=>?_⟩
 unfold qL at e
 unfold start
 by_cases hi:i<ds.length
 ·rw[List.getElem?_append_left (by simpa using hi),List.getElem?_map]at e
  rw[List.getElem?_append_left (by simpa[h.length]using hi),List.getElem?_map]
  cases q:ds[i]? with
  |none=>rw[q]at e;cases e
  |some d'=>
   rw[q]at e;cases e
   obtain⟨v,h1,h2⟩:=h.get q
   exact⟨v,by rw[h1];rfl,h2⟩
 ·rw[List.getElem?_append_right (by simpa using hi),List.getElem?_replicate]at e
  split at e<;>cases e
theorem Gg{U:SK}{ρ:Wo}{H:Hp}{S:aD}{ds:List D}{vs:List V}{Q:VK}{n:Nat}{fc:Fc}{body:List Stmt}{E:XK}(hU:U=λ _ e _ d H=>E (.ref e) d H)(w:Wd G ρ S H)(h:aN G ρ H ds vs)(q:Af G (λ _ e _ d H=>E (.ref e) d H) ρ [] H (aU G) Q (bR Γ n fc body ds S)):
  tS G U ((nM Γ n).s fc body) {nx:=λ _ H'=>Q .non H',rt:=Q} (start fc.N vs) H:=by
 subst hU
 refine⟨ρ,S,_,w,Vx h,?_⟩
 unfold bR at q
 cases e:(nM Γ n).s fc body (qL fc.N ds) S with
 |ok f η S'=>
  rw[e]at q
  cases f with
  |nx=>exact λ ρ' H' σ' s w' _=>q ρ' H' .non s w' rfl
  |rt d=>exact q
  |bk=>exact q.elim
  |ct=>exact q.elim
 |exc x η S'=>rw[e]at q;exact λ ρ' H' σ' e C dd s w' _ hx=>q ρ' H' e C dd s w' hx
 |bad=>rw[e]at q;exact q.elim
theorem PL{x qual:Str}{st:Stmt}{f:Addr}{fd:FuncData}{N ps:List Str}{k n:Nat}{mu:List Str}{mr:Bool}(F:jY K x qual st f fd)(hK:K=G.K)(hs:bW N ps (aP st)=true)(gl:tK P w K mg base G Γ (eQ G)):
  fQ P w K mg base (fZ P w) (k+1) f fd ps (eQ G ps.length (bR Γ n ⟨N,aP st,k,true,true,false,true,mu,mr⟩ (bO st))):=by
 obtain⟨S,gn⟩:=Nr hs
 refine jY.okX F S (λ vs H Q E h=>h.1) λ cdv A outer s H vs Q E hr ⟨hl,ρ,St,ds,w',hv,q⟩=>?_
 refine⟨_,(sL Γ n _ G _ _ ⟨hK,rfl,rfl,S.nd,gn,λ _ _=>rfl,Dt,λ _=>⟨rfl,hr⟩,λ _=>PassesOwn.leaving,hr.zero,S.kind,λ _=>⟨rfl,rfl⟩,hr.lt64,gl,λ e=>(by cases e)⟩).s _,Gg rfl w' hv q⟩
theorem PK{x qual:Str}{st:Stmt}{f:Addr}{fd:FuncData}{N ps:List Str}{k n:Nat}{mu:List Str}{mr:Bool}{c T:Addr}(F:oB K x qual st f fd c)(hK:K=G.K)(hs:bW N ps (aP st)=true)(gl:tK P w K mg base G Γ (eQ G))(hbm:jF mg base)(hcd:PySem.W.CodeHd base c T)(hT:T∈G.ts):
  fQ P w K mg base (fZ P w) (k+1) f fd ps (eQ G ps.length (bR Γ n ⟨N,aP st,k,true,true,true,true,mu,mr⟩ (bO st))):=by
 obtain⟨S,gn⟩:=Nr hs
 refine oB.okX F S (λ vs H Q E h=>h.1) λ A outer s H vs Q E hr ⟨hl,ρ,St,ds,w',hv,q⟩=>?_
 refine⟨_,(sL Γ n _ G _ _ ⟨hK,rfl,rfl,S.nd,gn,λ _ _=>rfl,Dt,λ _=>⟨rfl,hr⟩,λ _=>PassesOwn.leaving,hr.zero,S.kind,λ _=>⟨rfl,rfl⟩,hr.lt64,gl,λ _=>⟨hbm,c,T,rfl,hcd,hT⟩⟩).s _,Gg rfl w' hv q⟩
end
end L2
namespace L2
@[simp] noncomputable def Vy(k:Nat)(ds:List D):En:=ds.map some++List.replicate (k-ds.length) none
@[simp] noncomputable def cG(k:Nat)(g:ES)(ds:List D):EM D:=λ S=>vH (g (Vy k ds) S)
end L2
end

section
noncomputable section
namespace X06
open PySem PySem.Spec PyProof.Rows L2 PySem.W
noncomputable def aK(i:Nat):Stmt:=PySem.Challenge.pw_cardlanes_k06_stands_told.main.body.getD i (.Pass ⟨0,0,0,0⟩)
noncomputable abbrev con:List (Str×D):=[("GREATEST_BOUND",(.int 99)),("LETTERS",(.str "abcdefghijklmnopqrstuvwxyz")),("LONGEST_NAME",(.int 8)),("MOST_CARDS",(.int 30)),("MOST_WAITS",(.int 60)),("OUTSIDE",(.kt ["out","yard"])),("YARD",(.int (-1)))]
noncomputable abbrev xs:List (Str×List Str):=[]
noncomputable abbrev no:List Str:=["ValueError","all","bool","enumerate","int","isinstance","len","list","min","range","set","sorted","str","super","tuple","zip"]
noncomputable abbrev kn:List Str:=[]
noncomputable abbrev sub:List (Str×List Str):=[]
noncomputable abbrev hd:List Str:=[]
noncomputable abbrev GB(fn fh:List (Str×(Nat×Nat×(List D->EM D)))):Gb:=⟨fn,con,xs,no,kn,sub,hd,fh⟩
noncomputable def Lr:ES:=(aJ (bN (.nm 2) (Bf (cE (aI (bJ .Lt) (vE 1) (bS .len (aB (vE 0) aG)))) (aI aR (vE 0) (vE 1)) (kE (.int 0)))) (aJ (cM (cE (aI (bJ .GtE) (vE 2) (aI (bQ .Pow) (kE (.int 10)) (kE (.int 18))))) (aJ (bC (kF (aB (aI (bQ .Sub) (vE 2) (aI (bQ .Pow) (kE (.int 10)) (kE (.int 18)))) aG))) aO) aO) (aJ (bN (.nm 3) (kE (.int 0))) (aJ (bN (.nm 4) (aI (bQ .Mod) (aI (bQ .Add) (aI (bQ .Add) (aI (bQ .Mult) (vE 2) (kE (.int 48271))) (aI (bQ .Mult) (kE (.int 7919)) (vE 1))) (kE (.int 11))) (kE (.int 2147483647)))) (aJ (gZ (gX (aB (kE (.int 12)) aG)) (.nm 5) (aJ (bN (.nm 4) (aI (bQ .Mod) (aI (bQ .Add) (aI (bQ .Add) (aI (bQ .Mult) (vE 4) (vE 4)) (aI (bQ .Mult) (kE (.int 48271)) (vE 4))) (vE 5)) (kE (.int 2147483629)))) (aJ (bN (.nm 3) (aI (bQ .Add) (aI (bQ .Mult) (vE 3) (kE (.int 2147483587))) (aI (bQ .Mod) (aI (bQ .Mult) (vE 4) (kE (.int 69621))) (kE (.int 2147483587))))) aO))) (aJ (bC (kF (aB (vE 3) aG))) aO))))))
noncomputable def qZ:List D->EM D:=cG 6 Lr
noncomputable abbrev u5:Gb:=GB [] []
theorem VH:bR u5 14 ⟨["_law_script","_law_k","_law_cell","_law_total","_law_number","_law_turn"],aP (aK 39),0,true,true,false,true,[],true⟩ (bO (aK 39))=qZ:=by kernel_rfl
theorem RA:bW ["_law_script","_law_k","_law_cell","_law_total","_law_number","_law_turn"] ["_law_script","_law_k"] (aP (aK 39))=true:=by decide+kernel
noncomputable def Lm:ES:=(aJ (bN (.nm 2) (aI (bQ .Mod) (aI aR (vE 0) (kE (.int 0))) (vE 1))) (aJ (zR (aI (bQ .FloorDiv) (aI aR (vE 0) (kE (.int 0))) (vE 1)) (vE 0) (kE (.int 0))) (aJ (bC (vE 2)) aO)))
noncomputable def cS:List D->EM D:=cG 3 Lm
noncomputable abbrev q9:Gb:=GB [] []
theorem TX:bR q9 14 ⟨["_law_held","_law_many","_law_found"],aP (aK 40),0,true,true,false,true,["_law_held"],false⟩ (bO (aK 40))=cS:=by kernel_rfl
theorem PR:bW ["_law_held","_law_many","_law_found"] ["_law_held","_law_many"] (aP (aK 40))=true:=by decide+kernel
noncomputable def Ll:ES:=(aJ (bN (.nm 2) (kE (.str "abcdefghijklm"))) (aJ (bN (.nm 3) (iY .join (kE (.str "")) (aB (fB false (gX (aB (aI (bQ .Add) (kE (.int 1)) (aV 2 cS (aB (vE 0) (aB (kE (.int 7)) aG)))) aG)) 1 [0,2] (.nm 0) (λ _=>EM.ret true) (aI aR (vE 2) (aV 2 cS (aB (vE 1) (aB (kE (.int 13)) aG))))) aG))) (aJ (bN (.nm 4) (aV 2 cS (aB (vE 0) (aB (bS .len (aB (vE 3) aG)) aG)))) (aJ (bN (.nm 5) (aV 2 cS (aB (vE 0) (aB (kE (.int 26)) aG)))) (aJ (bN (.nm 6) (kE (.str "abcdefghijklmnopqrstuvwxyz"))) (aJ (bN (.nm 7) (jL (vE 3) (eF none) (eF (some (vE 4))))) (aJ (bN (.nm 8) (jL (vE 3) (eF (some (aI (bQ .Add) (vE 4) (kE (.int 1))))) (eF none))) (aJ (bN (.nm 9) (aI (bQ .Add) (jL (vE 6) (eF (some (vE 5))) (eF none)) (jL (vE 6) (eF none) (eF (some (vE 5)))))) (aJ (bN (.nm 10) (fB false (cW (vE 9)) 1 [7,8] (.nm 0) (λ _=>EM.ret true) (aI (bQ .Add) (aI (bQ .Add) (vE 1) (vE 0)) (vE 2)))) (aJ (bC (jL (aI (bQ .Add) (vE 10) (fB false (cW (vE 10)) 1 [] (.nm 0) (λ _=>EM.ret true) (aI (bQ .Add) (vE 0) (kE (.str "z"))))) (eF none) (eF (some (vE 1))))) aO))))))))))
noncomputable def nE:List D->EM D:=cG 11 Ll
noncomputable abbrev l9:Gb:=GB [("_law_take",1,2,cS)] []
theorem TW:bR l9 14 ⟨["_law_held","_law_many","_law_letters","_law_word","_law_at","_law_start","_law_signs","_law_ahead","_law_behind","_law_turned","_law_found"],aP (aK 41),1,true,true,false,true,[],false⟩ (bO (aK 41))=nE:=by kernel_rfl
theorem PQ:bW ["_law_held","_law_many","_law_letters","_law_word","_law_at","_law_start","_law_signs","_law_ahead","_law_behind","_law_turned","_law_found"] ["_law_held","_law_many"] (aP (aK 41))=true:=by decide+kernel
noncomputable def Ls:ES:=(aJ (bC (aI aR (iG (aB (kE (.int 1)) (aB (kE (.int 1)) (aB (kE (.int 2)) (aB (kE (.int 2)) (aB (kE (.int 3)) (aB (kE (.int 5)) (aB (kE (.int 99)) (aB (aI (bQ .Add) (kE (.int 1)) (aV 2 cS (aB (vE 0) (aB (kE (.int 99)) aG)))) aG))))))))) (aV 2 cS (aB (vE 0) (aB (kE (.int 8)) aG))))) aO)
noncomputable def lR:List D->EM D:=cG 1 Ls
noncomputable abbrev u6:Gb:=GB [("_law_take",1,2,cS)] []
theorem VI:bR u6 14 ⟨["_law_held"],aP (aK 42),1,true,true,false,true,[],false⟩ (bO (aK 42))=lR:=by kernel_rfl
theorem RB:bW ["_law_held"] ["_law_held"] (aP (aK 42))=true:=by decide+kernel
noncomputable def Lo:ES:=(aJ (bN (.nm 1) (aV 2 nE (aB (vE 0) (aB (kE (.int 12)) aG)))) (aJ (bN (.nm 2) (kF aG)) (aJ (gZ (gX (aB (aI (bQ .Add) (kE (.int 1)) (aV 2 cS (aB (vE 0) (aB (kE (.int 6)) aG)))) aG)) (.nm 3) (aJ (pM (pP (vE 2) (aB (fF (aB (aI aR (vE 1) (vE 3)) (aB (aV 1 lR (aB (vE 0) aG)) aG))) aG))) aO)) (aJ (bN (.nm 4) (aV 2 cS (aB (vE 0) (aB (kE (.int 7)) aG)))) (aJ (bN (.nm 5) (kF aG)) (aJ (gZ (gX (aB (aI (bQ .Add) (kE (.int 1)) (aV 2 cS (aB (vE 0) (aB (kE (.int 6)) aG)))) aG)) (.nm 3) (aJ (bN (.nm 6) (fB false (gX (aB (bS .len (aB (vE 2) aG)) aG)) 1 [0] (.nm 0) (cE (aI (bJ .Gt) (aV 2 cS (aB (vE 1) (aB (kE (.int 3)) aG))) (kE (.int 0)))) (vE 0))) (aJ (cM (cE (aI (bJ .Eq) (vE 6) (iG aG))) (aJ (bN (.nm 6) (iG (aB (aV 2 cS (aB (vE 0) (aB (bS .len (aB (vE 2) aG)) aG))) aG))) aO) aO) (aJ (bN (.nm 7) (bS .tup (aB (fB false (cW (vE 6)) 1 [0] (.nm 0) (λ _=>EM.ret true) (aV 1 lR (aB (vE 1) aG))) aG))) (aJ (pM (pP (vE 5) (aB (fF (aB (aI aR (vE 1) (aI (bQ .Add) (vE 3) (vE 4))) (aB (bS .tup (aB (vE 6) aG)) (aB (vE 7) aG)))) aG))) aO))))) (aJ (bC (fF (aB (bS .tup (aB (vE 2) aG)) (aB (bS .tup (aB (vE 5) aG)) aG)))) aO)))))))
noncomputable def qX:List D->EM D:=cG 8 Lo
noncomputable abbrev s9:Gb:=GB [("_law_words",2,2,nE),("_law_take",1,2,cS),("_law_bound",2,1,lR)] []
theorem VE:bR s9 14 ⟨["_law_held","_law_names","_law_lanes","_law_k","_law_shift","_law_kinds","_law_way","_law_bounds"],aP (aK 43),2,true,true,false,true,["_law_kinds","_law_lanes"],false⟩ (bO (aK 43))=qX:=by kernel_rfl
theorem PX:bW ["_law_held","_law_names","_law_lanes","_law_k","_law_shift","_law_kinds","_law_way","_law_bounds"] ["_law_held"] (aP (aK 43))=true:=by decide+kernel
noncomputable def Lq:ES:=(aJ (bC (aI aR (fB false (cW (aI aR (vE 0) (kE (.int 1)))) 1 [1] (.nm 0) (cE (aI (bJ .Eq) (aI aR (vE 0) (kE (.int 0))) (vE 1))) (vE 0)) (kE (.int 0)))) aO)
noncomputable def qY:List D->EM D:=cG 2 Lq
noncomputable abbrev u4:Gb:=GB [] []
theorem VG:bR u4 14 ⟨["_law_plan_here","_law_name"],aP (aK 44),0,true,true,false,true,[],false⟩ (bO (aK 44))=qY:=by kernel_rfl
theorem PZ:bW ["_law_plan_here","_law_name"] ["_law_plan_here","_law_name"] (aP (aK 44))=true:=by decide+kernel
noncomputable def Lp:ES:=(aJ (bN (.nm 2) (aI aR (aV 2 qY (aB (vE 0) (aB (aI aR (vE 1) (kE (.int 1))) aG))) (kE (.int 1)))) (aJ (bC (aI aR (aI (bQ .Add) (aI (bQ .Add) (fF (aB (Ah (kE (.int 1))) aG)) (vE 2)) (fF (aB (bS .len (aB (aI aR (vE 0) (kE (.int 0))) aG)) aG))) (aI aR (vE 1) (kE (.int 2))))) aO))
noncomputable def iF:List D->EM D:=cG 3 Lp
noncomputable abbrev u0:Gb:=GB [("_law_kind",1,2,qY)] []
theorem VF:bR u0 14 ⟨["_law_plan_here","_law_one","_law_way"],aP (aK 45),1,true,true,false,true,[],false⟩ (bO (aK 45))=iF:=by kernel_rfl
theorem PY:bW ["_law_plan_here","_law_one","_law_way"] ["_law_plan_here","_law_one"] (aP (aK 45))=true:=by decide+kernel
noncomputable def Bm:ES:=(aJ (bN (.nm 5) (fB false (cW (vE 2)) 1 [4,0] (.nm 0) (cE (aI (bJ .Eq) (aV 2 iF (aB (vE 2) (aB (vE 0) aG))) (vE 1))) (aI aR (vE 0) (kE (.int 1))))) (aJ (cM (eH (cE (iQ .LtE .Lt (kE (.int 0)) (vE 4) (bS .len (aB (aI aR (vE 0) (kE (.int 0))) aG))))) (aJ (bC (kE (.str ""))) aO) aO) (aJ (cM (cE (aI (bJ .GtE) (bS .len (aB (vE 5) aG)) (aI aR (vE 1) (vE 4)))) (aJ (bC (kE (.str "Full"))) aO) aO) (aJ (cM (cE (aI (bJ .GtE) (iY .count (vE 5) (aB (aI aR (vE 3) (kE (.int 0))) aG)) (aI aR (aI aR (vE 3) (kE (.int 2))) (iY .index (aI aR (vE 3) (kE (.int 1))) (aB (vE 4) aG))))) (aJ (bC (kE (.str "KindFull"))) aO) aO) (aJ (bC (kE (.str ""))) aO)))))
noncomputable def nG:List D->EM D:=cG 6 Bm
noncomputable abbrev r9:Gb:=GB [("_law_lane",2,2,iF)] []
theorem VD:bR r9 14 ⟨["_law_plan_here","_law_bounds","_law_cards","_law_kind_here","_law_lane_here","_law_there"],aP (aK 46),2,true,true,false,true,[],false⟩ (bO (aK 46))=nG:=by kernel_rfl
theorem PV:bW ["_law_plan_here","_law_bounds","_law_cards","_law_kind_here","_law_lane_here","_law_there"] ["_law_plan_here","_law_bounds","_law_cards","_law_kind_here","_law_lane_here"] (aP (aK 46))=true:=by decide+kernel
noncomputable def Bn:ES:=(aJ (bN (.nm 3) (fB false (cW (vE 1)) 1 [2] (.nm 0) (cE (aI (bJ .Eq) (aI aR (vE 0) (kE (.int 0))) (aI aR (vE 1) (kE (.int 2))))) (vE 0))) (aJ (bC (aI (bJ .Lt) (aV 2 iF (aB (vE 0) (aB (aI aR (vE 3) (kE (.int 0))) aG))) (bS .len (aB (aI aR (vE 0) (kE (.int 0))) aG)))) aO))
noncomputable def nH:List D->EM D:=cG 4 Bn
noncomputable abbrev u7:Gb:=GB [("_law_lane",2,2,iF)] []
theorem VJ:bR u7 14 ⟨["_law_plan_here","_law_cards","_law_wait","_law_found"],aP (aK 47),2,true,true,false,true,[],false⟩ (bO (aK 47))=nH:=by kernel_rfl
theorem RC:bW ["_law_plan_here","_law_cards","_law_wait","_law_found"] ["_law_plan_here","_law_cards","_law_wait"] (aP (aK 47))=true:=by decide+kernel
noncomputable def Ln:ES:=(aJ (bN (.nm 3) (fB false (cW (aI aR (vE 1) (kE (.int 0)))) 1 [0] (.nm 0) (λ _=>EM.ret true) (aI aR (iG (aB (aI aR (vE 0) (kE (.int 1))) (aB (aV 1 lR (aB (vE 1) aG)) aG))) (aV 2 cS (aB (vE 1) (aB (kE (.int 2)) aG)))))) (aJ (bN (.nm 4) (kF aG)) (aJ (gZ (cW (yU (aB (jL (aV 2 nE (aB (vE 0) (aB (kE (.int 30)) aG))) (eF none) (eF (some (aV 2 cS (aB (vE 0) (aB (aI (bQ .Add) (vE 2) (kE (.int 1))) aG)))))) aG))) (.nm 5) (aJ (bN (.nm 6) (aI aR (aI aR (vE 1) (kE (.int 1))) (aV 2 cS (aB (vE 0) (aB (bS .len (aB (aI aR (vE 1) (kE (.int 1))) aG)) aG))))) (aJ (bN (.nm 7) (fF (aB (vE 5) (aB (aI aR (vE 6) (kE (.int 0))) (aB (aV 2 cS (aB (vE 0) (aB (aI (bQ .Add) (bS .len (aB (aI aR (vE 6) (kE (.int 1))) aG)) (kE (.int 2))) aG))) aG))))) (aJ (cM (cE (aI (bJ .NotEq) (aV 5 nG (aB (vE 1) (aB (vE 3) (aB (vE 4) (aB (vE 6) (aB (aV 2 iF (aB (vE 1) (aB (vE 7) aG))) aG)))))) (kE (.str "")))) (aJ (bN (.nm 7) (fF (aB (vE 5) (aB (aI aR (vE 6) (kE (.int 0))) (aB (aI aR (iG (aB (kE (.int 0)) (aB (aI (bQ .Add) (bS .len (aB (aI aR (vE 6) (kE (.int 1))) aG)) (kE (.int 1))) aG))) (aV 2 cS (aB (vE 0) (aB (kE (.int 2)) aG)))) aG))))) aO) aO) (aJ (pM (pP (vE 4) (aB (aI (bQ .Add) (vE 7) (fF (aB (gP (aI (bJ .LtE) (aI aR (vE 7) (kE (.int 2))) (bS .len (aB (aI aR (vE 6) (kE (.int 1))) aG))) (aI (bJ .Eq) (aV 2 cS (aB (vE 0) (aB (kE (.int 5)) aG))) (kE (.int 0)))) aG))) aG))) aO))))) (aJ (bN (.nm 8) (kF aG)) (aJ (gZ (gX (aB (aI (bQ .Mult) (aV 2 cS (aB (vE 0) (aB (aI aR (iG (aB (kE (.int 3)) (aB (kE (.int 7)) (aB (kE (.int 7)) (aB (kE (.int 90)) aG))))) (aV 2 cS (aB (vE 0) (aB (kE (.int 4)) aG)))) aG))) (bS .int (aB (aI (bJ .NotEq) (vE 4) (iG aG)) aG))) aG)) (.nm 9) (aJ (bN (.nm 7) (aI aR (vE 4) (aV 2 cS (aB (vE 0) (aB (bS .len (aB (vE 4) aG)) aG))))) (aJ (bN (.nm 10) (aI aR (aI aR (vE 4) (aV 2 cS (aB (vE 0) (aB (bS .len (aB (vE 4) aG)) aG)))) (kE (.int 0)))) (aJ (bN (.nm 11) (fF (aB (aI aR (vE 7) (kE (.int 0))) (aB (aV 2 cS (aB (vE 0) (aB (aI (bQ .Add) (bS .len (aB (aI aR (vE 1) (kE (.int 0))) aG)) (kE (.int 1))) aG))) (aB (vE 10) aG))))) (aJ (cM (gJ (cE (aI (bJ .Lt) (aV 2 iF (aB (vE 1) (aB (vE 7) aG))) (aI aR (vE 11) (kE (.int 1))))) (eH (dR (aV 3 nH (aB (vE 1) (aB (vE 4) (aB (vE 11) aG))))))) (aJ (pM (pP (vE 8) (aB (vE 11) aG))) aO) aO) aO))))) (aJ (bC (fF (aB (bS .tup (aB (vE 3) aG)) (aB (bS .tup (aB (vE 4) aG)) (aB (bS .tup (aB (jL (yW (vE 8)) (eF none) (eF (some (kE (.int 60))))) aG)) aG))))) aO))))))
noncomputable def qW:List D->EM D:=cG 12 Ln
noncomputable abbrev r0:Gb:=GB [("_law_bound",2,1,lR),("_law_take",1,2,cS),("_law_words",2,2,nE),("_law_room",3,5,nG),("_law_lane",2,2,iF),("_law_bars",3,3,nH)] []
theorem TY:bR r0 14 ⟨["_law_held","_law_plan_here","_law_most","_law_bounds","_law_cards","_law_name","_law_kind_here","_law_one","_law_waits","_law_turn","_law_two","_law_wait"],aP (aK 48),3,true,true,false,true,["_law_cards","_law_waits"],false⟩ (bO (aK 48))=qW:=by kernel_rfl
theorem PU:bW ["_law_held","_law_plan_here","_law_most","_law_bounds","_law_cards","_law_name","_law_kind_here","_law_one","_law_waits","_law_turn","_law_two","_law_wait"] ["_law_held","_law_plan_here","_law_most"] (aP (aK 48))=true:=by decide+kernel
noncomputable def Md:ES:=(aJ (bC (gP (gF "tuple" (vE 0)) (iQ .LtE .LtE (vE 1) (bS .len (aB (vE 0) aG)) (vE 2)))) aO)
noncomputable def eR:List D->EM D:=cG 3 Md
noncomputable abbrev x5:Gb:=GB [] []
theorem VU:bR x5 14 ⟨["thing","least","most"],aP (aK 15),0,true,true,false,true,[],false⟩ (bO (aK 15))=eR:=by kernel_rfl
theorem RM:bW ["thing","least","most"] ["thing","least","most"] (aP (aK 15))=true:=by decide+kernel
noncomputable def Mb:ES:=(aJ (bC (gP (gF "int" (vE 0)) (Aa (gF "bool" (vE 0))))) aO)
noncomputable def kJ:List D->EM D:=cG 1 Mb
noncomputable abbrev w6:Gb:=GB [] []
theorem VS:bR w6 14 ⟨["thing"],aP (aK 14),0,true,true,false,true,[],false⟩ (bO (aK 14))=kJ:=by kernel_rfl
theorem RK:bW ["thing"] ["thing"] (aP (aK 14))=true:=by decide+kernel
noncomputable def Mi:ES:=(aJ (bC (gP (aV 1 kJ (aB (vE 0) aG)) (iQ .LtE .LtE (kE (.int 1)) (vE 0) (kE (.int 99))))) aO)
noncomputable def rL:List D->EM D:=cG 1 Mi
noncomputable abbrev y3:Gb:=GB [("is_whole",1,1,kJ)] []
theorem VZ:bR y3 14 ⟨["thing"],aP (aK 13),1,true,true,false,true,[],false⟩ (bO (aK 13))=rL:=by kernel_rfl
theorem RR:bW ["thing"] ["thing"] (aP (aK 13))=true:=by decide+kernel
noncomputable def Mp:ES:=(aJ (bC (gP (aV 3 eR (aB (vE 0) (aB (vE 1) (aB (vE 1) aG)))) (kY (cW (vE 0)) 1 [] (.nm 0) (λ _=>EM.ret true) (aV 1 rL (aB (vE 0) aG))))) aO)
noncomputable def pE:List D->EM D:=cG 2 Mp
noncomputable abbrev z7:Gb:=GB [("is_bound",2,1,rL),("is_tuple",1,3,eR)] []
theorem XH:bR z7 14 ⟨["thing","many"],aP (aK 12),3,true,true,true,true,[],false⟩ (bO (aK 12))=pE:=by kernel_rfl
theorem RZ:bW ["thing","many"] ["thing","many"] (aP (aK 12))=true:=by decide+kernel
noncomputable def Mg:ES:=(aJ (cM (gJ (eH (dR (gF "str" (vE 0)))) (cE (aI (bJ .In) (vE 0) (kE (.kt ["out","yard"]))))) (aJ (bC (kE (.bl false))) aO) aO) (aJ (bC (gP (iQ .LtE .LtE (kE (.int 1)) (bS .len (aB (vE 0) aG)) (kE (.int 8))) (kY (cW (vE 0)) 1 [] (.nm 0) (λ _=>EM.ret true) (aI (bJ .In) (vE 0) (kE (.str "abcdefghijklmnopqrstuvwxyz")))))) aO))
noncomputable def rJ:List D->EM D:=cG 1 Mg
noncomputable abbrev x9:Gb:=GB [] []
theorem VX:bR x9 14 ⟨["thing"],aP (aK 9),1,true,true,true,true,[],false⟩ (bO (aK 9))=rJ:=by kernel_rfl
theorem RP:bW ["thing"] ["thing"] (aP (aK 9))=true:=by decide+kernel
noncomputable def Lx:ES:=(aJ (gZ (cW (aI aR (vE 0) (kE (.int 1)))) (.nm 2) (aJ (cM (cE (aI (bJ .Eq) (aI aR (vE 2) (kE (.int 0))) (vE 1))) (aJ (bC (vE 2)) aO) aO) aO)) (aJ eT aO))
noncomputable def rA:List D->EM D:=cG 3 Lx
noncomputable abbrev v6:Gb:=GB [] []
theorem VO:bR v6 14 ⟨["plan","kind","told"],aP (aK 11),0,true,true,false,true,[],false⟩ (bO (aK 11))=rA:=by kernel_rfl
theorem RG:bW ["plan","kind","told"] ["plan","kind"] (aP (aK 11))=true:=by decide+kernel
noncomputable def Bj:ES:=(aJ (bC (aI aR (aV 2 rA (aB (vE 0) (aB (vE 1) aG))) (kE (.int 1)))) aO)
noncomputable def kG:List D->EM D:=cG 2 Bj
noncomputable abbrev l5:Gb:=GB [("kind_of",1,2,rA)] []
theorem TR:bR l5 14 ⟨["plan","kind"],aP (aK 10),1,true,true,false,true,[],false⟩ (bO (aK 10))=kG:=by kernel_rfl
theorem PM:bW ["plan","kind"] ["plan","kind"] (aP (aK 10))=true:=by decide+kernel
noncomputable def Mh:ES:=(aJ (cM (eH (dR (aV 3 eR (aB (vE 1) (aB (kE (.int 4)) (aB (kE (.int 4)) aG)))))) (aJ (bC (kE (.bl false))) aO) aO) (aJ (bN (.tp [2,3,4,5]) (vE 1)) (aJ (cM (gJ (eH (dR (aV 1 rJ (aB (vE 2) aG)))) (cE (aI (bJ .NotIn) (vE 3) (fB false (cW (aI aR (vE 0) (kE (.int 1)))) 1 [] (.nm 0) (λ _=>EM.ret true) (aI aR (vE 0) (kE (.int 0))))))) (aJ (bC (kE (.bl false))) aO) aO) (aJ (bN (.nm 6) (aI (bQ .Add) (bS .len (aB (aV 2 kG (aB (vE 0) (aB (vE 3) aG))) aG)) (kE (.int 1)))) (aJ (cM (gJ (eH (dR (aV 1 kJ (aB (vE 4) aG)))) (gJ (eH (cE (iQ .LtE .LtE (kE (.int 0)) (vE 4) (vE 6)))) (eH (dR (gF "bool" (vE 5)))))) (aJ (bC (kE (.bl false))) aO) aO) (aJ (bC (vI (aI (bJ .Lt) (vE 4) (vE 6)) (Aa (vE 5)))) aO))))))
noncomputable def rK:List D->EM D:=cG 7 Mh
noncomputable abbrev y0:Gb:=GB [("is_tuple",1,3,eR),("is_name",2,1,rJ),("way_of",2,2,kG),("is_whole",1,1,kJ)] []
theorem VY:bR y0 14 ⟨["plan","thing","name","kind","place","blocked","last"],aP (aK 31),2,true,true,false,true,[],false⟩ (bO (aK 31))=rK:=by kernel_rfl
theorem RQ:bW ["plan","thing","name","kind","place","blocked","last"] ["plan","thing"] (aP (aK 31))=true:=by decide+kernel
noncomputable def Bo:ES:=(aJ (bC (kY (oE (aB (vE 0) (aB (jL (vE 0) (eF (some (kE (.int 1)))) (eF none)) aG))) 2 [] (.tp [0,1]) (λ _=>EM.ret true) (aI (bJ .Lt) (vE 0) (vE 1)))) aO)
noncomputable def kK:List D->EM D:=cG 1 Bo
noncomputable abbrev z5:Gb:=GB [] []
theorem XF:bR z5 14 ⟨["things"],aP (aK 34),1,true,true,true,true,[],false⟩ (bO (aK 34))=kK:=by kernel_rfl
theorem RX:bW ["things"] ["things"] (aP (aK 34))=true:=by decide+kernel
noncomputable def Mo:ES:=(aJ (cM (gJ (eH (dR (aV 3 eR (aB (vE 1) (aB (kE (.int 0)) (aB (kE (.int 30)) aG)))))) (eH (dR (kY (cW (vE 1)) 1 [0] (.nm 0) (λ _=>EM.ret true) (aV 2 rK (aB (vE 1) (aB (vE 0) aG))))))) (aJ (bC (kE (.bl false))) aO) aO) (aJ (bC (aV 1 kK (aB (fB false (cW (vE 1)) 1 [] (.nm 0) (λ _=>EM.ret true) (aI aR (vE 0) (kE (.int 0)))) aG))) aO))
noncomputable def rS:List D->EM D:=cG 2 Mo
noncomputable abbrev z6:Gb:=GB [("is_tuple",1,3,eR),("is_card",3,2,rK),("are_rising",2,1,kK)] []
theorem XG:bR z6 14 ⟨["plan","thing"],aP (aK 30),4,true,true,true,true,[],false⟩ (bO (aK 30))=rS:=by kernel_rfl
theorem RY:bW ["plan","thing"] ["plan","thing"] (aP (aK 30))=true:=by decide+kernel
noncomputable def Lj:ES:=(aJ (bC (iQ .LtE .LtE (kE (.int 0)) (vE 1) (bS .len (aB (aI aR (vE 0) (kE (.int 0))) aG)))) aO)
noncomputable def qU:List D->EM D:=cG 2 Lj
noncomputable abbrev l7:Gb:=GB [] []
theorem TU:bR l7 14 ⟨["plan","lane"],aP (aK 28),0,true,true,false,true,[],false⟩ (bO (aK 28))=qU:=by kernel_rfl
theorem PN:bW ["plan","lane"] ["plan","lane"] (aP (aK 28))=true:=by decide+kernel
noncomputable def Mc:ES:=(aJ (cM (eH (dR (aV 3 eR (aB (vE 2) (aB (kE (.int 3)) (aB (kE (.int 3)) aG)))))) (aJ (bC (kE (.bl false))) aO) aO) (aJ (bN (.tp [3,4,5]) (vE 2)) (aJ (bC (gP (aI (bJ .In) (vE 3) (vE 1)) (gP (aV 1 kJ (aB (vE 4) aG)) (gP (aV 2 qU (aB (vE 0) (aB (vE 4) aG))) (aI (bJ .In) (vE 5) (vE 1)))))) aO)))
noncomputable def rG:List D->EM D:=cG 6 Mc
noncomputable abbrev w9:Gb:=GB [("is_tuple",1,3,eR),("is_whole",1,1,kJ),("may_wait_at",1,2,qU)] []
theorem VT:bR w9 14 ⟨["plan","names","thing","card","lane","other"],aP (aK 33),1,true,true,false,true,[],false⟩ (bO (aK 33))=rG:=by kernel_rfl
theorem RL:bW ["plan","names","thing","card","lane","other"] ["plan","names","thing"] (aP (aK 33))=true:=by decide+kernel
noncomputable def Mn:ES:=(aJ (bN (.nm 3) (fB false (cW (vE 1)) 1 [] (.nm 0) (λ _=>EM.ret true) (aI aR (vE 0) (kE (.int 0))))) (aJ (cM (gJ (eH (dR (aV 3 eR (aB (vE 2) (aB (kE (.int 0)) (aB (kE (.int 60)) aG)))))) (eH (dR (kY (cW (vE 2)) 1 [3,0] (.nm 0) (λ _=>EM.ret true) (aV 3 rG (aB (vE 2) (aB (vE 1) (aB (vE 0) aG)))))))) (aJ (bC (kE (.bl false))) aO) aO) (aJ (bC (aV 1 kK (aB (vE 2) aG))) aO)))
noncomputable def rR:List D->EM D:=cG 4 Mn
noncomputable abbrev y9:Gb:=GB [("is_tuple",1,3,eR),("is_wait",2,3,rG),("are_rising",2,1,kK)] []
theorem XE:bR y9 14 ⟨["plan","cards","thing","names"],aP (aK 32),3,true,true,true,true,[],false⟩ (bO (aK 32))=rR:=by kernel_rfl
theorem RW:bW ["plan","cards","thing","names"] ["plan","cards","thing"] (aP (aK 32))=true:=by decide+kernel
noncomputable def Mm:ES:=(aJ (gZ (cW (aI aR (vE 0) (kE (.int 1)))) (.nm 2) (aJ (cM (cE (aI (bJ .Eq) (aI aR (vE 2) (kE (.int 0))) (vE 1))) (aJ (bC (vE 2)) aO) aO) aO)) (aJ eT aO))
noncomputable def rQ:List D->EM D:=cG 3 Mm
noncomputable abbrev y8:Gb:=GB [] []
theorem XD:bR y8 14 ⟨["stand","card","told"],aP (aK 22),0,true,true,false,true,[],false⟩ (bO (aK 22))=rQ:=by kernel_rfl
theorem RV:bW ["stand","card","told"] ["stand","card"] (aP (aK 22))=true:=by decide+kernel
noncomputable def Lw:ES:=(aJ (cM (cE (aI (bJ .Eq) (vE 2) (kE (.int 0)))) (aJ (bC (kE (.int (-1)))) aO) aO) (aJ (bN (.nm 3) (aV 2 kG (aB (vE 0) (aB (vE 1) aG)))) (aJ (cM (cE (aI (bJ .Gt) (vE 2) (bS .len (aB (vE 3) aG)))) (aJ (bC (bS .len (aB (aI aR (vE 0) (kE (.int 0))) aG))) aO) aO) (aJ (bC (aI aR (vE 3) (aI (bQ .Sub) (vE 2) (kE (.int 1))))) aO))))
noncomputable def kI:List D->EM D:=cG 4 Lw
noncomputable abbrev v5:Gb:=GB [("way_of",2,2,kG)] []
theorem VN:bR v5 14 ⟨["plan","kind","place","way"],aP (aK 26),2,true,true,false,true,[],false⟩ (bO (aK 26))=kI:=by kernel_rfl
theorem RF:bW ["plan","kind","place","way"] ["plan","kind","place"] (aP (aK 26))=true:=by decide+kernel
noncomputable def Lv:ES:=(aJ (bN (.tp [3,4,5,6]) (aV 2 rQ (aB (vE 1) (aB (vE 2) aG)))) (aJ (bC (aV 3 kI (aB (vE 0) (aB (vE 4) (aB (vE 5) aG))))) aO))
noncomputable def nI:List D->EM D:=cG 7 Lv
noncomputable abbrev u9:Gb:=GB [("card_of",1,2,rQ),("lane_at",3,3,kI)] []
theorem VM:bR u9 14 ⟨["plan","stand","card","name","kind","place","blocked"],aP (aK 23),3,true,true,false,true,[],false⟩ (bO (aK 23))=nI:=by kernel_rfl
theorem RE:bW ["plan","stand","card","name","kind","place","blocked"] ["plan","stand","card"] (aP (aK 23))=true:=by decide+kernel
noncomputable def Mf:ES:=(aJ (bC (aI (bJ .Eq) (aV 3 nI (aB (vE 0) (aB (vE 1) (aB (vE 2) aG)))) (bS .len (aB (aI aR (vE 0) (kE (.int 0))) aG)))) aO)
noncomputable def rH:List D->EM D:=cG 3 Mf
noncomputable abbrev x8:Gb:=GB [("lane_of",4,3,nI)] []
theorem VW:bR x8 14 ⟨["plan","stand","card"],aP (aK 27),4,true,true,false,true,[],false⟩ (bO (aK 27))=rH:=by kernel_rfl
theorem RO:bW ["plan","stand","card"] ["plan","stand","card"] (aP (aK 27))=true:=by decide+kernel
noncomputable def Mj:ES:=(aJ (bN (.tp [3,4,5]) (vE 2)) (aJ (bC (vI (aI (bJ .Lt) (aV 3 nI (aB (vE 0) (aB (vE 1) (aB (vE 3) aG)))) (vE 4)) (aV 3 rH (aB (vE 0) (aB (vE 1) (aB (vE 5) aG)))))) aO))
noncomputable def rN:List D->EM D:=cG 6 Mj
noncomputable abbrev y4:Gb:=GB [("is_out",5,3,rH),("lane_of",4,3,nI)] []
theorem XA:bR y4 14 ⟨["plan","stand","wait","card","lane","other"],aP (aK 29),5,true,true,false,true,[],false⟩ (bO (aK 29))=rN:=by kernel_rfl
theorem RS:bW ["plan","stand","wait","card","lane","other"] ["plan","stand","wait"] (aP (aK 29))=true:=by decide+kernel
noncomputable def Ly:ES:=(aJ (bC (kY (cW (aI aR (vE 1) (kE (.int 2)))) 1 [0,1] (.nm 0) (λ _=>EM.ret true) (aV 3 rN (aB (vE 1) (aB (vE 2) (aB (vE 0) aG)))))) aO)
noncomputable def rB:List D->EM D:=cG 2 Ly
noncomputable abbrev v8:Gb:=GB [("holds",6,3,rN)] []
theorem VP:bR v8 14 ⟨["plan","stand"],aP (aK 37),7,true,true,true,true,[],false⟩ (bO (aK 37))=rB:=by kernel_rfl
theorem RH:bW ["plan","stand"] ["plan","stand"] (aP (aK 37))=true:=by decide+kernel
noncomputable def Ml:ES:=(aJ (bC (fB false (cW (aI aR (vE 1) (kE (.int 1)))) 4 [2,0] (.tp [0,1,2,3]) (cE (aI (bJ .Eq) (aV 3 kI (aB (vE 5) (aB (vE 1) (aB (vE 2) aG)))) (vE 4))) (vE 0))) aO)
noncomputable def rP:List D->EM D:=cG 3 Ml
noncomputable abbrev y7:Gb:=GB [("lane_at",3,3,kI)] []
theorem XC:bR y7 14 ⟨["plan","stand","lane"],aP (aK 24),3,true,true,false,true,[],false⟩ (bO (aK 24))=rP:=by kernel_rfl
theorem RU:bW ["plan","stand","lane"] ["plan","stand","lane"] (aP (aK 24))=true:=by decide+kernel
noncomputable def Ma:ES:=(aJ (bC (kY (wZ (aB (aI aR (vE 1) (kE (.int 0))) aG)) 2 [0,1] (.tp [0,1]) (λ _=>EM.ret true) (aI (bJ .LtE) (bS .len (aB (aV 3 rP (aB (vE 2) (aB (vE 3) (aB (vE 0) aG)))) aG)) (vE 1)))) aO)
noncomputable def rF:List D->EM D:=cG 2 Ma
noncomputable abbrev w5:Gb:=GB [("cards_in",4,3,rP)] []
theorem VR:bR w5 14 ⟨["plan","stand"],aP (aK 35),5,true,true,true,true,[],false⟩ (bO (aK 35))=rF:=by kernel_rfl
theorem RJ:bW ["plan","stand"] ["plan","stand"] (aP (aK 35))=true:=by decide+kernel
noncomputable def Lk:ES:=(aJ (bC (bS .len (aB (fB false (cW (aI aR (vE 1) (kE (.int 1)))) 1 [3,2,0] (.nm 0) (Cu (cE (aI (bJ .Eq) (aI aR (vE 0) (kE (.int 1))) (vE 1))) (cE (aI (bJ .Eq) (aV 3 kI (aB (vE 3) (aB (vE 1) (aB (aI aR (vE 0) (kE (.int 2))) aG)))) (vE 2)))) (vE 0)) aG))) aO)
noncomputable def qV:List D->EM D:=cG 4 Lk
noncomputable abbrev l8:Gb:=GB [("lane_at",3,3,kI)] []
theorem TV:bR l8 14 ⟨["plan","stand","lane","kind"],aP (aK 25),3,true,true,false,true,[],false⟩ (bO (aK 25))=qV:=by kernel_rfl
theorem PP:bW ["plan","stand","lane","kind"] ["plan","stand","lane","kind"] (aP (aK 25))=true:=by decide+kernel
noncomputable def Lz:ES:=(aJ (gZ (cW (aI aR (vE 0) (kE (.int 1)))) (.tp [2,3,4]) (aJ (gZ (oE (aB (vE 3) (aB (vE 4) aG))) (.tp [5,6]) (aJ (cM (cE (aI (bJ .Gt) (aV 4 qV (aB (vE 0) (aB (vE 1) (aB (vE 5) (aB (vE 2) aG))))) (vE 6))) (aJ (bC (kE (.bl false))) aO) aO) aO)) aO)) (aJ (bC (kE (.bl true))) aO))
noncomputable def rE:List D->EM D:=cG 7 Lz
noncomputable abbrev v9:Gb:=GB [("many_of",4,4,qV)] []
theorem VQ:bR v9 14 ⟨["plan","stand","kind","way","bounds","lane","bound"],aP (aK 36),4,true,true,false,true,[],false⟩ (bO (aK 36))=rE:=by kernel_rfl
theorem RI:bW ["plan","stand","kind","way","bounds","lane","bound"] ["plan","stand"] (aP (aK 36))=true:=by decide+kernel
noncomputable def Me:ES:=(aJ (cM (eH (dR (aV 3 eR (aB (vE 1) (aB (kE (.int 3)) (aB (kE (.int 3)) aG)))))) (aJ (bC (kE (.bl false))) aO) aO) (aJ (bN (.tp [2,3,4]) (vE 1)) (aJ (cM (gJ (eH (dR (aV 2 pE (aB (vE 2) (aB (bS .len (aB (aI aR (vE 0) (kE (.int 0))) aG)) aG))))) (gJ (eH (dR (aV 2 rS (aB (vE 0) (aB (vE 3) aG))))) (eH (dR (aV 3 rR (aB (vE 0) (aB (vE 3) (aB (vE 4) aG)))))))) (aJ (bC (kE (.bl false))) aO) aO) (aJ (bC (gP (aV 2 rF (aB (vE 0) (aB (vE 1) aG))) (gP (aV 2 rE (aB (vE 0) (aB (vE 1) aG))) (aV 2 rB (aB (vE 0) (aB (vE 1) aG)))))) aO))))
noncomputable def pD:List D->EM D:=cG 5 Me
noncomputable abbrev x6:Gb:=GB [("is_tuple",1,3,eR),("are_bounds",4,2,pE),("are_cards",5,2,rS),("are_waits",4,3,rR),("keeps_waits",8,2,rB),("keeps_bounds",6,2,rF),("keeps_kinds",5,2,rE)] []
theorem VV:bR x6 14 ⟨["plan","thing","bounds","cards","waits"],aP (aK 21),8,true,true,false,true,[],false⟩ (bO (aK 21))=pD:=by kernel_rfl
theorem RN:bW ["plan","thing","bounds","cards","waits"] ["plan","thing"] (aP (aK 21))=true:=by decide+kernel
noncomputable def Mk:ES:=(aJ (bC (fF (aB (yG (cW (aI aR (vE 0) (kE (.int 0)))) 2 [] (.tp [0,1]) (λ _=>EM.ret true) (vE 1)) (aB (fF aG) (aB (fF aG) aG))))) aO)
noncomputable def rO:List D->EM D:=cG 1 Mk
noncomputable abbrev y6:Gb:=GB [] []
theorem XB:bR y6 14 ⟨["plan"],aP (aK 20),1,true,true,true,true,[],false⟩ (bO (aK 20))=rO:=by kernel_rfl
theorem RT:bW ["plan"] ["plan"] (aP (aK 20))=true:=by decide+kernel
noncomputable def sJ(self:List D->EM D):ES:=(aJ (cM (gJ (dR (gF "tuple" (vE 1))) (dR (gF "list" (vE 1)))) (aJ (cM (cE (aI (bJ .NotEq) (gF "tuple" (vE 0)) (gF "tuple" (vE 1)))) (aJ (bC (kE (.bl false))) aO) aO) (aJ (cM (gJ (cE (aI (bJ .NotEq) (gF "list" (vE 0)) (gF "list" (vE 1)))) (cE (aI (bJ .NotEq) (bS .len (aB (vE 0) aG)) (bS .len (aB (vE 1) aG))))) (aJ (bC (kE (.bl false))) aO) aO) (aJ (bC (bS .all (aB (fB false (oE (aB (vE 0) (aB (vE 1) aG))) 2 [] (.tp [0,1]) (λ _=>EM.ret true) (aV 2 self (aB (vE 0) (aB (vE 1) aG)))) aG))) aO))) aO) (aJ (bC (gP (aI (bJ .Eq) (gF "bool" (vE 0)) (gF "bool" (vE 1))) (aI (bJ .Eq) (vE 0) (vE 1)))) aO))
noncomputable def fA:Nat->List D->EM D
 |0=>λ _ _=>.bad
 |n+1=>cG 2 (sJ (fA n))
noncomputable abbrev xQ(n:Nat):Gb:=GB [("_law_same",n+1,2,fA n)] []
theorem VC:bR (xQ 0) 14 ⟨["_law_found","_law_due"],aP (aK 49),1,true,true,false,true,[],false⟩ (bO (aK 49))=fA 1:=by kernel_rfl
theorem VB:bR (xQ 1) 14 ⟨["_law_found","_law_due"],aP (aK 49),2,true,true,false,true,[],false⟩ (bO (aK 49))=fA 2:=by kernel_rfl
theorem VA:bR (xQ 2) 14 ⟨["_law_found","_law_due"],aP (aK 49),3,true,true,false,true,[],false⟩ (bO (aK 49))=fA 3:=by kernel_rfl
theorem TZ:bR (xQ 3) 14 ⟨["_law_found","_law_due"],aP (aK 49),4,true,true,false,true,[],false⟩ (bO (aK 49))=fA 4:=by kernel_rfl
theorem xC:bW ["_law_found","_law_due"] ["_law_found","_law_due"] (aP (aK 49))=true:=by decide+kernel
noncomputable def Lu:ES:=(aJ (gZ (gX (aB (aI (bQ .Add) (bS .mn (aB (kE (.int 12)) (aB (bS .len (aB (vE 0) aG)) aG))) (kE (.int 1))) aG)) (.nm 1) (aJ (bN (.nm 2) (aV 2 qZ (aB (vE 0) (aB (vE 1) aG)))) (aJ (bN (.nm 3) (aV 1 qX (aB (vE 2) aG))) (aJ (bN (.nm 4) (aV 3 qW (aB (vE 2) (aB (vE 3) (aB (aI aR (iG (aB (kE (.int 8)) (aB (kE (.int 30)) aG))) (bS .int (aB (aI (bJ .Eq) (aV 2 cS (aB (vE 2) (aB (kE (.int 6)) aG))) (kE (.int 1))) aG))) aG))))) (aJ (cM (cE (aI (bJ .IsNot) (aV 2 pD (aB (vE 3) (aB (vE 4) aG))) (kE (.bl true)))) (aJ (bC (kE (.bl false))) aO) aO) (aJ (bN (.nm 5) (aV 1 rO (aB (vE 3) aG))) (aJ (bN (.nm 6) (fF (aB (bS .tup (aB (fB false (cW (aI aR (vE 3) (kE (.int 0)))) 1 [] (.nm 0) (λ _=>EM.ret true) (aI aR (vE 0) (kE (.int 1)))) aG)) (aB (fF aG) (aB (fF aG) aG))))) (aJ (cM (gJ (eH (dR (aV 2 (fA 4) (aB (vE 5) (aB (vE 6) aG))))) (cE (aI (bJ .IsNot) (aV 2 pD (aB (vE 3) (aB (vE 5) aG))) (kE (.bl true))))) (aJ (bC (kE (.bl false))) aO) aO) aO)))))))) (aJ (bC (kE (.bl true))) aO))
noncomputable def vV:List D->EM D:=cG 7 Lu
noncomputable abbrev u8:Gb:=GB [("_law_digits",1,2,qZ),("_law_plan",3,1,qX),("_law_stand",4,3,qW),("_law_take",1,2,cS),("is_stand",9,2,pD),("first_stand",2,1,rO),("_law_same",5,2,(fA 4))] []
theorem VL:bR u8 14 ⟨["_law_script","_law_k","_law_held","_law_plan_here","_law_stand_here","_law_first","_law_due"],aP (aK 50),9,true,true,false,true,[],false⟩ (bO (aK 50))=vV:=by kernel_rfl
theorem RD:bW ["_law_script","_law_k","_law_held","_law_plan_here","_law_stand_here","_law_first","_law_due"] ["_law_script"] (aP (aK 50))=true:=by decide+kernel
end X06
namespace L2
open PySem PySem.Spec PyProof.Rows
noncomputable def su(S:aD)(i:Nat)(h:Int):aD:=S.set i (.lst [.int h])
theorem Vw{S:aD}{i:Nat}{h:Int}(hi:i<S.length):(su S i h)[i]? =some (.lst [.int h]):=by simp[su,hi]
theorem Vu{S:aD}{i:Nat}{h h':Int}:(su S i h).set i (.lst [.int h'])=su S i h':=by simp[su]
theorem uS{S:aD}{i:Nat}{h:Int}:(su S i h).length=S.length:=by simp[su]
theorem Vv{S:aD}{i:Nat}{h:Int}(e:S[i]? =some (.lst [.int h])):su S i h=S:=by
 obtain⟨hi,e⟩:=List.getElem?_eq_some_iff.mp e
 unfold su
 rw[<-e]
 exact List.set_getElem_self hi
theorem cC{n:Nat}(h:n<=16777216):aQ n=true:=Nat.ble_eq_true_of_le h
theorem IU{n m:Nat}(h:n<=m):Nat.ble n m=true:=Nat.ble_eq_true_of_le h
theorem pA{n m:Nat}(h:n<m):Nat.blt n m=true:=Nat.ble_eq_true_of_le h
noncomputable def Rz{α:Type}(r:Rs α)(Q:α->aD->Prop)(E:D->aD->Prop):Prop:=match r with
 |.ok a S=>Q a S
 |.exc e S=>E e S
 |.bad=>False
noncomputable def Wz(r:Rw)(Q:Fl->En->aD->Prop)(E:D->En->aD->Prop):Prop:=match r with
 |.ok f η S=>Q f η S
 |.exc e η S=>E e η S
 |.bad=>False
noncomputable abbrev NE:D->aD->Prop:=λ _ _=>False
section
variable{α β:Type}
@[simp] theorem cR0{a:α}{S:aD}{k:α->EM β}:(Rs.ok a S).bind k=k a S:=rfl
@[simp] theorem cS0{e:D}{S:aD}{k:α->EM β}:(Rs.exc e S).bind k= .exc e S:=rfl
@[simp] theorem cT0{k:α->EM β}:(Rs.bad).bind k= .bad:=rfl
@[simp] theorem Gn{a:α}{S:aD}:EM.ret a S= .ok a S:=rfl
@[simp] theorem jW{a:α}{S:aD}{Q:α->aD->Prop}{E:D->aD->Prop}:Rz (.ok a S) Q E↔Q a S:=Iff.rfl
@[simp] theorem cY0{e:D}{S:aD}{Q:α->aD->Prop}{E:D->aD->Prop}:Rz (.exc e S) Q E↔E e S:=Iff.rfl
@[simp] theorem cZ0{Q:α->aD->Prop}{E:D->aD->Prop}:Rz .bad Q E↔False:=Iff.rfl
noncomputable def kB(k:α->EM β)(Q:β->aD->Prop)(E:D->aD->Prop):α->aD->Prop:=λ a S=>Rz (k a S) Q E
@[simp] theorem iJ{k:α->EM β}{Q:β->aD->Prop}{E:D->aD->Prop}{a:α}{S:aD}:kB k Q E a S↔Rz (k a S) Q E:=Iff.rfl
noncomputable def kS(k:α->aD->Rw)(Q:Fl->En->aD->Prop)(E:D->En->aD->Prop):α->aD->Prop:=λ a S=>Wz (k a S) Q E
@[simp] theorem lX{k:α->aD->Rw}{Q:Fl->En->aD->Prop}{E:D->En->aD->Prop}{a:α}{S:aD}:kS k Q E a S↔Wz (k a S) Q E:=Iff.rfl
@[simp] theorem kZ{r:Rs α}{k:α->EM β}{Q:β->aD->Prop}{E:D->aD->Prop}:Rz (r.bind k) Q E↔Rz r (kB k Q E) E:=by cases r<;>exact Iff.rfl
@[simp] theorem cX0{r:Rs α}{Q:α->aD->Prop}{E:D->aD->Prop}:Rz (iE r) Q E↔Rz r Q NE:=by cases r<;>exact Iff.rfl
@[simp] theorem xN{f:Fl}{η:En}{S:aD}{Q:Fl->En->aD->Prop}{E:D->En->aD->Prop}:Wz (.ok f η S) Q E↔Q f η S:=Iff.rfl
@[simp] theorem cV0{e:D}{η:En}{S:aD}{Q:Fl->En->aD->Prop}{E:D->En->aD->Prop}:Wz (.exc e η S) Q E↔E e η S:=Iff.rfl
@[simp] theorem cW0{Q:Fl->En->aD->Prop}{E:D->En->aD->Prop}:Wz .bad Q E↔False:=Iff.rfl
@[simp] theorem cU0{r:Rs α}{η:En}{k:α->aD->Rw}{Q:Fl->En->aD->Prop}{E:D->En->aD->Prop}:Wz (r.st η k) Q E↔Rz r (kS k Q E) (λ e S=>E e η S):=by cases r<;>exact Iff.rfl
noncomputable def qT(h:ES)(Q:Fl->En->aD->Prop)(E:D->En->aD->Prop):Fl->En->aD->Prop:=λ f η S=>match f with
 |.nx=>Wz (h η S) Q E
 |f=>Q f η S
@[simp] theorem vN{h:ES}{Q:Fl->En->aD->Prop}{E:D->En->aD->Prop}{η:En}{S:aD}:qT h Q E .nx η S↔Wz (h η S) Q E:=Iff.rfl
@[simp] theorem cD0{h:ES}{Q:Fl->En->aD->Prop}{E:D->En->aD->Prop}{d:D}{η:En}{S:aD}:qT h Q E (.rt d) η S↔Q (.rt d) η S:=Iff.rfl
@[simp] theorem cE0{h:ES}{Q:Fl->En->aD->Prop}{E:D->En->aD->Prop}{η:En}{S:aD}:qT h Q E .ct η S↔Q .ct η S:=Iff.rfl
@[simp] theorem cF0{h:ES}{Q:Fl->En->aD->Prop}{E:D->En->aD->Prop}{η:En}{S:aD}:qT h Q E .bk η S↔Q .bk η S:=Iff.rfl
@[simp] theorem Pk{g h:ES}{η:En}{S:aD}{Q:Fl->En->aD->Prop}{E:D->En->aD->Prop}:Wz (aJ g h η S) Q E↔Wz (g η S) (qT h Q E) E:=by
 unfold aJ
 cases g η S with
 |ok f η' S'=>cases f<;>exact Iff.rfl
 |exc e η' S'=>exact Iff.rfl
 |bad=>exact Iff.rfl
noncomputable def fin(Q:D->aD->Prop):Fl->En->aD->Prop:=λ f _ S=>match f with
 |.nx=>Q .non S
 |.rt d=>Q d S
 |_=>False
@[simp] theorem cQ0{Q:D->aD->Prop}{η:En}{S:aD}:fin Q .nx η S↔Q .non S:=Iff.rfl
@[simp] theorem cP0{Q:D->aD->Prop}{d:D}{η:En}{S:aD}:fin Q (.rt d) η S↔Q d S:=Iff.rfl
@[simp] theorem Pp{r:Rw}{Q:D->aD->Prop}{E:D->aD->Prop}:Rz (vH r) Q E↔Wz r (fin Q) (λ e _ S=>E e S):=by
 cases r with
 |ok f η S=>cases f<;>exact Iff.rfl
 |exc e η S=>exact Iff.rfl
 |bad=>exact Iff.rfl
theorem Rz.mono{r:Rs α}{Q Q':α->aD->Prop}{E E':D->aD->Prop}(h:Rz r Q E)(k:∀a S,Q a S->Q' a S)(l:∀e S,E e S->E' e S):Rz r Q' E':=by
 cases r with
 |ok a S=>exact k a S h
 |exc e S=>exact l e S h
 |bad=>exact h
theorem Rz.to{r:Rs α}{Q Q':α->aD->Prop}{E':D->aD->Prop}(h:Rz r Q NE)(k:∀a S,Q a S->Q' a S):Rz r Q' E':=h.mono k λ _ _ z=>z.elim
theorem Wz.mono{r:Rw}{Q Q':Fl->En->aD->Prop}{E E':D->En->aD->Prop}(h:Wz r Q E)(k:∀f η S,Q f η S->Q' f η S)(l:∀e η S,E e η S->E' e η S):Wz r Q' E':=by
 cases r with
 |ok f η S=>exact k f η S h
 |exc e η S=>exact l e η S h
 |bad=>exact h
theorem Rz.ok{r:Rs α}{Q:α->aD->Prop}(h:Rz r Q NE):∃a S,r= .ok a S/\Q a S:=by
 cases r with
 |ok a S=>exact⟨a,S,rfl,h⟩
 |exc e S=>exact h.elim
 |bad=>exact h.elim
end
theorem cK{α:Type}{r:Rs α}{a:α}{S:aD}(h:Rz r (λ b S'=>b=a/\S'=S) NE):r= .ok a S:=by
 cases r with
 |ok b S'=>obtain⟨rfl,rfl⟩:=h;rfl
 |exc e S'=>exact h.elim
 |bad=>exact h.elim
theorem xE{f:D->EM (Option D)}{R:aD->Prop}{P:D->Prop}{Q:List D->aD->Prop}{E:D->aD->Prop}:∀{items:List D} {S:aD},R S->(∀d∈items,∀S,R S->Rz (f d S) (λ o S'=>R S'/\∃z,o=some z/\P z) E)->(∀zs S',R S'->zs.length=items.length->(∀z∈zs,P z)->Q zs S')->Rz (eJ f items S) Q E
 |[],S,hS,_,q=>q [] S hS rfl λ _ h=>nomatch h
 |d::r,S,hS,h,q=>by
  simp only[eJ,kZ]
  refine(h d List.mem_cons_self S hS).mono (λ o S1 ⟨r1,z,e,pz⟩=>?_) λ _ _ z=>z
  subst e
  rw[iJ,kZ]
  refine xE r1 (λ x hx=>h x (List.mem_cons_of_mem _ hx)) λ zs S' hS' hl hp=>q (z::zs) S' hS' (by simp[hl]) λ y hy=>?_
  rcases List.mem_cons.mp hy with rfl|hy
  ·exact pz
  ·exact hp y hy
theorem Ci{α:Type}{f:D->EM (Option D)}{g:α->D}{k:α->Option D}{S:aD}{Q:List D->aD->Prop}{E:D->aD->Prop}:∀{xs:List α},(∀x∈xs,f (g x) S= .ok (k x) S)->Q (xs.filterMap k) S->Rz (eJ f (xs.map g) S) Q E
 |[],_,q=>q
 |x::xs,h,q=>by
  rw[List.map_cons]
  simp only[eJ,kZ]
  rw[h x List.mem_cons_self]
  simp only[jW,iJ,kZ]
  refine Ci (λ y hy=>h y (List.mem_cons_of_mem _ hy)) ?_
  cases e:k x<;>simpa[kB,EM.ret,vJ,List.filterMap_cons,e]using q
theorem mJ{α:Type}{f:D->EM (Option D)}{g k:α->D}{S:aD}{Q:List D->aD->Prop}{E:D->aD->Prop}{xs:List α}(h:∀x∈xs,f (g x) S= .ok (some (k x)) S)(q:Q (xs.map k) S):Rz (eJ f (xs.map g) S) Q E:=by
 refine Ci (k:=λ x=>some (k x)) h ?_
 have:xs.filterMap (λ x=>some (k x))=xs.map k:=by
  clear h q
  induction xs with
  |nil=>rfl
  |cons x xs ih=>simp[ih]
 rw[this];exact q
theorem nQ{α:Type}{f:D->EM (Option D)}{g k:α->D}{p:α->Bool}{S:aD}{Q:List D->aD->Prop}{E:D->aD->Prop}{xs:List α}(h:∀x∈xs,f (g x) S= .ok (if p x=true then some (k x)else none) S)(q:Q ((xs.filter p).map k) S):Rz (eJ f (xs.map g) S) Q E:=by
 refine Ci (k:=λ x=>if p x=true then some (k x)else none) h ?_
 have:xs.filterMap (λ x=>if p x=true then some (k x)else none)=(xs.filter p).map k:=by
  clear h q
  induction xs with
  |nil=>rfl
  |cons x xs ih=>
   rw[List.filterMap_cons,List.filter_cons]
   cases e:p x<;>simp[ih]
 rw[this];exact q
noncomputable def lp(J:En->aD->Prop)(Q:Fl->En->aD->Prop):Fl->En->aD->Prop:=λ f η S=>match f with
 |.nx=>J η S
 |.ct=>J η S
 |.bk=>Q .nx η S
 |.rt d=>Q (.rt d) η S
@[simp] theorem cJ0{J:En->aD->Prop}{Q:Fl->En->aD->Prop}{η:En}{S:aD}:lp J Q .nx η S↔J η S:=Iff.rfl
@[simp] theorem cK0{J:En->aD->Prop}{Q:Fl->En->aD->Prop}{η:En}{S:aD}:lp J Q .ct η S↔J η S:=Iff.rfl
@[simp] theorem cL0{J:En->aD->Prop}{Q:Fl->En->aD->Prop}{η:En}{S:aD}:lp J Q .bk η S↔Q .nx η S:=Iff.rfl
@[simp] theorem cI0{J:En->aD->Prop}{Q:Fl->En->aD->Prop}{d:D}{η:En}{S:aD}:lp J Q (.rt d) η S↔Q (.rt d) η S:=Iff.rfl
theorem jT{t:Tg}{g:ES}{Q:Fl->En->aD->Prop}{E:D->En->aD->Prop}(I:Nat->En->aD->Prop):∀{items:List D} {n:Nat} {η:En} {S:aD},I n η S->(∀k d η S,items[k]? =some d->I (n+k) η S->∃η1,aX t d η=some η1/\Wz (g η1 S) (lp (I (n+k+1)) Q) E)->(∀η S,I (n+items.length) η S->Q .nx η S)->Wz (jB t g items η S) Q E
 |[],n,η,S,h,_,q=>q η S h
 | d::r,n,η,S,h,st,q=>by
  obtain⟨η1,e1,w⟩:=st 0 d η S rfl h
  simp only[jB,e1]
  have rest:∀η' S',I (n+1) η' S'->Wz (jB t g r η' S') Q E:=λ η' S' h'=>jT I h' (λ k d' η' S' hk hi=>by
   have:=st (k+1) d' η' S' (by simpa using hk) (by rw[show n+(k+1)=n+1+k from Qa];exact hi)
   rw[show n+(k+1)+1=n+1+k+1 from Qa]at this
   exact this) λ η S h=>q η S (by rw[List.length_cons,show n+(r.length+1)=n+1+r.length from Qa];exact h)
  cases e:g η1 S with
  |ok f η2 S2=>
   rw[e]at w
   cases f with
   |nx=>exact rest η2 S2 w
   |ct=>exact rest η2 S2 w
   |bk=>exact w
   |rt d=>exact w
  |exc x η2 S2=>rw[e]at w;exact w
  |bad=>rw[e]at w;exact w
theorem Bt{α:Type}{f:α->D}{pr:α->Bool}{t:Tg}{g:ES}{S:aD}{b:Option α->En}{Q:Fl->En->aD->Prop}{E:D->En->aD->Prop}(hs:∀x o,aX t (f x) (b o)=some (b (some x))):∀{xs:List α} {o:Option α},(∀x∈xs,pr x=false->Wz (g (b (some x)) S) (λ f η S'=>f= .nx/\η=b (some x)/\S'=S) (λ _ _ _=>False))->(∀x,xs.find? pr=some x->Wz (g (b (some x)) S) (lp (λ _ _=>False) Q) E)->(xs.find? pr=none->∀o,Q .nx (b o) S)->Wz (jB t g (xs.map f) (b o) S) Q E
 |[],o,_,_,q=>q rfl o
 | x::xs,o,hn,hy,q=>by
  rw[List.map_cons]
  simp only[jB,hs]
  cases e:pr x with
  | true=>
   have h:=hy x (List.find?_cons_of_pos e)
   cases e2:g (b (some x)) S with
   |ok f η S'=>
    rw[e2]at h
    cases f with
    |nx=>exact h.elim
    |ct=>exact h.elim
    |bk=>exact h
    |rt d=>exact h
   |exc z η S'=>rw[e2]at h;exact h
   |bad=>rw[e2]at h;exact h
  | false=>
   have h:=hn x List.mem_cons_self e
   cases e2:g (b (some x)) S with
   |ok f η S'=>
    rw[e2]at h
    obtain⟨rfl,rfl,rfl⟩:=h
    have e3:(x::xs).find? pr=xs.find? pr:=List.find?_cons_of_neg (by simp[e])
    rw[e3]at hy q
    exact Bt hs (λ y hy'=>hn y (List.mem_cons_of_mem _ hy')) hy q
   |exc z η S'=>rw[e2]at h;exact h.elim
   |bad=>rw[e2]at h;exact h.elim
theorem bD{α:Type}{xs:List α}{i:Int}(h0:0<=i):atI xs i=xs[i.toNat]?:=by
 unfold atI kM
 rw[if_pos h0]
 by_cases h:i<xs.length
 ·rw[if_pos h];rfl
 ·rw[if_neg h,List.getElem?_eq_none Qa];rfl
theorem Ch{ds:List D}{i:Int}(h:0<=i):hJ ds none (some i)=ds.take i.toNat:=by
 unfold hJ
 show(ds.drop 0).take ((if i<0 then _ else min i.toNat ds.length)-0)=_
 rw[if_neg Qa,List.drop_zero,Nat.sub_zero]
 by_cases q:i.toNat<=ds.length
 ·rw[Nat.min_eq_left q]
 ·rw[Nat.min_eq_right Qa,List.take_length,List.take_of_length_le Qa]
theorem Xz(l:List Nat):lL (tx l)=l.map λ c=>D.str (tx [c]):=by
 unfold lL tx
 simp
theorem yQ:∀xs:List Str,jJ (xs.map D.str)=some xs
 |[]=>rfl
 |x::xs=>by rw[List.map_cons,jJ,yQ xs];rfl
theorem pG{lo:Int}{n:Nat}:(gI lo n).length=n:=by simp[gI]
theorem pL{lo:Int}{n k:Nat}{d:D}(h:(gI lo n)[k]? =some d):k<n/\d= .int (lo+k):=by
 have hk:k<n:=by
  have:=(List.getElem?_eq_some_iff.mp h).1
  rwa[pG]at this
 refine⟨hk,?_⟩
 simp only[gI,List.getElem?_map,List.getElem?_range hk,Option.map_some,Option.some.injEq]at h
 exact h.symm
theorem oU{i:Int}(h0:0<=i)(h1:i<=1000000):jN i=true:=Nat.ble_eq_true_of_le Qa
end L2
namespace X06
open PySem PySem.Spec PyProof.Rows L2 PySem.W
theorem dP{S:aD}{i:Nat}{h m:Int}(hi:i<S.length)(hm:0<m)(hm2:m<1073741824):Rz (cS [.ref i,.int m] (su S i h)) (λ d S'=>∃v h',d= .int v/\S'=su S i h'/\0<=v/\v<m) NE:=by
 simp[cS,Lm,aX,vE,Vw hi,atI,kM,hm,hm2,Vu]
 exact⟨⟨_,rfl⟩,Int.emod_nonneg _ Qa,Int.emod_lt_of_pos _ hm⟩
theorem i5:("abcdefghijklm" :Str)=tx (List.range' 97 13):=by decide+kernel
theorem xK:azl.length=26:=by decide
theorem Ec{S:aD}{i:Nat}{h m:Int}(hi:i<S.length)(m0:0<=m)(m1:m<=52):Rz (nE [.ref i,.int m] (su S i h)) (λ d S'=>∃(ns:List Str) (h':Int),d= .lst (ns.map .str)/\S'=su S i h'/\(ns.length:Int)=m/\ns.Nodup/\∀x∈ns,nm x=true) NE:=by
 simp[nE,Ll,vE]
 refine(dP hi Qc Qc).to ?_
 rintro _ _ ⟨v7,h1,rfl,rfl,a1,b1⟩
 have k0:jN (1+v7)=true:=oU Qa Qa
 have k1:aQ (gI 0 (1+v7).toNat).length=true:=cC (by rw[pG];omega)
 simp[k0,k1]
 refine xE (R:=λ S'=>∃h',S'=su S i h') (P:=λ z=>∃c,z= .str (tx [c])/\97<=c/\c<=109) ⟨h1,rfl⟩ ?_ ?_
 ·rintro d _ _ ⟨h',rfl⟩
  simp[aX,sP,vE]
  refine(dP hi Qc Qc).to ?_
  rintro _ _ ⟨v,h2,rfl,rfl,a2,b2⟩
  have e3:atI ("abcdefghijklm" :Str).cps.toList v=some (97+v.toNat):=by
   rw[bD a2,i5]
   show(List.range' 97 13)[v.toNat]? =_
   rw[List.getElem?_range' Qa];simp
  have e4:aQ ("abcdefghijklm" :Str).length=true:=by decide+kernel
  simp[e3,e4]
  exact⟨⟨h2,rfl⟩,97+v.toNat,rfl,Qa,Qa⟩
 rintro zs _ ⟨h2,rfl⟩ hl p
 have W:∃l:List Nat,zs=(l.map λ c=>tx [c]).map .str/\∀x∈l,97<=x/\x<=109:=by
  clear hl
  induction zs with
  |nil=>exact⟨[],rfl,λ _ h=>nomatch h⟩
  |cons z zs ih=>
   obtain⟨l,rfl,hl⟩:=ih λ y hy=>p y (List.mem_cons_of_mem _ hy)
   obtain⟨c,rfl,hc⟩:=p z List.mem_cons_self
   refine⟨c::l,rfl,λ x hx=>?_⟩
   rcases List.mem_cons.mp hx with rfl|hx
   ·exact hc
   ·exact hl x hx
 obtain⟨l,rfl,hll⟩:=W
 rw[List.length_map,List.length_map,pG]at hl
 have l0:("" :Str).length=0:=by decide
 have k3:Nat.ble (((l.map λ c=>tx [c]).map (·.length)).sum+(l.map λ c=>tx [c]).length*("" :Str).length) 16777216=true:=IU (by rw[KM,l0];omega)
 have k4:Txt.join ("" :Str) (l.map λ c=>tx [c])=tx l:=Sw l
 have k5:aQ l.length=true:=cC Qa
 simp only[iJ,lX,kZ,eZ,Gn,pC,rW,lstD,Option.bind_some,yQ,k3,k4,cI,jW,pH,pO,iV,k5,Nat.beq]
 simp[pH,iV,k5,aX]
 have hp:0<(l.length:Int):=by omega
 refine(dP hi hp Qa).to ?_
 rintro _ _ ⟨at1,h3,rfl,rfl,a3,b3⟩
 simp[aX]
 refine(dP hi Qc Qc).to ?_
 rintro _ _ ⟨st,h4,rfl,rfl,a4,b4⟩
 have q1:Txt.slice (tx l) none (some at1)=tx (l.take at1.toNat):=Ei a3 Qa
 have q2:Txt.slice (tx l) (some (at1+1)) none=tx (l.drop (at1+1).toNat):=Ej Qa Qa
 have q3:Txt.slice (tx azl) none (some st)=tx (azl.take st.toNat):=Ei a4 (by rw[xK];omega)
 have q4:Txt.slice (tx azl) (some st) none=tx (azl.drop st.toNat):=Ej a4 (by rw[xK];omega)
 have k6:aQ ((tx (azl.drop st.toNat)).length+(tx (azl.take st.toNat)).length)=true:=cC (by rw[iV,iV,List.length_drop,List.length_take,xK];omega)
 have hTl:(azl.drop st.toNat++azl.take st.toNat).length=26:=by rw[List.length_append,List.length_drop,List.length_take,xK];omega
 have hTn:(azl.drop st.toNat++azl.take st.toNat).Nodup:=XZ _ Qa
 have hTa:∀c∈azl.drop st.toNat++azl.take st.toNat,97<=c/\c<=122:=λ c hc=>c5 c (by
  rcases List.mem_append.mp hc with h|h
  ·exact List.mem_of_mem_drop h
  ·exact List.mem_of_mem_take h)
 have k5':aQ (tx l).length=true:=by rw[iV];exact k5
 have kz:aQ (tx azl).length=true:=by decide+kernel
 simp[XY,kz,k5',aX,q1,q2,q3,q4,lI,k6,Xz,-List.map_append,-List.length_append,-List.map_drop,-List.map_take]
 generalize azl.drop st.toNat++azl.take st.toNat=T at hTl hTn hTa⊢
 have A7:(l.take at1.toNat).length+(l.drop (at1+1).toNat).length<=6:=by rw[List.length_take,List.length_drop];omega
 have hA:∀x∈l.take at1.toNat,97<=x/\x<=109:=λ x hx=>hll x (List.mem_of_mem_take hx)
 have hB:∀x∈l.drop (at1+1).toNat,97<=x/\x<=109:=λ x hx=>hll x (List.mem_of_mem_drop hx)
 generalize l.take at1.toNat=A at A7 hA⊢
 generalize l.drop (at1+1).toNat=B at A7 hB⊢
 have k7:aQ T.length=true:=cC Qa
 simp[k7]
 refine mJ (k:=λ c=>.str (tx (A++c::B))) (λ c _=>?_) ?_
 ·have e1:aQ (A.length+1)=true:=cC Qa
  have e2:aQ (A.length+1+B.length)=true:=cC Qa
  simp[aX,vE,iV,e1,e2,lI]
 have hN:(T.map λ c=>D.str (tx (A++c::B)))=(L2.iX A B T).map .str:=by unfold L2.iX;rw[List.map_map];rfl
 have n1:∀x∈L2.iX A B T,nm x=true/\nm (x++("z" :Str))=true/\x.length<=7:=λ x hx=>by
  obtain⟨c,hc,rfl⟩:=List.mem_map.mp hx
  exact⟨KB Qa hA hB (hTa c hc),KA A7 hA hB (hTa c hc),by rw[iV,List.length_append,List.length_cons];omega⟩
 have n2:=IV (A:=A) (B:=B) hTn
 have n3:(L2.iX A B T).length=26:=by unfold L2.iX;rw[List.length_map,hTl]
 rw[hN]
 generalize L2.iX A B T=N at n1 n2 n3⊢
 have k8:aQ N.length=true:=cC Qa
 simp[eZ,k8]
 refine mJ (k:=λ x=>.str (x++("z" :Str))) (λ x hx=>?_) ?_
 ·have e1:aQ (x.length+("z" :Str).length)=true:=cC (by rw[uH,iV];have:=(n1 x hx).2.2;show x.length+1<=_;omega)
  simp[aX,vE,e1]
 have k9:aQ (N.length+N.length)=true:=cC Qa
 simp[k9]
 rw[Ch m0]
 refine⟨(N++N.map λ x=>x++("z" :Str)).take m.toNat,by simp;rfl,⟨_,rfl⟩,?_,List.Nodup.sublist (List.take_sublist _ _) n2,λ x hx=>?_⟩
 ·rw[List.length_take,List.length_append,List.length_map,n3];omega
 ·rcases List.mem_append.mp (List.mem_of_mem_take hx)with h|h
  ·exact(n1 x h).1
  ·obtain⟨y,hy,rfl⟩:=List.mem_map.mp h
   exact(n1 y hy).2.1
end X06
namespace L2
open PySem PySem.Spec PyProof.Rows
noncomputable def bV(k:Kd):D:=.tup [.str k.nm,.tup (k.way.map .int),.tup (k.bds.map .int)]
noncomputable def dQ(l:Str×Int):D:=.tup [.str l.1,.int l.2]
noncomputable def aZ(p:Pl):D:=.tup [.tup (p.ls.map dQ),.tup (p.ks.map bV)]
noncomputable def cR(s:Sd):D:=.tup [.tup (s.bs.map .int),.tup (s.cs.map bL),.tup (s.ws.map cH)]
theorem uR{S l:aD}{i:Nat}{h:Int}(hi:i<S.length):su S i h++l=su (S++l) i h:=by
 unfold su
 rw[List.set_append_left _ _ hi]
theorem eP{S:aD}{i j:Nat}{h:Int}(n:¬i=j):(su S i h)[j]? =S[j]?:=by
 unfold su
 rw[List.getElem?_set_ne n]
theorem oO{S:aD}{i j:Nat}{h:Int}{o:Ob}(n:¬i=j):(su S i h).set j o=su (S.set j o) i h:=by
 unfold su
 rw[List.set_comm _ _ n]
theorem fS{S r:aD}{a:Ob}:(S++a::r)[S.length]? =some a:=by
 rw[List.getElem?_append_right (Nat.le_refl _),Nat.sub_self];rfl
theorem qI{S r:aD}{a b:Ob}:(S++a::b::r)[S.length+1]? =some b:=by
 rw[List.getElem?_append_right Qa,Nat.add_sub_cancel_left];rfl
theorem zT{S r:aD}{a x:Ob}:(S++a::r).set S.length x=S++x::r:=by
 rw[List.set_append_right _ _ (Nat.le_refl _),Nat.sub_self];rfl
theorem zS{S r:aD}{a b x:Ob}:(S++a::b::r).set (S.length+1) x=S++a::x::r:=by
 rw[List.set_append_right _ _ Qa,Nat.add_sub_cancel_left];rfl
theorem kT{S:aD}{i j:Int}:gN S (.int i) (.int j)=some (decide (i=j)):=by
 show some (PyData.eqv (.int i) (.int j))=_
 rfl
theorem sM{S:aD}{a b:Str}(ha:PyData.strOk a=true)(hb:PyData.strOk b=true):gN S (.str a) (.str b)=some (a==b):=by
 have ea:SeqAt.shaped (.str a)=true:=Sh.shaped (n:=0) ⟨ha,Nat.le_refl _⟩
 have eb:SeqAt.shaped (.str b)=true:=Sh.shaped (n:=0) ⟨hb,Nat.le_refl _⟩
 show(match SeqAt.shaped (.str a)&&SeqAt.shaped (.str b)with|true=>some (PyData.eqv (.str a) (.str b))|false=>none)=_
 rw[ea,eb]
 rfl
theorem Ae{x:Str}(h:nm x=true):PyData.strOk x=true:=(Ag h).1
theorem nP{S:aD}{a b:Str}(ha:nm a=true)(hb:nm b=true):gN S (.str a) (.str b)=some (a==b):=sM (Ae ha) (Ae hb)
theorem Gy:∀l:List Int,fK (l.map D.int)=some (l.map .int)
 |[]=>rfl
 |i::l=>by
  show(match gD (.int i),fK (l.map D.int)with|some p,some q=>some (p::q)|_,_=>none)=_
  rw[Gy l];rfl
theorem PC{S:aD}{l:List Int}:gN S (.lst (l.map D.int)) (.lst [])=some l.isEmpty:=by
 have e:gD (.lst (l.map D.int))=some (.list (l.map .int)):=by
  show(fK (l.map D.int)).map PyData.list=_
  rw[Gy];rfl
 have sh:SeqAt.shaped (.list (l.map PyData.int))=true:=Sh.shaped (n:=1) (Sh.lst λ d hd=>by
  obtain⟨j,_,rfl⟩:=List.mem_map.mp hd
  exact Fy j)
 show(match gD (.lst (l.map D.int)),gD (.lst [])with|some p,some q=>(match SeqAt.shaped p&&SeqAt.shaped q with|true=>some (PyData.eqv p q)|false=>none)|_,_=>none)=_
 rw[e]
 show(match SeqAt.shaped (.list (l.map PyData.int))&&SeqAt.shaped (.list [])with|true=>some (PyData.eqv (.list (l.map PyData.int)) (.list []))|false=>none)=_
 rw[sh]
 cases l with
 |nil=>rfl
 |cons=>rfl
theorem Bv:∀xs:List Str,fN (xs.map D.str)=some (xs.map V.str)
 |[]=>rfl
 |x::xs=>by rw[List.map_cons,fN,Bv xs];rfl
theorem My:∀xs:List Int,fN (xs.map D.int)=some (xs.map V.int)
 |[]=>rfl
 |x::xs=>by rw[List.map_cons,fN,My xs];rfl
theorem SG(a:Str):∀xs:List Str,((xs.map V.str).countP λ u=>dX u (.str a))=(xs.filter (· ==a)).length:=λ xs=>by
 rw[List.countP_map,List.countP_eq_length_filter]
 rfl
theorem Bs(l:Int):∀w:List Int,l∈w->nK (.int l) (w.map V.int)=some (w.findIdx (· ==l))
 |[],h=>nomatch h
 | x::w,h=>by
  rw[List.map_cons,nK,List.findIdx_cons]
  show(match(x==l)with|true=>some 0|false=>_)=_
  cases e:x==l with
  |true=>rfl
  | false=>
   have:l∈w:=by
    rcases List.mem_cons.mp h with rfl|h
    ·simp at e
    ·exact h
   rw[Bs l w this];rfl
theorem Pf:∀ws:List Wt,kU mT (ws.map cH)=some ws
 |[]=>rfl
 |w::ws=>by
  rw[List.map_cons,kU,Pf ws];rfl
theorem PD{S:aD}{j:Nat}{cs:List Cd}(h:S[j]? =some (.lst (cs.map bL)))(hn:∀c∈cs,nm c.nm=true/\nm c.kd=true):gN S (.ref j) (.lst [])=some cs.isEmpty:=by
 have e:pyS S (.ref j)=some (.list (cs.map Cd.d)):=by
  show(match S[j]? with|some (.lst ds)=>(fK ds).map PyData.list|_=>none)=_
  rw[h]
  show(fK (cs.map bL)).map PyData.list=_
  rw[zO SI];rfl
 have sh:SeqAt.shaped (.list (cs.map Cd.d))=true:=Sh.shaped (n:=2) (Sh.lst λ d hd=>by
  obtain⟨c,hc,rfl⟩:=List.mem_map.mp hd
  refine Sh.tup λ d hd=>?_
  simp only[List.mem_cons,List.not_mem_nil,or_false]at hd
  rcases hd with rfl|rfl|rfl|rfl
  ·exact Fx (hn c hc).1
  ·exact Fx (hn c hc).2
  ·exact Fy _
  ·exact Xy _)
 show(match pyS S (.ref j),gD (.lst [])with|some p,some q=>(match SeqAt.shaped p&&SeqAt.shaped q with|true=>some (PyData.eqv p q)|false=>none)|_,_=>none)=_
 rw[e]
 show(match SeqAt.shaped (.list (cs.map Cd.d))&&SeqAt.shaped (.list [])with|true=>some (PyData.eqv (.list (cs.map Cd.d)) (.list []))|false=>none)=_
 rw[sh]
 cases cs with
 |nil=>rfl
 |cons=>rfl
theorem Hy:∀{xs:List Str},xs.Nodup->iW xs=true
 |[],_=>rfl
 |x::r,h=>by
  have h:=List.nodup_cons.mp h
  show(!cL x r&&iW r)=true
  rw[Hy h.2]
  cases e:cL x r with
  |false=>rfl
  |true=>exact(h.1 (gM e)).elim
theorem Gj:∀{x:Str} {r:List Str},(x::r).Pairwise (λ a b=>eA a b=true)->risingS x r=true
 |x,[],_=>rfl
 |x,y::r,h=>by
  have h1:=List.pairwise_cons.mp h
  show(!ltCps y.cps.toList x.cps.toList&&risingS y r)=true
  rw[Gj h1.2,ltCps_eq]
  have:=of_decide_eq_true (h1.1 y List.mem_cons_self)
  rw[decide_eq_false (List.lt_asymm this)];rfl
theorem Xl:∀{xs:List Str},xs.Pairwise (λ a b=>eA a b=true)->sortedS xs=true
 |[],_=>rfl
 |x::r,h=>Gj h
theorem Xd(xs:List Str):sortedS (dW eA xs)=true:=Xl (oQ ordS xs)
theorem Fi(xs:List Str):(dW eA xs).Nodup:=(oQ ordS xs).imp fun{a b} h e=>by
 subst e
 rw[ordS.irr]at h
 cases h
theorem Xf{xs:List Str}(h:xs.Nodup):(dW eA xs).length=xs.length:=by
 have p:(dW eA xs).Perm xs:=(List.perm_ext_iff_of_nodup (Fi xs) h).mpr λ a=>nA ordS
 exact p.length_eq
theorem Xh{S:aD}{xs:List Str}(h:xs.Nodup)(hl:xs.length<64):yV (.lst (xs.map .str)) S=some ((dW eA xs).map .str):=by
 show(match Nat.blt (xs.map D.str).length 64 with|true=>(match jJ (xs.map D.str)with|some xs=>(match iW xs with|true=>some ((dW eA xs).map D.str)|false=>none)|none=>_)|false=>none)=_
 rw[pA (by rw[List.length_map];exact hl),yQ]
 show(match iW xs with|true=>some ((dW eA xs).map D.str)|false=>none)=_
 rw[Hy h]
theorem Mx{α:Type}{p:α->Bool}{l:List α}:(l.filter p)[0]? =l.find? p:=by rw[<-List.head?_eq_getElem?,List.head?_filter]
theorem AR{n:Nat}:gI 0 n=(List.range n).map λ k:Nat=>D.int (k:Int):=by
 unfold gI
 exact List.map_congr_left λ k _=>by rw[Int.zero_add]
theorem Oc{α:Type}{f:D->EM (Option D)}{g k:α->D}{R:aD->Prop}{Q:List D->aD->Prop}{E:D->aD->Prop}:∀{xs:List α} {S:aD},R S->(∀x∈xs,∀S,R S->Rz (f (g x) S) (λ o S'=>R S'/\(o=none\/o=some (k x))) E)->(∀(ys:List α) S',R S'->ys.Sublist xs->Q (ys.map k) S')->Rz (eJ f (xs.map g) S) Q E
 |[],S,hS,_,q=>q [] S hS (List.Sublist.refl _)
 |x::xs,S,hS,h,q=>by
  rw[List.map_cons]
  simp only[eJ,kZ]
  refine(h x List.mem_cons_self S hS).mono (λ o S1 ⟨r1,e⟩=>?_) λ _ _ z=>z
  rw[iJ,kZ]
  refine Oc r1 (λ y hy=>h y (List.mem_cons_of_mem _ hy)) λ ys S' hS' hl=>?_
  rcases e with rfl|rfl
  ·exact q ys S' hS' (hl.cons _)
  ·exact q (x::ys) S' hS' (hl.cons₂ _)
end L2
namespace X06
open PySem PySem.Spec PyProof.Rows L2 PySem.W
theorem Cj{S:aD}{i:Nat}{h:Int}(hi:i<S.length):Rz (lR [.ref i] (su S i h)) (λ d S'=>∃v h',d= .int v/\S'=su S i h'/\1<=v/\v<=99) NE:=by
 simp[lR,Ls,vE]
 refine(dP hi Qc Qc).to ?_
 rintro _ _ ⟨v,h1,rfl,rfl,a1,b1⟩
 have k8:aQ 8=true:=by decide
 simp[k8]
 refine(dP hi Qc Qc).to ?_
 rintro _ _ ⟨w,h2,rfl,rfl,a2,b2⟩
 have:w=0\/w=1\/w=2\/w=3\/w=4\/w=5\/w=6\/w=7:=by omega
 rcases this with rfl|rfl|rfl|rfl|rfl|rfl|rfl|rfl<;>simp[bD]<;>first
  |exact⟨⟨_,rfl⟩,Qa,Qa⟩
  |exact⟨_,rfl⟩
noncomputable def ID(ns:List Int)(k n:Int)(S:aD)(_:Nat)(η:En)(S':aD):Prop:=∃(t c:Int) (d5:Option D),η=[some (.scr ns),some (.int k),some (.int n),some (.int t),some (.int c),d5]/\S'=S/\0<=c/\c<2147483647
theorem PJ{S:aD}{ns:List Int}{k:Int}(k0:0<=k):Rz (qZ [.scr ns,.int k] S) (λ d S'=>d= .ref S.length/\∃h,S'=S++[.lst [.int h]]) NE:=by
 simp[qZ,Lr,vE]
 have fit:∀j:Int,0<=j->j<2147483647->iO j=true:=λ j a b=>Mz a Qa
 have f1:iO 48271=true:=by decide
 have f2:iO 7919=true:=by decide
 have f3:iO 2147483587=true:=by decide
 have f4:iO 69621=true:=by decide
 have s1:aQ 1=true:=by decide
 have r12:jN 12=true:=by decide
 by_cases h:k<(ns.length:Int)
 ·have hk:k.toNat<ns.length:=by omega
  have e:atI (ns.map D.int) k=some (.int ns[k.toNat]):=by rw[bD k0];simp[hk]
  by_cases h2:(1000000000000000000:Int)<=ns[k.toNat]
  ·simp[h,vE,e,aX,h2,s1]
  simp[h,vE,e,aX,h2,s1,f1,f2,r12]
  refine jT (n:=0) (ID ns k _ S) ⟨_,_,none,rfl,rfl,Int.emod_nonneg _ Qc,Int.emod_lt_of_pos _ Qc⟩ ?_ ?_
  ·rintro j d _ _ hd ⟨t,c,d5,rfl,rfl,c0,c1⟩
   obtain⟨hj,rfl⟩:=pL hd
   refine⟨_,rfl,?_⟩
   simp[vE,fit c c0 c1,f1,f3,f4,aX]
   exact⟨_,_,_,rfl,rfl,Int.emod_nonneg _ Qc,Int.lt_of_lt_of_le (Int.emod_lt_of_pos _ Qc) Qc⟩
  rintro _ _ ⟨t,c,d5,rfl,rfl,c0,c1⟩
  simp[vE,s1]
 simp[h,vE,aX,s1,f1,f2,r12]
 refine jT (n:=0) (ID ns k _ S) ⟨_,_,none,rfl,rfl,Int.emod_nonneg _ Qc,Int.emod_lt_of_pos _ Qc⟩ ?_ ?_
 ·rintro j d _ _ hd ⟨t,c,d5,rfl,rfl,c0,c1⟩
  obtain⟨hj,rfl⟩:=pL hd
  refine⟨_,rfl,?_⟩
  simp[vE,fit c c0 c1,f1,f3,f4,aX]
  exact⟨_,_,_,rfl,rfl,Int.emod_nonneg _ Qc,Int.lt_of_lt_of_le (Int.emod_lt_of_pos _ Qc) Qc⟩
 rintro _ _ ⟨t,c,d5,rfl,rfl,c0,c1⟩
 simp[vE,s1]
noncomputable def IL(ns:List Str)(S:aD)(i:Nat)(n:Nat)(η:En)(S':aD):Prop:=∃(ls:List (Str×Int)) (d3:Option D) (h':Int),η=[some (.ref i),some (.lst (ns.map .str)),some (.ref S.length),d3,none,none,none,none]/\S'=su (S++[.lst (ls.map dQ)]) i h'/\ls.length=n/\ls.map (·.1)=ns.take n/\∀l∈ls,1<=l.2/\l.2<=99
noncomputable def IK(ns:List Str)(at4:Int)(ls:List (Str×Int))(S:aD)(i:Nat)(n:Nat)(η:En)(S':aD):Prop:=∃(ks:List Kd) (d3 d6 d7:Option D) (h':Int),η=[some (.ref i),some (.lst (ns.map .str)),some (.ref S.length),d3,some (.int at4),some (.ref (S.length+1)),d6,d7]/\S'=su (S++[.lst (ls.map dQ),.lst (ks.map bV)]) i h'/\ks.length=n/\ks.map (·.nm)=(ns.drop at4.toNat).take n/\∀k∈ks,1<=k.way.length/\k.way.length<=ls.length/\k.way.Pairwise (· < ·)/\(∀i∈k.way,0<=i/\i<ls.length)/\k.bds.length=k.way.length/\∀b∈k.bds,1<=b/\b<=99
theorem DS{S:aD}{i:Nat}{h:Int}(hi:i<S.length):Rz (qX [.ref i] (su S i h)) (λ d S'=>∃p h' l1 l2,d=aZ p/\S'=su (S++[.lst l1,.lst l2]) i h'/\cY p) NE:=by
 simp[qX,Lo,vE]
 refine(Ec hi Qc Qc).to ?_
 rintro _ _ ⟨ns,h1,rfl,rfl,nl,nn,na⟩
 have n0:¬i=S.length:=by omega
 have n1:¬i=S.length+1:=by omega
 have s0:aQ 0=true:=by decide
 simp[aX,s0,uR hi,uS]
 refine(dP (by rw[List.length_append];omega) Qc Qc).to ?_
 rintro _ _ ⟨v,h2,rfl,rfl,a1,b1⟩
 have k0:jN (1+v)=true:=oU Qa Qa
 simp[k0]
 refine jT (n:=0) (IL ns S i) ⟨[],none,h2,rfl,rfl,rfl,rfl,λ _ z=>nomatch z⟩ ?_ ?_
 ·rintro n d _ _ hd ⟨ls,d3,h3,rfl,rfl,el,en,eb⟩
  obtain⟨hn,rfl⟩:=pL hd
  refine⟨_,rfl,?_⟩
  have hnn:n<ns.length:=by omega
  have e1:atI (ns.map D.str) (n:Int)=some (.str ns[n]):=by rw[bD Qa];simp[hnn]
  simp[vE,e1,eP n0,fS]
  refine(Cj (by rw[List.length_append];omega)).to ?_
  rintro _ _ ⟨b,h4,rfl,rfl,a2,b2⟩
  have e2:ls.length.blt 16777216=true:=pA Qa
  have e3:aQ 2=true:=by decide
  simp[e2,e3,eP n0,oO n0,fS,zT]
  refine⟨ls++[(ns[n],b)],some (.int n),h4,rfl,by simp[dQ],by simp;omega,?_,?_⟩
  ·rw[List.map_append,en,Nat.zero_add,List.map_singleton,List.take_append_getElem hnn]
  ·intro l hl
   rcases List.mem_append.mp hl with h|h
   ·exact eb _ h
   ·cases List.mem_singleton.mp h
    exact⟨a2,b2⟩
 rintro _ _ ⟨ls,d3,h3,rfl,rfl,el,en,eb⟩
 rw[pG,Nat.zero_add]at el en
 have n2:i<(S++[Ob.lst (ls.map dQ)]).length:=by rw[List.length_append];omega
 have n3:(S++[Ob.lst (ls.map dQ)]).length=S.length+1:=by simp
 simp
 refine(dP n2 Qc Qc).to ?_
 rintro _ _ ⟨at4,h4,rfl,rfl,a4,b4⟩
 simp[aX,s0,uR n2,uS]
 refine(dP (by simp;omega) Qc Qc).to ?_
 rintro _ _ ⟨v2,h5,rfl,rfl,a5,b5⟩
 have k1:jN (1+v2)=true:=oU Qa Qa
 simp[k1]
 refine jT (n:=0) (IK ns at4 ls S i) ⟨[],d3,none,none,h5,rfl,rfl,rfl,rfl,λ _ z=>nomatch z⟩ ?_ ?_
 ·rintro n d _ _ hd ⟨ks,d3,d6,d7,h6,rfl,rfl,ek,en2,eb2⟩
  obtain⟨hn,rfl⟩:=pL hd
  refine⟨_,rfl,?_⟩
  have m0:i<(S++[Ob.lst (ls.map dQ),.lst (ks.map bV)]).length:=by rw[List.length_append];omega
  have k2:jN ls.length=true:=oU Qa Qa
  have k3:aQ ls.length=true:=cC Qa
  simp[vE,eP n0,fS,k2,k3,AR]
  refine Oc (k:=λ x:Nat=>D.int x) (R:=λ S'=>∃h',S'=su (S++[.lst (ls.map dQ),.lst (ks.map bV)]) i h') ⟨h6,rfl⟩ ?_ ?_
  ·rintro x _ _ ⟨h7,rfl⟩
   simp[aX,vE]
   refine(dP m0 Qc Qc).to ?_
   rintro _ _ ⟨w,h8,rfl,rfl,a8,b8⟩
   simp
   by_cases hw:0<w
   ·simp[hw];exact⟨_,rfl⟩
   ·simp[hw];exact⟨_,rfl⟩
  rintro ys _ ⟨h7,rfl⟩ hys
  have e5:(ys.map λ x:Nat=>D.int x)=(ys.map λ x:Nat=>(x:Int)).map D.int:=by rw[List.map_map];rfl
  have w1:(ys.map λ x:Nat=>(x:Int)).Pairwise (· < ·):=by
   rw[List.pairwise_map]
   exact(List.Pairwise.sublist hys List.pairwise_lt_range).imp λ h=>by omega
  have w2:∀x∈ys.map λ x:Nat=>(x:Int),0<=x/\x<ls.length:=λ x hx=>by
   obtain⟨y,hy,rfl⟩:=List.mem_map.mp hx
   have:=List.mem_range.mp (hys.subset hy)
   omega
  have w3:(ys.map λ x:Nat=>(x:Int)).length<=ls.length:=by
   rw[List.length_map]
   have:=hys.length_le
   rwa[List.length_range]at this
  rw[e5]
  generalize(ys.map λ x:Nat=>(x:Int))=W at w1 w2 w3⊢
  have s1:aQ 1=true:=by decide
  simp only[iJ,eZ,lX,jW,xN,vN,Pk]
  refine Wz.mono (Q:=λ f η S'=>f= .nx/\∃(W:List Int) (h':Int),η=[some (.ref i),some (.lst (ns.map .str)),some (.ref S.length),some (.int n),some (.int at4),some (.ref (S.length+1)),some (.lst (W.map .int)),d7]/\S'=su (S++[.lst (ls.map dQ),.lst (ks.map bV)]) i h'/\1<=W.length/\W.length<=ls.length/\W.Pairwise (· < ·)/\∀i∈W,0<=i/\i<ls.length) (E:=λ _ _ _=>False) ?_ ?_ λ _ _ _ z=>z.elim
  ·simp[vE,PC,s0]
   cases W with
   |nil=>
    simp[vE,eP n0,fS]
    refine(dP m0 Qa Qa).to ?_
    rintro _ _ ⟨w,h8,rfl,rfl,a8,b8⟩
    simp[s1,aX]
    exact⟨[w],rfl,⟨_,rfl⟩,Nat.le_refl _,by simp;omega,Qb,by simp;omega⟩
   |cons x W=>
    simp
    exact⟨x::W,rfl,⟨_,rfl⟩,Qb,w3,w1,w2⟩
  rintro _ _ _ ⟨rfl,W,h8,rfl,rfl,l1,l2,l3,l4⟩
  have s2:aQ W.length=true:=cC Qa
  simp[vE,s2]
  refine xE (R:=λ S'=>∃h',S'=su (S++[.lst (ls.map dQ),.lst (ks.map bV)]) i h') (P:=λ z=>∃b,z= .int b/\1<=b/\b<=99) ⟨h8,rfl⟩ ?_ ?_
  ·rintro x _ _ ⟨h9,rfl⟩
   simp[aX,vE]
   refine(Cj m0).to ?_
   rintro _ _ ⟨w,h8,rfl,rfl,a8,b8⟩
   simp
   exact⟨⟨_,rfl⟩,a8,b8⟩
  rintro zs _ ⟨h9,rfl⟩ hzl hz
  have B:∃l:List Int,zs=l.map D.int/\∀b∈l,1<=b/\b<=99:=by
   clear hzl
   induction zs with
   |nil=>exact⟨[],rfl,λ _ h=>nomatch h⟩
   |cons z zs ih=>
    obtain⟨l,rfl,hl⟩:=ih λ y hy=>hz y (List.mem_cons_of_mem _ hy)
    obtain⟨c,rfl,hc⟩:=hz z List.mem_cons_self
    refine⟨c::l,rfl,λ x hx=>?_⟩
    rcases List.mem_cons.mp hx with rfl|hx
    ·exact hc
    ·exact hl x hx
  obtain⟨B,rfl,hB⟩:=B
  rw[List.length_map,List.length_map]at hzl
  have n12:n+at4.toNat<ns.length:=by omega
  have e6:atI (ns.map D.str) (n+at4)=some (.str ns[n+at4.toNat]):=by
   rw[bD Qa,show((n:Int)+at4).toNat=n+at4.toNat from Qa];simp[n12]
  have s3:aQ 3=true:=by decide
  have e7:ks.length.blt 16777216=true:=pA Qa
  simp[eZ,aX,vE,e6,e7,s3,eP n1,qI,oO n1,zS]
  refine⟨ks++[⟨ns[n+at4.toNat],W,B⟩],some (.int n),some (.lst (W.map D.int)),some (.tup (B.map D.int)),h9,rfl,by simp[bV],by simp;omega,?_,?_⟩
  ·have hn':n<(ns.drop at4.toNat).length:=by rw[List.length_drop];omega
   rw[List.map_append,en2,Nat.zero_add,List.map_singleton,<-List.take_append_getElem hn']
   simp[Nat.add_comm]
  ·intro k hk
   rcases List.mem_append.mp hk with h|h
   ·exact eb2 k h
   ·cases List.mem_singleton.mp h
    exact⟨l1,l2,l3,l4,hzl,hB⟩
 rintro _ _ ⟨ks,d3,d6,d7,h6,rfl,rfl,ek,en2,eb2⟩
 rw[pG,Nat.zero_add]at ek en2
 have s2:aQ 2=true:=by decide
 simp[vE,s2,eP n0,eP n1,fS,qI]
 refine⟨⟨ls,ks⟩,rfl,⟨_,_,_,rfl⟩,?_⟩
 have t1:∀l∈ls,l.1∈ns:=λ l hl=>List.mem_of_mem_take (by rw[<-en];exact List.mem_map_of_mem hl)
 have t2:∀k∈ks,k.nm∈ns:=λ k hk=>List.mem_of_mem_drop (List.mem_of_mem_take (by rw[<-en2];exact List.mem_map_of_mem hk))
 exact{
  l1:=by show 1<=ls.length;omega
  l6:=by show ls.length<=6;omega
  k1:=by show 1<=ks.length;omega
  k6:=by show ks.length<=6;omega
  ln:=λ l hl=>⟨na _ (t1 l hl),eb l hl⟩
  lnd:=by show(ls.map (·.1)).Nodup;rw[en];exact List.Nodup.sublist (List.take_sublist _ _) nn
  kn:=λ k hk=>⟨na _ (t2 k hk),eb2 k hk⟩
  knd:=by show(ks.map (·.nm)).Nodup;rw[en2];exact List.Nodup.sublist ((List.take_sublist _ _).trans (List.drop_sublist _ _)) nn}
theorem KT{p:Pl}(G:cY p){x:Str}{k:Kd}{S:aD}(hx:nm x=true)(h:p.kd? x=some k):qY [aZ p,.str x] S= .ok (bV k) S:=by
 apply cK
 simp[qY,Lq,aZ,vE,bD]
 have k6:aQ p.ks.length=true:=cC (by have:=G.k6;omega)
 simp[k6]
 refine nQ (k:=bV) (p:=λ k=>k.nm==x) (λ y hy=>?_) ?_
 ·simp[aX,vE,bV,bD,nP (G.kn y hy).1 hx]
  cases e:y.nm==x with
  |true=>rw[if_pos (by simpa using e)]
  |false=>rw[if_neg (by simpa using e)];rfl
 have e:(p.ks.filter λ k=>k.nm==x)[0]? =some k:=by rw[Mx];exact h
 simp[eZ,bD,e]
theorem vX{p:Pl}(G:cY p){a x:Str}{j:Int}{r:List D}{k:Kd}{S:aD}(h:p.kd? x=some k)(j0:0<=j)(j1:j<=k.way.length+1):iF [aZ p,.tup (.str a::.str x::.int j::r)] S= .ok (.int (p.at x j)) S:=by
 apply cK
 have hk:=iI h
 have kn:=G.kn k hk.1
 have hx:nm x=true:=by rw[<-hk.2];exact kn.1
 simp[iF,Lp,vE,bD,KT G hx h]
 have l6:=G.l6
 have s1:aQ 1=true:=by decide
 have s2:aQ (k.way.length+1)=true:=cC Qa
 have s4:aQ (k.way.length+1+1)=true:=cC Qa
 have e:(D.int (-1)::(k.way.map D.int++[D.int p.ls.length]))[j.toNat]? =some (.int (p.at x j)):=by
  rcases(show j=0\/(1<=j/\j<=k.way.length)\/j=k.way.length+1 from Qa)with rfl|⟨g1,g2⟩|rfl
  ·rw[sU];rfl
  ·obtain⟨wv,hw,ew⟩:=xM h g1 g2
   rw[ew,show j.toNat=(j-1).toNat+1 from Qa,List.getElem?_cons_succ,List.getElem?_append_left (by rw[List.length_map];omega),List.getElem?_map,hw]
   rfl
  ·rw[sV h Qa,show((k.way.length:Int)+1).toNat=k.way.length+1 from Qa,List.getElem?_cons_succ,List.getElem?_append_right Qb]
   simp[Pl.n]
 simp[bV,aZ,bD j0,bD,aX,vE,s1,s2,s4,Nat.add_comm 1,e]
theorem zV{p:Pl}(G:cY p){k:Kd}(h:k∈p.ks):p.kd? k.nm=some k:=kR G.knd h
noncomputable def BC(S:aD)(B C:D)(bs:List Int)(cs:List Cd):Prop:=(B= .lst (bs.map .int)/\∃i,C= .ref i/\S[i]? =some (.lst (cs.map bL)))\/(B= .tup (bs.map .int)/\C= .tup (cs.map bL))
theorem KR{p:Pl}(G:cY p){s:Sd}{B C:D}{k:Kd}{l:Int}{S:aD}(h:BC S B C s.bs s.cs)(nb:s.bs.length=p.ls.length)(nc:s.cs.length<=900)(hc:∀c∈s.cs,tQ p c)(hkp:k∈p.ks)(hl:0<=l->l<p.n->l∈k.way):nG [aZ p,B,C,bV k,.int l] S= .ok (.str (jM p s l k)) S:=by
 have kn:=G.kn k hkp
 have sc:aQ s.cs.length=true:=cC Qa
 have turn:∀c∈s.cs,∀S,dZ (Tg.nm 0) (cE (aI (bJ CmpOp.Eq) (aV 2 iF (aB (vE 2) (aB (vE 0) aG))) (vE 1))) (aI aR (vE 0) (kE (.int 1))) [none,some (.int l),some (aZ p)] (bL c) S= .ok (if(p.lane c==l)=true then some (.str c.kd)else none) S:=λ c hcc S=>by
  obtain⟨_,kd,hkd,p0,p1⟩:=hc c hcc
  simp[aX,vE,bL,vX G hkd p0 p1,kT,bD,Pl.lane]
  by_cases e:p.at c.kd c.pl=l<;>simp[e]
 have n1:((s.cs.filter λ c=>p.lane c==l).map (·.kd)).length=(s.inL p l).length:=by unfold Sd.inL;rw[List.length_map,List.length_map]
 have n2:(((s.cs.filter λ c=>p.lane c==l).map (·.kd)).filter (· ==k.nm)).length=s.many p l k.nm:=by
  unfold Sd.many
  rw[List.filter_map,List.length_map,List.filter_filter]
  congr 1
  refine List.filter_congr λ c _=>?_
  show((c.kd==k.nm)&&(p.at c.kd c.pl==l))=_
  by_cases e:c.kd=k.nm
  ·rw[e]
  ·have:(c.kd==k.nm)=false:=by simpa using e
   rw[this];rfl
 have tail:∀B C,(B= .lst (s.bs.map .int)\/B= .tup (s.bs.map .int))->Rz (vH (aJ (cM (eH (cE (iQ .LtE .Lt (kE (.int 0)) (vE 4) (bS .len (aB (aI aR (vE 0) (kE (.int 0))) aG))))) (aJ (bC (kE (.str ""))) aO) aO) (aJ (cM (cE (aI (bJ .GtE) (bS .len (aB (vE 5) aG)) (aI aR (vE 1) (vE 4)))) (aJ (bC (kE (.str "Full"))) aO) aO) (aJ (cM (cE (aI (bJ .GtE) (iY .count (vE 5) (aB (aI aR (vE 3) (kE (.int 0))) aG)) (aI aR (aI aR (vE 3) (kE (.int 2))) (iY .index (aI aR (vE 3) (kE (.int 1))) (aB (vE 4) aG))))) (aJ (bC (kE (.str "KindFull"))) aO) aO) (aJ (bC (kE (.str ""))) aO))) [some (aZ p),some B,some C,some (bV k),some (.int l),some (.lst (((s.cs.filter λ c=>p.lane c==l).map (·.kd)).map .str))] S)) (λ b S'=>b= .str (jM p s l k)/\S'=S) NE:=λ B C hB=>by
  generalize(s.cs.filter λ c=>p.lane c==l).map (·.kd)=N at n1 n2⊢
  have hkd:=zV G hkp
  unfold jM
  by_cases c0:0<=l
  ·by_cases c1:l<(p.ls.length:Int)
   ·have hbl:l.toNat<s.bs.length:=by omega
    obtain⟨b,eb,eb2⟩:∃b,s.bs[l.toNat]? =some b/\s.bs.getD l.toNat 0=b:=⟨s.bs[l.toNat],List.getElem?_eq_getElem hbl,by simp[hbl]⟩
    have hm:=hl c0 c1
    have hj:k.way.findIdx (· ==l)<k.bds.length:=by
     have:=List.findIdx_lt_length_of_exists (p:=(· ==l)) ⟨l,hm,Qb⟩
     omega
    have ek:k.bds[k.way.findIdx (· ==l)]? =some (p.kb k.nm l):=by
     unfold Pl.kb
     rw[hkd]
     simp[hj]
    have e0:(0<=l/\l<p.n):=⟨c0,c1⟩
    have fk:fN (k.way.map D.int)=some (k.way.map V.int):=My _
    have fn:fN (N.map D.str)=some (N.map V.str):=Bv _
    have fd:kQ (.str k.nm)=some (.str k.nm):=rfl
    have fi:kQ (.int l)=some (.int l):=rfl
    have cn:N.countP ((λ u=>dX u (V.str k.nm))∘V.str)=s.many p l k.nm:=by rw[<-n2,<-SG,List.countP_map]
    rw[if_pos e0,eb2]
    generalize p.kb k.nm l=kb at ek⊢
    by_cases c2:b<=((s.inL p l).length:Int)
    ·rw[if_pos c2]
     rcases hB with rfl|rfl<;>simp[vE,aZ,bD,c0,c1,eb,n1,c2]
    ·rw[if_neg c2]
     by_cases c3:kb<=(s.many p l k.nm:Int)
     ·rw[if_pos c3]
      rcases hB with rfl|rfl<;>simp[vE,aZ,bV,bD,c0,c1,eb,n1,c2,fk,fn,fd,fi,cn,Bs l _ hm,ek,c3]
     ·rw[if_neg c3]
      rcases hB with rfl|rfl<;>simp[vE,aZ,bV,bD,c0,c1,eb,n1,c2,fk,fn,fd,fi,cn,Bs l _ hm,ek,c3]
   ·rw[if_neg (by unfold Pl.n;omega)]
    simp[vE,aZ,bD,c0,c1]
  ·rw[if_neg Qa]
   simp[vE,aZ,bD,c0]
 apply cK
 rcases h with⟨rfl,i,rfl,hi⟩|⟨rfl,rfl⟩
 ·simp[nG,Bm,vE,hi,sc]
  refine nQ (k:=λ c=>D.str c.kd) (p:=λ c=>p.lane c==l) (λ c hcc=>?_) ?_
  ·rw[Ap hi];exact turn c hcc S
  rw[iJ,As hi]
  have t:=tail _ (.ref i) (.inl rfl)
  rw[Pp]at t
  simp only[eZ,aX,lX,jW,xN,vN]
  rw[List.map_map]at t
  exact t
 ·simp[nG,Bm,vE,sc]
  refine nQ (k:=λ c=>D.str c.kd) (p:=λ c=>p.lane c==l) (λ c hcc=>turn c hcc S) ?_
  have t:=tail _ (.tup (s.cs.map bL)) (.inr rfl)
  rw[Pp]at t
  simp only[iJ,eZ,aX,lX,jW,xN,vN]
  rw[List.map_map]at t
  exact t
theorem LI{p:Pl}(G:cY p){s:Sd}{C:D}{x y:Str}{n:Int}{c:Cd}{S:aD}(h:(∃i,C= .ref i/\S[i]? =some (.lst (s.cs.map bL)))\/C= .tup (s.cs.map bL))(nc:s.cs.length<=900)(hc:∀c∈s.cs,tQ p c)(hn:∀c∈s.cs,nm c.nm=true)(hy:nm y=true)(hf:s.cd? y=some c):nH [aZ p,C,.tup [.str x,.int n,.str y]] S= .ok (.bl (decide (p.lane c<p.n))) S:=by
 have sc:aQ s.cs.length=true:=cC Qa
 have hcm:=(Oh hf).1
 have turn:∀c∈s.cs,∀S,dZ (Tg.nm 0) (cE (aI (bJ CmpOp.Eq) (aI aR (vE 0) (kE (.int 0))) (aI aR (vE 1) (kE (.int 2))))) (vE 0) [none,some (.tup [.str x,.int n,.str y])] (bL c) S= .ok (if(c.nm==y)=true then some (bL c)else none) S:=λ c hcc S=>by
  simp[aX,vE,bL,bD,nP (hn c hcc) hy]
  cases e:c.nm==y with
  |true=>rw[if_pos (by simpa using e)]
  |false=>rw[if_neg (by simpa using e)];rfl
 have e:(s.cs.filter λ c=>c.nm==y)[0]? =some c:=by rw[Mx];exact hf
 obtain⟨_,kd,hkd,p0,p1⟩:=hc c hcm
 have hl:∀S,iF [aZ p,bL c] S= .ok (.int (p.lane c)) S:=λ S=>vX G hkd p0 p1
 have en:p.n=(p.ls.length:Int):=rfl
 apply cK
 rcases h with⟨i,rfl,hi⟩|rfl
 ·simp[nH,Bn,vE,hi,sc]
  refine nQ (k:=bL) (p:=λ c=>c.nm==y) (λ c hcc=>?_) ?_
  ·rw[Ap hi];exact turn c hcc S
  rw[iJ,As hi]
  simp[eZ,aX,vE,bD,e,hl]
  simp[aZ,bD,en]
 ·simp[nH,Bn,vE,sc]
  refine nQ (k:=bL) (p:=λ c=>c.nm==y) (λ c hcc=>turn c hcc S) ?_
  simp[eZ,aX,vE,bD,e,hl]
  simp[aZ,bD,en]
noncomputable def IC(p:Pl)(bs:List Int)(zs:List Str)(m:Int)(S:aD)(i:Nat)(n:Nat)(η:En)(S':aD):Prop:=∃(cs:List Cd) (d5 d6 d7:Option D) (h':Int),η=[some (.ref i),some (aZ p),some (.int m),some (.lst (bs.map .int)),some (.ref S.length),d5,d6,d7,none,none,none,none]/\S'=su (S++[.lst (cs.map bL)]) i h'/\cs.map (·.nm)=zs.take n/\(∀c∈cs,tQ p c)/\(∀c∈cs,c.bk=true->∀k,p.kd? c.kd=some k->c.pl<=k.way.length)/\pV p ⟨bs,cs,[]⟩
noncomputable def IX(p:Pl)(bs:List Int)(m:Int)(S:aD)(i:Nat)(cs:List Cd)(x:Str)(k:Kd)(f:Fl)(η:En)(S':aD):Prop:=f= .nx/\∃(jj:Int) (h':Int),η=[some (.ref i),some (aZ p),some (.int m),some (.lst (bs.map .int)),some (.ref S.length),some (.str x),some (bV k),some (.tup [.str x,.str k.nm,.int jj]),none,none,none,none]/\S'=su (S++[.lst (cs.map bL)]) i h'/\0<=jj/\jj<=k.way.length+1/\∀l':Int,0<=l'->l'<p.n->p.at k.nm jj=l'->jM p ⟨bs,cs,[]⟩ l' k= ""
noncomputable def IW(p:Pl)(bs:List Int)(m:Int)(S:aD)(i:Nat)(cs:List Cd)(d5 d6:Option D)(n:Nat)(η:En)(S':aD):Prop:=∃(ws:List Wt) (d7 d9 d10 d11:Option D) (h':Int),η=[some (.ref i),some (aZ p),some (.int m),some (.lst (bs.map .int)),some (.ref S.length),d5,d6,d7,some (.ref (S.length+1)),d9,d10,d11]/\S'=su (S++[.lst (cs.map bL),.lst (ws.map cH)]) i h'/\ws.length<=n/\(∀w∈ws,(∃c∈cs,c.nm=w.cd)/\(∃c∈cs,c.nm=w.ot)/\0<=w.ln/\w.ln<=p.n)/\∀w∈ws,Sd.hold ⟨bs,cs,[]⟩ p w=true
theorem Xb{p:Pl}(G:cY p){S:aD}{i:Nat}{h m:Int}(hi:i<S.length)(m0:0<=m)(m1:m<=30):Rz (qW [.ref i,aZ p,.int m] (su S i h)) (λ d S'=>∃s h' l1 l2,d=cR s/\S'=su (S++[.lst l1,.lst l2]) i h'/\mP p s) NE:=by
 have n0:¬i=S.length:=by omega
 have n1:¬i=S.length+1:=by omega
 have s0:aQ 0=true:=by decide
 have s2:aQ 2=true:=by decide
 have l6:=G.l6
 have k6:=G.k6
 have sl:aQ p.ls.length=true:=cC Qa
 simp[qW,Ln,vE,bD]
 have ep:seqD (su S i h) (aZ p)=some [.tup (p.ls.map dQ),.tup (p.ks.map bV)]:=rfl
 have e0:seqD (su S i h) (aZ p)=some [.tup (p.ls.map dQ),.tup (p.ks.map bV)]:=rfl
 have x0:∀S,aR (aZ p) (.int 0) S= .ok (.tup (p.ls.map dQ)) S:=λ S=>by simp[aZ,bD]
 have x1:∀S,aR (aZ p) (.int 1) S= .ok (.tup (p.ks.map bV)) S:=λ S=>by simp[aZ,bD]
 have pp:aZ p=aZ p:=rfl
 simp[aZ,bD,sl]
 rw[show D.tup [D.tup (p.ls.map dQ),D.tup (p.ks.map bV)]=aZ p from rfl]
 refine xE (R:=λ S'=>∃h',S'=su S i h') (P:=λ z=>∃b,z= .int b/\1<=b/\b<=99) ⟨h,rfl⟩ ?_ ?_
 ·intro d hd _ ⟨h1,e1⟩
  subst e1
  obtain⟨la,hla,rfl⟩:=List.mem_map.mp hd
  simp[aX,vE,dQ,bD]
  refine(Cj hi).to ?_
  rintro _ _ ⟨b,h2,rfl,rfl,a2,b2⟩
  simp[s2]
  refine(dP hi Qc Qc).to ?_
  rintro _ _ ⟨w,h3,rfl,rfl,a3,b3⟩
  have lb:=(G.ln la hla).2
  have:w=0\/w=1:=by omega
  rcases this with rfl|rfl
  ·simp[bD];exact⟨⟨_,rfl⟩,lb⟩
  ·simp[bD];exact⟨⟨_,rfl⟩,a2,b2⟩
 rintro zs _ ⟨h2,rfl⟩ hzl hz
 have B:∃l:List Int,zs=l.map D.int/\∀b∈l,1<=b/\b<=99:=by
  clear hzl
  induction zs with
  |nil=>exact⟨[],rfl,λ _ h=>nomatch h⟩
  |cons z zs ih=>
   obtain⟨l,rfl,hl⟩:=ih λ y hy=>hz y (List.mem_cons_of_mem _ hy)
   obtain⟨c,rfl,hc⟩:=hz z List.mem_cons_self
   refine⟨c::l,rfl,λ x hx=>?_⟩
   rcases List.mem_cons.mp hx with rfl|hx
   ·exact hc
   ·exact hl x hx
 obtain⟨bs,rfl,hbs⟩:=B
 rw[List.length_map,List.length_map]at hzl
 clear hz
 have i1:i<(S++[Ob.lst []]).length:=by rw[List.length_append];omega
 simp only[iJ,eZ,lX,jW,xN,vN,Pk]
 simp[s0,aX,uR hi,uS,vE]
 refine(Ec i1 Qc Qc).to ?_
 rintro _ _ ⟨ns,h3,rfl,rfl,nl,nn,na⟩
 simp
 refine(dP i1 Qa Qa).to ?_
 rintro _ _ ⟨t,h4,rfl,rfl,t0,t1⟩
 have hcut:hJ (ns.map D.str) none (some t)=(ns.take t.toNat).map .str:=by rw[Ch t0,List.map_take]
 have nd:(ns.take t.toNat).Nodup:=List.Nodup.sublist (List.take_sublist _ _) nn
 have l30:(ns.take t.toNat).length<=30:=by rw[List.length_take];omega
 have hsrt:=λ S=>Xh (S:=S) nd Qa
 have hzl2:=Xf nd
 have hzs:=Xd (ns.take t.toNat)
 have hzn:=Fi (ns.take t.toNat)
 have hzm:∀x∈dW eA (ns.take t.toNat),nm x=true:=λ x hx=>na x (List.mem_of_mem_take ((nA ordS).mp hx))
 simp
 rw[hcut,hsrt]
 generalize dW eA (ns.take t.toNat)=zs at hzl2 hzs hzn hzm⊢
 simp only[iJ,lX,jW,LA,KY]
 have lk:=G.k1
 have sk:aQ p.ks.length=true:=cC Qa
 have s1:aQ 1=true:=by decide
 have s3:aQ 3=true:=by decide
 have s4:aQ 4=true:=by decide
 refine jT (n:=0) (IC p bs zs m S i) ⟨[],none,none,none,h4,rfl,rfl,rfl,λ _ z=>(nomatch z),λ _ z=>(nomatch z),Gh G hzl hbs⟩ ?_ ?_
 ·rintro n d _ _ hd ⟨cs,d5,d6,d7,h5,rfl,rfl,en,ec,eb,er⟩
  rw[List.getElem?_map]at hd
  obtain⟨x,hx,rfl⟩:=Option.map_eq_some_iff.mp hd
  have hxn:=hzm x (List.mem_of_getElem? hx)
  have nlt:=(List.getElem?_eq_some_iff.mp hx).1
  refine⟨_,rfl,?_⟩
  have i2:i<(S++[Ob.lst (cs.map bL)]).length:=by rw[List.length_append];omega
  have lc:cs.length<=30:=by
   have:=congrArg List.length en
   rw[List.length_map,List.length_take]at this
   omega
  simp[vE,aZ,bD,sk]
  refine(dP i2 Qa Qa).to ?_
  rintro _ _ ⟨q,h6,rfl,rfl,q0,q1⟩
  have hq:q.toNat<p.ks.length:=by omega
  have hkm:p.ks[q.toNat]∈p.ks:=List.getElem_mem hq
  have eq1:p.ks[q.toNat]? =some p.ks[q.toNat]:=List.getElem?_eq_getElem hq
  generalize p.ks[q.toNat]=k at hkm eq1
  have kn:=G.kn k hkm
  have hkf:=zV G hkm
  have sw:aQ k.way.length=true:=cC Qa
  simp[bD,q0,eq1,aX,vE,bV,sw]
  refine(dP i2 Qa Qa).to ?_
  rintro _ _ ⟨j,h7,rfl,rfl,j0,j1⟩
  have epl:D.tup [D.tup (p.ls.map dQ),D.tup (p.ks.map bV)]=aZ p:=rfl
  simp[s3,aX,vE,epl,-cM]
  have hkd:D.tup [.str k.nm,.tup (k.way.map .int),.tup (k.bds.map .int)]=bV k:=rfl
  have hroom:∃X,X=jM p ⟨bs,cs,[]⟩ (p.at k.nm j) k/\(X=("" :Str)\/X= "Full"\/X= "KindFull")/\∀h7,nG [aZ p,.lst (bs.map .int),.ref S.length,bV k,.int (p.at k.nm j)] (su (S++[Ob.lst (cs.map bL)]) i h7)= .ok (.str X) (su (S++[Ob.lst (cs.map bL)]) i h7):=by
   refine⟨jM p ⟨bs,cs,[]⟩ (p.at k.nm j) k,rfl,?_,λ h7=>KR G (s:=⟨bs,cs,[]⟩) (.inl ⟨rfl,_,rfl,by rw[eP n0,fS]⟩) hzl (Nat.le_trans lc Qc) ec hkm λ g0 g1=>?_⟩
   ·unfold jM
    split
    ·split
     ·exact .inr (.inl rfl)
     ·split
      ·exact .inr (.inr rfl)
      ·exact .inl rfl
    ·exact .inl rfl
   ·rcases(show j=0\/(1<=j/\j<=k.way.length)\/(k.way.length:Int)<j from Qa)with rfl|⟨q1,q2⟩|q1
    ·rw[sU]at g0;omega
    ·obtain⟨wv,hw,ew⟩:=xM hkf q1 q2
     rw[ew]
     exact List.mem_of_getElem? hw
    ·rw[sV hkf q1]at g1;omega
  obtain⟨X,eX,hX,hroom⟩:=hroom
  refine Wz.mono (Q:=IX p bs m S i cs x k) (E:=λ _ _ _=>False) ?_ ?_ λ _ _ _ z=>z.elim
  ·have f1:∀S,gN S (.str ("Full" :Str)) (.str ("" :Str))=some false:=λ S=>by rw[sM Qe Qe];rfl
   have f2:∀S,gN S (.str ("KindFull" :Str)) (.str ("" :Str))=some false:=λ S=>by rw[sM Qe Qe];rfl
   have f3:∀S,gN S (.str ("" :Str)) (.str ("" :Str))=some true:=λ S=>by rw[sM Qe Qe];rfl
   rw[hkd]
   simp[vE,vX G hkf j0 (show j<=k.way.length+1 from Qa),hroom]
   have more:∀j2:Int,0<=j2->j2<2->∃jj,atI [D.int 0,.int (k.way.length+1)] j2=some (.int jj)/\0<=jj/\jj<=k.way.length+1/\∀l':Int,0<=l'->l'<p.n->p.at k.nm jj=l'->jM p ⟨bs,cs,[]⟩ l' k= "" :=λ j2 a b=>by
    rcases(show j2=0\/j2=1 from Qa)with rfl|rfl
    ·exact⟨0,rfl,Qa,Qa,λ l' g0 g1 e=>by rw[sU]at e;omega⟩
    ·exact⟨_,rfl,Qa,Qa,λ l' g0 g1 e=>by rw[sV hkf Qa]at e;omega⟩
   rcases hX with rfl|rfl|rfl
   ·simp[f3]
    exact⟨rfl,j,_,rfl,rfl,j0,Qa,λ l' _ _ e=>by rw[<-e];exact eX.symm⟩
   ·simp[f1,vE,bV,bD,sw,s2]
    refine(dP i2 Qa Qa).to ?_
    rintro _ _ ⟨j2,h8,rfl,rfl,a2,b2⟩
    obtain⟨jj,e2,jj0,jj1,jjr⟩:=more j2 a2 b2
    simp[e2,s3,aX]
    exact⟨rfl,jj,_,rfl,rfl,jj0,jj1,jjr⟩
   ·simp[f2,vE,bV,bD,sw,s2]
    refine(dP i2 Qa Qa).to ?_
    rintro _ _ ⟨j2,h8,rfl,rfl,a2,b2⟩
    obtain⟨jj,e2,jj0,jj1,jjr⟩:=more j2 a2 b2
    simp[e2,s3,aX]
    exact⟨rfl,jj,_,rfl,rfl,jj0,jj1,jjr⟩
  rintro _ _ _ ⟨rfl,jj,h8,rfl,rfl,jj0,jj1,jjr⟩
  have n31:cs.length.blt 16777216=true:=pA Qa
  have end':∀(bq:Bool) (h9:Int),(bq=true->jj<=k.way.length)->IC p bs zs m S i (n+1) [some (.ref i),some (aZ p),some (.int m),some (.lst (bs.map .int)),some (.ref S.length),some (.str x),some (bV k),some (.tup [.str x,.str k.nm,.int jj]),none,none,none,none] (su (S++[.lst ((cs++[(⟨x,k.nm,jj,bq⟩:Cd)]).map bL)]) i h9):=λ bq h9 hb=>by
   refine⟨cs++[⟨x,k.nm,jj,bq⟩],_,_,_,h9,rfl,rfl,by
    rw[List.map_append,en,Nat.zero_add,List.take_add_one,hx];rfl,λ c hc=>?_,λ c hc=>?_,pV.snoc (c:=⟨x,k.nm,jj,bq⟩) G er hkf jjr⟩
   ·rcases List.mem_append.mp hc with h|h
    ·exact ec c h
    ·rw[List.mem_singleton.mp h]
     exact⟨Hz hxn,k,hkf,jj0,jj1⟩
   ·rcases List.mem_append.mp hc with h|h
    ·exact eb c h
    ·rw[List.mem_singleton.mp h]
     intro e k' hk'
     have hk':p.kd? k.nm=some k':=hk'
     rw[hkf]at hk'
     cases hk'
     exact hb e
  have s4':aQ 4=true:=by decide
  by_cases hj:jj<=(k.way.length:Int)
  ·simp[vE,eP n0,fS,bD,bV,sw,hj]
   refine(dP i2 Qc Qc).to ?_
   rintro _ _ ⟨w,h9,rfl,rfl,a9,b9⟩
   simp[kT,s1,s4,n31,eP n0,fS,oO n0,zT]
   have e:=end' (decide (w=0)) h9 λ _=>hj
   rw[List.map_append]at e
   exact e
  ·simp[vE,eP n0,fS,bD,bV,sw,hj,s1,s4,n31,oO n0,zT]
   have e:=end' false h8 λ z=>nomatch z
   rw[List.map_append]at e
   exact e
 rintro _ _ ⟨cs,d5,d6,d7,h5,rfl,rfl,en,ec,eb,er⟩
 have hcl:cs.length<=30:=by
  have:=congrArg List.length en
  rw[List.length_map,List.length_take]at this
  omega
 have hkn:∀c∈cs,nm c.nm=true/\nm c.kd=true:=λ c hc=>by
  refine⟨hzm _ (List.mem_of_mem_take (by rw[<-en];exact List.mem_map_of_mem hc)),?_⟩
  obtain⟨_,k',hk',_⟩:=ec c hc
  rw[<-(iI hk').2]
  exact(G.kn k' (iI hk').1).1
 have i2:i<(S++[Ob.lst (cs.map bL)]).length:=by rw[List.length_append];omega
 have i3:∀o,i<(S++[Ob.lst (cs.map bL),o]).length:=λ o=>by rw[List.length_append];omega
 simp[s0,uR i2,uS,aX,vE,s4]
 refine(dP (i3 _) Qc Qc).to ?_
 rintro _ _ ⟨t2,h6,rfl,rfl,a6,b6⟩
 obtain⟨mm,hmm,mm0,mm1⟩:∃mm:Int,atI [D.int 3,.int 7,.int 7,.int 90] t2=some (.int mm)/\0<mm/\mm<=90:=by
  rcases(show t2=0\/t2=1\/t2=2\/t2=3 from Qa)with rfl|rfl|rfl|rfl
  ·exact⟨3,rfl,Qa,Qa⟩
  ·exact⟨7,rfl,Qa,Qa⟩
  ·exact⟨7,rfl,Qa,Qa⟩
  ·exact⟨90,rfl,Qa,Qa⟩
 simp[hmm]
 refine(dP (i3 _) mm0 Qa).to ?_
 rintro _ _ ⟨r,h7,rfl,rfl,a7,b7⟩
 have hec:∀o h,gN (su (S++[Ob.lst (cs.map bL),o]) i h) (.ref S.length) (.lst [])=some cs.isEmpty:=λ o h=>PD (by rw[eP n0,fS]) hkn
 simp only[iJ,lX,kZ,jW,vE]
 simp[hec,vE,s0]
 have rb:0<=r*(if cs=[]then 0 else 1)/\r*(if cs=[]then 0 else 1)<=89/\(0<r*(if cs=[]then 0 else 1)->0<cs.length):=by
  cases cs with
  |nil=>simp
  |cons c' cs'=>simp;omega
 have fr:iO r=true:=Mz a7 Qa
 generalize(r*if cs=[]then(0:Int)else 1)=R at rb⊢
 obtain⟨R0,R1,R2⟩:=rb
 simp[fr,oU R0 (show R<=1000000 from Qa)]
 refine jT (n:=0) (IW p bs m S i cs d5 d6) ⟨[],d7,none,none,none,h7,rfl,rfl,Nat.le_refl _,λ _ z=>(nomatch z),λ _ z=>(nomatch z)⟩ ?_ ?_
 ·rintro n d _ _ hd ⟨ws,d7,d9,d10,d11,h8,rfl,rfl,ew,hw,hh⟩
  obtain⟨hn,rfl⟩:=pL hd
  refine⟨_,rfl,?_⟩
  have hc0:0<cs.length:=R2 Qa
  have sls:aQ p.ls.length=true:=cC Qa
  simp[vE,eP n0,fS]
  refine(dP (i3 _) Qa Qa).to ?_
  rintro _ _ ⟨q1,h9,rfl,rfl,a9,b9⟩
  have hq1:q1.toNat<cs.length:=by omega
  have hm1:cs[q1.toNat]∈cs:=List.getElem_mem hq1
  have eq1:cs[q1.toNat]? =some cs[q1.toNat]:=List.getElem?_eq_getElem hq1
  generalize cs[q1.toNat]=c1 at hm1 eq1
  simp[eP n0,fS,bD,a9,eq1,aX,vE]
  refine(dP (i3 _) Qa Qa).to ?_
  rintro _ _ ⟨q2,h10,rfl,rfl,a10,b10⟩
  have hq2:q2.toNat<cs.length:=by omega
  have hm2:cs[q2.toNat]∈cs:=List.getElem_mem hq2
  have eq2:cs[q2.toNat]? =some cs[q2.toNat]:=List.getElem?_eq_getElem hq2
  generalize cs[q2.toNat]=c2 at hm2 eq2
  simp[eP n0,fS,bD,a10,eq2,aX,vE,bL,aZ,sls]
  refine(dP (i3 _) Qa Qa).to ?_
  rintro _ _ ⟨ln,h11,rfl,rfl,a11,b11⟩
  have epl:D.tup [D.tup (p.ls.map dQ),D.tup (p.ks.map bV)]=aZ p:=rfl
  obtain⟨_,kd,hkd,p0,p1⟩:=ec c1 hm1
  have hbar:∀h,nH [aZ p,.ref S.length,.tup [.str c1.nm,.int ln,.str c2.nm]] (su (S++[Ob.lst (cs.map bL),.lst (ws.map cH)]) i h)= .ok (.bl (decide (p.lane c2<p.n))) (su (S++[Ob.lst (cs.map bL),.lst (ws.map cH)]) i h):=λ h=>LI G (s:=⟨bs,cs,[]⟩) (.inl ⟨_,rfl,by rw[eP n0,fS]⟩) (Nat.le_trans hcl Qc) ec (λ c hc=>(hkn c hc).1) (hkn c2 hm2).1 (kR (by rw[en];exact List.Nodup.sublist (List.take_sublist _ _) hzn) hm2)
  have wl:ws.length.blt 16777216=true:=pA Qa
  have hnd:(cs.map (·.nm)).Nodup:=by rw[en];exact List.Nodup.sublist (List.take_sublist _ _) hzn
  have hho:(p.lane c1<ln\/Sd.out ⟨bs,cs,[]⟩ p c2.nm=true)->Sd.hold ⟨bs,cs,[]⟩ p ⟨c1.nm,ln,c2.nm⟩=true:=λ h=>by
   have hcd1:Sd.cd? ⟨bs,cs,[]⟩ c1.nm=some c1:=kR hnd hm1
   unfold Sd.hold
   rw[hcd1]
   show(decide (p.lane c1<ln)||Sd.out ⟨bs,cs,[]⟩ p c2.nm)=true
   rcases h with h|h
   ·rw[decide_eq_true h];rfl
   ·rw[h,Bool.or_true]
  have yes:Sd.hold ⟨bs,cs,[]⟩ p ⟨c1.nm,ln,c2.nm⟩=true->∀h e9 e10 e11,IW p bs m S i cs d5 d6 (n+1) [some (.ref i),some (aZ p),some (.int m),some (.lst (bs.map .int)),some (.ref S.length),d5,d6,some (bL c1),some (.ref (S.length+1)),e9,e10,e11] (su (S++[.lst (cs.map bL),.lst ((ws++[(⟨c1.nm,ln,c2.nm⟩:Wt)]).map cH)]) i h):=λ hx h e9 e10 e11=>by
   refine⟨_,_,_,_,_,h,rfl,rfl,by rw[List.length_append];simp;omega,λ w hw'=>?_,λ w hw'=>?_⟩
   ·rcases List.mem_append.mp hw' with z|z
    ·exact hw w z
    ·rw[List.mem_singleton.mp z]
     exact⟨⟨c1,hm1,rfl⟩,⟨c2,hm2,rfl⟩,a11,by show ln<=(p.ls.length:Int);omega⟩
   ·rcases List.mem_append.mp hw' with z|z
    ·exact hh w z
    ·rw[List.mem_singleton.mp z]
     exact hx
  have no:∀h e9 e10 e11,IW p bs m S i cs d5 d6 (n+1) [some (.ref i),some (aZ p),some (.int m),some (.lst (bs.map .int)),some (.ref S.length),d5,d6,some (bL c1),some (.ref (S.length+1)),e9,e10,e11] (su (S++[.lst (cs.map bL),.lst (ws.map cH)]) i h):=λ h e9 e10 e11=>⟨_,_,_,_,_,h,rfl,rfl,Qa,hw,hh⟩
  simp[s3,aX,vE,epl,vX G hkd p0 p1,bD]
  by_cases hlt:p.at c1.kd c1.pl<ln
  ·simp[hlt,vE,eP n1,qI,oO n1,zS,wl]
   have e:=yes (hho (.inl hlt)) h11 (some (.int n)) (some (.str c2.nm)) (some (.tup [.str c1.nm,.int ln,.str c2.nm]))
   rw[List.map_append]at e
   exact e
  ·simp[hlt,hbar,vE]
   by_cases hb:p.lane c2<p.n
   ·simp[hb,cQ]
    exact no _ _ _ _
   ·have hout:Sd.out ⟨bs,cs,[]⟩ p c2.nm=true:=by
     have hcd2:Sd.cd? ⟨bs,cs,[]⟩ c2.nm=some c2:=kR hnd hm2
     have hle:p.lane c2<=p.n:=by
      obtain⟨_,kd2,hkd2,q0,_⟩:=ec c2 hm2
      exact LN G hkd2 q0
     unfold Sd.out
     rw[hcd2]
     exact decide_eq_true Qa
    simp[hb,cQ,vE,eP n1,qI,oO n1,zS,wl]
    have e:=yes (hho (.inr hout)) h11 (some (.int n)) (some (.str c2.nm)) (some (.tup [.str c1.nm,.int ln,.str c2.nm]))
    rw[List.map_append]at e
    exact e
 rintro _ _ ⟨ws,d7,d9,d10,d11,h8,rfl,rfl,ew,hw,hh⟩
 rw[pG,Nat.zero_add]at ew
 have w2:ws.length.blt 200=true:=pA Qa
 have hsr:∀h,uV (.ref (S.length+1)) (su (S++[.lst (cs.map bL),.lst (ws.map cH)]) i h)= .ok (.lst ((dW lS ws).map cH)) (su (S++[.lst (cs.map bL),.lst (ws.map cH)]) i h):=λ h=>by
  unfold uV
  show(match(match(su (S++[Ob.lst (cs.map bL),Ob.lst (ws.map cH)]) i h)[S.length+1]? with|some (Ob.lst ds)=>some ds|_=>none).bind (kU mT)with|some ws=>(match Nat.blt ws.length 200 with|true=>_|false=>_)|none=>_)=_
  rw[eP n1,qI]
  show(match kU mT (ws.map cH)with|some ws=>(match Nat.blt ws.length 200 with|true=>_|false=>_)|none=>_)=_
  rw[Pf]
  show(match Nat.blt ws.length 200 with|true=>_|false=>_)=_
  rw[w2]
 have c60:hJ ((dW lS ws).map cH) none (some 60)=((dW lS ws).take 60).map cH:=by rw[Ch Qc,List.map_take];rfl
 simp[vE,eP n0,fS,hsr,s3]
 refine⟨⟨bs,cs,(dW lS ws).take 60⟩,by rw[c60];rfl,⟨_,_,_,rfl⟩,?_⟩
 exact{
  nb:=hzl
  bd:=hbs
  nc:=hcl
  c:=ec
  cn:=λ c hc=>(hkn c hc).1
  nd:=by show(cs.map (·.nm)).Nodup;rw[en];exact List.Nodup.sublist (List.take_sublist _ _) hzn
  srt:=by
   show sortedS (cs.map (·.nm))=true
   rw[en,Nat.zero_add,List.length_map,List.take_length]
   exact hzs
  bk:=eb
  nw:=by show((dW lS ws).take 60).length<=60;rw[List.length_take];omega
  w:=λ w hw'=>hw w ((nA oX).mp (List.mem_of_mem_take hw'))
  rise:=((oQ oX ws).imp λ h=>of_decide_eq_true h).sublist (List.take_sublist _ _)
  hold:=λ w hw'=>hh w ((nA oX).mp (List.mem_of_mem_take hw'))
  room:=er.1
  kroom:=er.2}
theorem SM{s:Sd}{x:Str}{c:Cd}{S:aD}(hn:∀c∈s.cs,nm c.nm=true)(hx:nm x=true)(h:s.cd? x=some c):rQ [cR s,.str x] S= .ok (bL c) S:=by
 apply cK
 simp[rQ,Mm,vE,cR,bD]
 refine Bt (f:=bL) (pr:=λ c=>c.nm==x) (b:=λ o=>[some (D.tup [D.tup (s.bs.map .int),D.tup (s.cs.map bL),D.tup (s.ws.map cH)]),some (.str x),o.map bL]) (o:=none) (λ y o=>rfl) (λ y hy e=>?_) (λ y e=>?_) (λ e=>?_)
 ·simp[vE,bL,bD,nP (hn y hy) hx,e]
 ·have hy:=List.mem_of_find?_eq_some e
  have e2:(y.nm==x)=true:=List.find?_some (p:=λ c:Cd=>c.nm==x) e
  have h:s.cs.find? (λ c=>c.nm==x)=some c:=h
  rw[h]at e
  cases e
  simp[vE,bL,bD,nP (hn c hy) hx,e2]
 ·have h:s.cs.find? (λ c=>c.nm==x)=some c:=h
  rw[h]at e;cases e
theorem Ki{p:Pl}(G:cY p){x:Str}{k:Kd}{S:aD}(hx:nm x=true)(h:p.kd? x=some k):rA [aZ p,.str x] S= .ok (bV k) S:=by
 apply cK
 simp[rA,Lx,vE,aZ,bD]
 have hn:∀k∈p.ks,nm k.nm=true:=λ k hk=>(G.kn k hk).1
 refine Bt (f:=bV) (pr:=λ c=>c.nm==x) (b:=λ o=>[some (D.tup [D.tup (p.ls.map dQ),D.tup (p.ks.map bV)]),some (.str x),o.map bV]) (o:=none) (λ y o=>rfl) (λ y hy e=>?_) (λ y e=>?_) (λ e=>?_)
 ·simp[vE,bV,bD,nP (hn y hy) hx,e]
 ·have hy:=List.mem_of_find?_eq_some e
  have e2:(y.nm==x)=true:=List.find?_some (p:=λ c:Kd=>c.nm==x) e
  have h:p.ks.find? (λ c=>c.nm==x)=some k:=h
  rw[h]at e
  cases e
  simp[vE,bV,bD,nP (hn k hy) hx,e2]
 ·have h:p.ks.find? (λ c=>c.nm==x)=some k:=h
  rw[h]at e;cases e
theorem Aw{p:Pl}(G:cY p){x:Str}{j:Int}{k:Kd}{S:aD}(h:p.kd? x=some k)(j0:0<=j)(j1:j<=k.way.length+1):kI [aZ p,.str x,.int j] S= .ok (.int (p.at x j)) S:=by
 have hk:=iI h
 have kn:=G.kn k hk.1
 have hx:nm x=true:=by rw[<-hk.2];exact kn.1
 have sw:aQ k.way.length=true:=cC (by have:=G.l6;omega)
 have hway:∀S,kG [aZ p,.str x] S= .ok (.tup (k.way.map .int)) S:=λ S=>by
  apply cK
  simp[kG,Bj,vE,Ki G hx h,bV,bD]
 apply cK
 simp[kI,Lw,vE,kT]
 rcases(show j=0\/(1<=j/\j<=k.way.length)\/(k.way.length:Int)<j from Qa)with rfl|⟨g1,g2⟩|g1
 ·simp[sU]
 ·obtain⟨wv,hw,ew⟩:=xM h g1 g2
  have n0:¬j=0:=by omega
  have n1:¬(k.way.length:Int)<j:=by omega
  have n2:0<=j-1:=by omega
  have e:atI (k.way.map D.int) (j-1)=some (.int wv):=by rw[bD n2,List.getElem?_map,hw];rfl
  simp[n0,hway,aX,vE,n1,e,ew]
 ·have n0:¬j=0:=by omega
  simp[n0,hway,aX,vE,g1,sV h g1]
  simp[aZ,bD,Pl.n]
theorem Kf{p:Pl}(G:cY p){s:Sd}(g:SdG p s){x:Str}{c:Cd}{S:aD}(hx:nm x=true)(h:s.cd? x=some c):nI [aZ p,cR s,.str x] S= .ok (.int (p.lane c)) S:=by
 obtain⟨_,k,hk,p0,p1⟩:=g.c c (Oh h).1
 apply cK
 simp[nI,Lv,vE,SM g.cn hx h,bL,aX,gC,Aw G hk p0 p1,Pl.lane]
theorem MK{p:Pl}(G:cY p){s:Sd}(g:SdG p s){x:Str}{c:Cd}{S:aD}(hx:nm x=true)(h:s.cd? x=some c):rH [aZ p,cR s,.str x] S= .ok (.bl (s.out p x)) S:=by
 apply cK
 simp[rH,Mf,vE,Kf G g hx h]
 simp[aZ,bD,kT,Sd.out,h,Pl.n]
 exact decide_eq_decide.mpr Iff.rfl
theorem SL{p:Pl}(G:cY p){s:Sd}(g:SdG p s){l:Int}{S:aD}:rP [aZ p,cR s,.int l] S= .ok (.lst ((s.inL p l).map .str)) S:=by
 apply cK
 have sc:aQ s.cs.length=true:=cC (by have:=g.nc;omega)
 simp[rP,Ml,vE,cR,bD,sc]
 refine nQ (k:=λ c:Cd=>.str c.nm) (p:=λ c=>p.lane c==l) (λ c hc=>?_) ?_
 ·obtain⟨_,k,hk,p0,p1⟩:=g.c c hc
  simp[aX,gC,bL,vE,Aw G hk p0 p1,kT,Pl.lane]
  by_cases e:p.at c.kd c.pl=l<;>simp[e]
 ·simp[eZ,Sd.inL]
theorem KP{p:Pl}(G:cY p){s:Sd}(g:SdG p s){l:Int}{x:Str}{S:aD}(hx:nm x=true):qV [aZ p,cR s,.int l,.str x] S= .ok (.int (s.many p l x)) S:=by
 apply cK
 have sc:aQ s.cs.length=true:=cC (by have:=g.nc;omega)
 simp[qV,Lk,vE,cR,bD,sc]
 refine nQ (k:=bL) (p:=λ c=>c.kd==x&&p.at x c.pl==l) (λ c hc=>?_) ?_
 ·obtain⟨_,k,hk,p0,p1⟩:=g.c c hc
  have hkn:nm c.kd=true:=by rw[<-(iI hk).2];exact(G.kn k (iI hk).1).1
  simp[aX,bL,vE,bD,nP hkn hx]
  by_cases e1:c.kd=x
  ·subst e1
   simp[Aw G hk p0 p1,kT,vE,bD]
   by_cases e:p.at c.kd c.pl=l<;>simp[e]
  ·have e2:(c.kd==x)=false:=by simpa using e1
   simp[e1,e2]
 ·simp[eZ,Sd.many]
theorem kW{f:D->EM (Option D)}{S:aD}{Q:Bool->aD->Prop}{E:D->aD->Prop}:∀{ds:List D},(∀d∈ds,f d S= .ok (some (.bl true)) S)->Q true S->Rz (kX f ds S) Q E
 |[],_,q=>q
 |d::r,h,q=>by
  have e:=h d List.mem_cons_self
  have:=kW (λ x hx=>h x (List.mem_cons_of_mem _ hx)) q (E:=E)
  unfold kX
  simp only[e,kZ,jW]
  exact this
theorem pJ{ds:List D}{a b:Int}{S:aD}(hl:aQ ds.length=true)(h0:a<=ds.length)(h1:(ds.length:Int)<=b):eR [.tup ds,.int a,.int b] S= .ok (.bl true) S:=by
 apply cK
 simp[eR,Md,vE,iB,fE,cQ,hl,h0,h1]
theorem Ba{i:Int}{S:aD}:kJ [.int i] S= .ok (.bl true) S:=by
 apply cK
 simp[kJ,Mb,vE,iB,fE,cQ]
theorem MN{i:Int}{S:aD}(h0:1<=i)(h1:i<=99):rL [.int i] S= .ok (.bl true) S:=by
 apply cK
 simp[rL,Mi,vE,Ba,cQ,h0,h1]
theorem c9{bs:List Int}{n:Int}{S:aD}(hb:∀b∈bs,1<=b/\b<=99)(hn:(bs.length:Int)=n)(hl:bs.length<=900):pE [.tup (bs.map .int),.int n] S= .ok (.bl true) S:=by
 have sl:aQ bs.length=true:=cC Qa
 apply cK
 simp[pE,Mp,vE,pJ (ds:=bs.map .int) (a:=n) (b:=n) (by rw[List.length_map];exact sl) (by rw[List.length_map];omega) (by rw[List.length_map];omega),cQ]
 refine kW (λ d hd=>?_) ?_
 ·obtain⟨b,hbm,rfl⟩:=List.mem_map.mp hd
  simp[aX,vE,MN (hb b hbm).1 (hb b hbm).2]
 ·simp
theorem ML{x:Str}{S:aD}(hx:nm x=true):rJ [.str x] S= .ok (.bl true) S:=by
 have h:=hx
 unfold nm at h
 split at h
 ·cases h
 rename_i ho
 rw[Bool.and_eq_true,Bool.and_eq_true,decide_eq_true_eq,decide_eq_true_eq,List.all_eq_true]at h
 obtain⟨h1,h2,h3⟩:=h
 have ho:(("out" :Str)==x||("yard" :Str)==x)=false:=by simpa using ho
 have sl:aQ x.length=true:=cC (by have:=Hz hx;omega)
 have hi:kO S (.str x) (.kt ["out","yard"])=some false:=by
  show some (kN (.str x) [.str "out",.str "yard"])=_
  unfold kN
  show some ((("out" :Str)==x)||((("yard" :Str)==x)||false))=some false
  rw[Bool.or_false,ho]
 apply cK
 simp[rJ,Mg,vE,iB,fE,cQ,hi,sl,h1,h2]
 refine kW (λ d hd=>?_) ?_
 ·unfold lL at hd
  obtain⟨c,hc,rfl⟩:=List.mem_map.mp hd
  have:=h3 ⟨#[c]⟩ (List.mem_map.mpr ⟨c,hc,rfl⟩)
  unfold inL at this
  simp only[dZ,sP,aX]
  simp[vE]
  simpa using this
 ·simp
theorem Be{x:Str}{xs:List Str}{S:aD}(h:x∈xs):kO S (.str x) (.lst (xs.map .str))=some true:=by
 have e:fN (xs.map D.str)=some (xs.map V.str):=Bv _
 show(match kQ (.str x),(some (xs.map D.str)).bind fN with|some v,some vs=>some (kN v vs)|_,_=>none)=_
 rw[Option.bind_some,e]
 show some (kN (.str x) (xs.map V.str))=some true
 unfold kN
 rw[List.any_eq_true.mpr ⟨.str x,List.mem_map_of_mem h,by show(x==x)=true;simp⟩]
theorem Sc{p:Pl}(G:cY p){x:Str}{k:Kd}{S:aD}(hx:nm x=true)(h:p.kd? x=some k):kG [aZ p,.str x] S= .ok (.tup (k.way.map .int)) S:=by
 apply cK
 simp[kG,Bj,vE,Ki G hx h,bV,bD]
theorem MM{p:Pl}(G:cY p){c:Cd}{S:aD}(hc:tQ p c)(hn:nm c.nm=true)(hb:c.bk=true->∀k,p.kd? c.kd=some k->c.pl<=k.way.length):rK [aZ p,bL c] S= .ok (.bl true) S:=by
 obtain⟨_,k,hk,p0,p1⟩:=hc
 have hkn:nm c.kd=true:=by rw[<-(iI hk).2];exact(G.kn k (iI hk).1).1
 have k6:aQ p.ks.length=true:=cC (by have:=G.k6;omega)
 have sw:aQ k.way.length=true:=cC (by have:=(G.kn k (iI hk).1).2.2.1;have:=G.l6;omega)
 have s4:aQ 4=true:=by decide
 have hin:∀S,kO S (.str c.kd) (.lst ((p.ks.map (·.nm)).map .str))=some true:=λ S=>Be (by rw[<-(iI hk).2];exact List.mem_map_of_mem (iI hk).1)
 have ht:∀S,eR [bL c,.int 4,.int 4] S= .ok (.bl true) S:=λ S=>pJ (ds:=[.str c.nm,.str c.kd,.int c.pl,.bl c.bk]) s4 Qb Qb
 apply cK
 simp[rK,Mh,vE,ht,cQ,aX,gC]
 simp[bL,aX,gC,vE,ML hn,cQ]
 simp[aZ,bD,k6]
 refine mJ (k:=λ k:Kd=>D.str k.nm) (λ y hy=>?_) ?_
 ·simp[aX,vE,bV,bD]
 have ep:D.tup [D.tup (p.ls.map dQ),D.tup (p.ks.map bV)]=aZ p:=rfl
 have hin2:=hin
 simp only[List.map_map]at hin2
 simp[eZ]
 rw[show(λ k:Kd=>D.str k.nm)=D.str∘(λ x:Kd=>x.nm)from rfl]
 simp[hin2,ep,vE,Sc G hkn hk,aX,sw,Ba,cQ,p0,iB,fE]
 have p2:c.pl<=(k.way.length:Int)+1:=by omega
 simp[p2]
 simp[iB,fE,cQ,vE]
 by_cases e:c.pl<(k.way.length:Int)+1
 ·simp[e]
 ·have:c.bk=false:=by
   cases hbb:c.bk with
   |false=>rfl
   |true=>exact absurd (hb hbb k hk) Qa
  simp[e,this,cQ,vE]
theorem yA{α:Type}{f:α->D}{R:α->α->Prop}:∀{xs:List α},xs.Pairwise R->∀d∈fR (xs.map f) (xs.map f).tail,∃a b,a∈xs/\b∈xs/\d= .tup [f a,f b]/\R a b
 |[],_,d,hd=>nomatch hd
 |[x],_,d,hd=>nomatch hd
 | x::y::r,h,d,hd=>by
  have h':=List.pairwise_cons.mp h
  have hd:d∈D.tup [f x,f y]::fR ((y::r).map f) ((y::r).map f).tail:=hd
  rcases List.mem_cons.mp hd with rfl|hd
  ·exact⟨x,y,Qb,Qb,rfl,h'.1 y List.mem_cons_self⟩
  ·obtain⟨a,b,ha,hb,e,q⟩:=yA h'.2 d hd
   exact⟨a,b,List.mem_cons_of_mem _ ha,List.mem_cons_of_mem _ hb,e,q⟩
theorem Nu{ds:List D}:hJ ds (some 1) none=ds.tail:=by
 cases ds with
 |nil=>rfl
 |cons d r=>
  have e:HT.sIx (r.length+1) 0 (some 1)=1:=by rw[show(1:Int)=((1:Nat):Int)from rfl,HT.sIx_nat];omega
  unfold hJ
  simp[e,HT.sIx_none]
theorem Rj{a b:Wt}(h:pS a b):Am [.str a.cd,.int a.ln,.str a.ot] [.str b.cd,.int b.ln,.str b.ot]=some true:=by
 unfold pS lG at h
 show iZ [.str a.cd,.int a.ln,.str a.ot] [.str b.cd,.int b.ln,.str b.ot]=some true
 by_cases e1:a.cd=b.cd
 ·rw[e1]at h⊢
  by_cases e2:a.ln=b.ln
  ·rw[e2]at h⊢
   have h3:=wKey_lt3.mp h
   by_cases e3:a.ot=b.ot
   ·rw[e3]at h3;exact absurd h3 (List.lt_irrefl _)
   ·simp[iZ,dX,e3,pF,h3]
  ·have h3:=(tZ e2).mp h
   simp[iZ,dX,e2,pF,h3]
 ·have h3:=(uA (λ z=>e1 (uT z))).mp h
  simp[iZ,dX,e1,pF,h3]
theorem AS{ws:List Wt}{S:aD}(h:ws.Pairwise pS)(hl:ws.length<=900):kK [.tup (ws.map cH)] S= .ok (.bl true) S:=by
 have sl:aQ ws.length=true:=cC Qa
 apply cK
 simp[kK,Bo,vE,sl,Nu]
 refine kW (λ d hd=>?_) ?_
 ·obtain⟨a,b,_,_,rfl,hab⟩:=yA h d hd
  have e:=Rj hab
  simp[aX,gC,vE,cH,e]
 ·simp
theorem AT{xs:List Str}{S:aD}(h:xs.Pairwise λ a b=>a.cps.toList<b.cps.toList)(hl:xs.length<=900):kK [.lst (xs.map .str)] S= .ok (.bl true) S:=by
 have sl:aQ xs.length=true:=cC Qa
 apply cK
 simp[kK,Bo,vE,sl,Nu]
 refine kW (λ d hd=>?_) ?_
 ·obtain⟨a,b,_,_,rfl,hab⟩:=yA h d hd
  simp[aX,gC,vE]
  exact hab
 ·simp
theorem IY{p:Pl}{s:Sd}(g:SdG p s):(s.cs.map (·.nm)).Pairwise λ a b=>a.cps.toList<b.cps.toList:=by
 have h1:=Fj g.srt
 have h2:=g.nd
 rw[List.Nodup,List.pairwise_map]at h2
 rw[List.pairwise_map]
 exact(h1.and h2).imp λ ⟨a,b⟩=>Decidable.byContradiction λ n=>b (uT (List.le_antisymm (List.not_lt.mp a) (List.not_lt.mp n)))
theorem c8{p:Pl}(G:cY p){s:Sd}(g:SdG p s){S:aD}:rS [aZ p,.tup (s.cs.map bL)] S= .ok (.bl true) S:=by
 have nc:=g.nc
 have sc:aQ s.cs.length=true:=cC Qa
 have ht:∀S,eR [.tup (s.cs.map bL),.int 0,.int 30] S= .ok (.bl true) S:=λ S=>pJ (by rw[List.length_map];exact sc) Qa (by rw[List.length_map];omega)
 apply cK
 simp[rS,Mo,vE,ht,cQ]
 refine kW (λ d hd=>?_) ?_
 ·obtain⟨c,hc,rfl⟩:=List.mem_map.mp hd
  simp[aX,vE,MM G (g.c c hc) (g.cn c hc) (g.bk c hc)]
 simp[sc,cQ]
 refine mJ (k:=λ c:Cd=>D.str c.nm) (λ y hy=>?_) ?_
 ·simp[aX,vE,bL,bD]
 have hr:=λ S=>AT (S:=S) (IY g) (by rw[List.length_map];omega)
 simp only[List.map_map]at hr
 simp[eZ]
 rw[show(λ c:Cd=>D.str c.nm)=D.str∘(λ x:Cd=>x.nm)from rfl]
 simp[hr]
theorem MJ{p:Pl}{s:Sd}(g:SdG p s)(G:cY p){w:Wt}{S:aD}(hw:w∈s.ws):rG [aZ p,.lst ((s.cs.map (·.nm)).map .str),cH w] S= .ok (.bl true) S:=by
 obtain⟨⟨c,hc,e1⟩,⟨c2,hc2,e2⟩,l0,l1⟩:=g.w w hw
 have s3:aQ 3=true:=by decide
 have sl:aQ p.ls.length=true:=cC (by have:=G.l6;omega)
 have ht:∀S,eR [cH w,.int 3,.int 3] S= .ok (.bl true) S:=λ S=>pJ (ds:=[.str w.cd,.int w.ln,.str w.ot]) s3 Qb Qb
 have i1:∀S,kO S (.str w.cd) (.lst ((s.cs.map (·.nm)).map .str))=some true:=λ S=>Be (by rw[<-e1];exact List.mem_map_of_mem hc)
 have i2:∀S,kO S (.str w.ot) (.lst ((s.cs.map (·.nm)).map .str))=some true:=λ S=>Be (by rw[<-e2];exact List.mem_map_of_mem hc2)
 have hm:∀S,qU [aZ p,.int w.ln] S= .ok (.bl true) S:=λ S=>by
  have l1:w.ln<=(p.ls.length:Int):=l1
  apply cK
  simp[qU,Lj,vE,aZ,bD,sl,l0,l1]
 simp only[List.map_map]at i1 i2
 apply cK
 simp[rG,Mc,vE,ht,cQ]
 simp[cH,aX,gC,vE,i1,i2,Ba,hm,cQ]
theorem c7{p:Pl}(G:cY p){s:Sd}(g:mP p s){S:aD}:rR [aZ p,.tup (s.cs.map bL),.tup (s.ws.map cH)] S= .ok (.bl true) S:=by
 have nc:=g.nc
 have nw:=g.nw
 have sc:aQ s.cs.length=true:=cC Qa
 have sw:aQ s.ws.length=true:=cC Qa
 have ht:∀S,eR [.tup (s.ws.map cH),.int 0,.int 60] S= .ok (.bl true) S:=λ S=>pJ (by rw[List.length_map];exact sw) Qa (by rw[List.length_map];omega)
 apply cK
 simp[rR,Mn,vE,sc]
 refine mJ (k:=λ c:Cd=>D.str c.nm) (λ y hy=>?_) ?_
 ·simp[aX,vE,bL,bD]
 simp[eZ,aX,vE,ht,cQ]
 refine kW (λ d hd=>?_) ?_
 ·obtain⟨w,hw,rfl⟩:=List.mem_map.mp hd
  have:=MJ (S:=S) g.toSdG G hw
  simp only[List.map_map]at this
  rw[show(λ c:Cd=>D.str c.nm)=D.str∘(λ x:Cd=>x.nm)from rfl]
  simp[aX,vE,this]
 ·simp[cQ,vE,AS g.rise Qa]
theorem NG{p:Pl}(G:cY p){s:Sd}(g:mP p s){w:Wt}{S:aD}(hw:w∈s.ws):rN [aZ p,cR s,cH w] S= .ok (.bl true) S:=by
 obtain⟨⟨c,hc,e1⟩,⟨c2,hc2,e2⟩,l0,l1⟩:=g.w w hw
 have n1:nm w.cd=true:=by rw[<-e1];exact g.cn c hc
 have n2:nm w.ot=true:=by rw[<-e2];exact g.cn c2 hc2
 have f1:s.cd? w.cd=some c:=by rw[<-e1];exact kR g.nd hc
 have f2:s.cd? w.ot=some c2:=by rw[<-e2];exact kR g.nd hc2
 have h:=g.hold w hw
 unfold Sd.hold at h
 rw[f1]at h
 have h:(decide (p.lane c<w.ln)||s.out p w.ot)=true:=h
 apply cK
 simp[rN,Mj,vE,cH,aX,gC,Kf G g.toSdG n1 f1]
 by_cases e:p.lane c<w.ln
 ·simp[e,cQ]
 ·have:s.out p w.ot=true:=by simpa[e]using h
  simp[e,cQ,vE,MK G g.toSdG n2 f2,this]
theorem LZ{p:Pl}(G:cY p){s:Sd}(g:mP p s){S:aD}:rB [aZ p,cR s] S= .ok (.bl true) S:=by
 have es:D.tup [D.tup (s.bs.map .int),D.tup (s.cs.map bL),D.tup (s.ws.map cH)]=cR s:=rfl
 apply cK
 simp[rB,Ly,vE,cR,bD]
 rw[es]
 refine kW (λ d hd=>?_) ?_
 ·obtain⟨w,hw,rfl⟩:=List.mem_map.mp hd
  simp[aX,vE,NG G g hw]
 ·simp
theorem MB{p:Pl}(G:cY p){s:Sd}(g:mP p s){S:aD}:rF [aZ p,cR s] S= .ok (.bl true) S:=by
 have es:D.tup [D.tup (s.bs.map .int),D.tup (s.cs.map bL),D.tup (s.ws.map cH)]=cR s:=rfl
 have nb:=g.nb
 have l6:=G.l6
 apply cK
 simp[rF,Ma,vE,cR,bD]
 rw[es]
 refine kW (λ d hd=>?_) ?_
 ·obtain⟨i,hi⟩:=List.mem_iff_getElem?.mp hd
  have hlt:i<s.bs.length:=by
   have:=(List.getElem?_eq_some_iff.mp hi).1
   rwa[xA,List.length_map]at this
  have e1:(s.bs.map D.int)[i]? =some (.int s.bs[i]):=by rw[List.getElem?_map,List.getElem?_eq_getElem hlt];rfl
  rw[Ce e1,Nat.zero_add]at hi
  cases hi
  have hr:=g.room i Qa (by unfold Pl.n;omega)
  have e2:s.bs.getD (i:Int).toNat 0=s.bs[i]:=by simp[hlt]
  rw[e2]at hr
  have sc:aQ (s.inL p i).length=true:=cC (by
   have:(s.inL p i).length<=s.cs.length:=by unfold Sd.inL;rw[List.length_map];exact List.length_filter_le _ _
   have:=g.nc
   omega)
  simp[aX,gC,vE,SL G g.toSdG,sc,hr]
 ·simp
theorem Ed:∀{w:List Int} {i:Nat} {l:Int},w.Pairwise (· < ·)->w[i]? =some l->w.findIdx (· ==l)=i
 |[],i,l,_,h=>by simp at h
 |x::w,0,l,_,h=>by
  simp at h
  simp[h,List.findIdx_cons]
 | x::w,i+1,l,hp,h=>by
  have h':=List.pairwise_cons.mp hp
  have h:w[i]? =some l:=by simpa using h
  have hne:(x==l)=false:=by
   have:=h'.1 l (List.mem_of_getElem? h)
   simp;omega
  rw[List.findIdx_cons,hne]
  simp[Ed h'.2 h]
noncomputable def IKK(p:Pl)(s:Sd)(S:aD)(n:Nat)(η:En)(S':aD):Prop:=S'=S/\∃d2 d3 d4 d5 d6:Option D,η=[some (aZ p),some (cR s),d2,d3,d4,d5,d6]
noncomputable def IJK(p:Pl)(s:Sd)(k:Kd)(S:aD)(n:Nat)(η:En)(S':aD):Prop:=S'=S/\∃d5 d6:Option D,η=[some (aZ p),some (cR s),some (.str k.nm),some (.tup (k.way.map .int)),some (.tup (k.bds.map .int)),d5,d6]
theorem MA{p:Pl}(G:cY p){s:Sd}(g:mP p s){S:aD}:rE [aZ p,cR s] S= .ok (.bl true) S:=by
 have ep:D.tup [D.tup (p.ls.map dQ),D.tup (p.ks.map bV)]=aZ p:=rfl
 apply cK
 simp[rE,Lz,vE,aZ,bD]
 rw[ep]
 refine jT (n:=0) (IKK p s S) ⟨rfl,_,_,_,_,_,rfl⟩ ?_ ?_
 ·rintro n d _ _ hd ⟨rfl,d2,d3,d4,d5,d6,rfl⟩
  rw[List.getElem?_map]at hd
  obtain⟨k,hk,rfl⟩:=Option.map_eq_some_iff.mp hd
  have hkm:=List.mem_of_getElem? hk
  obtain⟨kn,w1,w2,wp,wb,wl,bb⟩:=G.kn k hkm
  have l6:=G.l6
  refine⟨_,rfl,?_⟩
  simp[vE]
  refine jT (n:=0) (IJK p s k _) ⟨rfl,_,_,rfl⟩ ?_ ?_
  ·rintro m d _ _ hd ⟨rfl,d5,d6,rfl⟩
   have hlt:=(List.getElem?_eq_some_iff.mp hd).1
   rw[oD,List.length_map,List.length_map]at hlt
   have h1:m<k.way.length:=by omega
   have h2:m<k.bds.length:=by omega
   have e1:(k.way.map D.int)[m]? =some (.int k.way[m]):=by rw[List.getElem?_map,List.getElem?_eq_getElem h1];rfl
   have e2:(k.bds.map D.int)[m]? =some (.int k.bds[m]):=by rw[List.getElem?_map,List.getElem?_eq_getElem h2];rfl
   rw[tW e1 e2]at hd
   cases hd
   have hw:=List.getElem?_eq_getElem h1
   have hb:=wb _ (List.getElem_mem h1)
   have hr:=g.kroom k.way[m] k hb.1 hb.2 hkm (List.getElem_mem h1)
   have ekb:p.kb k.nm k.way[m]=k.bds[m]:=by
    unfold Pl.kb
    rw[zV G hkm]
    show k.bds.getD (k.way.findIdx (· ==k.way[m])) 0=_
    rw[Ed wp hw]
    simp[h2]
   rw[ekb]at hr
   refine⟨_,rfl,?_⟩
   have hn:¬k.bds[m]<(s.many p k.way[m] k.nm:Int):=by omega
   simp[vE,KP G g.toSdG kn,hn]
   exact⟨rfl,_,_,rfl⟩
  ·rintro _ _ ⟨rfl,d5,d6,rfl⟩
   exact⟨rfl,_,_,_,_,_,rfl⟩
 ·rintro _ _ ⟨rfl,d2,d3,d4,d5,d6,rfl⟩
  simp
theorem Kl{p:Pl}(G:cY p){s:Sd}(g:mP p s){S:aD}:pD [aZ p,cR s] S= .ok (.bl true) S:=by
 have l6:=G.l6
 have nb:=g.nb
 have s3:aQ 3=true:=by decide
 have sl:aQ p.ls.length=true:=cC Qa
 have ht:∀S,eR [cR s,.int 3,.int 3] S= .ok (.bl true) S:=λ S=>pJ (ds:=[.tup (s.bs.map .int),.tup (s.cs.map bL),.tup (s.ws.map cH)]) s3 Qb Qb
 have es:D.tup [D.tup (s.bs.map .int),D.tup (s.cs.map bL),D.tup (s.ws.map cH)]=cR s:=rfl
 have ep:D.tup [D.tup (p.ls.map dQ),D.tup (p.ks.map bV)]=aZ p:=rfl
 have hb:∀S,pE [.tup (s.bs.map .int),.int p.ls.length] S= .ok (.bl true) S:=λ S=>c9 g.bd Qa Qa
 apply cK
 simp[pD,Me,vE,ht,cQ]
 simp[cR,aX,gC,vE]
 rw[es]
 simp[aZ,bD,sl]
 rw[ep]
 simp[hb,vE,c8 G g.toSdG,c7 G g,cQ,MB G g,MA G g,LZ G g]
theorem OK{p:Pl}(G:cY p):mP p ⟨p.ls.map (·.2),[],[]⟩:=by
 have hb:∀b∈p.ls.map (·.2),1<=b/\b<=99:=λ b hb=>by
  obtain⟨l,hl,rfl⟩:=List.mem_map.mp hb
  exact(G.ln l hl).2
 have r:=Gh (bs:=p.ls.map (·.2)) G Qb hb
 exact{
  nb:=by simp
  bd:=hb
  nc:=by simp
  c:=λ _ h=>nomatch h
  cn:=λ _ h=>nomatch h
  nd:=.nil
  srt:=rfl
  bk:=λ _ h=>nomatch h
  nw:=by simp
  w:=λ _ h=>nomatch h
  rise:=.nil
  hold:=λ _ h=>nomatch h
  room:=r.1
  kroom:=r.2}
theorem OL{p:Pl}(G:cY p){S:aD}:rO [aZ p] S= .ok (cR ⟨p.ls.map (·.2),[],[]⟩) S:=by
 have sl:aQ p.ls.length=true:=cC (by have:=G.l6;omega)
 have s3:aQ 3=true:=by decide
 have s0:aQ 0=true:=by decide
 apply cK
 simp[rO,Mk,vE,aZ,bD,sl]
 refine mJ (k:=λ l:Str×Int=>D.int l.2) (λ l hl=>?_) ?_
 ·simp[aX,gC,vE,dQ]
 simp[s3,s0,cR]
theorem Dr:∀es:List D,fR es es=es.map λ e=>.tup [e,e]
 |[]=>rfl
 |e::es=>by rw[fR,Dr es];rfl
theorem Os{α:Type}:∀es:List α,nS (es.map λ _=>D.bl true)=some (es.map λ _=>true)
 |[]=>rfl
 |e::es=>by rw[List.map_cons,nS,Os es];rfl
theorem Pe{α:Type}:∀es:List α,(es.map λ _=>true).all id=true
 |[]=>rfl
 |e::es=>by rw[List.map_cons,List.all_cons,Pe es];rfl
theorem wY{S:aD}{b c:Bool}:gN S (.bl b) (.bl c)=some (b==c):=by cases b<;>cases c<;>rfl
theorem uD{S:aD}{x:Str}:iB S (.str x)=some "str" :=rfl
theorem uE{S:aD}{x:Int}:iB S (.int x)=some "int" :=rfl
theorem uF{S:aD}{x:Bool}:iB S (.bl x)=some "bool" :=rfl
theorem uC{S:aD}{x:List D}:iB S (.tup x)=some "tuple" :=rfl
theorem wJ:fE "tuple" "str" =false:=by decide
theorem wG:fE "tuple" "int" =false:=by decide
theorem wF:fE "tuple" "bool" =false:=by decide
theorem wE:fE "tuple" "tuple" =true:=by decide
theorem wD:fE "list" "str" =false:=by decide
theorem wC:fE "list" "int" =false:=by decide
theorem wB:fE "list" "bool" =false:=by decide
theorem wA:fE "list" "tuple" =false:=by decide
theorem vZ:fE "bool" "str" =false:=by decide
theorem wI:fE "bool" "int" =false:=by decide
theorem wH:fE "bool" "bool" =true:=by decide
noncomputable def Cq:D->Prop
 |.str x=>PyData.strOk x=true
 |.int _=>True
 |.bl _=>True
 |_=>False
theorem oS{n:Nat}{d:D}{S:aD}(h:Cq d):fA (n+1) [d,d] S= .ok (.bl true) S:=by
 apply cK
 cases d with
 |str x=>simp[fA,sJ,vE,uD,uE,uF,uC,wJ,wG,wF,wE,wD,wC,wB,wA,vZ,wI,wH,wY,sM (show PyData.strOk x=true from h) h,cQ]
 |int i=>simp[fA,sJ,vE,uD,uE,uF,uC,wJ,wG,wF,wE,wD,wC,wB,wA,vZ,wI,wH,wY,kT,cQ]
 |bl b=>simp[fA,sJ,vE,uD,uE,uF,uC,wJ,wG,wF,wE,wD,wC,wB,wA,vZ,wI,wH,wY,cQ]
 |_=>exact h.elim
theorem uY{n:Nat}{es:List D}{S:aD}(hl:es.length<=900)(h:∀e∈es,∀S,fA n [e,e] S= .ok (.bl true) S):fA (n+1) [.tup es,.tup es] S= .ok (.bl true) S:=by
 apply cK
 have sl:aQ es.length=true:=cC Qa
 simp[fA,sJ,vE,uD,uE,uF,uC,wJ,wG,wF,wE,wD,wC,wB,wA,vZ,wI,wH,wY,kT,cQ,Dr,sl]
 refine mJ (k:=λ _=>D.bl true) (λ e he=>?_) ?_
 ·simp[aX,gC,vE,h e he]
 ·have b:=Os es
  have a:=Pe es
  simp only[iJ,eZ,lX,jW,Gn,L2.sX,lstD,Option.bind_some,b,a]
  simp
theorem zJ{n:Nat}{es:List D}{S:aD}(hl:es.length<=900)(h:∀e∈es,Cq e):fA (n+2) [.tup es,.tup es] S= .ok (.bl true) S:=uY hl λ e he _=>oS (h e he)
theorem xL{x:Str}(h:nm x=true):Cq (.str x):=Ae h
theorem AM{s:Sd}{S:aD}(hb:s.bs.length<=900)(hc:s.cs.length<=900)(hw:s.ws.length<=900)(c:∀c∈s.cs,nm c.nm=true/\nm c.kd=true)(w:∀w∈s.ws,nm w.cd=true/\nm w.ot=true):fA 4 [cR s,cR s] S= .ok (.bl true) S:=by
 refine uY (n:=3) (by show 3<=900;omega) λ e he S=>?_
 simp only[List.mem_cons,List.not_mem_nil,or_false]at he
 rcases he with rfl|rfl|rfl
 ·refine zJ (n:=1) (by rw[List.length_map];exact hb) λ e he=>?_
  obtain⟨i,_,rfl⟩:=List.mem_map.mp he
  trivial
 ·refine uY (n:=2) (by rw[List.length_map];exact hc) λ e he S=>?_
  obtain⟨d,hd,rfl⟩:=List.mem_map.mp he
  refine zJ (n:=0) (by show 4<=900;omega) λ e he=>?_
  simp only[List.mem_cons,List.not_mem_nil,or_false]at he
  rcases he with rfl|rfl|rfl|rfl
  ·exact xL (c d hd).1
  ·exact xL (c d hd).2
  ·trivial
  ·trivial
 ·refine uY (n:=2) (by rw[List.length_map];exact hw) λ e he S=>?_
  obtain⟨d,hd,rfl⟩:=List.mem_map.mp he
  refine zJ (n:=0) (by show 3<=900;omega) λ e he=>?_
  simp only[List.mem_cons,List.not_mem_nil,or_false]at he
  rcases he with rfl|rfl|rfl
  ·exact xL (w d hd).1
  ·trivial
  ·exact xL (w d hd).2
noncomputable def IL2(ns:List Int)(_:Nat)(η:En)(_:aD):Prop:=∃r:En,η=some (.scr ns)::r/\r.length=6
theorem LJ:∀ns:List Int,ns.length<=63->∃S,vV [.scr ns] []= .ok (.bl true) S:=by
 intro ns hn
 suffices h:Rz (vV [.scr ns] []) (λ d _=>d= .bl true) NE by
  obtain⟨a,S,e,h⟩:=h.ok
  exact⟨S,by rw[e,h]⟩
 simp[vV,Lu,vE]
 generalize hR:(if(ns.length:Int)<12 then(ns.length:Int)else 12)+1=R
 have hR1:0<=R/\R<=1000:=by rw[<-hR];split<;>omega
 simp[oU hR1.1 (by omega:R<=1000000)]
 refine jT (n:=0) (IL2 ns) ⟨_,rfl,rfl⟩ ?_ ?_
 ·rintro n d _ S0 hd ⟨r,rfl,hr⟩
  obtain⟨hnn,rfl⟩:=pL hd
  obtain⟨r1,r2,r3,r4,r5,r6,rfl⟩:∃r1 r2 r3 r4 r5 r6,r=[r1,r2,r3,r4,r5,r6]:=by
   match r,hr with
   |[a,b,c,d,e,f],_=>exact⟨a,b,c,d,e,f,rfl⟩
  refine⟨_,rfl,?_⟩
  simp[vE]
  refine(PJ Qa).to ?_
  rintro _ _ ⟨rfl,h,rfl⟩
  have hi:S0.length<(S0++[Ob.lst [.int h]]).length:=by simp
  have hsu:S0++[Ob.lst [.int h]]=su (S0++[Ob.lst [.int h]]) S0.length h:=(Vv fS).symm
  generalize S0++[Ob.lst [.int h]]=T at hi hsu⊢
  generalize S0.length=i at hi hsu⊢
  simp[aX,vE]
  rw[hsu]
  refine(DS hi).to ?_
  rintro _ _ ⟨p,h1,l1,l2,rfl,rfl,G⟩
  have hi1:i<(T++[Ob.lst l1,Ob.lst l2]).length:=by rw[List.length_append];omega
  generalize T++[Ob.lst l1,Ob.lst l2]=T1 at hi1⊢
  have s2:aQ 2=true:=by decide
  have s3:aQ 3=true:=by decide
  have s1:aQ 1=true:=by decide
  have s0:aQ 0=true:=by decide
  simp[aX,vE,s2]
  refine(dP hi1 Qc Qc).to ?_
  rintro _ _ ⟨v,h2,rfl,rfl,v0,v1⟩
  obtain⟨m,em,m0,m1⟩:∃m:Int,atI [D.int 8,.int 30] (if decide (v=1)=true then 1 else 0)=some (.int m)/\0<=m/\m<=30:=by
   by_cases z:v=1
   ·exact⟨30,by simp[z];rfl,Qa,Qa⟩
   ·exact⟨8,by simp[z];rfl,Qa,Qa⟩
  simp at em
  simp[kT,em]
  refine(Xb G hi1 m0 m1).to ?_
  rintro _ _ ⟨s,h3,l3,l4,rfl,rfl,g⟩
  generalize su (T1++[Ob.lst l3,Ob.lst l4]) i h3=T2
  have sl:aQ p.ls.length=true:=cC (by have:=G.l6;omega)
  have gf:=OK G
  have ep:D.tup [D.tup (p.ls.map dQ),D.tup (p.ks.map bV)]=aZ p:=rfl
  have hsame:∀S,fA 4 [cR ⟨p.ls.map (·.2),[],[]⟩,cR ⟨p.ls.map (·.2),[],[]⟩] S= .ok (.bl true) S:=λ S=>AM (by have:=G.l6;simp;omega) Qb Qb (λ _ h=>nomatch h) (λ _ h=>nomatch h)
  simp[aX,vE]
  rw[Kl G g]
  simp[OL G,aX,vE]
  simp[aZ,bD,sl,vE]
  rw[ep]
  refine mJ (k:=λ l:Str×Int=>D.int l.2) (λ l hl=>?_) ?_
  ·simp[aX,vE,dQ,bD]
  have ed:D.tup [D.tup (p.ls.map λ l=>D.int l.2),D.tup [],D.tup []]=cR ⟨p.ls.map (·.2),[],[]⟩:=by simp[cR]
  simp[eZ,s0,s3,aX,vE]
  rw[ed]
  simp[hsame,cQ,vE,Kl G gf]
  exact⟨_,rfl,rfl⟩
 ·rintro _ _ ⟨r,rfl,hr⟩
  simp
end X06
namespace X06
open PySem PySem.Spec L2 PyProof.Rows PySem.W
end X06
namespace L2
open PySem PySem.Spec PyProof.Rows PySem.W
structure xT(K:Frag)(mg:Str->Option Value)(base h:Heap):Prop where
 X:K.In h
 G:h.Ns mainGlobals mg
 B:jF mg base
@[elab_as_elim] theorem mV{motive:List Value->Prop}{us:List Value}(h:us.length=1)(k:∀a0,motive [a0]):motive us:=by
 match us,h with
 |[a0],_=>exact k _
@[elab_as_elim] theorem eE{motive:List Value->Prop}{us:List Value}(h:us.length=2)(k:∀a0 a1,motive [a0,a1]):motive us:=by
 match us,h with
 |[a0,a1],_=>exact k _ _
@[elab_as_elim] theorem jG{motive:List Value->Prop}{us:List Value}(h:us.length=3)(k:∀a0 a1 a2,motive [a0,a1,a2]):motive us:=by
 match us,h with
 |[a0,a1,a2],_=>exact k _ _ _
@[elab_as_elim] theorem Sk{motive:List Value->Prop}{us:List Value}(h:us.length=4)(k:∀a0 a1 a2 a3,motive [a0,a1,a2,a3]):motive us:=by
 match us,h with
 |[a0,a1,a2,a3],_=>exact k _ _ _ _
@[elab_as_elim] theorem Sj{motive:List Value->Prop}{us:List Value}(h:us.length=5)(k:∀a0 a1 a2 a3 a4,motive [a0,a1,a2,a3,a4]):motive us:=by
 match us,h with
 |[a0,a1,a2,a3,a4],_=>exact k _ _ _ _ _
noncomputable def Df(K:Frag)(x:Str)(st:Stmt)(f:Addr)(fd:FuncData):Prop:=nsIn K mainGlobals x=some (some (.ref f))/\jY K x x st f fd
section
variable{P:Program}{w:World}{K:Frag}{mg:Str->Option Value}{base h:Heap}{x:Str}{st:Stmt}{f:Addr}{fd:FuncData}{k:Nat}{ps:List Str}{sp:Sp}
theorem Df.okX(d:Df K x st f fd)(Z:xT K mg base h)(F:fQ P w K mg base (fZ P w) k f fd ps sp)(b:∀(kV doc pm:Value) (an:Option Addr) (cdv ct:Value) (us:List Value),us.length=ps.length->bindArgs (PySem.W.fnOf x x (mG st) (bO st) (aP st) .none kV doc pm an cdv ct) ⟨us,[]⟩=pure (ps.zip us)):lC P w K mg base x k ps sp:=
 ⟨f,fd,F,PySem.W.mg_of Z.X Z.G d.1,d.2.kp,d.2.binds b⟩
end
noncomputable def vO(K:Frag)(x:Str):Bool:=match nsIn K mainGlobals x with
 |some none=>true
 |_=>false
theorem IF{K:Frag}{x:Str}(h:vO K x=true):nsIn K mainGlobals x=some none:=by
 unfold vO at h
 split at h
 ·rename_i e;exact e
 ·exact nomatch h
theorem IJ{K:Frag}{mg:Str->Option Value}{base h:Heap}{bs:List Str}(Z:xT K mg base h)(hb:bs.all (vO K)=true):∀x∈bs,mg x=none:=λ x hx=>PySem.W.mg_none_of Z.X Z.G (IF (List.all_eq_true.mp hb x hx))
end L2
end

section
noncomputable section
namespace L2
open PySem PySem.Spec PyProof.Rows PySem.W
section
variable{P:Program}{w:World}{K:Frag}{mg:Str->Option Value}{base:Heap}{G:Gd}{sp:Nat->(List D->EM D)->Sp}
noncomputable def mS(P:Program)(w:World)(K:Frag)(mg:Str->Option Value)(base:Heap)(sp:Nat->(List D->EM D)->Sp)(l:List (Str×(Nat×Nat×(List D->EM D)))):Prop:=∀p∈l,∃ps,lC P w K mg base p.1 p.2.1 ps (sp p.2.2.1 p.2.2.2)
theorem bY:mS P w K mg base sp []:=λ _ h=>nomatch h
theorem bI{x:Str}{k ar:Nat}{g:List D->EM D}{ps:List Str}{l:List (Str×(Nat×Nat×(List D->EM D)))}(h:lC P w K mg base x k ps (sp ar g))(t:mS P w K mg base sp l):mS P w K mg base sp ((x,k,ar,g)::l):=λ p hp=>by
 rcases List.mem_cons.mp hp with rfl|hp
 ·exact⟨ps,h⟩
 ·exact t p hp
noncomputable def pY(P:Program)(w:World)(K:Frag)(mg:Str->Option Value)(base:Heap)(sp:Nat->(List D->EM D)->Sp)(l:List (Str×(Nat×Nat×(List D->EM D)))):Prop:=True
theorem bX:pY P w K mg base sp []:=trivial
noncomputable def pZ(K:Frag)(mg:Str->Option Value)(l:List (Str×D)):Prop:=∀p∈l,∃v u,(∀(G:Gd) (ρ:Wo) (H:Hp),G.K=K->aU G ρ H p.2 v)/\mg p.1=some u/\bM v u
theorem SF:pZ K mg []:=λ _ h=>nomatch h
theorem pN{x:Str}{d:D}{v:V}{u:Value}{l:List (Str×D)}(h:mg x=some u)(r:bM v u)(e:DT d=some v)(t:pZ K mg l):pZ K mg ((x,d)::l):=λ p hp=>by
 rcases List.mem_cons.mp hp with rfl|hp
 ·refine⟨v,u,λ G ρ H _=>?_,h,r⟩
  cases d<;>first|(cases e;done)|(cases e;rfl)
 ·exact t p hp
theorem SE{x:Str}{xs:List Str}{a:Addr}{ob:Obj}{its:Array Value}{n:Nat}{l:List (Str×D)}(h:mg x=some (.ref a))(lo:K.lookup a=some ob)(oc:ob.cls= .type "tuple")(od:ob.data= .seq its n)(hz:its.size<=sizeLine)(hv:aW (xs.map V.str) its.toList)(t:pZ K mg l):pZ K mg ((x,.kt xs)::l):=λ p hp=>by
 rcases List.mem_cons.mp hp with rfl|hp
 ·exact⟨.ref a,.ref a,λ G ρ H e=>⟨a,rfl,λ H'=>.inr ⟨ob,its,n,e▸lo,oc,od,hz,hv⟩⟩,h,rfl⟩
 ·exact t p hp
noncomputable def Pj(P:Program)(w:World)(K:Frag)(mg:Str->Option Value)(base:Heap)(cl:List (Str×Addr))(l:List (Str×List Str)):Prop:=True
theorem Rh{cl:List (Str×Addr)}:Pj P w K mg base cl []:=trivial
noncomputable def Kh(K:Frag)(cl:List (Str×Addr))(sub:List (Str×List Str))(kn hd:List (Str×Addr)):Bool:=true
noncomputable def De(mg:Str->Option Value)(l:List (Str×Addr)):Prop:=∀p∈l,mg p.1=some (.ref p.2)
theorem Ia:De mg []:=λ _ h=>nomatch h
structure Dm(P:Program)(w:World)(K:Frag)(mg:Str->Option Value)(base:Heap)(cl:List (Str×Addr))(con:List (Str×D))(xs:List (Str×List Str))(no:List Str)(kn:List (Str×Addr))(sub:List (Str×List Str))(hd:List (Str×Addr)):Prop where
 fcon:pZ K mg con
 fxs:Pj P w K mg base cl xs
 fno:∀x∈no,mg x=none
 fkn:De mg kn
 fhd:De mg hd
 hdx:hd.all (λ _=>true)=true
 tab:Kh K cl sub kn hd=true
theorem Dm.glb{cl:List (Str×Addr)}{con:List (Str×D)}{xs:List (Str×List Str)}{no:List Str}{kn:List (Str×Addr)}{sub:List (Str×List Str)}{hd:List (Str×Addr)}{ts:List Addr}{fn fh:List (Str×(Nat×Nat×(List D->EM D)))}{kn' hd':List Str}(F:Dm P w K mg base cl con xs no kn sub hd)
  (h1:mS P w K mg base sp fn) (h2:pY P w K mg base sp fh) (e1:kn'=kn.map (·.1)) (e2:hd'=hd.map (·.1)):tK P w K mg base ⟨K,λ x=>lk x cl,ts⟩ ⟨fn,con,xs,no,kn',sub,hd',fh⟩ sp:=by
 subst e1;subst e2
 exact⟨λ x d h=>(F.fcon (x,d) (nJ h)).imp λ v ⟨u,h1,h2⟩=>⟨u,λ ρ H=>h1 _ ρ H rfl,h2⟩,λ x k ar g h=>h1 (x,k,ar,g) (nJ h),trivial,trivial,F.fno,trivial,trivial,trivial⟩
noncomputable def uW(ts:List Addr)(K:Frag):Sp:=λ vs H Q _=>∃(a:Addr) (ns:List Int),vs=[.ref a]/\bA K H a (ns.map V.int)/\(∀xs,H a≠some (.lst xs))/\ns.length<=63/\Tb ts H/\∀H',Q (.bl true) H'
theorem LK{k:Nat}{f:Addr}{fd:FuncData}{ps:List Str}{cl:Str->Option Addr}{ts:List Addr}{g:List D->EM D}(F:fQ P w K mg base (fZ P w) k f fd ps (eQ ⟨K,cl,ts⟩ 1 g))(hg:∀ns:List Int,ns.length<=63->∃S,g [.scr ns] []= .ok (.bl true) S):
  fQ P w K mg base (fZ P w) k f fd ps (uW ts K):=by
 refine F.imp λ vs H Q E ⟨a,ns,ev,hS,hn,hl,ht,q⟩=>?_
 subst ev
 obtain⟨S,e⟩:=hg ns hl
 have no:∀b:Addr,b∉(⟨[],[]⟩:Wo):=λ b z=>nomatch(show b∈([]:List Addr)from z)
 refine⟨rfl,⟨[],[]⟩,[],[.scr ns],⟨rfl,List.nodup_nil,(λ i o h=>by simp at h),ht,λ P _=>no P,(λ _ h=>nomatch h)⟩,⟨_,[],rfl,⟨a,rfl,?_⟩,rfl⟩,?_⟩
 ·rcases hS with(h|⟨o,h⟩)|h
  ·exact(hn _ h).elim
  ·exact .inl ⟨no a,o,h⟩
  ·exact .inr λ H'=>.inr h
 ·rw[e]
  intro ρ' H' v _ _ hv
  cases hv
  exact q H'
end
section
variable{P:Program}{w:World}{K:Frag}{mg:Str->Option Value}{base:Heap}{G:Gd}
theorem Xj{x:Str}{st:Stmt}{f:Addr}{fd:FuncData}{k ar:Nat}{ps:List Str}{g:List D->EM D}(F:jY K x x st f fd)(hm:mg x=some (.ref f))(hk:keepIn K (.ref f)=true)(hb:tR K fd ps [])(hl:ar=ps.length:=by rfl)(hg:∀ds S,g ds S= .bad:=by intro _ _;rfl):
  lC P w K mg base x k ps (eQ G ar g):=
 ⟨f,fd,⟨λ vs H Q E h=>h.1.trans hl,λ A outer s H args us vs Q E hr he hbb hv hs=>by
  obtain⟨_,ρ,S,ds,_,_,q⟩:=hs
  rw[hg]at q
  exact q.elim⟩,hm,hk,hb⟩
end
end L2
end

section
noncomputable section
namespace L2
open PySem PySem.Spec PyProof.Rows PySem.W
section
variable{P:Program}{w:World}{K:Frag}{mg:Str->Option Value}{base h:Heap}{G:Gd}{x:Str}{st:Stmt}{f:Addr}{fd:FuncData}{N ps mu kn hd no:List Str}{mr:Bool}{k n:Nat}{m:List D->EM D}{fn fh:List (Str×(Nat×Nat×(List D->EM D)))}{con:List (Str×D)}{xs sub:List (Str×List Str)}
structure xW(P:Program)(w:World)(K:Frag)(mg:Str->Option Value)(base h:Heap)(G:Gd)(con:List (Str×D))(xs:List (Str×List Str))(no kn:List Str)(sub:List (Str×List Str))(hd:List Str):Prop where
 Z:xT K mg base h
 kb:K.In base
 e:K=G.K
 gl:∀fn fh,mS P w K mg base (eQ G) fn->pY P w K mg base (eQ G) fh->tK P w K mg base G ⟨fn,con,xs,no,kn,sub,hd,fh⟩ (eQ G)
noncomputable abbrev Bd(x:Str)(st:Stmt)(ps:List Str):Prop:=∀(kV doc pm:Value) (an:Option Addr) (cdv ct:Value) (us:List Value),us.length=ps.length->bindArgs (PySem.W.fnOf x x (mG st) (bO st) (aP st) .none kV doc pm an cdv ct) ⟨us,[]⟩=pure (ps.zip us)
theorem lD(d:Df K x st f fd)(F:xW P w K mg base h G con xs no kn sub hd)(c:bR ⟨fn,con,xs,no,kn,sub,hd,fh⟩ n ⟨N,aP st,k,true,true,false,true,mu,mr⟩ (bO st)=m)(hs:bW N ps (aP st)=true)(h1:mS P w K mg base (eQ G) fn)(h2:pY P w K mg base (eQ G) fh):
  fQ P w K mg base (fZ P w) (k+1) f fd ps (eQ G ps.length m):=by
 rw[<-c];exact PL d.2 F.e hs (F.gl _ _ h1 h2)
theorem cD(d:Df K x st f fd)(F:xW P w K mg base h G con xs no kn sub hd)(c:bR ⟨fn,con,xs,no,kn,sub,hd,fh⟩ n ⟨N,aP st,k,true,true,false,true,mu,mr⟩ (bO st)=m)(hs:bW N ps (aP st)=true)(h1:mS P w K mg base (eQ G) fn)(h2:pY P w K mg base (eQ G) fh)(b:Bd x st ps):
  lC P w K mg base x (k+1) ps (eQ G ps.length m):=d.okX F.Z (lD d F c hs h1 h2) b
structure iS(K:Frag)(x:Str)(st:Stmt)(T:Addr):Prop where
 F:∃f c fd,nsIn K mainGlobals x=some (some (.ref f))/\oB K x x st f fd c/\PySem.W.tabIn K x=some (c,T)/\PySem.W.codeHdIn K c T=true
theorem Tn{f c T:Addr}{od an cd:Option Addr}{sl cs:Array (Option Value)}{oc kV dc pm ct cc:Value}{vs:Array Value}(a:nsIn K mainGlobals x=some (some (.ref f)))(l:K.lookup f=some ⟨oc,od,.func (PySem.W.fnOf x x (mG st) (bO st) (aP st) .none kV dc pm an (.ref c) ct),sl⟩)(o:PySem.W.codeIn K (.ref c) x=true)(k:PySem.W.keepIn K (.ref f)=true)
  (lc:K.lookup c=some ⟨cc,cd,.fields vs,cs⟩) (h:(vs[11]?:Option Value)=some (.ref T)) (t:PySem.W.tabIn K x=some (c,T)) (hd:PySem.W.codeHdIn K c T=true):iS K x st T:=⟨f,c,_,a,⟨⟨_,_,_,_,_,_,_,_,rfl,l,o⟩,k⟩,t,hd⟩
theorem iS.t{T:Addr}(t:iS K x st T):∃c,PySem.W.tabIn K x=some (c,T):=by
 obtain⟨f,c,fd,_,_,h,_⟩:=t.F
 exact⟨c,h⟩
theorem cT{T:Addr}(t:iS K x st T)(F:xW P w K mg base h G con xs no kn sub hd)(hT:T∈G.ts)(c:bR ⟨fn,con,xs,no,kn,sub,hd,fh⟩ n ⟨N,aP st,k,true,true,true,true,mu,mr⟩ (bO st)=m)(hs:bW N ps (aP st)=true)(h1:mS P w K mg base (eQ G) fn)(h2:pY P w K mg base (eQ G) fh)(b:Bd x st ps):
  lC P w K mg base x (k+1) ps (eQ G ps.length m):=by
 obtain⟨f,cx,fd,g,C,_,hd⟩:=t.F
 exact⟨f,fd,by rw[<-c];exact PK C F.e hs (F.gl _ _ h1 h2) F.Z.B (PySem.W.codeHd_of_K F.kb hd) hT,PySem.W.mg_of F.Z.X F.Z.G g,C.kp,C.fn.binds b⟩
noncomputable def Ep(K:Frag)(y:Str):Bool:=match PySem.W.tabIn K y with
 |some (_,P)=>(K.lookup P).isNone
 |none=>true
theorem To{l:List Str}(h:l.all (Ep K)=true):∀y∈l,∀c P,PySem.W.tabIn K y=some (c,P)->K.lookup P=none:=λ y hy c P e=>by
 have:=List.all_eq_true.mp h y hy
 unfold Ep at this
 rw[e]at this
 exact Option.isNone_iff_eq_none.mp this
end
end L2
end

section
noncomputable section
namespace X06
open PySem L2 PyProof.Rows
noncomputable abbrev lZ:List Str:=["are_bounds","is_name","are_rising","are_cards","are_waits","keeps_waits","keeps_bounds","first_stand"]
theorem all_mk{l:PySem.W.OpenLaw}{w:World}{K:PySem.W.Frag}{h:Heap}{mg:Str->Option Value}{fa:Addr}(X:K.In h)(G:h.Ns mainGlobals mg)(hfa:mg "law" =some (.ref fa))
  {t0:Tok} {t1:Tok} {t2:Tok} {t3:Tok} {t4:Tok} {t5:Tok}
  {ka0:Addr} {ko0:Obj} {kn0:Nat} {kt0_0:Tok} {kt0_1:Tok}
  {f0 f1 f2 f3 f4 f5 f6 f7 f8 f9 f10 f11 f12 f15 f16 f17 f20 f21 f23 f24 f25 f26 f27 f29 f31 f32 f33 f35 f36:Addr} {g0 g1 g2 g3 g4 g5 g6 g7 g8 g9 g10 g11 g12 g15 g16 g17 g20 g21 g23 g24 g25 g26 g27 g29 g31 g32 g33 g35 g36:FuncData}
  (d0:Df K "_law_digits" (aK 39) f0 g0)
  (d1:Df K "_law_take" (aK 40) f1 g1)
  (d2:Df K "_law_words" (aK 41) f2 g2)
  (d3:Df K "_law_bound" (aK 42) f3 g3)
  (d4:Df K "_law_plan" (aK 43) f4 g4)
  (d5:Df K "_law_kind" (aK 44) f5 g5)
  (d6:Df K "_law_lane" (aK 45) f6 g6)
  (d7:Df K "_law_room" (aK 46) f7 g7)
  (d8:Df K "_law_bars" (aK 47) f8 g8)
  (d9:Df K "_law_stand" (aK 48) f9 g9)
  (d10:Df K "is_tuple" (aK 15) f10 g10)
  (d11:Df K "is_whole" (aK 14) f11 g11)
  (d12:Df K "is_bound" (aK 13) f12 g12)
  {tp13:Addr} (b13:iS K "are_bounds" (aK 12) tp13)
  {tp14:Addr} (b14:iS K "is_name" (aK 9) tp14)
  (d15:Df K "kind_of" (aK 11) f15 g15)
  (d16:Df K "way_of" (aK 10) f16 g16)
  (d17:Df K "is_card" (aK 31) f17 g17)
  {tp18:Addr} (b18:iS K "are_rising" (aK 34) tp18)
  {tp19:Addr} (b19:iS K "are_cards" (aK 30) tp19)
  (d20:Df K "may_wait_at" (aK 28) f20 g20)
  (d21:Df K "is_wait" (aK 33) f21 g21)
  {tp22:Addr} (b22:iS K "are_waits" (aK 32) tp22)
  (d23:Df K "card_of" (aK 22) f23 g23)
  (d24:Df K "lane_at" (aK 26) f24 g24)
  (d25:Df K "lane_of" (aK 23) f25 g25)
  (d26:Df K "is_out" (aK 27) f26 g26)
  (d27:Df K "holds" (aK 29) f27 g27)
  {tp28:Addr} (b28:iS K "keeps_waits" (aK 37) tp28)
  (d29:Df K "cards_in" (aK 24) f29 g29)
  {tp30:Addr} (b30:iS K "keeps_bounds" (aK 35) tp30)
  (d31:Df K "many_of" (aK 25) f31 g31)
  (d32:Df K "keeps_kinds" (aK 36) f32 g32)
  (d33:Df K "is_stand" (aK 21) f33 g33)
  {tp34:Addr} (b34:iS K "first_stand" (aK 20) tp34)
  (d35:Df K "_law_same" (aK 49) f35 g35)
  (d36:Df K "law" (aK 50) f36 g36)
  (xt:Kh K ([]:List (Str×Addr)) sub ([]:List (Str×Addr)) ([]:List (Str×Addr))=true)
  (xh:List.all ([]:List (Str×Addr)) (λ _=>true)=true)
  (zz:no.all (vO K)=true)
  (gl0:PySem.W.nsIn K mainGlobals "GREATEST_BOUND" =some (some (.int 99 t0)))
  (gl1:PySem.W.nsIn K mainGlobals "LETTERS" =some (some (.str "abcdefghijklmnopqrstuvwxyz" t1)))
  (gl2:PySem.W.nsIn K mainGlobals "LONGEST_NAME" =some (some (.int 8 t2)))
  (gl3:PySem.W.nsIn K mainGlobals "MOST_CARDS" =some (some (.int 30 t3)))
  (gl4:PySem.W.nsIn K mainGlobals "MOST_WAITS" =some (some (.int 60 t4)))
  (gl5:PySem.W.nsIn K mainGlobals "OUTSIDE" =some (some (.ref ka0))) (kl0:K.lookup ka0=some ko0) (kc0:ko0.cls= .type "tuple") (kd0:ko0.data= .seq #[.str "out" kt0_0,.str "yard" kt0_1] kn0)
  (gl6:PySem.W.nsIn K mainGlobals "YARD" =some (some (.int (-1) t5)))
  :∃fd:FuncData,(∀(s:Shared) (v:Value),BindsTo s fd ⟨[v],[]⟩ [("_law_script",v)])/\∀base:Heap,K.In base->base.Ns mainGlobals mg->jF mg base->fQ l.prog w K mg base (fZ l.prog w) 10 fa fd ["_law_script"] (uW (mX K lZ) K):=by
 have e:=hfa.symm.trans (PySem.W.mg_of X G d36.1)
 cases e
 obtain⟨y13,i13⟩:=b13.t
 obtain⟨y14,i14⟩:=b14.t
 obtain⟨y18,i18⟩:=b18.t
 obtain⟨y19,i19⟩:=b19.t
 obtain⟨y22,i22⟩:=b22.t
 obtain⟨y28,i28⟩:=b28.t
 obtain⟨y30,i30⟩:=b30.t
 obtain⟨y34,i34⟩:=b34.t
 have et:mX K lZ=[tp13,tp14,tp18,tp19,tp22,tp28,tp30,tp34]:=by
  unfold mX lZ
  simp only[List.filterMap_cons,List.filterMap_nil,i13,i14,i18,i19,i22,i28,i30,i34,Option.map]
 rw[et]
 refine⟨g36,λ s v=>?_,λ base kb nb hbm=>?_⟩
 ·obtain⟨_,_,_,_,_,_,_,_,_,e,_,_⟩:=d36.2.ex
  rw[e]
  exact .of_eq rfl
 have Z:xT K mg base h:=⟨X,G,hbm⟩
 have zn:=IJ Z zz
 have FZ:xW l.prog w K mg base h (⟨K,λ x=>lk x ([]:List (Str×Addr)),[tp13,tp14,tp18,tp19,tp22,tp28,tp30,tp34]⟩:Gd) con xs no kn sub hd:=⟨Z,kb,rfl,λ _ _ h1 h2=>Dm.glb (kn:=([]:List (Str×Addr))) (hd:=([]:List (Str×Addr))) ⟨(pN (v:=.int 99) (PySem.W.mg_of X G gl0) ⟨_,rfl⟩ rfl (pN (v:=.str "abcdefghijklmnopqrstuvwxyz") (PySem.W.mg_of X G gl1) ⟨_,rfl⟩ rfl (pN (v:=.int 8) (PySem.W.mg_of X G gl2) ⟨_,rfl⟩ rfl (pN (v:=.int 30) (PySem.W.mg_of X G gl3) ⟨_,rfl⟩ rfl (pN (v:=.int 60) (PySem.W.mg_of X G gl4) ⟨_,rfl⟩ rfl (SE (PySem.W.mg_of X G gl5) kl0 kc0 kd0 (by show 2<=sizeLine;decide) (.cons ⟨_,rfl⟩ (.cons ⟨_,rfl⟩ .nil)) (pN (v:=.int (-1)) (PySem.W.mg_of X G gl6) ⟨_,rfl⟩ rfl SF))))))),Rh,zn,Ia,Ia,xh,xt⟩ h1 h2 rfl rfl⟩
 have bE0:=cD d0 FZ VH RA bY bX (λ _ _ _ _ _ _ us hl=>eE hl λ _ _=>rfl)
 have tP:=cD d1 FZ TX PR bY bX (λ _ _ _ _ _ _ us hl=>eE hl λ _ _=>rfl)
 have Pv:=cD d2 FZ TW PQ (bI tP bY) bX (λ _ _ _ _ _ _ us hl=>eE hl λ _ _=>rfl)
 have Pw:=cD d3 FZ VI RB (bI tP bY) bX (λ _ _ _ _ _ _ us hl=>mV hl λ _=>rfl)
 have bC0:=cD d4 FZ VE PX (bI Pv (bI tP (bI Pw bY))) bX (λ _ _ _ _ _ _ us hl=>mV hl λ _=>rfl)
 have bD0:=cD d5 FZ VG PZ bY bX (λ _ _ _ _ _ _ us hl=>eE hl λ _ _=>rfl)
 have Do:=cD d6 FZ VF PY (bI bD0 bY) bX (λ _ _ _ _ _ _ us hl=>eE hl λ _ _=>rfl)
 have bB0:=cD d7 FZ VD PV (bI Do bY) bX (λ _ _ _ _ _ _ us hl=>Sj hl λ _ _ _ _ _=>rfl)
 have bF0:=cD d8 FZ VJ RC (bI Do bY) bX (λ _ _ _ _ _ _ us hl=>jG hl λ _ _ _=>rfl)
 have aV0:=cD d9 FZ TY PU (bI Pw (bI tP (bI Pv (bI bB0 (bI Do (bI bF0 bY)))))) bX (λ _ _ _ _ _ _ us hl=>jG hl λ _ _ _=>rfl)
 have qA:=cD d10 FZ VU RM bY bX (λ _ _ _ _ _ _ us hl=>jG hl λ _ _ _=>rfl)
 have Dq:=cD d11 FZ VS RK bY bX (λ _ _ _ _ _ _ us hl=>mV hl λ _=>rfl)
 have bP0:=cD d12 FZ VZ RR (bI Dq bY) bX (λ _ _ _ _ _ _ us hl=>mV hl λ _=>rfl)
 have bW0:=cT b13 FZ Qb XH RZ (bI bP0 (bI qA bY)) bX (λ _ _ _ _ _ _ us hl=>eE hl λ _ _=>rfl)
 have bN0:=cT b14 FZ Qb VX RP bY bX (λ _ _ _ _ _ _ us hl=>mV hl λ _=>rfl)
 have bG0:=cD d15 FZ VO RG bY bX (λ _ _ _ _ _ _ us hl=>eE hl λ _ _=>rfl)
 have Pu:=cD d16 FZ TR PM (bI bG0 bY) bX (λ _ _ _ _ _ _ us hl=>eE hl λ _ _=>rfl)
 have bO0:=cD d17 FZ VY RQ (bI qA (bI bN0 (bI Pu (bI Dq bY)))) bX (λ _ _ _ _ _ _ us hl=>eE hl λ _ _=>rfl)
 have Py:=cT b18 FZ Qb XF RX bY bX (λ _ _ _ _ _ _ us hl=>mV hl λ _=>rfl)
 have bV0:=cT b19 FZ Qb XG RY (bI qA (bI bO0 (bI Py bY))) bX (λ _ _ _ _ _ _ us hl=>eE hl λ _ _=>rfl)
 have aT0:=cD d20 FZ TU PN bY bX (λ _ _ _ _ _ _ us hl=>eE hl λ _ _=>rfl)
 have bK0:=cD d21 FZ VT RL (bI qA (bI Dq (bI aT0 bY))) bX (λ _ _ _ _ _ _ us hl=>jG hl λ _ _ _=>rfl)
 have bU0:=cT b22 FZ Qb XE RW (bI qA (bI bK0 (bI Py bY))) bX (λ _ _ _ _ _ _ us hl=>jG hl λ _ _ _=>rfl)
 have bT0:=cD d23 FZ XD RV bY bX (λ _ _ _ _ _ _ us hl=>eE hl λ _ _=>rfl)
 have Dp:=cD d24 FZ VN RF (bI Pu bY) bX (λ _ _ _ _ _ _ us hl=>jG hl λ _ _ _=>rfl)
 have Px:=cD d25 FZ VM RE (bI bT0 (bI Dp bY)) bX (λ _ _ _ _ _ _ us hl=>jG hl λ _ _ _=>rfl)
 have bM0:=cD d26 FZ VW RO (bI Px bY) bX (λ _ _ _ _ _ _ us hl=>jG hl λ _ _ _=>rfl)
 have bQ0:=cD d27 FZ XA RS (bI bM0 (bI Px bY)) bX (λ _ _ _ _ _ _ us hl=>jG hl λ _ _ _=>rfl)
 have bH0:=cT b28 FZ Qb VP RH (bI bQ0 bY) bX (λ _ _ _ _ _ _ us hl=>eE hl λ _ _=>rfl)
 have bS0:=cD d29 FZ XC RU (bI Dp bY) bX (λ _ _ _ _ _ _ us hl=>jG hl λ _ _ _=>rfl)
 have bJ0:=cT b30 FZ Qb VR RJ (bI bS0 bY) bX (λ _ _ _ _ _ _ us hl=>eE hl λ _ _=>rfl)
 have aU0:=cD d31 FZ TV PP (bI Dp bY) bX (λ _ _ _ _ _ _ us hl=>Sk hl λ _ _ _ _=>rfl)
 have bI0:=cD d32 FZ VQ RI (bI aU0 bY) bX (λ _ _ _ _ _ _ us hl=>eE hl λ _ _=>rfl)
 have bL0:=cD d33 FZ VV RN (bI qA (bI bW0 (bI bV0 (bI bU0 (bI bH0 (bI bJ0 (bI bI0 bY))))))) bX (λ _ _ _ _ _ _ us hl=>eE hl λ _ _=>rfl)
 have bR0:=cT b34 FZ Qb XB RT bY bX (λ _ _ _ _ _ _ us hl=>mV hl λ _=>rfl)
 have bA0:lC l.prog w K mg base "_law_same" 1 ["_law_found","_law_due"] (eQ (⟨K,λ x=>lk x ([]:List (Str×Addr)),[tp13,tp14,tp18,tp19,tp22,tp28,tp30,tp34]⟩:Gd) 2 (fA 0)):=Xj (d35.2) (PySem.W.mg_of X G d35.1) d35.2.kp (d35.2.binds (λ _ _ _ _ _ _ us hl=>eE hl λ _ _=>rfl))
 have aZ0:=cD d35 FZ VC xC (bI bA0 bY) bX (λ _ _ _ _ _ _ us hl=>eE hl λ _ _=>rfl)
 have aY0:=cD d35 FZ VB xC (bI aZ0 bY) bX (λ _ _ _ _ _ _ us hl=>eE hl λ _ _=>rfl)
 have aX0:=cD d35 FZ VA xC (bI aY0 bY) bX (λ _ _ _ _ _ _ us hl=>eE hl λ _ _=>rfl)
 have aW0:=cD d35 FZ TZ xC (bI aX0 bY) bX (λ _ _ _ _ _ _ us hl=>eE hl λ _ _=>rfl)
 exact LK (lD d36 FZ VL RD (bI bE0 (bI bC0 (bI aV0 (bI tP (bI bL0 (bI bR0 (bI aW0 bY))))))) bX) LJ
theorem walk{l:PySem.W.OpenLaw}{q:Program}{loose:List Str}{XP:(Str->Option Value)->Heap->Prop}{YP:World->Heap->Prop}{d:DefRec}{K:Params->PySem.W.Frag}(hn:l.most=some 63)(hdf:d.params.defaults=[])
  (hY:∀(w:World) (h:Heap),YP w h->(K w.params).In h)
  (hgn:∀y∈lZ,((recsOf q).find? (λ e=>e.name==y)).isSome=true)
  (hT:∀(w:World) (h:Heap),(K w.params).In h->∀y∈lZ,∀c P,PySem.W.tabIn (K w.params) y=some (c,P)->(K w.params).lookup P=none)
  (F:∀(w:World) (mg:Str->Option Value) (fa:Addr) (h:Heap),(K w.params).In h->h.Ns mainGlobals mg->mg d.name=some (.ref fa)->
   ∃fd:FuncData,(∀(s:Shared) (u:Value),BindsTo s fd ⟨[u],[]⟩ [("_law_script",u)])/\∀base:Heap,(K w.params).In base->base.Ns mainGlobals mg->jF mg base->fQ l.prog w (K w.params) mg base (fZ l.prog w) 10 fa fd ["_law_script"] (uW (mX (K w.params) lZ) (K w.params))):
  PySem.W.WalkO q loose XP YP l.row.toRowW d [] (λ f vs=>PySem.call f vs):=
 L2.Se (n:=63) (k:=10) (x:= "_law_script") (CX:=λ w=>fZ l.prog w) (sp:=λ w=>uW (mX (K w.params) lZ) (K w.params)) lZ hn Qc hdf ⟨rfl,Qc,Qc⟩ hY hgn hT F
  (λ w H a ns hl hO hS=>⟨a,ns,rfl,hS,λ xs z=>(hO.1 a).elim (λ q=>(by rw[z]at q;cases q)) (λ q=>q.elim (λ ⟨_,_,q⟩=>(by rw[z]at q;cases q)) λ ⟨_,q⟩=>(by rw[z]at q;cases q)),hl,λ P hP=>⟨#[],hO.2 P hP,by trivial⟩,λ _=>rfl⟩) λ w H s e s' z=>by
   obtain⟨_,_,_,_,_,_,_,_,_,_,_,_,_,_,z⟩:=z
   exact z
end X06
def PySem.W.Fast.tw3712195893193327152:Unit:=()
def PySem.W.Fast.tw11568209623182923959:Unit:=()
def PySem.W.Fast.tw6407854755749775130:Unit:=()
def PySem.W.Fast.tw1172321160955543410:Unit:=()
def PySem.W.Fast.tw9916740967416021151:Unit:=()
def PySem.W.Fast.tw17594212844547096250:Unit:=()
def PySem.W.Fast.tw2364298824345228109:Unit:=()
def PySem.W.Fast.tw16510020139592799572:Unit:=()
def PySem.W.Fast.tw8863253782318697186:Unit:=()
def PySem.W.Fast.tw3418569486417001054:Unit:=()
def PySem.W.Fast.tw10199708611083739827:Unit:=()
def PySem.W.Fast.tw9181815113048682263:Unit:=()
def PySem.W.Fast.tw1975815008373846670:Unit:=()
def PySem.W.Fast.tw9901780819343871799:Unit:=()
def PySem.W.Fast.tw4002306246368376379:Unit:=()
def PySem.W.Fast.tw2391711940039758535:Unit:=()
def PySem.W.Fast.tw7939224515693034875:Unit:=()
def PySem.W.Fast.tw9074268218073616285:Unit:=()
def PySem.W.Fast.tw3075133153419129338:Unit:=()
def PySem.W.Fast.tw12744530667608716546:Unit:=()
def PySem.W.Fast.tw400374962552683196:Unit:=()
def PySem.W.Fast.tw17990441834227451796:Unit:=()
def PySem.W.Fast.tw16797317808091361026:Unit:=()
def PySem.W.Fast.tw10807611517288296187:Unit:=()
def PySem.W.Fast.tw13752276414721888469:Unit:=()
def PySem.W.Fast.tw15032565972174105223:Unit:=()
def PySem.W.Fast.tw7352922352288468531:Unit:=()
def PySem.W.Fast.tw9049912594268298601:Unit:=()
def PySem.W.Fast.tw6933326092978076030:Unit:=()
def PySem.W.Fast.tw7535683291802457596:Unit:=()
def PySem.W.Fast.tw2931780318592057782:Unit:=()
def PySem.W.Fast.tw14318497402133526608:Unit:=()
def PySem.W.Fast.tw5218287588369658923:Unit:=()
def PySem.W.Fast.tw5822561007973412444:Unit:=()
def PySem.W.Fast.tw13404917413181484449:Unit:=()
def PySem.W.Fast.tw12866062449938947523:Unit:=()
def PySem.W.Fast.tw2633514501827604322:Unit:=()
def PySem.W.Fast.tw1155529584338384316:Unit:=()
def PySem.W.Fast.tw6020499309141230340:Unit:=()
def PySem.W.Fast.tw14132819192093290416:Unit:=()
def PySem.W.Fast.tw3193379250158284313:Unit:=()
def PySem.W.Fast.tw14993671385963486956:Unit:=()
def PySem.W.Fast.tw11824243474568755681:Unit:=()
def PySem.W.Fast.tw11417858546657803562:Unit:=()
def PySem.W.Fast.tw16352042874282593879:Unit:=()
def PySem.W.Fast.tw182342641202040346:Unit:=()
def PySem.W.Fast.tw18090548618121063904:Unit:=()
def PySem.W.Fast.tw2661908028008359104:Unit:=()
def PySem.W.Fast.tw11961553037386937071:Unit:=()
def PySem.W.Fast.tw10619366247262069154:Unit:=()
def PySem.W.Fast.tw15798897415937455887:Unit:=()
def PySem.W.Fast.tw9412749397086269081:Unit:=()
def PySem.W.Fast.tw16137804918936214283:Unit:=()
def PySem.W.Fast.tw4827609535951644621:Unit:=()
def PySem.W.Fast.tw10977280183995517491:Unit:=()
def PySem.W.Fast.tw1743721040235362497:Unit:=()
def PySem.W.Fast.tw5826252439478483489:Unit:=()
def PySem.W.Fast.tw12123581194763208017:Unit:=()
def PySem.W.Fast.tw12437557996648651931:Unit:=()
def PySem.W.Fast.tw9097563110770892455:Unit:=()
def PySem.W.Fast.tw8799068216064808929:Unit:=()
def PySem.W.Fast.tw4804445469096760172:Unit:=()
def PySem.W.Fast.tw8823071123885933438:Unit:=()
def PySem.W.Fast.tw408193618780112377:Unit:=()
def PySem.W.Fast.tw8328728160658904551:Unit:=()
def PySem.W.Fast.tw10363216945628539623:Unit:=()
def PySem.W.Fast.tw11938997955877483226:Unit:=()
def PySem.W.Fast.tw8387538067557714872:Unit:=()
def PySem.W.Fast.tw14884395857001131996:Unit:=()
def PySem.W.Fast.tw5145440717651228449:Unit:=()
def PySem.W.Fast.tw6819482236371919163:Unit:=()
def PySem.W.Fast.tw7628269442100812579:Unit:=()
def PySem.W.Fast.tw18008739710891310121:Unit:=()
def PySem.W.Fast.tw694255891879189794:Unit:=()
def PySem.W.Fast.tw11557051368603441863:Unit:=()
def PySem.W.Fast.tw7942003389590948917:Unit:=()
def PySem.W.Fast.tw8854304213696581621:Unit:=()
def PySem.W.Fast.tw7763631394985178020:Unit:=()
def PySem.W.Fast.tw9707044310646540268:Unit:=()
def PySem.W.Fast.tw1770499547076318387:Unit:=()
def PySem.W.Fast.tw5153361327463803260:Unit:=()
def PySem.W.Fast.tw721411610074018762:Unit:=()
def PySem.W.Fast.tw3351612711772359971:Unit:=()
def PySem.W.Fast.tw7972807671390072085:Unit:=()
def PySem.W.Fast.tw7842493215166662775:Unit:=()
def PySem.W.Fast.tw16470464255270201653:Unit:=()
def PySem.W.Fast.tw4860195409959287344:Unit:=()
def PySem.W.Fast.tw1206376177503911481:Unit:=()
def PySem.W.Fast.tw12321110912127630838:Unit:=()
def PySem.W.Fast.tw8944550209533232421:Unit:=()
def PySem.W.Fast.tw5097020643856041685:Unit:=()
def PySem.W.Fast.tw4907116724966860842:Unit:=()
def PySem.W.Fast.tw15667737639966660134:Unit:=()
def PySem.W.Fast.tw8279697942918168427:Unit:=()
def PySem.W.Fast.tw9975098499781547487:Unit:=()
def PySem.W.Fast.tw2344005985127278463:Unit:=()
def PySem.W.Fast.tw17799518083107815996:Unit:=()
def PySem.W.Fast.tw15473202340482907574:Unit:=()
def PySem.W.Fast.tw11366194386485207928:Unit:=()
def PySem.W.Fast.tw59666592841434347:Unit:=()
def PySem.W.Fast.tw17065877770311033146:Unit:=()
def PySem.W.Fast.tw13250878980644619810:Unit:=()
def PySem.W.Fast.tw9799897344501215194:Unit:=()
def PySem.W.Fast.tw13503238156737199773:Unit:=()
def PySem.W.Fast.tw18359820196872931883:Unit:=()
def PySem.W.Fast.tw10070342555065237132:Unit:=()
def PySem.W.Fast.tw9137233593182596352:Unit:=()
def PySem.W.Fast.tw4011970375630197811:Unit:=()
def PySem.W.Fast.tw7793103094607422018:Unit:=()
def PySem.W.Fast.tw12181420131616490856:Unit:=()
def PySem.W.Fast.tw3477479668390319099:Unit:=()
def PySem.W.Fast.tw9751734258940725387:Unit:=()
def PySem.W.Fast.tw6913412694581348559:Unit:=()
def PySem.W.Fast.tw8151844022674009187:Unit:=()
def PySem.W.Fast.tw14474843236808359425:Unit:=()
def PySem.W.Fast.tw2044005177690943094:Unit:=()
def PySem.W.Fast.tw3732995920356672978:Unit:=()
def PySem.W.Fast.tw392436674302369876:Unit:=()
def PySem.W.Fast.tw13160841026332855924:Unit:=()
def PySem.W.Fast.tw7163317808432946915:Unit:=()
def PySem.W.Fast.tw17341099446508016252:Unit:=()
def PySem.W.Fast.tw15906120605403218491:Unit:=()
def PySem.W.Fast.tw12229966571081832871:Unit:=()
def PySem.W.Fast.tw9366186243566417110:Unit:=()
def PySem.W.Fast.tw17824484099884166223:Unit:=()
def PySem.W.Fast.tw882294345813668217:Unit:=()
def PySem.W.Fast.tw14122738636339587096:Unit:=()
def PySem.W.Fast.tw17157446542478733823:Unit:=()
def PySem.W.Fast.tw17036951638728193872:Unit:=()
def PySem.W.Fast.tw13580946313028620109:Unit:=()
def PySem.W.Fast.tw257648539751461479:Unit:=()
def PySem.W.Fast.tw7379160724715960096:Unit:=()
def PySem.W.Fast.tw1060184418716336062:Unit:=()
def PySem.W.Fast.tw4084526545136190687:Unit:=()
def PySem.W.Fast.tw6040110869322670320:Unit:=()
def PySem.W.Fast.tw16217125154470874101:Unit:=()
def PySem.W.Fast.tw8399307898031088545:Unit:=()
def PySem.W.Fast.tw12826721591973022780:Unit:=()
def PySem.W.Fast.tw3508980421152969866:Unit:=()
def PySem.W.Fast.tw15167401169141654144:Unit:=()
def PySem.W.Fast.tw2609589515336213484:Unit:=()
def PySem.W.Fast.tw3316585878600038775:Unit:=()
def PySem.W.Fast.tw4788198810411342209:Unit:=()
def PySem.W.Fast.tw5444779328013082550:Unit:=()
def PySem.W.Fast.tw13502539460348491382:Unit:=()
def PySem.W.Fast.tw2804993316324373699:Unit:=()
def PySem.W.Fast.tw11431773258017975365:Unit:=()
def PySem.W.Fast.tw13629246614693523464:Unit:=()
def PySem.W.Fast.tw18060412703590874685:Unit:=()
def PySem.W.Fast.tw371276471789367635:Unit:=()
def PySem.W.Fast.tw9431524326711030560:Unit:=()
def PySem.W.Fast.tw481290175484089450:Unit:=()
def PySem.W.Fast.tw11271589204919871686:Unit:=()
def PySem.W.Fast.tw17119547329924600803:Unit:=()
def PySem.W.Fast.tw12491991795344622584:Unit:=()
def PySem.W.Fast.tw12466969605636465799:Unit:=()
def PySem.W.Fast.tw15994533904394481461:Unit:=()
def PySem.W.Fast.tw14534182524058434915:Unit:=()
def PySem.W.Fast.tw6023704517407081574:Unit:=()
def PySem.W.Fast.tw3420025354730888402:Unit:=()
def PySem.W.Fast.tw14476402053446069029:Unit:=()
def PySem.W.Fast.tw1214083839045238408:Unit:=()
def PySem.W.Fast.tw13543285731401435560:Unit:=()
def PySem.W.Fast.tw11659332845132690644:Unit:=()
def PySem.W.Fast.tw50807871991569082:Unit:=()
def PySem.W.Fast.tw13247577650994393953:Unit:=()
def PySem.W.Fast.tw10484688524392656361:Unit:=()
def PySem.W.Fast.tw15799176357161553683:Unit:=()
def PySem.W.Fast.tw6039953171189118152:Unit:=()
def PySem.W.Fast.tw2484318456795072612:Unit:=()
def PySem.W.Fast.tw16802038473967654467:Unit:=()
def PySem.W.Fast.tw4110623091559095737:Unit:=()
def PySem.W.Fast.tw10345934415125830873:Unit:=()
def PySem.W.Fast.tw4073016657306284925:Unit:=()
open PySem PySem.W PyProof.Rows
set_option maxRecDepth 100000 in
set_option maxHeartbeats 0 in
theorem PySem.Challenge.cw_cardlanes_k06_stands_told_holds : PySem.Challenge.rw_cardlanes_k06_stands_told.Holds := by
 w_on;o_law;k_head;(case hw=>w_witness2)
 k_fill
 refine X06.walk (l:=PySem.Challenge.rw_cardlanes_k06_stands_told) rfl rfl (fun w h Y=>PySem.W.kIn_of Y) ?G ?T ?F
 case F=>
  intro w mg fa h KX G hmg
  refine' X06.all_mk KX G hmg ?d0 ?d1 ?d2 ?d3 ?d4 ?d5 ?d6 ?d7 ?d8 ?d9 ?d10 ?d11 ?d12 ?b13 ?b14 ?d15 ?d16 ?d17 ?b18 ?b19 ?d20 ?d21 ?b22 ?d23 ?d24 ?d25 ?d26 ?d27 ?b28 ?d29 ?b30 ?d31 ?d32 ?d33 ?b34 ?d35 ?d36 ?xt ?xh ?zz ?gl0 ?gl1 ?gl2 ?gl3 ?gl4 ?gl5 ?kl0 ?kc0 ?kd0 ?gl6
  (case d0|d1|d2|d3|d4|d5|d6|d7|d8|d9|d10|d11|d12|d15|d16|d17|d20|d21|d23|d24|d25|d26|d27|d29|d31|d32|d33|d35|d36=>(refine'⟨?zd0,L2.OF ?zd1 ?zd2 ?zd3⟩;(case zd0=>k_is);(case zd1=>k_is);(case zd2=>k_is);(case zd3=>k_is)))
  (case b13|b14|b18|b19|b22|b28|b30|b34=>(refine' L2.Tn ?za ?zl ?zo ?zk ?zlc ?zh ?zt ?zhd;(case za=>k_is);(case zl=>k_is);(case zo=>k_is);(case zk=>k_is);(case zlc=>k_is);(case zh=>rfl);(case zt=>kernel_rfl);(case zhd=>kernel_rfl)))
  (case xt|xh|zz=>kernel_rfl)
  (case gl0|gl1|gl2|gl3|gl4|gl5|kl0=>k_is)
  (case kc0|kd0=>rfl)
  (case gl6=>k_is)
 case T=>exact fun w h KX=>L2.To (by kernel_rfl)
 case G=>decide+kernel
end
