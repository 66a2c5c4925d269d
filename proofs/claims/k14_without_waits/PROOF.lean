import PyProof.Rows.All
import Wide.All
import OpenK.AllK
import Wide.FinOn
import Lean
import PyProof.EqAt
import PyProof.EqKinds
import PyProof.TupleCall
import KE.KNest
import KE.KNestM
import KE.KSortTup
import PyProof.CollectWalk
import PyProof.IsRules
import PyProof.Rows.SetFrom
import PyProof.Rows.SortKeyStr
import PyProof.Rows.SortStr
import PyProof.SetKind
import PyProof.TupleOfGen
import PySem.Challenge.RW_cardlanes_k14_without_waits
set_option Elab.async false
set_option linter.all false
set_option maxRecDepth 100000
set_option maxHeartbeats 4000000
set_option hygiene false
local macro_rules (kind:=ident)|i=>match i.getId with|.str .anonymous s=>if s.front=='Q' then match s with| "Qa"=>`((by omega))| "Qd"=>`((by decide+kernel))| "Qc"=>`((by decide))| "Qb"=>`((by simp))| "Qe"=>`(Value->Shared->Prop)| "Qj"=>`((λ _ _ _ _ _ _ us hl=>Hf hl λ _=>rfl))| "Qg"=>`((λ _ _ _ _ _ _ us hl=>zM hl λ _ _=>rfl))| "Qh"=>`((λ _ _ _ _ _ _ us hl=>He hl λ _ _ _=>rfl))| "Qm"=>`((λ _ _ _ _ _ _ us hl=>Hd hl λ _ _ _ _=>rfl))| "Ql"=>`((λ _ _ _ _ _ _ us hl=>Hc hl λ _ _ _ _ _=>rfl))| "Qi"=>`((λ _ _ _ _ _ us hl=>zM hl λ _ _=>rfl))| "Qf"=>`((by refine'⟨?zd0,L2.Vm ?zd1 ?zd2 ?zd3⟩;(case zd0=>k_is);(case zd1=>k_is);(case zd2=>k_is);(case zd3=>k_is)))| "Qk"=>`((by refine' L2.Vw ?ze0 ?ze1 ?ze2 ?ze3 ?ze4 ?ze5 ?ze6 ?ze7 ?ze8 ?ze9 ?ze10 ?ze11 ?ze12 ?ze13;(case ze0=>k_is);(case ze1=>k_is);(case ze2=>k_is);(case ze3=>k_is);(case ze4=>k_is);(case ze5=>rfl);(case ze6=>kernel_rfl);(case ze7=>k_is);(case ze8=>k_is);(case ze9=>k_is);(case ze10=>kernel_rfl);(case ze11=>kernel_rfl);(case ze12=>kernel_rfl);(case ze13=>kernel_rfl)))|_=>Lean.Macro.throwUnsupported else Lean.Macro.throwUnsupported|_=>Lean.Macro.throwUnsupported
set_option hygiene true
local macro_rules| `(tactic|omega)=>`(tactic|first|lia|omega (config:={}))
open Lean Parser in
local macro_rules| `(tactic|exists $ts,*)=>do
  let mut st:List (TSyntax `tactic):=[]
  for t0 in ts.getElems.reverse do
    let mut t:Syntax:=t0
    for _ in[0:9]do
      if t.isIdent then
        if let some v←expandMacro? t then t:=v
      if t.isOfKind ``Term.paren then t:=t[1]
    if let some k:=t.isNatLit? then
      let c::r:=st|Macro.throwUnsupported
      let mut c:=c
      for _ in[0:k]do c← `(tactic|(intro _; $c))
      st:=c::r
    else if t.isOfKind ``Term.byTactic then
      let s:TSyntax ``Tactic.tacticSeq:=⟨t[1]⟩
      st:=(← `(tactic|($s)))::st
    else
      let (u,gs)←(t.replaceM fun s=>if s.isOfKind ``Term.syntheticHole then do
          let g:=mkIdent (.mkSimple s!"g{t0.raw.getPos?.map (·.byteIdx)}_{(← get).size}")
          modify (·.push g)
          return some (s.setArg 1 g)
        else return none:StateT (Array Ident) MacroM Syntax).run #[]
      let u:Term:=⟨u⟩
      let mut a← `(tactic|refine' $u)
      for g in gs do
        let c::r:=st|Macro.throwUnsupported
        st:=r
        a← `(tactic|($a;case $g:ident=> $c:tactic))
      st:=a::st
  let[a]:=st|Macro.throwUnsupported
  return a
namespace L2
open PySem PySem.Spec PyProof.Rows
abbrev bC:=Sum Int Str
def mJ:bC->Value->Bool
 |.inl k,v=>Value.isInt k v
 |.inr x,v=>Value.isStrOf x v
def Th(w:World):bC->Int
 |.inl k=>hashInt k
 |.inr x=>hashStr w x
theorem iI:∀{k:bC} {v:Value},mJ k v=true->(∃i t,k=Sum.inl i/\v=Value.int i t)\/(∃x t,k=Sum.inr x/\v=Value.str x t)
 |.inl i,v,h=>by
  obtain⟨t,e⟩:=Value.isInt_shape (k:=i) (v:=v) h
  exact .inl ⟨i,t,rfl,e⟩
 |.inr x,v,h=>by
  obtain⟨t,e⟩:=Value.isStrOf_shape (x:=x) (v:=v) h
  exact .inr ⟨x,t,rfl,e⟩
theorem Tg(i:Int)(t:Tok):mJ (.inl i) (.int i t)=true:=by simp[mJ,Value.isInt]
theorem Tf(x:Str)(t:Tok):mJ (.inr x) (.str x t)=true:=by simp[mJ,Value.isStrOf]
theorem Te(a b:Int):decide ((Sum.inl a:bC)=Sum.inl b)=(a==b):=by
 by_cases e:a=b
 ·subst e;simp
 ·have h:¬(Sum.inl a:bC)=Sum.inl b:=λ q=>e (Sum.inl.inj q)
  rw[decide_eq_false h]
  exact(beq_eq_false_iff_ne.mpr e).symm
theorem Ta(a b:Str):decide ((Sum.inr a:bC)=Sum.inr b)=decide (a=b):=by
 by_cases e:a=b
 ·subst e;simp
 ·have h:¬(Sum.inr a:bC)=Sum.inr b:=λ q=>e (Sum.inr.inj q)
  rw[decide_eq_false h,decide_eq_false e]
theorem Td(a:Int)(b:Str):decide ((Sum.inl a:bC)=Sum.inr b)=false:=decide_eq_false (λ q=>nomatch q)
theorem Tc(a:Str)(b:Int):decide ((Sum.inr a:bC)=Sum.inl b)=false:=decide_eq_false (λ q=>nomatch q)
def eR(prog:Program)(w:World):PySem.KeyKind prog w bC where
 is:=mJ
 hash:=Th w
 inj:=λ v a b ha hb=>by
  rcases iI ha with⟨i,t,rfl,rfl⟩|⟨x,t,rfl,rfl⟩
  ·rcases iI hb with⟨j,u,rfl,e⟩|⟨y,u,rfl,e⟩
   ·injection e with e1 _;rw[e1]
   ·exact nomatch e
  ·rcases iI hb with⟨j,u,rfl,e⟩|⟨y,u,rfl,e⟩
   ·exact nomatch e
   ·injection e with e1 _;rw[e1]
 byValue:=λ k v h=>by
  rcases iI h with⟨i,t,rfl,rfl⟩|⟨x,t,rfl,rfl⟩<;>rfl
 pyHash:=λ hv h=>by
  rcases iI hv with⟨i,t,rfl,rfl⟩|⟨x,t,rfl,rfl⟩
  ·exact wpAny_pyHash_int h
  ·exact wpAny_pyHash_str h
 eqBool:=λ hu hv h=>by
  rcases iI hu with⟨i,t,rfl,rfl⟩|⟨x,t,rfl,rfl⟩
  ·rcases iI hv with⟨j,u,rfl,rfl⟩|⟨y,u,rfl,rfl⟩
   ·rw[Te]at h;exact wpAny_eqBool_int h
   ·rw[Td]at h;exact SeqAt.EqAt.int_str i t y u _ _ _ _ h
  ·rcases iI hv with⟨j,u,rfl,rfl⟩|⟨y,u,rfl,rfl⟩
   ·rw[Tc]at h;exact SeqAt.EqAt.str_int x t j u _ _ _ _ h
   ·rw[Ta]at h;exact wpAny_eqBool_str h
 «strs»:=λ k x t v h=>by
  rcases iI h with⟨i,u,rfl,e⟩|⟨y,u,rfl,e⟩
  ·exact nomatch e
  ·injection e with e1 _
   subst e1
   cases v<;>rfl
theorem vP(prog:Program)(w:World)(i:Int)(t:Tok):(eR prog w).is (.inl i) (.int i t)=true:=Tg i t
theorem mD(prog:Program)(w:World)(x:Str)(t:Tok):(eR prog w).is (.inr x) (.str x t)=true:=Tf x t
inductive V where
 |non|bl (b:Bool)|int (i:Int)|str (x:Str)|byt (b:Array UInt8)|flt (b:UInt64)|ref (a:Addr)|ty (n:String)
 deriving DecidableEq
def bA:V->Value->Prop
 |.non,u=>u=Value.none
 |.bl b,u=>u=Value.bool b
 |.int i,u=>∃t,u=Value.int i t
 |.str x,u=>∃t,u=Value.str x t
 |.byt b,u=>∃t,u=Value.bytes b t
 |.flt b,u=>∃t,u=Value.float b t
 |.ref a,u=>u=Value.ref a
 |.ty n,u=>u=Value.type n
abbrev aO:List V->List Value->Prop:=Paired bA
theorem aO.length{xs:List V}{us:List Value}(r:aO xs us):xs.length=us.length:=Paired.length r
theorem aO.get:∀{xs:List V} {us:List Value} {i:Nat} {x:V},aO xs us->xs[i]? =some x->∃u,us[i]? =some u/\bA x u
 |_,_,_,_,.nil,e=>by simp at e
 |_,_,0,_,.cons r _,e=>by simp at e;subst e;exact⟨_,rfl,r⟩
 |_,_,i+1,x,.cons _ t,e=>by
  obtain⟨u,h1,h2⟩:=aO.get (i:=i) (x:=x) t (by simpa using e)
  exact⟨u,by simpa using h1,h2⟩
theorem aO.set{x:V}{u:Value}(r:bA x u):∀{xs:List V} {us:List Value} (i:Nat),aO xs us->aO (xs.set i x) (us.set i u)
 |_,_,_,.nil=>.nil
 |_,_,0,.cons _ t=>.cons r t
 |_,_,i+1,.cons q t=>.cons q (aO.set r i t)
theorem aO.append:∀{xs ys:List V} {us ws:List Value},aO xs us->aO ys ws->aO (xs++ys) (us++ws)
 |_,_,_,_,.nil,s=>s
 |_,_,_,_,.cons r t,s=>.cons r (aO.append t s)
theorem aO.take:∀{xs:List V} {us:List Value} (n:Nat),aO xs us->aO (xs.take n) (us.take n)
 |_,_,0,_=>.nil
 |_,_,_+1,.nil=>.nil
 |_,_,n+1,.cons r t=>.cons r (aO.take n t)
theorem aO.drop:∀{xs:List V} {us:List Value} (n:Nat),aO xs us->aO (xs.drop n) (us.drop n)
 |_,_,0,r=>r
 |_,_,_+1,.nil=>.nil
 |_,_,n+1,.cons _ t=>aO.drop n t
def mV:Option V->Option Value->Prop
 |some v,some u=>bA v u
 |none,none=>True
 |_,_=>False
def KV{κ:Type}:List (κ×V)->List (κ×Value)->Prop:=Paired λ (p:κ×V) (q:κ×Value)=>p.1=q.1/\bA p.2 q.2
def kV:bC->V
 |.inl i=>.int i
 |.inr x=>.str x
inductive HO where
 |lst (xs:List V)
 |tup (xs:List V)
 |dK (kvs:List (bC×V))|dT (kvs:List (List bC×V))
 |set (S:Int->Bool) (n:Nat)
 |ins (C dx:Addr) (fs:List (Str×V))
 |own (x:Addr)
 |xd (fs:List (Str×V))
 |met (f x:Addr)
 |rng (lo hi:Int)
 |frz (o:Obj) (u:HO)
 |tbl (ps:Array Value)
 |ext (φ:Heap->Prop)
abbrev Hp:=Addr->Option HO
def aD(H:Hp)(a:Addr)(o:HO):Hp:=λ b=>if b=a then some o else H b
theorem aR{H:Hp}{a:Addr}{o:HO}:aD H a o a=some o:=by unfold aD;rw[if_pos rfl]
theorem aU{H:Hp}{a b:Addr}{o:HO}(h:b≠a):aD H a o b=H b:=by unfold aD;rw[if_neg h]
theorem sP{H:Hp}{a:Addr}{o u:HO}:aD (aD H a o) a u=aD H a u:=by
 funext b;unfold aD;split<;>rfl
theorem fN{H:Hp}{a b:Addr}{o:HO}(h:H a=some o)(h':H b=none):a≠b:=by
 intro e;subst e;rw[h]at h';cases h'
section
variable(P:Program)(w:World)
def cI(H:Hp)(h:Heap)(a:Addr):HO->Prop
 |.lst xs=>xs.length<=sizeLine/\∃(its:List Value) (n:Nat),aO xs its/\h.get? a=some {cls:=.type "list",data:=.seq its.toArray n}
 |.tup xs=>xs.length<=sizeLine/\∃its:List Value,aO xs its/\IsTup h a its.toArray/\∃o,h.get? a=some o/\o.dict=none
 |.dK kvs=>kvs.length<=sizeLine/\(a==sysModules)=false/\∃vs,KV kvs vs/\h.DictOf (eR P w) a vs
 | .dT kvs=>kvs.length<=sizeLine/\(a==sysModules)=false/\∃xs:List (List bC×Addr×Value),
   Paired (λ (p:List bC×V) (q:List bC×Addr×Value)=>p.1=q.1/\H q.2.1=some (.tup (p.1.map kV))/\bA p.2 q.2.2) kvs xs/\
   ∃o es ep,h.get? a=some o/\o.ExactDict/\o.data= .dict es ep/\es.toList=xs.map (entryOfKey (tupleKind (eR P w)))/\(xs.map (·.1)).Nodup
 |.set S n=>h.SetOf (intKind P w) a S n
 | .ins C dx fs=>H dx=some (.own a)/\fs.length<=1000/\dx≠a/\h.get? a=some (PySem.W.instObj C dx)/\
   ∃mA,h.Ns1 dx mA/\(∀f,mV (fs.lookup f) (mA f))/\PySem.Within mA (fs.map (·.1))
 |.own _=>∃o,h.get? a=some o
 |.xd fs=>∃mA,h.Ns1 a mA/\∀f,mV (fs.lookup f) (mA f)
 |.rng lo hi=>∃t u v,h.get? a=some {cls:=.type "range",data:=.fields #[.int lo t,.int hi u,.int 1 v]}
 |.frz o u=>h.get? a=some o/\cI H h a u
 |.tbl ps=>h.get? a=some {cls:=.none,data:=.fields ps}
 |.met f x=>h.get? a=some (PySem.W.methodObj (.ref f) (.ref x))
 |.ext φ=>φ h/\(∃o,h.get? a=some o)/\∀h1 h2:Heap,φ h1->(∀o,h1.get? a=some o->h2.get? a=some o)->φ h2
def bZ(H:Hp)(h:Heap):Prop:=∀a o,H a=some o->cI P w H h a o
end
section
variable{P:Program}{w:World}{H H':Hp}{h h':Heap}{a:Addr}{o:HO}
theorem cI.lt(x:cI P w H h a o):a<h.objs.size:=by
 cases o with
 |lst xs=>obtain⟨_,_,_,_,e⟩:=x;exact Heap.lt_size e
 |tup xs=>obtain⟨_,_,_,p,_⟩:=x;exact p.lt
 |dK kvs=>obtain⟨_,_,_,_,o,_,_,e,_⟩:=x;exact Heap.lt_size e
 |dT kvs=>obtain⟨_,_,_,_,o,_,_,e,_⟩:=x;exact Heap.lt_size e
 |set S n=>obtain⟨o,_,_,_,e,_⟩:=x;exact Heap.lt_size e
 |ins C dx fs=>obtain⟨_,_,_,e,_⟩:=x;exact Heap.lt_size e
 |own y=>obtain⟨_,e⟩:=x;exact Heap.lt_size e
 |xd fs=>obtain⟨_,⟨_,_,_,e,_⟩,_⟩:=x;exact Heap.lt_size e
 |rng lo hi=>obtain⟨_,_,_,e⟩:=x;exact Heap.lt_size e
 |frz ob u=>obtain⟨e,_⟩:=x;exact Heap.lt_size e
 |tbl ps=>exact Heap.lt_size (show h.get? a=some _ from x)
 |met f y=>exact Heap.lt_size (show h.get? a=some _ from x)
 |ext φ=>obtain⟨_,⟨_,e⟩,_⟩:=x;exact Heap.lt_size e
theorem Paired.mapP{α β:Type}{F G:α->β->Prop}:∀{l₁:List α} {l₂:List β},Paired F l₁ l₂->(∀a b,F a b->G a b)->Paired G l₁ l₂
 |_,_,.nil,_=>.nil
 |_,_,.cons r t,f=>.cons (f _ _ r) (Paired.mapP t f)
theorem cI.stay(x:cI P w H h a o)(k:∀b u,(b=a\/H b=some (.own a))->h.get? b=some u->h'.get? b=some u)
  (ho:∀b,H b=some (.own a)->H' b=some (.own a)) (ht:∀b xs,H b=some (.tup xs)->H' b=some (.tup xs)):cI P w H' h' a o:=by
 induction o with
 |lst xs=>obtain⟨z,its,n,r,e⟩:=x;exact⟨z,its,n,r,k _ _ (.inl rfl) e⟩
 |tup xs=>obtain⟨z,its,r,⟨ob,e,c⟩,od,e2,hd⟩:=x;exact⟨z,its,r,⟨ob,k _ _ (.inl rfl) e,c⟩,od,k _ _ (.inl rfl) e2,hd⟩
 |dK kvs=>obtain⟨z,y,vs,r,ob,es,ep,e,c⟩:=x;exact⟨z,y,vs,r,ob,es,ep,k _ _ (.inl rfl) e,c⟩
 |dT kvs=>
  obtain⟨z,y,xs,r,ob,es,ep,e,c⟩:=x
  exact⟨z,y,xs,Paired.mapP r λ p q z=>⟨z.1,ht _ _ z.2.1,z.2.2⟩,ob,es,ep,k _ _ (.inl rfl) e,c⟩
 |set S n=>obtain⟨ob,es,ep,t,e,c⟩:=x;exact⟨ob,es,ep,t,k _ _ (.inl rfl) e,c⟩
 |ins C dx fs=>
  obtain⟨d,z,ne,e,mA,⟨od,es,ep,e2,c⟩,r⟩:=x
  exact⟨ho _ d,z,ne,k _ _ (.inl rfl) e,mA,⟨od,es,ep,k _ _ (.inr d) e2,c⟩,r⟩
 |own y=>obtain⟨ob,e⟩:=x;exact⟨ob,k _ _ (.inl rfl) e⟩
 |xd fs=>obtain⟨mA,⟨od,es,ep,e,c⟩,r⟩:=x;exact⟨mA,⟨od,es,ep,k _ _ (.inl rfl) e,c⟩,r⟩
 |rng lo hi=>obtain⟨t,u,v,e⟩:=x;exact⟨t,u,v,k _ _ (.inl rfl) e⟩
 |frz ob u ih=>obtain⟨e,q⟩:=x;exact⟨k _ _ (.inl rfl) e,ih q⟩
 |tbl ps=>
  have e:h.get? a=some {cls:=.none,data:=.fields ps}:=x
  show h'.get? a=some {cls:=.none,data:=.fields ps}
  exact k a _ (.inl rfl) e
 |met f y=>
  have e:h.get? a=some (PySem.W.methodObj (.ref f) (.ref y)):=x
  show h'.get? a=some (PySem.W.methodObj (.ref f) (.ref y))
  exact k a _ (.inl rfl) e
 |ext φ=>obtain⟨p,⟨o,e⟩,st⟩:=x;exact⟨st _ _ p λ o q=>k _ _ (.inl rfl) q,⟨o,k _ _ (.inl rfl) e⟩,st⟩
theorem bZ.lt(x:bZ P w H h)(e:H a=some o):a<h.objs.size:=(x a o e).lt
theorem bZ.fresh(x:bZ P w H h)(e:h.objs.size<=a):H a=none:=by
 cases q:H a with
 |none=>rfl
 |some u=>exact absurd (Nat.lt_of_lt_of_le (x.lt q) e) (Nat.lt_irrefl _)
theorem bZ.kept(x:bZ P w H h)(k:∀b u,h.get? b=some u->h'.get? b=some u):bZ P w H h':=λ a o e=>
 (x a o e).stay (λ b u _ q=>k b u q) (λ _ q=>q) λ _ _ q=>q
theorem bZ.laid(x:bZ P w H h)(k:∀b u,h.get? b=some u->h'.get? b=some u)(hp:h.objs.size<=a)(new:cI P w (aD H a o) h' a o):bZ P w (aD H a o) h':=λ b u e=>by
 have hn:=x.fresh hp
 by_cases hb:b=a
 ·subst hb;rw[aR]at e;cases e;exact new
 ·rw[aU hb]at e
  exact(x b u e).stay (λ c v _ q=>k c v q) (λ c q=>by rw[aU (fN q hn)];exact q) λ c xs q=>by rw[aU (fN q hn)];exact q
end
def Rd(H:Hp)(a:Addr)(u:HO):Prop:=H a=some u\/∃o,H a=some (.frz o u)
theorem Rd.of{H:Hp}{a:Addr}{u:HO}(h:H a=some u):Rd H a u:=.inl h
theorem Rd.ok{P:Program}{w:World}{H:Hp}{h:Heap}{a:Addr}{u:HO}(r:Rd H a u)(x:bZ P w H h):cI P w H h a u:=by
 rcases r with r|⟨o,r⟩
 ·exact x a u r
 ·obtain⟨_,q⟩:=x a _ r
  exact q
def gY:Option HO->Prop
 |some (.lst _)=>True
 |some (.dK _)=>True
 |some (.dT _)=>True
 |some (.set _ _)=>True
 |some (.ins _ _ _)=>True
 |some (.ext _)=>True
 |_=>False
section
variable{P:Program}{w:World}{H:Hp}{h h':Heap}{x e:Addr}{o':HO}
theorem bZ.write(ok:bZ P w H h)(mu:gY (H x))(he:e=x\/H e=some (.own x))(k:∀b u,b≠e->h.get? b=some u->h'.get? b=some u)(heo:∃u,h'.get? e=some u)
  (new:cI P w (aD H x o') h' x o'):bZ P w (aD H x o') h':=λ b u q=>by
 have nown:∀c y,H c=some (.own y)->c≠x:=λ c y r z=>by subst z;rw[r]at mu;exact mu
 have ntup:∀c xs,H c=some (.tup xs)->c≠x:=λ c xs r z=>by subst z;rw[r]at mu;exact mu
 by_cases hb:b=x
 ·subst hb;rw[aR]at q;cases q;exact new
 ·rw[aU hb]at q
  by_cases hbe:b=e
  ·have q':H b=some (.own x):=by
    rcases he with z|z
    ·exact absurd (hbe.trans z) hb
    ·rw[hbe];exact z
   rw[q]at q';cases q'
   obtain⟨v,hv⟩:=heo
   exact⟨v,by rw[hbe];exact hv⟩
  ·refine(ok b u q).stay (λ c v hc r=>k c v ?_ r) (λ c r=>by rw[aU (nown c b r)];exact r) λ c xs r=>by rw[aU (ntup c xs r)];exact r
   rcases hc with rfl|hc
   ·exact hbe
   ·rintro rfl
    rcases he with z|z
    ·exact nown c b hc z
    ·rw[hc]at z;cases z;exact hb rfl
end
structure Un(fs ex:List Addr)(H H':Hp)(h h':Heap):Prop where
 keep:∀b o,h.get? b=some o->H b=none->b∉fs->b∉ex->h'.get? b=some o
 slot:∀b o,h.get? b=some o->H b=none->b∈fs->b∉ex->∃sl,h'.get? b=some {o with slots:=sl}
 free:∀b o,h.get? b=some o->H b=none->b∉ex->H' b=none
 there:∀b o,h.get? b=some o->b∉ex->∃o',h'.get? b=some o'
 tups:∀b xs,H b=some (.tup xs)->H' b=some (.tup xs)
 frzs:∀b o u,H b=some (.frz o u)->H' b=some (.frz o u)
 tbls:∀b ps,H b=some (.tbl ps)->∃more,H' b=some (.tbl (ps++more))
section
variable{fs fs' ex ex':List Addr}{H H1 H2:Hp}{h h1 h2 h':Heap}{a x e:Addr}{o:HO}
theorem Un.any(u:Un fs ex H H1 h h1){b:Addr}{ob:Obj}(q:h.get? b=some ob)(n:H b=none)(hx:b∉ex):∃sl,h1.get? b=some {ob with slots:=sl}:=by
 by_cases hb:b∈fs
 ·exact u.slot b ob q n hb hx
 ·exact⟨ob.slots,u.keep b ob q n hb hx⟩
theorem Un.trans(a:Un fs ex H H1 h h1)(b:Un fs ex H1 H2 h1 h2):Un fs ex H H2 h h2 where
 keep:=λ c ob q n hc hx=>b.keep c ob (a.keep c ob q n hc hx) (a.free c ob q n hx) hc hx
 slot:=λ c ob q n hc hx=>by
  obtain⟨sl,e1⟩:=a.slot c ob q n hc hx
  obtain⟨sl',e2⟩:=b.slot c _ e1 (a.free c ob q n hx) hc hx
  exact⟨sl',e2⟩
 free:=λ c ob q n hx=>by
  obtain⟨o',e1⟩:=a.there c ob q hx
  exact b.free c o' e1 (a.free c ob q n hx) hx
 there:=λ c ob q hx=>by
  obtain⟨o',e1⟩:=a.there c ob q hx
  exact b.there c o' e1 hx
 tups:=λ c xs q=>b.tups c xs (a.tups c xs q)
 frzs:=λ c ob xs q=>b.frzs c ob xs (a.frzs c ob xs q)
 tbls:=λ c ps q=>by
  obtain⟨m1,e1⟩:=a.tbls c ps q
  obtain⟨m2,e2⟩:=b.tbls c _ e1
  exact⟨m1++m2,by rw[e2,Array.append_assoc]⟩
theorem Un.kept(k:∀b u,h.get? b=some u->h'.get? b=some u):Un fs ex H H h h':=
 ⟨λ b ob q _ _ _=>k b ob q,λ b ob q _ _ _=>⟨ob.slots,k b ob q⟩,λ _ _ _ n _=>n,λ b ob q _=>⟨ob,k b ob q⟩,λ _ _ q=>q,λ _ _ _ q=>q,λ _ ps q=>⟨#[],by rw[q];simp⟩⟩
theorem Un.refl:Un fs ex H H h h:=Un.kept λ _ _ q=>q
theorem Un.laid(k:∀b u,h.get? b=some u->h'.get? b=some u)(hp:h.objs.size<=a)(hn:H a=none):Un fs ex H (aD H a o) h h' where
 keep:=λ b u q _ _ _=>k b u q
 slot:=λ b u q _ _ _=>⟨u.slots,k b u q⟩
 free:=λ b u q n _=>by rw[aU (Nat.ne_of_lt (Nat.lt_of_lt_of_le (Heap.lt_size q) hp))];exact n
 there:=λ b u q _=>⟨u,k b u q⟩
 tups:=λ b xs q=>by rw[aU (fN q hn)];exact q
 frzs:=λ b u xs q=>by rw[aU (fN q hn)];exact q
 tbls:=λ b ps q=>⟨#[],by rw[aU (fN q hn),q];simp⟩
theorem Un.write(mu:gY (H x))(he:e=x\/H e=some (.own x))(k:∀b u,b≠e->h.get? b=some u->h'.get? b=some u)(heo:∃u,h'.get? e=some u):Un fs ex H (aD H x o) h h':=by
 have hx:∀b,H b=none->b≠x:=λ b n z=>by subst z;rw[n]at mu;exact mu
 have hb:∀b,H b=none->b≠e:=λ b n z=>by
  subst z
  rcases he with r|r
  ·exact hx b n r
  ·rw[n]at r;cases r
 have hm:∀b u,H b=some u->¬gY (some u)->b≠x:=λ b u q nm z=>by subst z;rw[q]at mu;exact nm mu
 refine⟨λ b u q n _ _=>k b u (hb b n) q,λ b u q n _ _=>⟨u.slots,k b u (hb b n) q⟩,λ b u q n _=>by rw[aU (hx b n)];exact n,λ b u q _=>?_,
  λ b xs q=>by rw[aU (hm b _ q λ z=>z)];exact q,λ b u xs q=>by rw[aU (hm b _ q λ z=>z)];exact q,λ b ps q=>⟨#[],by rw[aU (hm b _ q λ z=>z),q];simp⟩⟩
 by_cases hbe:b=e
 ·subst hbe;exact heo
 ·exact⟨u,k b u hbe q⟩
theorem Un.mono(u:Un fs ex H H1 h h1)(hs:∀b∈fs,b∈fs')(hx:∀b∈ex,b∈ex'):Un fs' ex' H H1 h h1:=
 ⟨λ b ob q n hb he=>u.keep b ob q n (λ z=>hb (hs b z)) λ z=>he (hx b z),λ _ _ q n _ he=>u.any q n λ z=>he (hx _ z),λ b ob q n he=>u.free b ob q n λ z=>he (hx b z),λ b ob q he=>u.there b ob q λ z=>he (hx b z),u.tups,u.frzs,u.tbls⟩
end
def pM(h:Heap)(H:Hp):List Addr:=(List.range h.objs.size).filter λ a=>(H a).isSome
def gQ(h:Heap)(H:Hp):Heap:=PySem.W.hideAll h (pM h H)
theorem Vb(h:Heap)(H:Hp):(gQ h H).objs.size=h.objs.size:=PySem.W.hideAll_size _ _
theorem Vc{h:Heap}{H:Hp}{b:Addr}{o:Obj}(e:h.get? b=some o)(n:H b=none):(gQ h H).get? b=some o:=
 PySem.W.hideAll_get _ e λ hm=>by
  have q:(H b).isSome=true:=(List.mem_filter.mp hm).2
  rw[n]at q;simp at q
theorem Rf{h:Heap}{H:Hp}{b:Addr}{o:Obj}(e:(gQ h H).get? b=some o):h.get? b=some o/\H b=none:=by
 have e':h.get? b=some o:=PySem.W.of_hideAll (pM h H) e
 refine⟨e',?_⟩
 cases q:H b with
 |none=>rfl
 |some x=>
  have hm:b∈pM h H:=List.mem_filter.mpr ⟨List.mem_range.mpr (Heap.lt_size e'),by simp[q]⟩
  have z:(gQ h H).get? b=none:=PySem.W.hideAll_none (pM h H) hm
  rw[z]at e;cases e
def AV(g h:Heap)(L:Addr):List (Addr×Obj):=(List.range h.objs.size).filterMap λ a=>if a=L\/(g.get? a).isSome=true then none else(h.get? a).map λ o=>(a,o)
def rest(g h:Heap)(L d:Addr):List (Addr×Obj):=(AV g h L).filter λ p=>decide (p.1≠d)
structure Mod(K:PySem.W.Frag)(mg:Str->Option Value)(base:Heap):Prop where
 kin:K.In base
 glob:base.Ns mainGlobals mg
 blt:∃mb,base.Ns builtinsNs mb/\∀x:Str,x≠ "__name__"->mb x=bootBuiltins x
 nolimit:base.NoLimit
structure Cx where
 prog:Program
 w:World
 K:PySem.W.Frag
 mg:Str->Option Value
 base:Heap
 A:Around
 N:List Str
 s₀:Shared
 H₀:Hp
 env:Env
 outer:List Env
 stack:List Env
 ex:List Addr
 fn:Str->Bool
 calm:Bool
 pn:List (Addr×Obj)
 xe:Value->Shared->Prop
def cC(l:List Env):List Addr:=l.filterMap (·.frame)
abbrev Cx.fs(X:Cx):List Addr:=cC X.outer
def xF(sc:Scope)(x:Str):Prop:=sc.names.lookup x=some .local\/sc.names.lookup x=some .cell\/sc.names.lookup x=some .free
def oZ(sc:Scope)(x:Str):Prop:=sc.names.lookup x=some .local\/sc.names.lookup x=some .cell
def BB(env:Env)(h:Heap)(m:Str->Option Value)(x:Str)(u:Value):Prop:=
 (env.kindOf x=some .local/\m x=some u)\/((env.kindOf x=some .cell\/env.kindOf x=some .free)/\∃c,env.cells.lookup x=some c/\h.IsCell c (some u))
structure Cx.Ok(X:Cx):Prop where
 mod:Mod X.K X.mg X.base
 kind:X.env.scope.kind= .function
 glob:X.env.globals=mainGlobals
 blt:X.env.builtins=builtinsNs
 above:X.s₀.heap.objs.size<=X.env.locals
 inj:∀x y c,X.env.cells.lookup x=some c->X.env.cells.lookup y=some c->x=y
 has:∀x,(X.env.kindOf x=some .cell\/X.env.kindOf x=some .free)->∃c,X.env.cells.lookup x=some c
 cab:∀x c,X.fn x=true->X.env.cells.lookup x=some c->X.s₀.heap.objs.size<=c
 hd:X.calm=true->X.A.handled=none
 frames:X.A.frames=some X.stack
 stk:X.stack=X.outer\/(X.stack=X.env::X.outer/\X.env.frame=some X.env.locals)
 exf:∀b∈X.ex,b≠X.env.locals/\∀x c,X.env.cells.lookup x=some c->c≠b
 bs:∀b o,X.base.get? b=some o->X.s₀.heap.get? b=some o/\X.H₀ b=none
 bsz:X.base.objs.size<=X.s₀.heap.objs.size
 noex:∀b o,X.base.get? b=some o->b∉X.ex
 exfs:∀b∈X.ex,b∉X.fs
 funs:X.s₀.heap.FunFrames X.base X.outer
 frf:∀b∈X.fs,X.H₀ b=none
def fB(g₀ g:Array GenState):Prop:=AllBare g/\g₀.size<=g.size
structure aB(X:Cx)(pins:List (Addr×Obj))(σ:List (Option V))(H:Hp)(s:Shared):Prop where
 ok:X.Ok
 os:s.os=X.s₀.os
 bare:fB X.s₀.gens s.gens
 base:Un X.fs X.ex X.H₀ H X.s₀.heap s.heap
 loc:∃m,s.heap.Ns X.env.locals m/\∀(i:Nat) (x:Str) (v:V),X.N[i]? =some x->σ[i]? =some (some v)->xF X.env.scope x->∃u,bA v u/\BB X.env s.heap m x u
 cell:∀x c,X.env.cells.lookup x=some c->∃v,s.heap.IsCell c v
 free:H X.env.locals=none
 freeC:∀x c,X.env.cells.lookup x=some c->H c=none
 pin:∀p∈X.pn++pins,s.heap.get? p.1=some p.2/\H p.1=none/\p.1≠X.env.locals/\p.1∉X.fs/\∀v,p.2.data≠ .cell v
 hok:bZ X.prog X.w H s.heap
 len:σ.length=X.N.length
section
variable{X:Cx}{pins:List (Addr×Obj)}{σ:List (Option V)}{H H':Hp}{s:Shared}{h':Heap}
theorem Cx.Ok.nofr(ok:X.Ok){b:Addr}{o:Obj}(e:X.base.get? b=some o):b∉X.fs:=λ hb=>by
 have:=(ok.funs.mem hb).1
 rw[e]at this;cases this
theorem aB.bs(I:aB X pins σ H s):∀b o,X.base.get? b=some o->s.heap.get? b=some o/\H b=none:=λ b o e=>
 ⟨I.base.keep b o (I.ok.bs b o e).1 (I.ok.bs b o e).2 (I.ok.nofr e) (I.ok.noex b o e),I.base.free b o (I.ok.bs b o e).1 (I.ok.bs b o e).2 (I.ok.noex b o e)⟩
theorem aB.bk(I:aB X pins σ H s):∀b o,X.base.get? b=some o->s.heap.get? b=some o:=λ b o e=>(I.bs b o e).1
theorem aB.mod(I:aB X pins σ H s):Mod X.K X.mg X.base:=I.ok.mod
theorem aB.kIn(I:aB X pins σ H s):X.K.In s.heap:=I.ok.mod.kin.keeps I.bk
theorem aB.nolimit(I:aB X pins σ H s):s.heap.NoLimit:=I.ok.mod.nolimit.keeps I.bk
theorem aB.fr(I:aB X pins σ H s):∃m,Fr X.base X.env.locals s.heap m:=
 let⟨m,hn,_⟩:=I.loc
 ⟨m,hn,I.bk,Nat.le_trans I.ok.bsz I.ok.above⟩
theorem aB.lt(I:aB X pins σ H s):X.env.locals<s.heap.objs.size:=let⟨_,hn,_⟩:=I.loc;hn.lt
theorem aB.sz(I:aB X pins σ H s):X.s₀.heap.objs.size<=s.heap.objs.size:=Nat.le_trans I.ok.above (Nat.le_of_lt I.lt)
theorem aB.nofs(I:aB X pins σ H s){a:Addr}(h:s.heap.objs.size<=a):a∉X.fs:=λ hb=>by
 obtain⟨_,o,ho,_⟩:=I.ok.funs.mem hb
 exact absurd (Nat.lt_of_lt_of_le (Heap.lt_size ho) (Nat.le_trans I.sz h)) (Nat.lt_irrefl _)
theorem aB.cne(I:aB X pins σ H s):∀x c,X.env.cells.lookup x=some c->c≠X.env.locals:=λ x c e z=>by
 obtain⟨v,o,ho,hd⟩:=I.cell x c e
 obtain⟨m,⟨o',es,ep,ho',hd',_⟩,_⟩:=I.loc
 rw[z,ho']at ho;cases ho;rw[hd']at hd;cases hd
theorem aB.funs(I:aB X pins σ H s):s.heap.FunFrames X.base X.outer:=by
 have all:∀(l:List Env),(∀b∈cC l,b∈X.fs)->X.s₀.heap.FunFrames X.base l->s.heap.FunFrames X.base l:=by
  intro l
  induction l with
  |nil=>intro _ _;trivial
  |cons env r ih=>
   intro hs hl
   obtain⟨hk,⟨L,o,hf,hn,ho,hd⟩,hr⟩:=hl
   have hL:L∈X.fs:=hs L (by unfold cC;rw[List.filterMap_cons,hf];exact List.mem_cons_self)
   obtain⟨sl,e⟩:=I.base.slot L o ho (I.ok.frf L hL) hL λ z=>I.ok.exfs L z hL
   exact⟨hk,⟨L,_,hf,hn,e,hd⟩,ih (λ b hb=>hs b (by unfold cC;rw[List.filterMap_cons,hf];exact List.mem_cons_of_mem _ hb)) hr⟩
 exact all X.outer (λ _ hb=>hb) I.ok.funs
theorem aB.stack(I:aB X pins σ H s):s.heap.FunFrames X.base X.stack:=by
 rcases I.ok.stk with e|⟨e,hf⟩
 ·rw[e];exact I.funs
 ·rw[e]
  obtain⟨m,hn,_⟩:=I.loc
  refine .cons (by rw[I.ok.kind];decide) hf hn ?_ I.funs
  exact Heap.get?_none_of_le (Nat.le_trans I.ok.bsz I.ok.above)
theorem aB.stkSub(I:aB X pins σ H s):∀b∈cC X.stack,b∈X.env.locals::X.fs:=λ b hb=>by
 rcases I.ok.stk with e|⟨e,hf⟩
 ·rw[e]at hb;exact List.mem_cons_of_mem _ hb
 ·rw[e]at hb
  unfold cC at hb
  rw[List.filterMap_cons,hf]at hb
  exact hb
theorem aB.stkFree(I:aB X pins σ H s):∀b∈cC X.stack,H b=none:=λ b hb=>by
 rcases List.mem_cons.mp (I.stkSub b hb)with e|hb
 ·rw[e];exact I.free
 ·obtain⟨_,o,ho,_⟩:=I.ok.funs.mem hb
  exact I.base.free b o ho (I.ok.frf b hb) λ z=>I.ok.exfs b z hb
theorem aB.step{g':Array GenState}{t':Nat}{d':Drawn}{ch:List Addr}(I:aB X pins σ H s)
  (hch:∀b∈ch,(b∈X.ex\/X.s₀.heap.objs.size<=b)/\b≠X.env.locals/\(∀x c,X.env.cells.lookup x=some c->c≠b)/\∀p∈X.pn++pins,p.1≠b)
  (keep:∀b o,b≠X.env.locals->b∉X.fs->b∉ch->s.heap.get? b=some o->H b=none->h'.get? b=some o)
  (slot:∀b o,b≠X.env.locals->b∈X.fs->b∉ch->s.heap.get? b=some o->H b=none->∃sl,h'.get? b=some {o with slots:=sl}) (free:∀b o,b∉ch->s.heap.get? b=some o->H b=none->H' b=none)
  (there:∀b o,b∉ch->s.heap.get? b=some o->∃o',h'.get? b=some o')
  (tups:∀b xs,H b=some (.tup xs)->H' b=some (.tup xs)) (frzs:∀b o u,H b=some (.frz o u)->H' b=some (.frz o u)) (tbls:∀b ps,H b=some (.tbl ps)->∃more,H' b=some (.tbl (ps++more)))
  (ns:∀m,s.heap.Ns X.env.locals m->h'.Ns X.env.locals m) (hok:bZ X.prog X.w H' h') (hg:fB s.gens g'):
  aB X pins σ H' {s with heap:=h',gens:=g',drawn:=d',toks:=t'}:=by
 have neL:∀b o,X.s₀.heap.get? b=some o->b≠X.env.locals:=λ b o e=>Nat.ne_of_lt (Nat.lt_of_lt_of_le (Heap.lt_size e) I.ok.above)
 have neC:∀b o,X.s₀.heap.get? b=some o->b∉X.ex->b∉ch:=λ b o e hx hb=>by
  rcases(hch b hb).1 with z|z
  ·exact hx z
  ·exact absurd (Nat.lt_of_lt_of_le (Heap.lt_size e) z) (Nat.lt_irrefl _)
 have cellK:∀x c,X.env.cells.lookup x=some c->∀v,s.heap.IsCell c v->h'.IsCell c v:=λ x c e v ⟨o,ho,hd⟩=>by
  have nch:c∉ch:=λ z=>(hch c z).2.2.1 x c e rfl
  by_cases hc:c∈X.fs
  ·obtain⟨sl,q⟩:=slot c o (I.cne x c e) hc nch ho (I.freeC x c e)
   exact⟨_,q,hd⟩
  ·exact⟨o,keep c o (I.cne x c e) hc nch ho (I.freeC x c e),hd⟩
 refine⟨I.ok,I.os,⟨hg.1,Nat.le_trans I.bare.2 hg.2⟩,⟨λ b o e n hb hx=>?_,λ b o e n hb hx=>?_,λ b o e n hx=>?_,λ b o e hx=>?_,λ b xs e=>tups b xs (I.base.tups b xs e),λ b o xs e=>frzs b o xs (I.base.frzs b o xs e),λ b ps e=>?_⟩,?_,λ x c e=>?_,?_,λ x c e=>?_,λ p hp=>?_,hok,I.len⟩
 ·exact keep b o (neL b o e) hb (neC b o e hx) (I.base.keep b o e n hb hx) (I.base.free b o e n hx)
 ·obtain⟨sl,e1⟩:=I.base.slot b o e n hb hx
  obtain⟨sl',e2⟩:=slot b _ (neL b o e) hb (neC b o e hx) e1 (I.base.free b o e n hx)
  exact⟨sl',e2⟩
 ·obtain⟨o',e1⟩:=I.base.there b o e hx
  exact free b o' (neC b o e hx) e1 (I.base.free b o e n hx)
 ·obtain⟨o',e1⟩:=I.base.there b o e hx
  exact there b o' (neC b o e hx) e1
 ·obtain⟨m1,e1⟩:=I.base.tbls b ps e
  obtain⟨m2,e2⟩:=tbls b _ e1
  exact⟨m1++m2,by rw[e2,Array.append_assoc]⟩
 ·obtain⟨m,hn,hl⟩:=I.loc
  refine⟨m,ns m hn,λ i x v e1 e2 e3=>?_⟩
  obtain⟨u,r,l⟩:=hl i x v e1 e2 e3
  refine⟨u,r,?_⟩
  rcases l with l|⟨k,c,e,z⟩
  ·exact .inl l
  ·exact .inr ⟨k,c,e,cellK x c e _ z⟩
 ·obtain⟨v,z⟩:=I.cell x c e
  exact⟨v,cellK x c e v z⟩
 ·obtain⟨m,⟨o,_,_,ho,_⟩,_⟩:=I.loc
  exact free _ o (λ z=>(hch _ z).2.1 rfl) ho I.free
 ·obtain⟨v,o,ho,hd⟩:=I.cell x c e
  exact free c o (λ z=>(hch c z).2.2.1 x c e rfl) ho (I.freeC x c e)
 ·obtain⟨e,n,ne,nf,d⟩:=I.pin p hp
  have nch:p.1∉ch:=λ z=>(hch p.1 z).2.2.2 p hp rfl
  exact⟨keep p.1 p.2 ne nf nch e n,free p.1 p.2 nch e n,ne,nf,d⟩
theorem aB.un{t':Nat}(I:aB X pins σ H s)(u:Un X.fs [] H H' s.heap h')(hok:bZ X.prog X.w H' h'):aB X pins σ H' {s with heap:=h',toks:=t'}:=by
 obtain⟨m,⟨o,es,ep,ho,r⟩,_⟩:=id I.loc
 obtain⟨sl,hL⟩:=u.any ho I.free Qb
 exact I.step (g':=s.gens) (d':=s.drawn) (ch:=[]) (λ _ z=>nomatch z) (λ b o _ hb _ e n=>u.keep b o e n hb Qb) (λ b o _ hb _ e n=>u.slot b o e n hb Qb) (λ b o _ e n=>u.free b o e n Qb) (λ b o _ e=>u.there b o e Qb) u.tups u.frzs u.tbls (λ m' hm=>by
  obtain⟨o',es',ep',ho',r'⟩:=hm
  rw[ho]at ho';cases ho'
  exact⟨_,es',ep',hL,r'⟩) hok ⟨I.bare.1,Nat.le_refl _⟩
theorem aB.call{g':Array GenState}{t':Nat}{d':Drawn}{ch:List Addr}(I:aB X pins σ H s)(u:Un (cC X.stack) ch H H' s.heap h')(hok:bZ X.prog X.w H' h')(hg:fB s.gens g')
  (hch:∀b∈ch,(b∈X.ex\/X.s₀.heap.objs.size<=b)/\b≠X.env.locals/\(∀x c,X.env.cells.lookup x=some c->c≠b)/\∀p∈X.pn++pins,p.1≠b):
  aB X pins σ H' {s with heap:=h',gens:=g',drawn:=d',toks:=t'}:=by
 obtain⟨m,⟨o,es,ep,ho,r⟩,_⟩:=id I.loc
 obtain⟨sl,hL⟩:=u.any ho I.free λ z=>(hch _ z).2.1 rfl
 exact I.step (ch:=ch) hch (λ b o hL hb hc e n=>u.keep b o e n (λ z=>(List.mem_cons.mp (I.stkSub b z)).elim hL hb) hc) (λ b o _ _ hc e n=>u.any e n hc) (λ b o hc e n=>u.free b o e n hc) (λ b o hc e=>u.there b o e hc) u.tups u.frzs u.tbls (λ m' hm=>by
  obtain⟨o',es',ep',ho',r'⟩:=hm
  rw[ho]at ho';cases ho'
  exact⟨_,es',ep',hL,r'⟩) hok hg
theorem aB.turned{t':Nat}{it:Addr}(I:aB X pins σ H s)(k:∀b o,b≠it->s.heap.get? b=some o->h'.get? b=some o)(hn:H it=none)(hL:it≠X.env.locals)
  (h1:it∈X.ex\/X.s₀.heap.objs.size<=it) (h2:∀x c,X.env.cells.lookup x=some c->c≠it) (h3:∀p∈X.pn++pins,p.1≠it):aB X pins σ H {s with heap:=h',toks:=t'}:=by
 have nit:∀b u,H b=some u->b≠it:=λ b u e z=>by rw[z,hn]at e;cases e
 refine I.step (g':=s.gens) (d':=s.drawn) (ch:=[it]) (λ b hb=>?_) (λ b o _ _ hc e _=>k b o (λ z=>hc (by simp[z])) e) (λ b o _ _ hc e _=>⟨o.slots,k b o (λ z=>hc (by simp[z])) e⟩) (λ _ _ _ _ n=>n)
  (λ b o hc e=>⟨o,k b o (λ z=>hc (by simp[z])) e⟩) (λ _ _ e=>e) (λ _ _ _ e=>e) (λ b ps e=>⟨#[],by rw[e];simp⟩) (λ m hm=>?_) (λ b u e=>?_) ⟨I.bare.1,Nat.le_refl _⟩
 ·have e:b=it:=by simpa using hb
  subst e
  exact⟨h1,hL,h2,h3⟩
 ·obtain⟨o,es,ep,ho,r⟩:=hm
  exact⟨o,es,ep,k _ o (Ne.symm hL) ho,r⟩
 ·refine(I.hok b u e).stay (λ c v hc q=>k c v ?_ q) (λ _ q=>q) λ _ _ q=>q
  rcases hc with z|z
  ·rw[z];exact nit b u e
  ·exact nit c _ z
theorem aB.tok(I:aB X pins σ H s)(t:Nat):aB X pins σ H {s with toks:=t}:=I.un (h':=s.heap) (t':=t) Un.refl I.hok
theorem aB.kept{t':Nat}(I:aB X pins σ H s)(k:∀b u,s.heap.get? b=some u->h'.get? b=some u):aB X pins σ H {s with heap:=h',toks:=t'}:=I.un (Un.kept k) (I.hok.kept k)
theorem aB.laid{a:Addr}{o:HO}{t':Nat}(I:aB X pins σ H s)(k:∀b u,s.heap.get? b=some u->h'.get? b=some u)(hp:s.heap.objs.size<=a)(new:cI X.prog X.w (aD H a o) h' a o):
  aB X pins σ (aD H a o) {s with heap:=h',toks:=t'}:=I.un (Un.laid k hp (I.hok.fresh hp)) (I.hok.laid k hp new)
theorem aB.write{x e:Addr}{o:HO}{t':Nat}(I:aB X pins σ H s)(mu:gY (H x))(he:e=x\/H e=some (.own x))(k:∀b u,b≠e->s.heap.get? b=some u->h'.get? b=some u)(heo:∃u,h'.get? e=some u)
  (new:cI X.prog X.w (aD H x o) h' x o):aB X pins σ (aD H x o) {s with heap:=h',toks:=t'}:=I.un (Un.write mu he k heo) (I.hok.write mu he k heo new)
theorem aB.weak{σ':List (Option V)}(I:aB X pins σ H s)(hl:σ'.length=σ.length)(w:∀(i:Nat) v,σ'[i]? =some (some v)->σ[i]? =some (some v)):aB X pins σ' H s:=
 ⟨I.ok,I.os,I.bare,I.base,let⟨m,hn,hl'⟩:=I.loc;⟨m,hn,λ i x v e1 e2 e3=>hl' i x v e1 (w i v e2) e3⟩,I.cell,I.free,I.freeC,I.pin,I.hok,hl.trans I.len⟩
theorem aB.pins_of{pins':List (Addr×Obj)}(I:aB X pins σ H s)(h:∀p∈pins',s.heap.get? p.1=some p.2/\H p.1=none/\p.1≠X.env.locals/\p.1∉X.fs/\∀v,p.2.data≠ .cell v):aB X pins' σ H s:=
 ⟨I.ok,I.os,I.bare,I.base,I.loc,I.cell,I.free,I.freeC,λ p hp=>(List.mem_append.mp hp).elim (λ z=>I.pin p (List.mem_append_left _ z)) (h p),I.hok,I.len⟩
theorem vO{N:List Str}(hN:N.Nodup){i j:Nat}{x:Str}(a:N[i]? =some x)(b:N[j]? =some x):i=j:=by
 obtain⟨h1,e1⟩:=List.getElem?_eq_some_iff.mp a
 obtain⟨h2,e2⟩:=List.getElem?_eq_some_iff.mp b
 exact(List.getElem_inj hN).mp (e1.trans e2.symm)
theorem Aa{M:Model}{A:Around}{E:Qe}{i:Nat}{x:Str}{v:V}{u:Value}{Q:Unit->Shared->Prop}(I:aB X pins σ H s)(hN:X.N.Nodup)(hi:X.N[i]? =some x)(hx:oZ X.env.scope x)(r:bA v u)
  (h:∀s',aB X pins (σ.set i (some v)) H s'->(∃a,Heap.SameBut a s.heap s'.heap/\(a=X.env.locals\/X.env.cells.lookup x=some a))->Q () s') (hf:X.fn x=true\/X.env.scope.names.lookup x=some .local:=by first|exact .inl rfl|exact .inr rfl|assumption):wpAny M A (storeName X.env x u) Q E s:=by
 obtain⟨m,hn,hl⟩:=id I.loc
 have hcls:(X.env.scope.kind== .class||(X.env.scope.kind== .module&&X.env.locals !=X.env.globals))=false:=by rw[I.ok.kind];rfl
 have hiσ:i<σ.length:=by rw[I.len];exact(List.getElem?_eq_some_iff.mp hi).1
 have cne:=I.cne
 have tracked:∀{a:Addr} {h':Heap},(∃o,s.heap.get? a=some o/\H a=none)->Heap.SameBut a s.heap h'->bZ X.prog X.w H h':=fun{a h'} ha hs b ob e=>by
  obtain⟨_,_,hfree⟩:=ha
  refine(I.hok b ob e).stay (λ c w' hc q=>(hs.2 c ?_).trans q) (λ _ q=>q) λ _ _ q=>q
  rintro rfl
  rcases hc with rfl|hc
  ·rw[hfree]at e;cases e
  ·rw[hfree]at hc;cases hc
 rcases hx with hk|hk
 ·refine wpAny_storeName_local hk hn (λ h' hn' hs=>?_) hcls
  obtain⟨oL,_,_,hoL,_⟩:=id hn
  refine h _ ⟨I.ok,I.os,I.bare,⟨λ b o e n hb hx=>?_,λ b o e n hb hx=>?_,I.base.free,λ b o e hx=>?_,I.base.tups,I.base.frzs,I.base.tbls⟩,⟨_,hn',λ j y v' e1 e2 e3=>?_⟩,λ y c e=>?_,I.free,I.freeC,λ p hp=>?_,tracked ⟨oL,hoL,I.free⟩ hs,by simpa using I.len⟩ ⟨_,hs,.inl rfl⟩
  ·exact(hs.2 b (Nat.ne_of_lt (Nat.lt_of_lt_of_le (Heap.lt_size e) I.ok.above))).trans (I.base.keep b o e n hb hx)
  ·obtain⟨sl,e1⟩:=I.base.slot b o e n hb hx
   exact⟨sl,(hs.2 b (Nat.ne_of_lt (Nat.lt_of_lt_of_le (Heap.lt_size e) I.ok.above))).trans e1⟩
  ·obtain⟨o',e1⟩:=I.base.there b o e hx
   exact⟨o',(hs.2 b (Nat.ne_of_lt (Nat.lt_of_lt_of_le (Heap.lt_size e) I.ok.above))).trans e1⟩
  ·by_cases hj:j=i
   ·subst hj
    rw[hi]at e1;cases e1
    rw[List.getElem?_set_self hiσ]at e2
    cases e2
    exact⟨u,r,.inl ⟨hk,Qb⟩⟩
   ·rw[List.getElem?_set_ne (Ne.symm hj)]at e2
    obtain⟨u',r',q⟩:=hl j y v' e1 e2 e3
    refine⟨u',r',?_⟩
    rcases q with⟨k,e⟩|⟨k,c,e,z⟩
    ·refine .inl ⟨k,?_⟩
     have:y≠x:=λ e=>hj (vO hN e1 (e▸hi))
     simp[this,e]
    ·exact .inr ⟨k,c,e,z.sameBut hs (cne y c e)⟩
  ·obtain⟨w',z⟩:=I.cell y c e
   exact⟨w',z.sameBut hs (cne y c e)⟩
  ·obtain⟨e,n,ne,nf,d⟩:=I.pin p hp
   exact⟨(hs.2 p.1 ne).trans e,n,ne,nf,d⟩
 ·have hfn:X.fn x=true:=by
   rcases hf with z|z
   ·exact z
   ·rw[z]at hk;cases hk
  obtain⟨c,hc⟩:=I.ok.has x (.inl hk)
  obtain⟨w',z⟩:=I.cell x c hc
  refine wpAny_storeName_cell I.ok.kind hk hc z (λ h' hc' hs=>?_)
  obtain⟨oc,hoc,hocd⟩:=id z
  refine h {s with heap:=h'} ⟨I.ok,I.os,I.bare,⟨λ b o e n hb hx=>?_,λ b o e n hb hx=>?_,I.base.free,λ b o e hx=>?_,I.base.tups,I.base.frzs,I.base.tbls⟩,⟨m,hn.sameBut hs (Ne.symm (cne x c hc)),λ j y v' e1 e2 e3=>?_⟩,λ y c' e=>?_,I.free,I.freeC,λ p hp=>?_,tracked ⟨oc,hoc,I.freeC x c hc⟩ hs,by simpa using I.len⟩ ⟨c,hs,.inr hc⟩
  ·exact(hs.2 b (Nat.ne_of_lt (Nat.lt_of_lt_of_le (Heap.lt_size e) (I.ok.cab x c hfn hc)))).trans (I.base.keep b o e n hb hx)
  ·obtain⟨sl,e1⟩:=I.base.slot b o e n hb hx
   exact⟨sl,(hs.2 b (Nat.ne_of_lt (Nat.lt_of_lt_of_le (Heap.lt_size e) (I.ok.cab x c hfn hc)))).trans e1⟩
  ·obtain⟨o',e1⟩:=I.base.there b o e hx
   exact⟨o',(hs.2 b (Nat.ne_of_lt (Nat.lt_of_lt_of_le (Heap.lt_size e) (I.ok.cab x c hfn hc)))).trans e1⟩
  ·by_cases hj:j=i
   ·subst hj
    rw[hi]at e1;cases e1
    rw[List.getElem?_set_self hiσ]at e2
    cases e2
    exact⟨u,r,.inr ⟨.inl hk,c,hc,hc'⟩⟩
   ·rw[List.getElem?_set_ne (Ne.symm hj)]at e2
    obtain⟨u',r',q⟩:=hl j y v' e1 e2 e3
    refine⟨u',r',?_⟩
    rcases q with q|⟨k,c',e,z'⟩
    ·exact .inl q
    ·refine .inr ⟨k,c',e,z'.sameBut hs ?_⟩
     rintro rfl
     exact hj (vO hN e1 (I.ok.inj _ _ _ e hc▸hi))
  ·by_cases hcc:c'=c
   ·subst hcc;exact⟨_,hc'⟩
   ·obtain⟨w2,z2⟩:=I.cell y c' e
    exact⟨w2,z2.sameBut hs hcc⟩
  ·obtain⟨e,n,ne,nf,d⟩:=I.pin p hp
   refine⟨(hs.2 p.1 ?_).trans e,n,ne,nf,d⟩
   intro q
   rw[q,hoc]at e
   have q':oc=p.2:=Option.some.inj e
   exact d w' (by rw[<-q'];exact hocd)
theorem sZ{M:Model}{A:Around}{E:Qe}{i:Nat}{x:Str}{v:V}{u:Value}{Q:Unit->Shared->Prop}(I:aB X pins σ H s)(hN:X.N.Nodup)(hi:X.N[i]? =some x)(hx:oZ X.env.scope x)(r:bA v u)
  (h:∀s',aB X pins (σ.set i (some v)) H s'->Q () s') (hf:X.fn x=true\/X.env.scope.names.lookup x=some .local:=by first|exact .inl rfl|exact .inr rfl|assumption):wpAny M A (storeName X.env x u) Q E s:=
 Aa I hN hi hx r (λ s' I' _=>h s' I') hf
theorem aB.call'{s':Shared}{ch:List Addr}(I:aB X pins σ H s)(ho:s'.os=s.os)(u:Un (cC X.stack) ch H H' s.heap s'.heap)(hok:bZ X.prog X.w H' s'.heap)(hg:fB s.gens s'.gens)
  (hch:∀b∈ch,(b∈X.ex\/X.s₀.heap.objs.size<=b)/\b≠X.env.locals/\(∀x c,X.env.cells.lookup x=some c->c≠b)/\∀p∈X.pn++pins,p.1≠b):aB X pins σ H' s':=by
 obtain⟨h',g',d',t',o'⟩:=s'
 have e:o'=s.os:=ho
 subst e
 exact I.call (g':=g') (t':=t') (d':=d') u hok hg hch
end
abbrev XK:=Value->Option Addr->Hp->Prop
abbrev St:=List (Option V)
abbrev VK:=V->Hp->Prop
abbrev TE:=St->Hp->VK->Prop
abbrev TT:=St->Hp->(Bool->Hp->Prop)->Prop
abbrev TA:=St->Hp->(List V->Hp->Prop)->Prop
structure gG where
 nx:St->Hp->Prop
 rt:VK
 bk:St->Hp->Prop:=λ _ _=>False
 ct:St->Hp->Prop:=λ _ _=>False
abbrev TS:=gG->St->Hp->Prop
def EP(X:Cx)(pins:List (Addr×Obj))(σ:St)(Q:VK)(u:Value)(s':Shared):Prop:=∃v H',aB X pins σ H' s'/\bA v u/\Q v H'
def TP(X:Cx)(pins:List (Addr×Obj))(σ:St)(Q:Bool->Hp->Prop)(b:Bool)(s':Shared):Prop:=∃H',aB X pins σ H' s'/\Q b H'
def AP(X:Cx)(pins:List (Addr×Obj))(σ:St)(Q:List V->Hp->Prop)(us:List Value)(s':Shared):Prop:=∃vs H',aB X pins σ H' s'/\aO vs us/\Q vs H'
def SP(X:Cx)(pins:List (Addr×Obj))(D:gG)(f:Flow)(s':Shared):Prop:=
 match f with
 |.next=>∃σ' H',aB X pins σ' H' s'/\D.nx σ' H'
 |.brk=>∃σ' H',aB X pins σ' H' s'/\D.bk σ' H'
 |.cont=>∃σ' H',aB X pins σ' H' s'/\D.ct σ' H'
 |.ret u=>∃v σ' H',aB X pins σ' H' s'/\bA v u/\D.rt v H'
def PE(X:Cx)(e:Expr)(t:TE):Prop:=
 ∀(pins:List (Addr×Obj)) (s:Shared) (σ:St) (H:Hp) (Q:VK),aB X pins σ H s->t σ H Q->wpAny (model X.prog X.w) X.A (eval e X.env) (EP X pins σ Q) X.xe s
def PT(X:Cx)(e:Expr)(t:TT):Prop:=
 ∀(pins:List (Addr×Obj)) (s:Shared) (σ:St) (H:Hp) (Q:Bool->Hp->Prop),aB X pins σ H s->t σ H Q->wpAny (model X.prog X.w) X.A (isTrue e X.env (eval e X.env)) (TP X pins σ Q) X.xe s
def PW(X:Cx)(e:Expr)(t:TT):Prop:=
 ∀(whole:Sem Value) (pins:List (Addr×Obj)) (s:Shared) (σ:St) (H:Hp) (Q:Bool->Hp->Prop),aB X pins σ H s->t σ H Q->wpAny (model X.prog X.w) X.A (isTrue e X.env whole) (TP X pins σ Q) X.xe s
theorem PW.pt{X:Cx}{e:Expr}{t:TT}(h:PW X e t):PT X e t:=h _
def PA(X:Cx)(es:List Expr)(t:TA):Prop:=
 ∀(pos:Pos) (pins:List (Addr×Obj)) (s:Shared) (σ:St) (H:Hp) (Q:List V->Hp->Prop),aB X pins σ H s->t σ H Q->wpAny (model X.prog X.w) X.A (spliced (backTo pos (starEach es X.env))) (AP X pins σ Q) X.xe s
def PS(X:Cx)(st:Stmt)(t:TS):Prop:=
 ∀(pins:List (Addr×Obj)) (s:Shared) (σ:St) (H:Hp) (D:gG),aB X pins σ H s->t D σ H->wpAny (model X.prog X.w) X.A (exec st X.env) (SP X pins D) X.xe s
def dH(X:Cx)(st:List Stmt)(t:TS):Prop:=
 ∀(pins:List (Addr×Obj)) (s:Shared) (σ:St) (H:Hp) (D:gG),aB X pins σ H s->t D σ H->wpAny (model X.prog X.w) X.A (execs st X.env) (SP X pins D) X.xe s
theorem aP{α:Type}{t:Sem α}{Q Q':α->Shared->Prop}{M:Model}{A:Around}{E:Qe}{s:Shared}(h:wpAny M A t Q E s)(hQ:∀a s,Q a s->Q' a s):wpAny M A t Q' E s:=wpAny_mono h hQ λ _ _ x=>x
section
variable{X:Cx}
def zS(i:Nat):TE:=λ σ H Q=>∃v,σ[i]? =some (some v)/\Q v H
def tC(v:V):TE:=λ _ H Q=>Q v H
theorem Nw{i:Nat}{x:Str}{pos:Pos}(hN:X.N[i]? =some x)(hv:xF X.env.scope x)(hd:(x==("__debug__" :Str))=false:=by decide)(hcd:(x==("__classdict__" :Str))=false:=by decide):PE X (.Name x pos) (zS i):=by
 intro pins s σ H Q I h
 obtain⟨v,e,h⟩:=h
 obtain⟨m,hn,hl⟩:=I.loc
 obtain⟨u,r,l⟩:=hl i x v hN e hv
 have fin:EP X pins σ Q u s:=⟨v,H,I,r,h⟩
 rcases l with⟨hk,hm⟩|⟨hk,c,hc,hcell⟩
 ·exact wpAny_Name (wpAny_loadName_local I.ok.kind hk hn hm fin) hd
 ·rcases hk with hk|hk
  ·exact wpAny_Name (wpAny_loadName_cell I.ok.kind hk hc hcell fin) hd
  ·exact wpAny_Name (wpAny_loadName_free I.ok.kind hk hc hcell fin hcd) hd
theorem aL{i j pos}:PE X (.Constant (.int i) j pos) (tC (.int i)):=λ _ _ _ H _ I h=>wpAny_Constant_int ⟨.int i,H,I.tok _,⟨_,rfl⟩,h⟩
theorem jC{b j pos}:PE X (.Constant (.bool b) j pos) (tC (.bl b)):=λ _ _ _ H _ I h=>Constant_bool ⟨.bl b,H,I,rfl,h⟩
theorem Ob{j pos}:PE X (.Constant .none j pos) (tC .non):=λ _ _ _ H _ I h=>Constant_none ⟨.non,H,I,rfl,h⟩
theorem cQ{x j pos}:PE X (.Constant (.str x) j pos) (tC (.str x)):=λ _ _ _ H _ I h=>Calls.Constant_str ⟨.str x,H,I.tok _,⟨_,rfl⟩,h⟩
def Gl(X:Cx)(x:Str):Prop:=X.env.kindOf x=some .globalImplicit
theorem mF{E:Qe}{pins:List (Addr×Obj)}{s:Shared}{σ:St}{H:Hp}{x:Str}{u:Value}{pos:Pos}{Q:Qe}(I:aB X pins σ H s)(hg:Gl X x)(hm:X.mg x=some u)(h:Q u s)
  (hd:(x==("__debug__" :Str))=false:=by decide):wpAny (model X.prog X.w) X.A (eval (.Name x pos) X.env) Q E s:=
 Calls.Name_function_global I.ok.kind hg (Calls.loadGlobal_global (by rw[I.ok.glob];exact I.mod.glob.keeps I.bk) hm h) hd
theorem kQ{E:Qe}{pins:List (Addr×Obj)}{s:Shared}{σ:St}{H:Hp}{x:Str}{u:Value}{pos:Pos}{Q:Qe}(I:aB X pins σ H s)(hg:Gl X x)(hm:X.mg x=none)(hv:bootBuiltins x=some u)(h:Q u s)
  (hn:x≠ "__name__" :=by decide) (hd:(x==("__debug__" :Str))=false:=by decide):wpAny (model X.prog X.w) X.A (eval (.Name x pos) X.env) Q E s:=by
 obtain⟨mb,h1,h2⟩:=I.mod.blt
 exact Calls.Name_function_global I.ok.kind hg (Calls.loadGlobal_builtin (by rw[I.ok.glob];exact I.mod.glob.keeps I.bk) hm (by rw[I.ok.blt];exact h1.keeps I.bk) ((h2 x hn).trans hv) h) hd
theorem Od{x:Str}{v:V}{u:Value}{pos:Pos}(hg:Gl X x)(hm:X.mg x=some u)(r:bA v u)(hd:(x==("__debug__" :Str))=false:=by decide):PE X (.Name x pos) (tC v):=
 λ _ _ _ H _ I h=>mF I hg hm ⟨v,H,I,r,h⟩ hd
theorem gP{x:Str}{v:V}{u:Value}{pos:Pos}(hg:Gl X x)(hm:X.mg x=none)(hv:bootBuiltins x=some u)(r:bA v u)(hn:x≠ "__name__" :=by decide)(hd:(x==("__debug__" :Str))=false:=by decide):PE X (.Name x pos) (tC v):=
 λ _ _ _ H _ I h=>kQ I hg hm hv ⟨v,H,I,r,h⟩ hn hd
variable{a b:Expr}{ta tb:TE}{pos:Pos}
def tB(t:TE):TT:=λ σ H Q=>t σ H λ x H1=>∃c,x= .bl c/\Q c H1
theorem iC{e:Expr}{t:TE}(h:PE X e t)(he:∀whole,isTrue e X.env whole=(do let v←whole;standAt e.pos;holding [v] (truthy v)):=by intro _;rfl):PT X e (tB t):=by
  intro pins s σ H Q I hw
  refine isTrue_plain (aP (h pins s σ H _ I hw) λ v s1 ⟨x,H1,I1,r1,q1⟩=>?_) (he _)
  obtain⟨d,rfl,q⟩:=q1
  cases r1
  exact wpAny_truthy_bool ⟨H1,I1,q⟩
variable{tA tB':TT}{rest:List Expr}
def Kl(t u:TT):TT:=λ σ H Q=>t σ H λ c H1=>if c=true then u σ H1 Q else Q false H1
def Io(t u:TT):TT:=λ σ H Q=>t σ H λ c H1=>if c=true then Q true H1 else u σ H1 Q
def Ip(t:TT):TT:=λ σ H Q=>t σ H λ c H1=>Q (!c) H1
theorem Nd(ha:PT X a tA):PW X (.BoolOp .And [a] pos) tA:=by
 intro wh pins s σ H Q I h
 refine isTrue_and (aP (ha pins s σ H Q I h) λ c s1 e=>?_)
 cases c with
 |true=>exact isTrue_and_nil e
 |false=>exact e
theorem lV(ha:PT X a tA):PW X (.BoolOp .Or [a] pos) tA:=by
 intro wh pins s σ H Q I h
 refine isTrue_or (aP (ha pins s σ H Q I h) λ c s1 e=>?_)
 cases c with
 |false=>exact isTrue_or_nil e
 |true=>exact e
theorem Nf(ha:PT X a tA)(hb:PW X (.BoolOp .And (b::rest) pos) tB'):PW X (.BoolOp .And (a::b::rest) pos) (Kl tA tB'):=by
 intro wh pins s σ H Q I h
 refine isTrue_and (aP (ha pins s σ H _ I h) λ c s1 ⟨H1,I1,q1⟩=>?_)
 cases c with
 |true=>exact hb wh pins s1 σ H1 Q I1 q1
 |false=>exact⟨H1,I1,q1⟩
theorem lW(ha:PT X a tA)(hb:PW X (.BoolOp .Or (b::rest) pos) tB'):PW X (.BoolOp .Or (a::b::rest) pos) (Io tA tB'):=by
 intro wh pins s σ H Q I h
 refine isTrue_or (aP (ha pins s σ H _ I h) λ c s1 ⟨H1,I1,q1⟩=>?_)
 cases c with
 |true=>exact⟨H1,I1,q1⟩
 |false=>exact hb wh pins s1 σ H1 Q I1 q1
theorem iY(ha:PT X a tA):PT X (.UnaryOp .Not a pos) (Ip tA):=by
 intro pins s σ H Q I h
 exact isTrue_not (ha pins s σ H (λ c H1=>Q (!c) H1) I h)
def Kk(ta tb:TE):TE:=λ σ H Q=>ta σ H λ x H1=>∃c,x= .bl c/\if c=true then tb σ H1 Q else Q (.bl false) H1
def Im(ta tb:TE):TE:=λ σ H Q=>ta σ H λ x H1=>∃c,x= .bl c/\if c=true then Q (.bl true) H1 else tb σ H1 Q
theorem vG{op}{t:TE}(h:PE X a t):PE X (.BoolOp op [a] pos) t:=λ pins s σ H Q I hw=>BoolOp_one (h pins s σ H Q I hw)
theorem Bd(ha:PE X a ta)(hb:PE X (.BoolOp .And (b::rest) pos) tb):PE X (.BoolOp .And (a::b::rest) pos) (Kk ta tb):=by
 intro pins s σ H Q I h
 refine BoolOp_and (aP (ha pins s σ H _ I h) λ v s1 ⟨x,H1,I1,r1,q1⟩=>?_)
 obtain⟨c,rfl,q1⟩:=q1
 cases r1
 refine wpAny_truthy_bool ?_
 cases c with
 |true=>exact hb pins s1 σ H1 Q I1 q1
 |false=>exact⟨.bl false,H1,I1,rfl,q1⟩
theorem Oa(ha:PE X a ta)(hb:PE X (.BoolOp .Or (b::rest) pos) tb):PE X (.BoolOp .Or (a::b::rest) pos) (Im ta tb):=by
 intro pins s σ H Q I h
 refine BoolOp_or (aP (ha pins s σ H _ I h) λ v s1 ⟨x,H1,I1,r1,q1⟩=>?_)
 obtain⟨c,rfl,q1⟩:=q1
 cases r1
 refine wpAny_truthy_bool ?_
 cases c with
 |false=>exact hb pins s1 σ H1 Q I1 q1
 |true=>exact⟨.bl true,H1,I1,rfl,q1⟩
def Kc(t:TT)(ta tb:TE):TE:=λ σ H Q=>t σ H λ c H1=>if c=true then ta σ H1 Q else tb σ H1 Q
theorem Oc{c:Expr}(hc:PT X c tA)(ha:PE X a ta)(hb:PE X b tb):PE X (.IfExp c a b pos) (Kc tA ta tb):=by
 intro pins s σ H Q I h
 refine wpAny_IfExp (aP (hc pins s σ H _ I h) λ d s1 ⟨H1,I1,q1⟩=>?_)
 cases d with
 |true=>exact ha pins s1 σ H1 Q I1 q1
 |false=>exact hb pins s1 σ H1 Q I1 q1
end
def aN(K:PySem.W.Frag)(H:Hp)(a:Addr)(xs:List V):Prop:=
 Rd H a (.lst xs)\/
  ∃(o:Obj) (its:Array Value) (n:Nat),K.lookup a=some o/\o.cls= .type "list"/\o.dict=none/\o.data= .seq its n/\its.size<=sizeLine/\aO xs its.toList
def aM(K:PySem.W.Frag)(H:Hp)(a:Addr)(xs:List V):Prop:=
 Rd H a (.tup xs)\/
  ∃(o:Obj) (its:Array Value) (n:Nat),K.lookup a=some o/\o.cls= .type "tuple"/\o.data= .seq its n/\its.size<=sizeLine/\aO xs its.toList
def AY:Value->Option V
 |.none=>some .non
 |.bool b=>some (.bl b)
 |.int i _=>some (.int i)
 |.str x _=>some (.str x)
 |.bytes b _=>some (.byt b)
 |.float b _=>some (.flt b)
 |.ref a=>some (.ref a)
 |.type n=>some (.ty n)
 |_=>none
theorem bA.abs{x:V}{u:Value}(r:bA x u):AY u=some x:=by
 cases x with
 |non=>cases r;rfl
 |bl _=>cases r;rfl
 |int _=>obtain⟨t,rfl⟩:=r;rfl
 |str _=>obtain⟨t,rfl⟩:=r;rfl
 |byt _=>obtain⟨t,rfl⟩:=r;rfl
 |flt _=>obtain⟨t,rfl⟩:=r;rfl
 |ref _=>cases r;rfl
 |ty _=>cases r;rfl
theorem bA.inj{x y:V}{u:Value}(r:bA x u)(q:bA y u):x=y:=Option.some.inj (r.abs.symm.trans q.abs)
theorem aO.inj:∀{xs ys:List V} {us:List Value},aO xs us->aO ys us->xs=ys
 |_,_,_,.nil,.nil=>rfl
 |_,_,_,.cons r t,.cons r' t'=>by rw[r.inj r',aO.inj t t']
section
variable{X:Cx}{pins:List (Addr×Obj)}{σ:St}{H:Hp}{s:Shared}{a:Addr}{xs ys:List V}
theorem aN.of{K:PySem.W.Frag}(h:H a=some (.lst xs)):aN K H a xs:=.inl (.inl h)
theorem aM.of{K:PySem.W.Frag}(h:H a=some (.tup xs)):aM K H a xs:=.inl (.inl h)
theorem aB.list(I:aB X pins σ H s)(h:aN X.K H a xs):∃its:List Value,aO xs its/\PlainL s.heap a its.toArray/\xs.length<=sizeLine:=by
 rcases h with h|⟨o,its,n,hk,hc,hd,hs,hz,r⟩
 ·obtain⟨z,its,n,r,e⟩:=h.ok I.hok
  exact⟨its,r,⟨_,n,e,rfl,rfl,rfl⟩,z⟩
 ·refine⟨its.toList,r,⟨o,n,I.kIn a o hk,hc,hd,by simpa using hs⟩,?_⟩
  have e:=r.length
  simp only[Array.length_toList]at e
  omega
theorem aB.tuple(I:aB X pins σ H s)(h:aM X.K H a xs):∃its:List Value,aO xs its/\IsTup s.heap a its.toArray/\xs.length<=sizeLine:=by
 rcases h with h|⟨o,its,n,hk,hc,hs,hz,r⟩
 ·obtain⟨z,its,r,p,_⟩:=h.ok I.hok
  exact⟨its,r,p,z⟩
 ·refine⟨its.toList,r,⟨o,I.kIn a o hk,hc,n,by simpa using hs⟩,?_⟩
  have e:=r.length
  simp only[Array.length_toList]at e
  omega
theorem aB.list_inj(I:aB X pins σ H s)(h:aN X.K H a xs)(h':aN X.K H a ys):xs=ys:=by
 obtain⟨its,r,⟨o,n,e,_,_,d⟩,_⟩:=I.list h
 obtain⟨its',r',⟨o',n',e',_,_,d'⟩,_⟩:=I.list h'
 rw[e]at e';cases e'
 rw[d]at d'
 injection d' with d1 _
 have:its=its':=by simpa using congrArg Array.toList d1
 subst this
 exact r.inj r'
theorem aB.tuple_inj(I:aB X pins σ H s)(h:aM X.K H a xs)(h':aM X.K H a ys):xs=ys:=by
 obtain⟨its,r,⟨o,e,_,n,d⟩,_⟩:=I.tuple h
 obtain⟨its',r',⟨o',e',_,n',d'⟩,_⟩:=I.tuple h'
 rw[e]at e';cases e'
 rw[d]at d'
 injection d' with d1 _
 have:its=its':=by simpa using congrArg Array.toList d1
 subst this
 exact r.inj r'
end
abbrev Cx.wish(X:Cx)(E:Qe):Cx:={X with xe:=E}
abbrev Cx.nox(X:Cx):Cx:=X.wish λ _ _=>False
theorem Cx.Ok.wish{X:Cx}(ok:X.Ok)(E:Qe):(X.wish E).Ok:=
 ⟨ok.mod,ok.kind,ok.glob,ok.blt,ok.above,ok.inj,ok.has,ok.cab,ok.hd,ok.frames,ok.stk,ok.exf,ok.bs,ok.bsz,ok.noex,ok.exfs,ok.funs,ok.frf⟩
theorem Cx.Ok.unwish{X:Cx}{E:Qe}(ok:(X.wish E).Ok):X.Ok:=
 ⟨ok.mod,ok.kind,ok.glob,ok.blt,ok.above,ok.inj,ok.has,ok.cab,ok.hd,ok.frames,ok.stk,ok.exf,ok.bs,ok.bsz,ok.noex,ok.exfs,ok.funs,ok.frf⟩
section
variable{X:Cx}{pins:List (Addr×Obj)}{σ:St}{H:Hp}{s:Shared}{E:Qe}
theorem aB.wish(I:aB X pins σ H s)(E:Qe):aB (X.wish E) pins σ H s:=⟨I.ok.wish E,I.os,I.bare,I.base,I.loc,I.cell,I.free,I.freeC,I.pin,I.hok,I.len⟩
theorem aB.unwish(I:aB (X.wish E) pins σ H s):aB X pins σ H s:=⟨I.ok.unwish,I.os,I.bare,I.base,I.loc,I.cell,I.free,I.freeC,I.pin,I.hok,I.len⟩
theorem SP.unwish{D:gG}{f:Flow}{s':Shared}(h:SP (X.wish E) pins D f s'):SP X pins D f s':=by
 cases f with
 |next=>obtain⟨σ',H',I,q⟩:=h;exact⟨σ',H',I.unwish,q⟩
 |brk=>obtain⟨σ',H',I,q⟩:=h;exact⟨σ',H',I.unwish,q⟩
 |cont=>obtain⟨σ',H',I,q⟩:=h;exact⟨σ',H',I.unwish,q⟩
 |ret u=>obtain⟨v,σ',H',I,r,q⟩:=h;exact⟨v,σ',H',I.unwish,r,q⟩
theorem PE.nox{e:Expr}{t:TE}(h:PE X.nox e t):PE X e t:=λ pins s σ H Q I hw=>
 wpAny_mono (h pins s σ H Q (I.wish _) hw) (λ _ _ ⟨v,H',I',r,q⟩=>⟨v,H',I'.unwish,r,q⟩) λ _ _ z=>False.elim z
theorem PT.nox{e:Expr}{t:TT}(h:PT X.nox e t):PT X e t:=λ pins s σ H Q I hw=>
 wpAny_mono (h pins s σ H Q (I.wish _) hw) (λ _ _ ⟨H',I',q⟩=>⟨H',I'.unwish,q⟩) λ _ _ z=>False.elim z
theorem dH.nox{st:List Stmt}{t:TS}(h:dH X.nox st t):dH X st t:=λ pins s σ H D I hw=>
 wpAny_mono (h pins s σ H D (I.wish _) hw) (λ _ _ q=>q.unwish) λ _ _ z=>False.elim z
end
section
variable{X:Cx}{st:Stmt}{rest:List Stmt}{t u:TS}{e:Expr}{te:TE}{pos:Pos}
def Is:TS:=λ D σ H=>D.nx σ H
def eH(t u:TS):TS:=λ D σ H=>t {D with nx:=u D} σ H
theorem cF:dH X [] Is:=λ _ _ σ H _ I h=>wpAny_execs_nil ⟨σ,H,I,h⟩
theorem aT(h1:PS X st t)(h2:dH X rest u):dH X (st::rest) (eH t u):=by
 intro pins s σ H D I h
 refine wpAny_execs_cons (aP (h1 pins s σ H {D with nx:=u D} I h) λ f s1 q=>?_)
 cases f with
 |next=>
  obtain⟨σ',H',I',q⟩:=q
  exact h2 pins s1 σ' H' D I' q
 |ret v=>exact q
 |brk=>exact q
 |cont=>exact q
theorem aY(h1:PS X st t):dH X [st] t:=by
 intro pins s σ H D I h
 refine wpAny_execs_cons (aP (h1 pins s σ H D I h) λ f s1 q=>?_)
 cases f with
 |next=>exact wpAny_execs_nil q
 |ret v=>exact q
 |brk=>exact q
 |cont=>exact q
theorem aB.quiet{pins:List (Addr×Obj)}{σ:St}{H:Hp}{s:Shared}(I:aB X pins σ H s):interactive X.env=false:=by simp[interactive,I.ok.kind]
def Kg(te:TE):TS:=λ D σ H=>te σ H λ _ H1=>D.nx σ H1
theorem iZ(he:PE X e te)(hs:swapsWith e none pos.line X.env=pure false:=by rfl):PS X (.Expr e pos) (Kg te):=by
 intro pins s σ H D I h
 exact wpAny_Expr_any (aP (he pins s σ H _ I h) λ v s1 ⟨x,H1,I1,r1,q1⟩=>⟨σ,H1,I1,q1⟩) I.quiet hs
def Ij(te:TE):TS:=λ D σ H=>te σ H D.rt
theorem bI(he:PE X e te):PS X (.Return (some e) pos) (Ij te):=by
 intro pins s σ H D I h
 exact wpAny_Return_some (aP (he pins s σ H _ I h) λ v s1 ⟨x,H1,I1,r1,q1⟩=>⟨x,σ,H1,I1,r1,q1⟩)
def Kb(c:TT)(t u:TS):TS:=λ D σ H=>c σ H λ b H1=>if b=true then t D σ H1 else u D σ H1
theorem cG{c:Expr}{a b:List Stmt}{tc:TT}(hc:PT X c tc)(ha:dH X a t)(hb:dH X b u):PS X (.If c a b pos) (Kb tc t u):=by
 intro pins s σ H D I h
 refine wpAny_If (aP (hc pins s σ H _ I h) λ d s1 ⟨H1,I1,q1⟩=>?_)
 cases d with
 |true=>exact ha pins s1 σ H1 D I1 q1
 |false=>exact hb pins s1 σ H1 D I1 q1
def Iu:TS:=λ _ _ _=>False
theorem vE:PS X st Iu:=λ _ _ _ _ _ _ h=>h.elim
end
abbrev TG:=V->St->Hp->(St->Hp->Prop)->Prop
abbrev gF:=List V->St->Hp->(St->Hp->Prop)->Prop
def PG(X:Cx)(target:Expr)(t:TG):Prop:=
 ∀(pins:List (Addr×Obj)) (s:Shared) (σ:St) (H:Hp) (v:V) (u:Value) (Q:St->Hp->Prop),aB X pins σ H s->bA v u->t v σ H Q->
  wpAny (model X.prog X.w) X.A (assign target X.env u) (λ _ s'=>∃σ' H',aB X pins σ' H' s'/\Q σ' H') X.xe s
def oX(X:Cx)(ts:List Expr)(t:gF):Prop:=
 ∀(pins:List (Addr×Obj)) (s:Shared) (σ:St) (H:Hp) (vs:List V) (us:List Value) (Q:St->Hp->Prop),aB X pins σ H s->aO vs us->t vs σ H Q->
  wpAny (model X.prog X.w) X.A (assignInOrder ((assignEach ts X.env).map (·.2)) us) (λ _ s'=>∃σ' H',aB X pins σ' H' s'/\Q σ' H') X.xe s
abbrev xI:=V->V->V->Hp->(Hp->Prop)->Prop
def Fm(X:Cx)(t:xI):Prop:=
 ∀(pins:List (Addr×Obj)) (s:Shared) (σ:St) (H:Hp) (o i v:V) (ov iv u:Value) (Q:Hp->Prop),aB X pins σ H s->bA o ov->bA i iv->bA v u->t o i v H Q->
  wpAny (model X.prog X.w) X.A (setItem ov iv u) (λ _ s'=>∃H',aB X pins σ H' s'/\Q H') X.xe s
section
variable{X:Cx}{pos:Pos}
def oJ(i:Nat):TG:=λ v σ H Q=>Q (σ.set i (some v)) H
theorem bL{i:Nat}{x:Str}(hN:X.N.Nodup)(hi:X.N[i]? =some x)(hx:oZ X.env.scope x)(hf:X.fn x=true\/X.env.scope.names.lookup x=some .local:=by first|exact .inl rfl|exact .inr rfl|assumption):PG X (.Name x pos) (oJ i):=by
 intro pins s σ H v u Q I r h
 exact wpAny_assign_Name (sZ I hN hi hx r (λ s' I'=>⟨_,H,I',h⟩) hf)
def Dm:gF:=λ vs σ H Q=>vs=[]/\Q σ H
def Dn(t:TG)(u:gF):gF:=λ vs σ H Q=>∃v r,vs=v::r/\t v σ H λ σ' H'=>u r σ' H' Q
theorem lZ:oX X [] Dm:=by
 intro pins s σ H vs us Q I r h
 obtain⟨e,h⟩:=h
 subst e
 cases r
 exact assignInOrder_nil ⟨σ,H,I,h⟩
theorem dL{e:Expr}{es:List Expr}{t:TG}{u:gF}(h1:PG X e t)(h2:oX X es u)
  (hs:(assignEach (e::es) X.env).map (·.2)=assign e X.env::(assignEach es X.env).map (·.2):=by rfl):oX X (e::es) (Dn t u):=by
 intro pins s σ H vs us Q I r h
 obtain⟨v,vr,e1,h⟩:=h
 subst e1
 cases r with
 |cons r rr=>
  rw[hs]
  refine assignInOrder_cons (aP (h1 pins s σ H _ _ _ I r h) λ _ s1 ⟨σ1,H1,I1,q1⟩=>?_)
  exact h2 pins s1 σ1 H1 _ _ Q I1 rr q1
def wF(K:PySem.W.Frag)(n:Nat)(t:gF):TG:=λ v σ H Q=>∃a xs,v= .ref a/\aM K H a xs/\xs.length=n/\t xs σ H Q
theorem mB{es:List Expr}{k:Nat}{t:gF}{n:Nat}(hc:X.calm=true)(h:oX X es t)
  (hn:(assignEach es X.env).length=n:=by rfl) (hst:(assignEach es X.env).findIdx? (·.1)=none:=by rfl):PG X (.Tuple es k pos) (wF X.K n t):=by
 intro pins s σ H v u Q I r hw
 obtain⟨a,xs,e1,hq,hl,hw⟩:=hw
 subst e1
 cases r
 obtain⟨its,rv,ht,hz⟩:=I.tuple hq
 refine assign_Tuple_tuple (I.ok.hd hc) ht (by simp[hn,<-hl,rv.length]) hst λ h' hx=>?_
 have I1:aB X pins σ H {s with heap:=h'}:=I.kept (t':=s.toks) λ b o e=>hx b o (Nat.ne_of_lt (Heap.lt_size e)) e
 exact h pins _ σ H xs _ Q I1 (by simpa using rv) hw
def Vl(to ti:TE)(t:xI):TG:=λ v σ H Q=>to σ H λ o H1=>ti σ H1 λ i H2=>t o i v H2 λ H3=>Q σ H3
theorem Nv{o i:Expr}{to ti:TE}{t:xI}(ho:PE X o to)(hi:PE X i ti)(hs:Fm X t)
  (ha:∀v,assign (.Subscript o i pos) X.env v=(do
   let ov<-holding [v] (eval o X.env)
   let iv<-holding [v,ov] (eval i X.env)
   standAt pos
   holding [v,ov,iv] (setItem ov iv v)
   release [v,ov,iv] []):=by intro _;rfl):PG X (.Subscript o i pos) (Vl to ti t):=by
 intro pins s σ H v u Q I r h
 rw[ha]
 refine wpAny_bind (wpAny_holding (aP (ho pins s σ H _ I h) λ ov s1 ⟨x,H1,I1,r1,q1⟩=>?_))
 refine wpAny_bind (wpAny_holding (aP (hi pins s1 σ H1 _ I1 q1) λ iv s2 ⟨y,H2,I2,r2,q2⟩=>?_))
 refine wpAny_bind (wpAny_standAt (wpAny_bind (wpAny_holding (aP (hs pins s2 σ H2 x y v ov iv u _ I2 r1 r2 r q2) λ _ s3 ⟨H3,I3,q3⟩=>?_))))
 exact wpAny_release ⟨σ,H3,I3,q3⟩
def sX(te:TE)(g:TG):TS:=λ D σ H=>te σ H λ x H1=>g x σ H1 D.nx
theorem lY{tg e:Expr}{te:TE}{g:TG}(he:PE X e te)(hg:PG X tg g)(hs:swapsWithSole [tg] e pos.line X.env=pure false:=by rfl)(hw:swappedStores [tg] e X.env=pure none:=by rfl)
  (h1:(assignEach [tg] X.env).map (·.2)=[assign tg X.env]:=by rfl):PS X (.Assign [tg] e pos) (sX te g):=by
 intro pins s σ H D I h
 refine wpAny_Assign_stores (aP (he pins s σ H _ I h) λ v s1 ⟨x,H1,I1,r1,q1⟩=>?_) hs hw
 rw[h1]
 exact aP (hg pins s1 σ H1 x v _ I1 r1 q1) λ _ s2 q=>q
theorem bH{i:Nat}{x:Str}{e:Expr}{te:TE}{pos':Pos}(hN:X.N.Nodup)(hi:X.N[i]? =some x)(hx:oZ X.env.scope x)(he:PE X e te)(hs:swapsWith e (some (.Name x pos')) pos.line X.env=pure false:=by rfl)(hf:X.fn x=true\/X.env.scope.names.lookup x=some .local:=by first|exact .inl rfl|exact .inr rfl|assumption):
  PS X (.Assign [.Name x pos'] e pos) (sX te (oJ i)):=by
 intro pins s σ H D I h
 refine wpAny_Assign_Name (aP (he pins s σ H _ I h) λ v s1 ⟨y,H1,I1,r1,q1⟩=>?_) hs
 exact sZ I1 hN hi hx r1 (λ s2 I2=>⟨_,H1,I2,q1⟩) hf
end
section
variable{X:Cx}{pos:Pos}
end
structure It where
 go:Nat->Hp->Prop
 yld:Nat->Hp->V->Hp->Prop
 stop:Nat->Hp->Prop
def dW(X:Cx)(pins:List (Addr×Obj))(H:Hp)(b:Addr):Prop:=
 H b=none/\b≠X.env.locals/\b∉X.fs/\(b∈X.ex\/X.s₀.heap.objs.size<=b)/\(∀x c,X.env.cells.lookup x=some c->c≠b)/\∀p∈X.pn++pins,p.1≠b
theorem aB.fpOk{X:Cx}{pins:List (Addr×Obj)}{σ:St}{H H':Hp}{s:Shared}{b:Addr}(I:aB X pins σ H s)(hb:s.heap.objs.size<=b)(hn:H' b=none):dW X pins H' b:=by
 refine⟨hn,Nat.ne_of_gt (Nat.lt_of_lt_of_le I.lt hb),I.nofs hb,.inr (Nat.le_trans I.sz hb),λ x c e z=>?_,λ p hp z=>?_⟩
 ·obtain⟨v,q⟩:=I.cell x c e
  exact absurd (Nat.lt_of_lt_of_le q.lt (by rw[z];exact hb)) (Nat.lt_irrefl _)
 ·exact absurd (Nat.lt_of_lt_of_le (Heap.lt_size (I.pin p hp).1) (by rw[z];exact hb)) (Nat.lt_irrefl _)
structure iO(P:Program)(w:World)(K:PySem.W.Frag)(tg:Expr)(J:It)(fp:List Addr)(it:Addr)(tn:Nat->Heap->Prop):Prop where
 mem:it∈fp
 obj:∀i h,tn i h->∀b∈fp,∃o,h.get? b=some o/\∀v,o.data≠ .cell v
 keep:∀i h h',tn i h->(∀b∈fp,∀o,h.get? b=some o->h'.get? b=some o)->tn i h'
 item:∀(X:Cx),X.prog=P->X.w=w->X.K=K->X.calm=true->∀(i:Nat) (pins:List (Addr×Obj)) (s:Shared) (σ:St) (H:Hp) (E:Qe),aB X pins σ H s->(∀b∈fp,dW X pins H b)->tn i s.heap->J.go i H->
  wpAny (model P w) X.A (pyNext (.ref it)) (λ r s1=>∃u,r=some u/\
   wpAny (model P w) X.A (letOwnedTupleGo tg (.ref it) u) (λ _ s2=>∃x H',aB X pins σ H' s2/\bA x u/\J.yld i H x H'/\tn (i+1) s2.heap/\∀b∈fp,H' b=none) E s1) E s
 done:∀(X:Cx),X.prog=P->X.w=w->X.K=K->X.calm=true->∀(i:Nat) (pins:List (Addr×Obj)) (s:Shared) (σ:St) (H:Hp) (E:Qe),aB X pins σ H s->(∀b∈fp,dW X pins H b)->tn i s.heap->J.stop i H->
  wpAny (model P w) X.A (pyNext (.ref it)) (λ r s1=>r=none/\aB X pins σ H s1) E s
 self:∀(A:Around) (i:Nat) (s:Shared) (Q:Qe) (E:Qe),tn i s.heap->Q (.ref it) s->wpAny (model P w) A (pyIter (.ref it)) Q E s
abbrev TI:=St->Hp->(It->Hp->Prop)->Prop
def xL(X:Cx)(pins:List (Addr×Obj))(σ:St)(tg:Expr)(R:It->Hp->Prop)(itv:Value)(s2:Shared):Prop:=
 ∃(it:Addr) (fp:List Addr) (tn:Nat->Heap->Prop) (J:It) (H':Hp),itv= .ref it/\aB X pins σ H' s2/\iO X.prog X.w X.K tg J fp it tn/\tn 0 s2.heap/\(∀b∈fp,dW X pins H' b)/\R J H'
def PI(X:Cx)(tg iter:Expr)(wi:TI):Prop:=
 ∀(pins:List (Addr×Obj)) (s:Shared) (σ:St) (H:Hp) (R:It->Hp->Prop),aB X pins σ H s->wi σ H R->
  wpAny (model X.prog X.w) X.A (eval iter X.env) (λ v s1=>wpAny (model X.prog X.w) X.A (pyIter v) (xL X pins σ tg R) X.xe s1) X.xe s
theorem qX{M:Model}{A:Around}{E:Value→Shared→Prop}{s:Shared}{tg:Expr}{it:Addr}{u:Value}{o:Obj}{n:String}{vs:Array Value}{Q:Unit→Shared→Prop}(ho:s.heap.get? it=some o)(hc:o.cls= .type n)(hd:o.data= .fields vs)
    (hn:["enumerate", "zip", "dict_itemiterator", "dict_reverseitemiterator", "odict_iterator", "itertools.zip_longest", "itertools.pairwise"].contains n=false) (hQ:Q () s):wpAny M A (letOwnedTupleGo tg (.ref it) u) Q E s:=by
  unfold letOwnedTupleGo
  cases tg <;>first
    |exact wpAny_pure hQ
    |(cases u<;>first
        |exact wpAny_pure hQ
        | (refine wpAny_bind (wpAny_load ho ?_)
           rw[hc,hd]
           show wpAny M A (if(["enumerate", "zip", "dict_itemiterator", "dict_reverseitemiterator", "odict_iterator", "itertools.zip_longest", "itertools.pairwise"].contains n&&vs[0]? ==some (rawInt _))=true then _ else _) Q E s
           rw[if_neg (by intro h;rw[hn,Bool.false_and]at h;cases h)]
           exact wpAny_pure hQ))
def mY(K:PySem.W.Frag)(a:Addr):It:=
 ⟨λ i H=>∃xs x,aN K H a xs/\xs[i]? =some x,λ i H x H'=>H'=H/\∀xs,aN K H a xs->xs[i]? =some x,λ i H=>∃xs,aN K H a xs/\xs.length<=i⟩
def mX(K:PySem.W.Frag)(a:Addr):It:=
 ⟨λ i H=>∃xs x,aM K H a xs/\xs[i]? =some x,λ i H x H'=>H'=H/\∀xs,aM K H a xs->xs[i]? =some x,λ i H=>∃xs,aM K H a xs/\xs.length<=i⟩
def lI(lo:Int)(n:Nat):It:=⟨λ i _=>i<n,λ i H x H'=>H'=H/\x= .int (lo+i),λ i _=>n<=i⟩
theorem Hq{P:Program}{w:World}{K:PySem.W.Frag}{tg:Expr}(a it:Addr):iO P w K tg (mY K a) [it] it (λ i h=>h.IsListIter it a i) where
 mem:=by simp
 obj:=λ i h st b hb=>by
  have e:b=it:=by simpa using hb
  subst e
  obtain⟨o,e,c,d⟩:=st
  exact⟨o,e,λ v z=>by rw[d]at z;cases z⟩
 keep:=λ i h h' st k=>st.at λ o e=>k it Qb o e
 item:=by
  intro X hP hw hK hc i pins s σ H E I hf st hg
  subst hP hw hK
  obtain⟨xs,x,hq,hx⟩:=hg
  obtain⟨its,rv,p,hz⟩:=I.list hq
  obtain⟨u,hu,ru⟩:=rv.get hx
  obtain⟨f0,f1,f2,f3,f4,f5⟩:=hf it Qb
  refine wpAny_pyNext_list_item st p.isList (x:=u) (by simpa using hu) λ h' st' sb=>?_
  have I1:aB X pins σ H {s with heap:=h'}:=I.turned (t':=s.toks) (λ b o hb e=>(sb.2 b hb).trans e) f0 f1 f3 f4 f5
  obtain⟨o,e,c,d⟩:=id st'
  exact⟨u,rfl,qX (s:={s with heap:=h'}) e c d Qc ⟨x,H,I1,ru,⟨rfl,λ ys hy=>by rw[I.list_inj hy hq];exact hx⟩,st',λ b hb=>(hf b hb).1⟩⟩
 done:=by
  intro X hP hw hK hc i pins s σ H E I hf st hg
  subst hP hw hK
  obtain⟨xs,hq,hx⟩:=hg
  obtain⟨its,rv,p,hz⟩:=I.list hq
  obtain⟨f0,f1,f2,f3,f4,f5⟩:=hf it Qb
  have hl:=rv.length
  exact wpAny_pyNext_list_end (I.ok.hd hc) st p.isList (by simp;omega) λ h' eb=>⟨rfl,I.turned (t':=s.toks) (λ b o hb e=>eb b o hb e) f0 f1 f3 f4 f5⟩
 self:=λ _ _ _ _ _ st h=>wpAny_pyIter_listiter st h
theorem Hn{P:Program}{w:World}{K:PySem.W.Frag}{tg:Expr}(a it:Addr):iO P w K tg (mX K a) [it] it (λ i h=>h.IsTupleIter it a i) where
 mem:=by simp
 obj:=λ i h st b hb=>by
  have e:b=it:=by simpa using hb
  subst e
  obtain⟨o,e,c,d⟩:=st
  exact⟨o,e,λ v z=>by rw[d]at z;cases z⟩
 keep:=λ i h h' st k=>st.at λ o e=>k it Qb o e
 item:=by
  intro X hP hw hK hc i pins s σ H E I hf st hg
  subst hP hw hK
  obtain⟨xs,x,hq,hx⟩:=hg
  obtain⟨its,rv,p,hz⟩:=I.tuple hq
  obtain⟨u,hu,ru⟩:=rv.get hx
  obtain⟨f0,f1,f2,f3,f4,f5⟩:=hf it Qb
  refine wpAny_pyNext_tuple_item st (show s.heap.IsTuple a its.toArray from p) (x:=u) (by simpa using hu) λ h' st' sb=>?_
  have I1:aB X pins σ H {s with heap:=h'}:=I.turned (t':=s.toks) (λ b o hb e=>(sb.2 b hb).trans e) f0 f1 f3 f4 f5
  obtain⟨o,e,c,d⟩:=id st'
  exact⟨u,rfl,qX (s:={s with heap:=h'}) e c d Qc ⟨x,H,I1,ru,⟨rfl,λ ys hy=>by rw[I.tuple_inj hy hq];exact hx⟩,st',λ b hb=>(hf b hb).1⟩⟩
 done:=by
  intro X hP hw hK hc i pins s σ H E I hf st hg
  subst hP hw hK
  obtain⟨xs,hq,hx⟩:=hg
  obtain⟨its,rv,p,hz⟩:=I.tuple hq
  obtain⟨f0,f1,f2,f3,f4,f5⟩:=hf it Qb
  have hl:=rv.length
  exact wpAny_pyNext_tuple_end (I.ok.hd hc) st (show s.heap.IsTuple a its.toArray from p) (by simp;omega) λ h' eb=>⟨rfl,I.turned (t':=s.toks) (λ b o hb e=>eb b o hb e) f0 f1 f3 f4 f5⟩
 self:=λ _ _ _ _ _ st h=>wpAny_pyIter_tupleiter st h
theorem Ho{P:Program}{w:World}{K:PySem.W.Frag}{tg:Expr}(it:Addr)(lo:Int)(n:Nat):iO P w K tg (lI lo n) [it] it (λ i h=>IsRangeIter h it (lo+(i:Nat)*1) ((n:Int)-(i:Nat)) 1) where
 mem:=by simp
 obj:=λ i h st b hb=>by
  have e:b=it:=by simpa using hb
  subst e
  exact⟨_,st,λ v z=>by
   have z':Data.fields _=Data.cell v:=z
   cases z'⟩
 keep:=λ i h h' st k=>k it Qb _ st
 item:=by
  intro X hP hw hK hc i pins s σ H E I hf st hg
  subst hP hw hK
  obtain⟨f0,f1,f2,f3,f4,f5⟩:=hf it Qb
  have W:=Walks.range (prog:=X.prog) (w:=X.w) (I.ok.hd hc) it lo 1 n
  refine W.item i s _ _ hg st λ v h' tk hv st' kk=>?_
  obtain⟨t,rfl⟩:=hv
  have I1:aB X pins σ H {s with heap:=h',toks:=tk}:=I.turned (λ b o hb e=>kk b o (by simpa using hb) e) f0 f1 f3 f4 f5
  refine⟨_,rfl,qX (s:={s with heap:=h',toks:=tk}) (n:= "range_iterator") st' rfl rfl Qc ⟨.int (lo+i),H,I1,⟨t,?_⟩,⟨rfl,rfl⟩,st',λ b hb=>(hf b hb).1⟩⟩
  rw[Int.mul_one]
 done:=by
  intro X hP hw hK hc i pins s σ H E I hf st hg
  subst hP hw hK
  obtain⟨f0,f1,f2,f3,f4,f5⟩:=hf it Qb
  exact wpAny_pyNext_range_end (I.ok.hd hc) st (by have:n<=i:=hg;omega) λ h' eb=>⟨rfl,I.turned (t':=s.toks) (λ b o hb e=>eb b o hb e) f0 f1 f3 f4 f5⟩
 self:=λ _ _ _ _ _ st h=>wpAny_pyIter_rangeiter st h
section
variable{X:Cx}{tg:Expr}
def Va(K:PySem.W.Frag)(tl:TE):TI:=λ σ H R=>tl σ H λ x H1=>∃a,x= .ref a/\(∃xs,aN K H1 a xs)/\R (mY K a) H1
def Tx(K:PySem.W.Frag)(tl:TE):TI:=λ σ H R=>tl σ H λ x H1=>∃a,x= .ref a/\(∃xs,aM K H1 a xs)/\R (mX K a) H1
theorem nZ{l:Expr}{tl:TE}(hl:PE X l tl):PI X tg l (Va X.K tl):=by
 intro pins s σ H R I h
 refine aP (hl pins s σ H _ I h) λ v s1 ⟨x,H1,I1,r1,q1⟩=>?_
 obtain⟨a,e,⟨xs,hq⟩,q⟩:=q1
 subst e
 cases r1
 obtain⟨its,rv,p,hz⟩:=I1.list hq
 refine wpAny_pyIter_list p.isList ?_
 refine⟨s1.heap.objs.size,[s1.heap.objs.size],_,_,H1,rfl,I1.kept (t':=s1.toks) λ b o e=>Heap.get?_push_of_some _ e,Hq a _,⟨_,Heap.get?_push_size _ rfl,rfl,rfl⟩,λ b hb=>?_,q⟩
 have e:b=s1.heap.objs.size:=by simpa using hb
 subst e
 exact I1.fpOk (Nat.le_refl _) (I1.hok.fresh (Nat.le_refl _))
theorem gN{l:Expr}{tl:TE}(hl:PE X l tl):PI X tg l (Tx X.K tl):=by
 intro pins s σ H R I h
 refine aP (hl pins s σ H _ I h) λ v s1 ⟨x,H1,I1,r1,q1⟩=>?_
 obtain⟨a,e,⟨xs,hq⟩,q⟩:=q1
 subst e
 cases r1
 obtain⟨its,rv,p,hz⟩:=I1.tuple hq
 refine wpAny_pyIter_tuple (show s1.heap.IsTuple a its.toArray from p) ?_
 refine⟨s1.heap.objs.size,[s1.heap.objs.size],_,_,H1,rfl,I1.kept (t':=s1.toks) λ b o e=>Heap.get?_push_of_some _ e,Hn a _,⟨_,Heap.get?_push_size _ rfl,rfl,rfl⟩,λ b hb=>?_,q⟩
 have e:b=s1.heap.objs.size:=by simpa using hb
 subst e
 exact I1.fpOk (Nat.le_refl _) (I1.hok.fresh (Nat.le_refl _))
theorem Ma{pins:List (Addr×Obj)}{σ:St}{H:Hp}{s:Shared}{R:It->Hp->Prop}{E:Qe}{lo hi:Int}{t u v:Tok}{tk:Nat}(I:aB X pins σ H s)(h1: -(2^62)<=lo)(h2:lo<2^62)(h3: -(2^62)<=hi)(h4:hi<2^62)
  (q:R (lI lo (hi-lo).toNat) H):wpAny (model X.prog X.w) X.A (pyIter (.ref s.heap.objs.size)) (xL X pins σ tg R) E {s with heap:=s.heap.push {cls:=.type "range",data:=.fields #[.int lo t,.int hi u,.int 1 v]},toks:=tk}:=by
 refine wpAny_pyIter_range (IsRange.new ..) (small_one h1 h2 h3 h4) ?_
 have I1:aB X pins σ H {s with heap:=s.heap.push {cls:=.type "range",data:=.fields #[.int lo t,.int hi u,.int 1 v]},toks:=tk}:=I.kept λ b o e=>Heap.get?_push_of_some _ e
 refine⟨(s.heap.push {cls:=.type "range",data:=.fields #[.int lo t,.int hi u,.int 1 v]}).objs.size,[(s.heap.push {cls:=.type "range",data:=.fields #[.int lo t,.int hi u,.int 1 v]}).objs.size],_,_,H,rfl,
  I1.kept (t':=tk) λ b o e=>Heap.get?_push_of_some _ e,Ho _ lo (hi-lo).toNat,?_,λ b hb=>?_,q⟩
 ·have e1:lo+((0:Nat):Int)*1=lo:=by simp
  have e2:(((hi-lo).toNat:Nat):Int)-((0:Nat):Int)=Builtin.Range.rangeSize lo hi 1:=by rw[rangeSize_one];split<;>omega
  show IsRangeIter _ _ (lo+((0:Nat):Int)*1) ((((hi-lo).toNat:Nat):Int)-((0:Nat):Int)) 1
  rw[e1,e2]
  exact Heap.get?_push_size _ rfl
 ·have e:b=(s.heap.push {cls:=.type "range",data:=.fields #[.int lo t,.int hi u,.int 1 v]}).objs.size:=by simpa using hb
  subst e
  exact I1.fpOk (Nat.le_refl _) (I1.hok.fresh (Nat.le_refl _))
def Tz(ta:TA):TI:=λ σ H R=>ta σ H λ vs H1=>∃j:Int,vs=[.int j]/\-(2^62)<=j/\j<2^62/\R (lI 0 j.toNat) H1
theorem jA{a:Expr}{ta:TA}{p pos:Pos}(hg:Gl X "range")(hm:X.mg "range" =none)(ha:PA X [a] ta)(hs:starEach [a] X.env=[(false,eval a X.env)]:=by rfl):PI X tg (.Call (.Name "range" p) [a] [] pos) (Tz ta):=by
 intro pins s σ H R I h
 refine Call_ (kQ I hg hm boot_range (PyProof.Rows.callWith_type1 (aP (ha pos pins s σ H _ I h) λ us s1 ⟨vs,H1,I1,r1,q1⟩=>?_) hs rfl))
 obtain⟨j,e,q1,q2,q⟩:=q1
 subst e
 cases r1 with
 |cons r rr=>
  cases rr
  obtain⟨t,rfl⟩:=r
  exact call_range_1 (Ma I1 Qa Qa q1 q2 (by simpa using q))
def Ke(wi:TI)(g:TG)(tb:TS):TS:=λ D σ H=>wi σ H λ J H1=>∃W:Nat->Nat->St->Hp->Prop,(∃m,W 0 m σ H1)/\∀i m σ H,W i m σ H->
 (J.stop i H/\D.nx σ H)\/(J.go i H/\∃N:St->Hp->Prop,(∀σ' H',N σ' H'->∃m',m'<m/\W (i+1) m' σ' H')/\∀x H',J.yld i H x H'->g x σ H' λ σ2 H2=>tb {D with nx:=N,ct:=N,bk:=D.nx} σ2 H2)
def kG(fp:List Addr)(h:Heap):List (Addr×Obj):=fp.filterMap λ b=>(h.get? b).map λ o=>(b,o)
theorem mE{fp:List Addr}{h:Heap}{b:Addr}{o:Obj}(hb:b∈fp)(e:h.get? b=some o):(b,o)∈kG fp h:=List.mem_filterMap.mpr ⟨b,hb,by rw[e];rfl⟩
theorem Re{fp:List Addr}{h:Heap}{p:Addr×Obj}(hp:p∈kG fp h):p.1∈fp/\h.get? p.1=some p.2:=by
 obtain⟨b,hb,e⟩:=List.mem_filterMap.mp hp
 cases q:h.get? b with
 |none=>rw[q]at e;cases e
 |some o=>
  rw[q]at e
  have e':(b,o)=p:=Option.some.inj e
  subst e'
  exact⟨hb,q⟩
theorem aB.pinned{pins:List (Addr×Obj)}{σ:St}{H:Hp}{s:Shared}{fp:List Addr}(I:aB X pins σ H s)(hf:∀b∈fp,dW X pins H b)(ho:∀b∈fp,∃o,s.heap.get? b=some o/\∀v,o.data≠ .cell v):aB X (pins++kG fp s.heap) σ H s:=
 I.pins_of λ p hp=>(List.mem_append.mp hp).elim (λ z=>I.pin p (List.mem_append_right _ z)) λ z=>by
  obtain⟨hb,e⟩:=Re z
  obtain⟨f0,f1,f2,_⟩:=hf p.1 hb
  obtain⟨o,e',d⟩:=ho p.1 hb
  rw[e]at e';cases e'
  exact⟨e,f0,f1,f2,d⟩
theorem aB.unpinned{pins pl:List (Addr×Obj)}{σ:St}{H:Hp}{s:Shared}(I:aB X (pins++pl) σ H s):aB X pins σ H s:=I.pins_of λ p hp=>I.pin p (List.mem_append_right _ (List.mem_append_left _ hp))
theorem fW{iter:Expr}{body:List Stmt}{wi:TI}{g:TG}{tb:TS}{pos:Pos}(hp:PassesOwn (model X.prog X.w) X.A X.env X.xe)(hc:X.calm=true)(hi:PI X tg iter wi)(hg:PG X tg g)(hb:dH X body tb)
  (hs:∀x,foldedSetIterable iter X.env x=pure x:=by intro _;rfl):PS X (.For tg iter body [] pos) (Ke wi g tb):=by
 intro pins s σ H D I h
 refine wpAny_For (aP (hi pins s σ H _ I h) λ v s1 h1=>aP h1 λ itv s2 h2=>?_) hs
 obtain⟨it,fp,tn,J,H2,e,I2,T,st2,f2,W,⟨m0,w0⟩,turn⟩:=h2
 subst e
 have stat:∀{H':Hp},(∀b∈fp,H' b=none)->∀b∈fp,dW X pins H' b:=λ hn b hb=>⟨hn b hb,(f2 b hb).2⟩
 refine codeAny_forLoop_any (λ n s'=>∃i σ' H',aB X pins σ' H' s'/\tn i s'.heap/\(∀b∈fp,H' b=none)/\W i n σ' H') ?_ m0 ⟨0,σ,H2,I2,st2,λ b hb=>(f2 b hb).1,w0⟩
 rintro n s3 ⟨i,σ3,H3,I3,st3,fr3,w3⟩
 rcases turn i n σ3 H3 w3 with⟨stop,qn⟩|⟨go,N,hN,step⟩
 ·refine wpAny_passesOwn hp (aP (T.done X rfl rfl rfl hc i pins s3 σ3 H3 X.xe I3 (stat fr3) st3 stop) λ r s4 ⟨hr,I4⟩=>?_)
  subst hr
  exact wpAny_execs_nil ⟨σ3,H3,I4,qn⟩
 ·refine wpAny_passesOwn hp (aP (T.item X rfl rfl rfl hc i pins s3 σ3 H3 X.xe I3 (stat fr3) st3 go) λ r s4 ⟨u,hr,h4⟩=>?_)
  subst hr
  refine wpAny_passesOwn hp (aP h4 λ _ s5 ⟨x,H5,I5,r5,y5,st5,fr5⟩=>?_)
  have I5':=I5.pinned (stat fr5) (T.obj _ _ st5)
  refine wpAny_passesOwn hp (aP (hg _ s5 σ3 H5 x u _ I5' r5 (step x H5 y5)) λ _ s6 ⟨σ6,H6,I6,q6⟩=>?_)
  refine wpAny_passesOwn hp (aP (hb _ s6 σ6 H6 _ I6 q6) λ f s7 q7=>?_)
  have again:∀{σ7:St} {H7:Hp},aB X (pins++kG fp s5.heap) σ7 H7 s7->N σ7 H7->∃m,m<n/\∃i σ' H',aB X pins σ' H' s7/\tn i s7.heap/\(∀b∈fp,H' b=none)/\W i m σ' H':=fun{σ7 H7} I7 n7=>by
   obtain⟨m',hm,w7⟩:=hN σ7 H7 n7
   refine⟨m',hm,i+1,σ7,H7,I7.unpinned,T.keep _ _ _ st5 λ b hb o e=>(I7.pin (b,o) (List.mem_append_right _ (List.mem_append_right _ (mE hb e)))).1,λ b hb=>?_,w7⟩
   obtain⟨o,e,d⟩:=T.obj _ _ st5 b hb
   exact(I7.pin (b,o) (List.mem_append_right _ (List.mem_append_right _ (mE hb e)))).2.1
  cases f with
  |next=>obtain⟨σ7,H7,I7,n7⟩:=q7;exact again I7 n7
  |cont=>obtain⟨σ7,H7,I7,n7⟩:=q7;exact again I7 n7
  |brk=>obtain⟨σ7,H7,I7,q7⟩:=q7;exact⟨σ7,H7,I7.unpinned,q7⟩
  |ret v=>obtain⟨x7,σ7,H7,I7,r7,q7⟩:=q7;exact⟨x7,σ7,H7,I7.unpinned,r7,q7⟩
end
theorem Vo{K:PySem.W.Frag}{a:Addr}{xs:List V}{g:TG}{tb:TS}{D:gG}{σ:St}{H:Hp}(Pv:Nat->St->Hp->Prop)(h0:Pv 0 σ H)(hl:∀i σ H,i<=xs.length->Pv i σ H->aN K H a xs)
  (hs:∀i x σ H,xs[i]? =some x->Pv i σ H->g x σ H λ σ2 H2=>tb {D with nx:=Pv (i+1),ct:=Pv (i+1),bk:=D.nx} σ2 H2) (hd:∀σ H,Pv xs.length σ H->D.nx σ H):
  ∃W:Nat->Nat->St->Hp->Prop,(∃m,W 0 m σ H)/\∀i m σ H,W i m σ H->
   ((mY K a).stop i H/\D.nx σ H)\/((mY K a).go i H/\∃N:St->Hp->Prop,(∀σ' H',N σ' H'->∃m',m'<m/\W (i+1) m' σ' H')/\∀x H',(mY K a).yld i H x H'->g x σ H' λ σ2 H2=>tb {D with nx:=N,ct:=N,bk:=D.nx} σ2 H2):=by
 refine⟨λ i m σ H=>m=xs.length-i/\i<=xs.length/\Pv i σ H,⟨xs.length,Qb,Nat.zero_le _,h0⟩,?_⟩
 rintro i m σ H ⟨rfl,hi,p⟩
 have q:=hl i σ H hi p
 by_cases hlt:i<xs.length
 ·refine .inr ⟨⟨xs,xs[i],q,by simp[hlt]⟩,Pv (i+1),λ σ' H' p'=>⟨xs.length-(i+1),Qa,rfl,hlt,p'⟩,λ x H' y=>?_⟩
  obtain⟨e,y⟩:=y
  subst e
  exact hs i x σ _ (y xs q) p
 ·have e:i=xs.length:=by omega
  subst e
  exact .inl ⟨⟨xs,q,Nat.le_refl _⟩,hd σ H p⟩
theorem qZ{K:PySem.W.Frag}{a:Addr}{xs:List V}{g:TG}{tb:TS}{D:gG}{σ:St}{H:Hp}(Pv:Nat->St->Hp->Prop)(h0:Pv 0 σ H)(hl:∀i σ H,i<=xs.length->Pv i σ H->aM K H a xs)
  (hs:∀i x σ H,xs[i]? =some x->Pv i σ H->g x σ H λ σ2 H2=>tb {D with nx:=Pv (i+1),ct:=Pv (i+1),bk:=D.nx} σ2 H2) (hd:∀σ H,Pv xs.length σ H->D.nx σ H):
  ∃W:Nat->Nat->St->Hp->Prop,(∃m,W 0 m σ H)/\∀i m σ H,W i m σ H->
   ((mX K a).stop i H/\D.nx σ H)\/((mX K a).go i H/\∃N:St->Hp->Prop,(∀σ' H',N σ' H'->∃m',m'<m/\W (i+1) m' σ' H')/\∀x H',(mX K a).yld i H x H'->g x σ H' λ σ2 H2=>tb {D with nx:=N,ct:=N,bk:=D.nx} σ2 H2):=by
 refine⟨λ i m σ H=>m=xs.length-i/\i<=xs.length/\Pv i σ H,⟨xs.length,Qb,Nat.zero_le _,h0⟩,?_⟩
 rintro i m σ H ⟨rfl,hi,p⟩
 have q:=hl i σ H hi p
 by_cases hlt:i<xs.length
 ·refine .inr ⟨⟨xs,xs[i],q,by simp[hlt]⟩,Pv (i+1),λ σ' H' p'=>⟨xs.length-(i+1),Qa,rfl,hlt,p'⟩,λ x H' y=>?_⟩
  obtain⟨e,y⟩:=y
  subst e
  exact hs i x σ _ (y xs q) p
 ·have e:i=xs.length:=by omega
  subst e
  exact .inl ⟨⟨xs,q,Nat.le_refl _⟩,hd σ H p⟩
theorem kX{lo:Int}{n:Nat}{g:TG}{tb:TS}{D:gG}{σ:St}{H:Hp}(Pv:Nat->St->Hp->Prop)(h0:Pv 0 σ H)
  (hs:∀i σ H,i<n->Pv i σ H->g (.int (lo+i)) σ H λ σ2 H2=>tb {D with nx:=Pv (i+1),ct:=Pv (i+1),bk:=D.nx} σ2 H2) (hd:∀σ H,Pv n σ H->D.nx σ H):
  ∃W:Nat->Nat->St->Hp->Prop,(∃m,W 0 m σ H)/\∀i m σ H,W i m σ H->
   ((lI lo n).stop i H/\D.nx σ H)\/((lI lo n).go i H/\∃N:St->Hp->Prop,(∀σ' H',N σ' H'->∃m',m'<m/\W (i+1) m' σ' H')/\∀x H',(lI lo n).yld i H x H'->g x σ H' λ σ2 H2=>tb {D with nx:=N,ct:=N,bk:=D.nx} σ2 H2):=by
 refine⟨λ i m σ H=>m=n-i/\i<=n/\Pv i σ H,⟨n,Qb,Nat.zero_le _,h0⟩,?_⟩
 rintro i m σ H ⟨rfl,hi,p⟩
 by_cases hlt:i<n
 ·refine .inr ⟨hlt,Pv (i+1),λ σ' H' p'=>⟨n-(i+1),Qa,rfl,hlt,p'⟩,λ x H' y=>?_⟩
  obtain⟨e,y⟩:=y
  subst e y
  exact hs i σ _ hlt p
 ·have e:i=n:=by omega
  subst e
  exact .inl ⟨Nat.le_refl _,hd σ H p⟩
abbrev R2:=V->V->Hp->VK->Prop
def bV(X:Cx)(f:Value->Value->Sem Value)(r:R2):Prop:=
 ∀(pins:List (Addr×Obj)) (s:Shared) (σ:St) (H:Hp) (x y:V) (v u:Value) (Q:VK),aB X pins σ H s->bA x v->bA y u->r x y H Q->
  wpAny (model X.prog X.w) X.A (f v u) (EP X pins σ Q) X.xe s
def xG(X:Cx)(f:Value->Sem Value)(r:V->Hp->VK->Prop):Prop:=
 ∀(pins:List (Addr×Obj)) (s:Shared) (σ:St) (H:Hp) (x:V) (v:Value) (Q:VK),aB X pins σ H s->bA x v->r x H Q->
  wpAny (model X.prog X.w) X.A (f v) (EP X pins σ Q) X.xe s
def dA(X:Cx)(f:Value)(r:List V->Hp->VK->Prop):Prop:=
 ∀(pins:List (Addr×Obj)) (s:Shared) (σ:St) (H:Hp) (xs:List V) (us:List Value) (Q:VK),aB X pins σ H s->aO xs us->r xs H Q->
  wpAny (model X.prog X.w) X.A (call f us) (EP X pins σ Q) X.xe s
def pQ(r:R2)(ta tb:TE):TE:=λ σ H Q=>ta σ H λ x H1=>tb σ H1 λ y H2=>r x y H2 Q
def Ia(r:V->Hp->VK->Prop)(ta:TE):TE:=λ σ H Q=>ta σ H λ x H1=>r x H1 Q
def rI(C:Int->Int->Prop)(g:Int->Int->V):R2:=λ x y H Q=>∃i j,x= .int i/\y= .int j/\C i j/\Q (g i j) H
def iX(g:Int->Int->V):R2:=λ x y H Q=>∃i j,x= .int i/\y= .int j/\Q (g i j) H
def rU(g:Int->V):V->Hp->VK->Prop:=λ x H Q=>∃i,x= .int i/\Q (g i) H
section
variable{X:Cx}{a b c:Expr}{ta tb tc:TE}{pos:Pos}
theorem wU(ha:PE X a ta)(hb:PE X b tb){pins:List (Addr×Obj)}{s:Shared}{σ:St}{H:Hp}{R:V->V->Hp->Prop}(I:aB X pins σ H s)
  (h:ta σ H λ x H1=>tb σ H1 λ y H2=>R x y H2) {Q:Qe} {f:Value->Value->Sem Value}
  (hf:∀v u s2 x y H2,aB X pins σ H2 s2->bA x v->bA y u->R x y H2->wpAny (model X.prog X.w) X.A (f v u) Q X.xe s2):
  wpAny (model X.prog X.w) X.A (eval a X.env) (λ v s₁=>wpAny (model X.prog X.w) X.A (eval b X.env) (λ u s₂=>wpAny (model X.prog X.w) X.A (f v u) Q X.xe s₂) X.xe s₁) X.xe s:=by
 refine aP (ha pins s σ H _ I h) λ v s1 ⟨x,H1,I1,r1,q1⟩=>?_
 refine aP (hb pins s1 σ H1 _ I1 q1) λ u s2 ⟨y,H2,I2,r2,q2⟩=>?_
 exact hf v u s2 x y H2 I2 r1 r2 q2
theorem bJ{op:Operator}{r:R2}(ho:bV X (binaryOp op) r)(ha:PE X a ta)(hb:PE X b tb):PE X (.BinOp a op b pos) (pQ r ta tb):=by
 intro pins s σ H Q I h
 exact wpAny_BinOp (wU ha hb I h λ v u s2 x y H2 I2 rx ry q=>ho pins s2 σ H2 x y v u Q I2 rx ry q)
theorem Ny{op:UnaryOp}{r:V->Hp->VK->Prop}(ho:xG X (unaryOp op) r)(ha:PE X a ta):PE X (.UnaryOp op a pos) (Ia r ta):=by
 intro pins s σ H Q I h
 exact UnaryOp_ (aP (ha pins s σ H _ I h) λ v s1 ⟨x,H1,I1,r1,q1⟩=>ho pins s1 σ H1 x v Q I1 r1 q1)
theorem qG{f:Value->Value->Sem Value}{C:Int->Int->Prop}{g:Int->Int->Int}
  (rule:∀(i j:Int) (t u:Tok) (s:Shared) (Q:Qe) (E:Qe),C i j->Q (.int (g i j) s.toks) {s with toks:=s.toks+1}->wpAny (model X.prog X.w) X.A (f (.int i t) (.int j u)) Q E s):
  bV X f (rI C λ i j=>.int (g i j)):=by
 intro pins s σ H x y v u Q I rx ry h
 obtain⟨i,j,rfl,rfl,hc,q⟩:=h
 obtain⟨t,rfl⟩:=rx
 obtain⟨t',rfl⟩:=ry
 exact rule i j t t' s _ _ hc ⟨.int (g i j),H,I.tok _,⟨_,rfl⟩,q⟩
theorem Bk{f:Value->Value->Sem Value}{g:Int->Int->Int}
  (rule:∀(i j:Int) (t u:Tok) (s:Shared) (Q:Qe) (E:Qe),Q (.int (g i j) s.toks) {s with toks:=s.toks+1}->wpAny (model X.prog X.w) X.A (f (.int i t) (.int j u)) Q E s):
  bV X f (iX λ i j=>.int (g i j)):=by
 intro pins s σ H x y v u Q I rx ry h
 obtain⟨i,j,rfl,rfl,q⟩:=h
 obtain⟨t,rfl⟩:=rx
 obtain⟨t',rfl⟩:=ry
 exact rule i j t t' s _ _ ⟨.int (g i j),H,I.tok _,⟨_,rfl⟩,q⟩
theorem qH{f:Value->Value->Sem Value}{g:Int->Int->Bool}
  (rule:∀(i j:Int) (t u:Tok) (s:Shared) (Q:Qe) (E:Qe),Q (.bool (g i j)) s->wpAny (model X.prog X.w) X.A (f (.int i t) (.int j u)) Q E s):
  bV X f (iX λ i j=>.bl (g i j)):=by
 intro pins s σ H x y v u Q I rx ry h
 obtain⟨i,j,rfl,rfl,q⟩:=h
 obtain⟨t,rfl⟩:=rx
 obtain⟨t',rfl⟩:=ry
 exact rule i j t t' s _ _ ⟨.bl (g i j),H,I,rfl,q⟩
def BT(i j:Int):Prop:=0<j/\j<1073741824
def Fs(i j:Int):Prop:=0<=j/\j<=1000000/\i.natAbs<2^64
def yM(i j:Int):Prop:=(-(2^64)<i/\i<2^64)\/(-(2^64)<j/\j<2^64)
theorem yM.ok{i j:Int}(h:yM i j):IntMulOk i j:=by
 rcases h with⟨h1,h2⟩|⟨h1,h2⟩
 ·exact .of_left (intBits_le_64 h1 h2)
 ·exact .of_right (intBits_le_64 h1 h2)
theorem dY:bV X (binaryOp .Add) (iX λ i j=>.int (i+j)):=Bk λ _ _ _ _ _ _ _ q=>add_int q
theorem Bg:bV X (binaryOp .Sub) (iX λ i j=>.int (i-j)):=Bk λ _ _ _ _ _ _ _ q=>sub_int q
theorem kM:bV X (binaryOp .Mult) (rI yM λ i j=>.int (i*j)):=qG λ _ _ _ _ _ _ _ hc q=>mul_int q hc.ok
theorem Op:bV X (binaryOp .FloorDiv) (rI BT λ i j=>.int (i/j)):=qG λ i j _ _ _ _ _ hc q=>by
 have h1:(0:Int)<j:=hc.1
 have h2:j<1073741824:=hc.2
 exact floordiv_int Qa (by rw[Int.fdiv_eq_ediv_of_nonneg i Qa];exact q) (.inl (PyProof.noPylong_small Qa))
theorem qA:bV X (binaryOp .Mod) (rI (λ _ j=>0<j) λ i j=>.int (i%j)):=qG λ i j _ _ _ _ _ hc q=>by
 have h1:(0:Int)<j:=hc
 exact mod_int' Qa (by rw[Int.fmod_eq_emod_of_nonneg i Qa];exact q)
theorem Bh:bV X (binaryOp .Pow) (rI Fs λ i j=>.int (i^j.toNat)):=qG λ _ _ _ _ _ _ _ hc q=>pow_int_small hc.1 hc.2.1 hc.2.2 q
theorem Hi{f:Value->Sem Value}{g:Int->Int}
  (rule:∀(i:Int) (t:Tok) (s:Shared) (Q:Qe) (E:Qe),Q (.int (g i) s.toks) {s with toks:=s.toks+1}->wpAny (model X.prog X.w) X.A (f (.int i t)) Q E s):
  xG X f (rU λ i=>.int (g i)):=by
 intro pins s σ H x v Q I rx h
 obtain⟨i,rfl,q⟩:=h
 obtain⟨t,rfl⟩:=rx
 exact rule i t s _ _ ⟨.int (g i),H,I.tok _,⟨_,rfl⟩,q⟩
theorem Hh:xG X (unaryOp .USub) (rU λ i=>.int (-i)):=Hi λ _ _ _ _ _ q=>neg_int q
end
def Al:V->V->Bool
 |.non,.non=>true|.non,.int _=>true|.int _,.non=>true|.non,.bl _=>true|.bl _,.non=>true|.non,.str _=>true|.str _,.non=>true
 |.int _,.int _=>true|.bl _,.bl _=>true|.str _,.str _=>true|.byt _,.byt _=>true
 |.int _,.str _=>true|.str _,.int _=>true|.bl _,.str _=>true|.str _,.bl _=>true
 |_,_=>false
def Mu:R2:=λ x y H Q=>Al x y=true/\Q (.bl (decide (x=y))) H
def Mm:R2:=λ x y H Q=>Al x y=true/\Q (.bl (!decide (x=y))) H
theorem Ef{i j:Int}:decide (V.int i=V.int j)=(i==j):=by
 rw[Bool.eq_iff_iff]
 simp
theorem Eh{i j:Bool}:decide (V.bl i=V.bl j)=(i==j):=by
 rw[Bool.eq_iff_iff]
 simp
theorem Ee{i j:Str}:decide (V.str i=V.str j)=(i==j):=by
 rw[Bool.eq_iff_iff]
 simp
theorem Eg{i j:Array UInt8}:decide (V.byt i=V.byt j)=(i.toList==j.toList):=by
 rw[Bool.eq_iff_iff]
 cases i
 cases j
 simp
section
variable{X:Cx}{a b c:Expr}{ta tb tc:TE}{pos:Pos}
theorem cD{pins:List (Addr×Obj)}{σ:St}{H:Hp}{s:Shared}{Q:VK}{k k':Bool}(I:aB X pins σ H s)(q:Q (.bl k) H)(e:k=k'):EP X pins σ Q (.bool k') s:=by
 subst e
 exact⟨.bl k,H,I,rfl,q⟩
theorem eI:bV X (compareOp .Eq) Mu:=by
 intro pins s σ H x y v u Q I rx ry h
 obtain⟨hs,q⟩:=h
 cases x with
 |non=>
  cases rx
  cases y with
  |non=>cases ry;exact PySem.EqNone.eq_none_none (cD I q Qb)
  |bl j=>cases ry;exact PySem.EqNone.eq_none_bool (cD I q Qb)
  |int j=>obtain⟨t',rfl⟩:=ry;exact PySem.EqNone.eq_none_int (cD I q Qb)
  |str j=>obtain⟨t',rfl⟩:=ry;exact PySem.EqNone.eq_none_str (cD I q Qb)
  |_=>exact absurd (show false=true from hs) Bool.false_ne_true
 |bl i=>
  cases rx
  cases y with
  |non=>cases ry;exact PySem.EqNone.eq_bool_none (cD I q Qb)
  |bl j=>cases ry;exact eq_bool (cD I q Eh)
  |str j=>obtain⟨t',rfl⟩:=ry;exact PySem.EqMixed.eq_bool_str (cD I q Qb)
  |_=>exact absurd (show false=true from hs) Bool.false_ne_true
 |int i=>
  obtain⟨t,rfl⟩:=rx
  cases y with
  |non=>cases ry;exact PySem.EqNone.eq_int_none (cD I q Qb)
  |int j=>obtain⟨t',rfl⟩:=ry;exact eq_int (cD I q Ef)
  |str j=>obtain⟨t',rfl⟩:=ry;exact PySem.EqMixed.eq_int_str (cD I q Qb)
  |_=>exact absurd (show false=true from hs) Bool.false_ne_true
 |str i=>
  obtain⟨t,rfl⟩:=rx
  cases y with
  |non=>cases ry;exact PySem.EqNone.eq_str_none (cD I q Qb)
  |bl j=>cases ry;exact PySem.EqMixed.eq_str_bool (cD I q Qb)
  |int j=>obtain⟨t',rfl⟩:=ry;exact PySem.EqMixed.eq_str_int (cD I q Qb)
  |str j=>obtain⟨t',rfl⟩:=ry;exact eq_str (cD I q Ee)
  |_=>exact absurd (show false=true from hs) Bool.false_ne_true
 |byt i=>
  obtain⟨t,rfl⟩:=rx
  cases y with
  |byt j=>obtain⟨t',rfl⟩:=ry;exact PySem.W.eq_bytes (cD I q Eg)
  |_=>exact absurd (show false=true from hs) Bool.false_ne_true
 |_=>cases y<;>exact absurd (show false=true from hs) Bool.false_ne_true
theorem kL:bV X (compareOp .NotEq) Mm:=by
 intro pins s σ H x y v u Q I rx ry h
 obtain⟨hs,q⟩:=h
 cases x with
 |non=>
  cases rx
  cases y with
  |non=>cases ry;exact PySem.EqNone.ne_none_none (cD I q Qb)
  |bl j=>cases ry;exact PySem.EqNone.ne_none_bool (cD I q Qb)
  |int j=>obtain⟨t',rfl⟩:=ry;exact PySem.EqNone.ne_none_int (cD I q Qb)
  |str j=>obtain⟨t',rfl⟩:=ry;exact PySem.EqNone.ne_none_str (cD I q Qb)
  |_=>exact absurd (show false=true from hs) Bool.false_ne_true
 |bl i=>
  cases rx
  cases y with
  |non=>cases ry;exact PySem.EqNone.ne_bool_none (cD I q Qb)
  |bl j=>cases ry;exact ne_bool (cD I q (congrArg not Eh))
  |str j=>obtain⟨t',rfl⟩:=ry;exact PySem.EqMixed.ne_bool_str (cD I q Qb)
  |_=>exact absurd (show false=true from hs) Bool.false_ne_true
 |int i=>
  obtain⟨t,rfl⟩:=rx
  cases y with
  |non=>cases ry;exact PySem.EqNone.ne_int_none (cD I q Qb)
  |int j=>obtain⟨t',rfl⟩:=ry;exact ne_int (cD I q (congrArg not Ef))
  |str j=>obtain⟨t',rfl⟩:=ry;exact PySem.EqMixed.ne_int_str (cD I q Qb)
  |_=>exact absurd (show false=true from hs) Bool.false_ne_true
 |str i=>
  obtain⟨t,rfl⟩:=rx
  cases y with
  |non=>cases ry;exact PySem.EqNone.ne_str_none (cD I q Qb)
  |bl j=>cases ry;exact PySem.EqMixed.ne_str_bool (cD I q Qb)
  |int j=>obtain⟨t',rfl⟩:=ry;exact PySem.EqMixed.ne_str_int (cD I q Qb)
  |str j=>obtain⟨t',rfl⟩:=ry;exact ne_str (cD I q (congrArg not Ee))
  |_=>exact absurd (show false=true from hs) Bool.false_ne_true
 |byt i=>
  obtain⟨t,rfl⟩:=rx
  cases y with
  |byt j=>obtain⟨t',rfl⟩:=ry;exact PySem.W.ne_bytes (cD I q (congrArg not Eg))
  |_=>exact absurd (show false=true from hs) Bool.false_ne_true
 |_=>cases y<;>exact absurd (show false=true from hs) Bool.false_ne_true
theorem oA:bV X (compareOp .Lt) (iX λ i j=>.bl (decide (i<j))):=qH λ _ _ _ _ _ _ _ q=>lt_int q
theorem qB:bV X (compareOp .LtE) (iX λ i j=>.bl (decide (i<=j))):=qH λ _ _ _ _ _ _ _ q=>le_int q
theorem Bi:bV X (compareOp .Gt) (iX λ i j=>.bl (decide (j<i))):=qH λ _ _ _ _ _ _ _ q=>gt_int q
theorem qC:bV X (compareOp .GtE) (iX λ i j=>.bl (decide (j<=i))):=qH λ _ _ _ _ _ _ _ q=>ge_int q
theorem bV.or{f:Value->Value->Sem Value}{r r':R2}(h:bV X f r)(h':bV X f r'):bV X f (λ x y H Q=>r x y H Q\/r' x y H Q):=by
 intro pins s σ H x y v u Q I rx ry q
 rcases q with q|q
 ·exact h pins s σ H x y v u Q I rx ry q
 ·exact h' pins s σ H x y v u Q I rx ry q
theorem bO(b:Expr){op:CmpOp}(h:op≠ .In:=by decide)(h2:op≠ .NotIn:=by decide):behindInMarks op b=false:=by
 have e1:(op==CmpOp.In)=false:=by cases op<;>first|rfl|exact absurd rfl h
 have e2:(op==CmpOp.NotIn)=false:=by cases op<;>first|rfl|exact absurd rfl h2
 cases b<;>simp[behindInMarks,e1,e2]
theorem iF{op:CmpOp}{r:R2}(ho:bV X (compareOp op) r)(ha:PE X a ta)(hb:PE X b tb)(hm:behindInMarks op b=false):PE X (.Compare a [op] [b] pos) (pQ r ta tb):=by
 intro pins s σ H Q I h
 exact wpAny_Compare1 (wU ha hb I h λ v u s2 x y H2 I2 rx ry q=>ho pins s2 σ H2 x y v u Q I2 rx ry q) hm
def zT(t:TE):TT:=λ σ H Q=>t σ H λ x H'=>∃k,x= .bl k/\Q k H'
theorem bY{op:CmpOp}{r:R2}(ho:bV X (compareOp op) r)(ha:PE X a ta)(hb:PE X b tb)(hm:behindInMarks op b=false):PT X (.Compare a [op] [b] pos) (zT (pQ r ta tb)):=by
 intro pins s σ H Q I h
 refine wpAny_isTrue_Compare1 (aP (ha pins s σ H _ I h) λ v s1 ⟨x,H1,I1,r1,q1⟩=>aP (hb pins s1 σ H1 _ I1 q1) λ u s2 ⟨y,H2,I2,r2,q2⟩=>
  aP (ho pins s2 σ H2 x y v u _ I2 r1 r2 q2) λ c s3 ⟨z,H3,I3,r3,k,e,q3⟩=>?_) hm
 subst e
 cases r3
 exact wpAny_truthy_bool ⟨H3,I3,q3⟩
def zW(r r':R2)(ta tb tc:TE):TE:=λ σ H Q=>ta σ H λ x H1=>tb σ H1 λ y H2=>r x y H2 λ z H3=>∃k,z= .bl k/\
 (if k=true then tc σ H3 λ w' H4=>r' y w' H4 Q else Q (.bl false) H3)
theorem Of{op op':CmpOp}{r r':R2}(ho:bV X (compareOp op) r)(ho':bV X (compareOp op') r')(ha:PE X a ta)(hb:PE X b tb)(hc:PE X c tc)
  (hm:lastMarks [op,op'] [b,c]=false:=by with_unfolding_all rfl):PE X (.Compare a [op,op'] [b,c] pos) (zW r r' ta tb tc):=by
 intro pins s σ H Q I h
 refine Compare_chain (aP (ha pins s σ H _ I h) λ v s1 ⟨x,H1,I1,r1,q1⟩=>chain_link (aP (hb pins s1 σ H1 _ I1 q1) λ u s2 ⟨y,H2,I2,r2,q2⟩=>
  aP (ho pins s2 σ H2 x y v u _ I2 r1 r2 q2) λ d s3 ⟨z,H3,I3,r3,k,e,q3⟩=>?_)) hm
 subst e
 cases r3
 refine wpAny_truthy_bool ?_
 cases k with
 |false=>exact ite_ff ⟨.bl false,H3,I3,rfl,q3⟩
 |true=>exact ite_tt (chain_last (aP (hc pins s3 σ H3 _ I3 q3) λ w' s4 ⟨z',H4,I4,r4,q4⟩=>ho' pins s4 σ H4 y z' u w' Q I4 r2 r4 q4))
theorem Ni{op op':CmpOp}{r r':R2}(ho:bV X (compareOp op) r)(ho':bV X (compareOp op') r')(ha:PE X a ta)(hb:PE X b tb)(hc:PE X c tc)
  (hm:lastMarks [op,op'] [b,c]=false:=by with_unfolding_all rfl):PT X (.Compare a [op,op'] [b,c] pos) (zT (zW r r' ta tb tc)):=by
 intro pins s σ H Q I h
 refine isTrue_chain (aP (ha pins s σ H _ I h) λ v s1 ⟨x,H1,I1,r1,q1⟩=>test_link (aP (hb pins s1 σ H1 _ I1 q1) λ u s2 ⟨y,H2,I2,r2,q2⟩=>
  aP (ho pins s2 σ H2 x y v u _ I2 r1 r2 q2) λ d s3 ⟨z,H3,I3,r3,k,e,q3⟩=>?_)) hm
 subst e
 cases r3
 refine wpAny_truthy_bool ?_
 cases k with
 |false=>
  obtain⟨k',e',q'⟩:=q3
  cases e'
  exact ite_ff ⟨H3,I3,q'⟩
 |true=>
  refine ite_tt (test_last (aP (hc pins s3 σ H3 _ I3 q3) λ w' s4 ⟨z',H4,I4,r4,q4⟩=>aP (ho' pins s4 σ H4 y z' u w' _ I4 r2 r4 q4) λ d' s5 ⟨z2,H5,I5,r5,k2,e2,q5⟩=>?_))
  subst e2
  cases r5
  exact wpAny_truthy_bool ⟨H5,I5,q5⟩
theorem kP:(sizeLine:Nat)<2^63:=by rw[sizeLine_eq];decide
theorem qF:bV X (binaryOp .Add) (λ x y H Q=>∃i j,x= .str i/\y= .str j/\i.length+j.length<=sizeLine/\Q (.str (i++j)) H):=by
 intro pins s σ H x y v u Q I rx ry h
 obtain⟨i,j,rfl,rfl,hz,q⟩:=h
 obtain⟨t,rfl⟩:=rx
 obtain⟨t',rfl⟩:=ry
 exact add_str (λ t' tk=>⟨.str (i++j),H,I.tok _,⟨_,rfl⟩,q⟩) hz
theorem lO{x:V}{us:List Value}(r:aO [x] us):∃u,us=[u]/\bA x u:=by
 cases r with
 |cons r1 r2=>cases r2;exact⟨_,rfl,r1⟩
theorem Hb{x y:V}{us:List Value}(r:aO [x,y] us):∃u w',us=[u,w']/\bA x u/\bA y w':=by
 cases r with
 |cons r1 r2=>
  cases r2 with
  |cons r3 r4=>cases r4;exact⟨_,_,rfl,r1,r3⟩
theorem Xx(hc:X.calm=true):dA X (.builtin "min") (λ xs H Q=>∃i j,xs=[.int i,.int j]/\Q (.int (if j<i then j else i)) H):=by
 intro pins s σ H xs us Q I r h
 obtain⟨i,j,rfl,q⟩:=h
 obtain⟨u,w',rfl,⟨t,rfl⟩,⟨t',rfl⟩⟩:=Hb r
 refine min_two_ints (I.ok.hd hc) λ h' tk k=>⟨_,H,I.kept k,?_,q⟩
 by_cases hj:j<i
 ·rw[if_pos hj,if_pos hj];exact⟨_,rfl⟩
 ·rw[if_neg hj,if_neg hj];exact⟨_,rfl⟩
theorem AA:dA X (.type "int") (λ xs H Q=>(∃i,xs=[.int i]/\Q (.int i) H)\/∃k,xs=[.bl k]/\Q (.int (if k then 1 else 0)) H):=by
 intro pins s σ H xs us Q I r h
 rcases h with⟨i,rfl,q⟩|⟨k,rfl,q⟩
 ·obtain⟨u,rfl,t,rfl⟩:=lO r
  exact call_int_int ⟨.int i,H,I,⟨_,rfl⟩,q⟩
 ·obtain⟨u,rfl,r1⟩:=lO r
  cases r1
  exact call_int_bool ⟨.int (if k then 1 else 0),H,I.tok _,⟨_,rfl⟩,q⟩
end
structure xN(h:Heap)(x dx C:Addr)(mA:Str->Option Value):Prop where
 obj:h.get? x=some (PySem.W.instObj C dx)
 ns:h.Ns1 dx mA
 ne:dx≠x
theorem qR{h:Heap}{dx:Addr}{mA:Str->Option Value}(n:h.Ns1 dx mA):∃od,h.get? dx=some od/\∀name,PySem.W.lookIn name od=some (mA name):=by
 obtain⟨o,es,ep,ho,hd,hk,_,hm⟩:=n
 refine⟨o,ho,λ name=>?_⟩
 have e:=hm name
 unfold nsFind findBy at e
 rw[<-Array.find?_toList]at e
 unfold PySem.W.lookIn
 rw[hd]
 dsimp only
 split
 ·rename_i y q
  rw[q]at e
  exact congrArg some e
 ·rename_i q
  rw[q]at e
  have a:es.toList.any (·.refKey)=false:=by
   rw[List.any_eq_false]
   intro y hy
   obtain⟨z,t,hkey⟩:=hk y (Array.mem_toList_iff.mp hy)
   simp[DictEntry.refKey,hkey]
  have a':¬es.toList.any (·.refKey)=true:=by rw[a];exact Bool.false_ne_true
  rw[if_neg a']
  exact congrArg some e
theorem xN.look{h:Heap}{x dx C:Addr}{mA:Str->Option Value}(I:xN h x dx C mA):∃od,PySem.W.InstAt h x (PySem.W.instObj C dx) C (some od)/\∀name,PySem.W.lookIn name od=some (mA name):=
 let⟨od,ho,hl⟩:=qR I.ns
 ⟨od,⟨I.obj,rfl,rfl,ho⟩,hl⟩
section
variable{prog:Program}{w:World}{A:Around}{E:Qe}{s:Shared}{K:PySem.W.Frag}{x dx C f:Addr}{mA:Str->Option Value}{name:Str}{v:Value}
end
def nX(f:Str)(v:V):List (Str×V)->List (Str×V)
 |[]=>[(f,v)]
 |(g,x)::r=>if g=f then(g,v)::r else(g,x)::nX f v r
theorem Bx(f g:Str)(v:V):∀fs:List (Str×V),(nX f v fs).lookup g=if g=f then some v else fs.lookup g
 | []=>by
  show List.lookup g [(f,v)]=_
  by_cases h:g=f
  ·have hb:(g==f)=true:=beq_iff_eq.mpr h
   simp only[List.lookup,hb,if_pos h]
  ·have hb:(g==f)=false:=beq_eq_false_iff_ne.mpr h
   simp only[List.lookup,hb,if_neg h]
 | (k,x)::r=>by
  have ih:=Bx f g v r
  rw[show nX f v ((k,x)::r)=(if k=f then(k,v)::r else(k,x)::nX f v r)from rfl]
  by_cases hk:k=f
  ·rw[if_pos hk]
   by_cases h:g=k
   ·have hb:(g==k)=true:=beq_iff_eq.mpr h
    simp only[List.lookup,hb,if_pos (h.trans hk)]
   ·have hb:(g==k)=false:=beq_eq_false_iff_ne.mpr h
    simp only[List.lookup,hb,if_neg (λ e:g=f=>h (e.trans hk.symm))]
  ·rw[if_neg hk]
   by_cases h:g=k
   ·have hb:(g==k)=true:=beq_iff_eq.mpr h
    simp only[List.lookup,hb,if_neg (λ e:g=f=>hk (h.symm.trans e))]
   ·have hb:(g==k)=false:=beq_eq_false_iff_ne.mpr h
    simp only[List.lookup,hb]
    exact ih
theorem Vd{v:V}{u:Value}(r:bA v u):PySem.W.handedIn u=true:=by
 cases v with
 |non=>cases(show u=Value.none from r);rfl
 |bl b=>cases(show u=Value.bool b from r);rfl
 |int i=>obtain⟨t,e⟩:=(show∃t,u=Value.int i t from r);cases e;rfl
 |str x=>obtain⟨t,e⟩:=(show∃t,u=Value.str x t from r);cases e;rfl
 |byt b=>obtain⟨t,e⟩:=(show∃t,u=Value.bytes b t from r);cases e;rfl
 |flt b=>obtain⟨t,e⟩:=(show∃t,u=Value.float b t from r);cases e;rfl
 |ref a=>cases(show u=Value.ref a from r);rfl
 |ty n=>cases(show u=Value.type n from r);rfl
section
variable{P:Program}{w:World}{H H':Hp}{h h':Heap}{a C dx:Addr}{fs fs':List (Str×V)}
theorem Ts(hok:bZ P w H h)(e:H a=some (.ins C dx fs)):∃mA,xN h a dx C mA/\(∀f,mV (fs.lookup f) (mA f))/\PySem.Within mA (fs.map (·.1))/\fs.length<=1000/\H dx=some (.own a):=by
 obtain⟨d,z,ne,ob,mA,n,r,q⟩:=(show cI P w H h a (.ins C dx fs)from hok a _ e)
 exact⟨mA,⟨ob,n,ne⟩,r,q,z,d⟩
end
structure xT(K:PySem.W.Frag)(C:Addr):Prop where
 pg:PySem.W.plainGet K C Str.empty=true
 hd:PySem.W.hasDictIn K C=true
 po:PySem.W.plainOver K C=true
 sa:PySem.W.findIn K (.ref C) "__setattr__" =some (some (.builtin "object.__setattr__"))
theorem xT.get{K:PySem.W.Frag}{C:Addr}(c:xT K C)(f:Str):PySem.W.plainGet K C f=true:=c.pg
section
variable{X:Cx}{pins:List (Addr×Obj)}{σ:St}{H:Hp}{s:Shared}{a C dx:Addr}{fs:List (Str×V)}{f:Str}{v:V}{A:Around}{E:Qe}
theorem aB.made(I:aB X pins σ H s):aB X pins σ (aD (aD H s.heap.objs.size (.own (s.heap.objs.size+1))) (s.heap.objs.size+1) (.ins C s.heap.objs.size []))
  {s with heap:=(s.heap.push PySem.W.emptyDict).push (PySem.W.instObj C s.heap.objs.size)}:=by
 have e1:(s.heap.push PySem.W.emptyDict).get? s.heap.objs.size=some PySem.W.emptyDict:=Heap.get?_push_size s.heap rfl
 have e2:((s.heap.push PySem.W.emptyDict).push (PySem.W.instObj C s.heap.objs.size)).get? (s.heap.objs.size+1)=some (PySem.W.instObj C s.heap.objs.size):=by
  have:=Heap.get?_push_size (s.heap.push PySem.W.emptyDict) (o:=PySem.W.instObj C s.heap.objs.size) rfl
  rwa[Heap.size_push]at this
 have e3:(s.heap.push PySem.W.emptyDict).Ns s.heap.objs.size (λ _=>none):=⟨PySem.W.emptyDict,#[],_,e1,rfl,(λ e he=>absurd he Qb),λ _=>rfl⟩
 have I1:=I.laid (a:=s.heap.objs.size) (o:=.own (s.heap.objs.size+1)) (h':=s.heap.push PySem.W.emptyDict) (t':=s.toks) (λ b u q=>Heap.get?_push_of_some _ q) (Nat.le_refl _) ⟨_,e1⟩
 refine I1.laid (a:=s.heap.objs.size+1) (o:=.ins C s.heap.objs.size []) (t':=s.toks) (λ b u q=>Heap.get?_push_of_some _ q) (Nat.le_of_eq (Heap.size_push _ _)) ?_
 have ne:s.heap.objs.size≠s.heap.objs.size+1:=Nat.ne_of_lt (Nat.lt_succ_self _)
 refine⟨by rw[aU ne,aR],Nat.zero_le _,ne,e2,λ _=>none,(Heap.Ns1.of_empty e3).at λ o q=>Heap.get?_push_of_some _ q,λ _=>True.intro,λ y hy=>absurd rfl hy⟩
theorem AO{prog:Program}{w:World}{env:Env}{e:Expr}{f:Str}{pos:Pos}{s:Shared}{Q:Qe}(hb:attributeBase e f env (eval e env)=eval e env)
  (h:wpAny (model prog w) A (eval e env) (λ o s₁=>wpAny (model prog w) A (getAttr o f true) Q E s₁) E s):wpAny (model prog w) A (eval (.Attribute e f pos) env) Q E s:=
 Attribute_any_ h (by rw[arm_eval_Attribute,hb])
end
section
variable{X:Cx}{o e value:Expr}{f:Str}{pos pos' tpos:Pos}{ta tv:TE}
end
section
variable{X:Cx}{pins:List (Addr×Obj)}{σ:St}{H:Hp}{s:Shared}{A:Around}{E:Qe}{Q:Qe}{c:Value}{b:Bool}
inductive eZ(K:PySem.W.Frag)(H:Hp):V->Value->Prop where
 |non:eZ K H .non (.type "NoneType")
 |bl (x:Bool):eZ K H (.bl x) (.type "bool")
 |int (i:Int):eZ K H (.int i) (.type "int")
 |str (x:Str):eZ K H (.str x) (.type "str")
 |flt (x:UInt64):eZ K H (.flt x) (.type "float")
 |lst {a:Addr} {xs:List V} (e:H a=some (.lst xs)):eZ K H (.ref a) (.type "list")
 |frz {a:Addr} {o:Obj} {xs:List V} (e:H a=some (.frz o (.lst xs))):eZ K H (.ref a) (.type "list")
 |tup {a:Addr} {xs:List V} (e:H a=some (.tup xs)):eZ K H (.ref a) (.type "tuple")
 |dK {a:Addr} {kvs:List (bC×V)} (e:H a=some (.dK kvs)):eZ K H (.ref a) (.type "dict")
 |dT {a:Addr} {kvs:List (List bC×V)} (e:H a=some (.dT kvs)):eZ K H (.ref a) (.type "dict")
 | ins {a C dx:Addr} {fs:List (Str×V)} (e:H a=some (.ins C dx fs)) (cl:xT K C) (ha:PySem.W.findIn K (.ref C) "__class__" =some (some (.builtin "object.__class__")))
   (hn:PySem.W.specialIn K (.builtin "object.__class__") "__get__" =some (some (.builtin "getset_descriptor.__get__"))) (htk:PySem.W.takesIn K (.builtin "object.__class__")=some true)
   (hm:PySem.W.mroIn K C (.type "object")=some true):eZ K H (.ref a) (.ref C)
theorem Tl{x:V}{u t:Value}(I:aB X pins σ H s)(rx:bA x u)(ty:eZ X.K H x t)(e:PySem.W.kitOne X.K t c=some b)(h:∀tk,Q (.bool b) {s with toks:=tk}):
  wpAny (model X.prog X.w) A (call (.builtin "isinstance") [u,c]) Q E s:=by
 cases ty with
 |non=>cases(show u=Value.none from rx);exact PySem.W.kia_one PySem.W.kitx_none I.kIn True.intro e (λ z=>nomatch z) h
 |bl y=>cases(show u=Value.bool y from rx);exact PySem.W.kia_one PySem.W.kitx_bool I.kIn True.intro e (λ z=>nomatch z) h
 |int i=>obtain⟨t,q⟩:=(show∃t,u=Value.int i t from rx);cases q;exact PySem.W.kia_one PySem.W.kitx_int I.kIn True.intro e (λ z=>nomatch z) h
 |str y=>obtain⟨t,q⟩:=(show∃t,u=Value.str y t from rx);cases q;exact PySem.W.kia_one PySem.W.kitx_str I.kIn True.intro e (λ z=>nomatch z) h
 |flt y=>obtain⟨t,q⟩:=(show∃t,u=Value.float y t from rx);cases q;exact PySem.W.kia_one PySem.W.kitx_float I.kIn True.intro e (λ z=>nomatch z) h
 | @lst a xs ea=>
  cases(show u=Value.ref a from rx)
  obtain⟨_,_,n,_,h1⟩:=(show cI X.prog X.w H s.heap a (.lst xs)from I.hok a _ ea)
  exact PySem.W.kia_one PySem.W.kitx_list I.kIn ⟨_,h1,rfl⟩ e (λ z=>nomatch z) h
 | @frz a ob xs ea=>
  cases(show u=Value.ref a from rx)
  obtain⟨_,_,_,n,_,h1⟩:=(show cI X.prog X.w H s.heap a (.frz ob (.lst xs))from I.hok a _ ea)
  exact PySem.W.kia_one PySem.W.kitx_list I.kIn ⟨_,h1,rfl⟩ e (λ z=>nomatch z) h
 | @tup a xs ea=>
  cases(show u=Value.ref a from rx)
  obtain⟨_,_,_,p,_⟩:=(show cI X.prog X.w H s.heap a (.tup xs)from I.hok a _ ea)
  obtain⟨o,h1,h2,_⟩:=p
  exact PySem.W.kia_one PySem.W.kitx_tuple I.kIn ⟨o,h1,h2⟩ e (λ z=>nomatch z) h
 | @dK a kvs ea=>
  cases(show u=Value.ref a from rx)
  obtain⟨_,_,vs,_,p⟩:=(show cI X.prog X.w H s.heap a (.dK kvs)from I.hok a _ ea)
  obtain⟨o,es,ep,h1,h2,_⟩:=p
  exact PySem.W.kia_one PySem.W.kitx_dict I.kIn ⟨o,h1,h2.1⟩ e (λ z=>nomatch z) h
 | @dT a kvs ea=>
  cases(show u=Value.ref a from rx)
  obtain⟨_,_,xs,_,o,es,ep,h1,h2,_⟩:=(show cI X.prog X.w H s.heap a (.dT kvs)from I.hok a _ ea)
  exact PySem.W.kia_one PySem.W.kitx_dict I.kIn ⟨o,h1,h2.1⟩ e (λ z=>nomatch z) h
 | @ins a C dx fs ea cl ha hn htk hm=>
  cases(show u=Value.ref a from rx)
  obtain⟨mA,O,_⟩:=Ts I.hok ea
  obtain⟨od,J,_⟩:=O.look
  exact PySem.W.kia_one (PySem.W.kitx_own (cl.get _) cl.hd ha hn htk hm) I.kIn J e (λ z=>nomatch z) h
end
structure bT(k:Nat)(A:Around):Prop where
 hd:A.handled=none
 dp:A.depth+3*k+5<recursionLimit
 un:A.units+16*k+200<cLine
theorem bT.mono{j k:Nat}{A:Around}(r:bT k A)(h:j<=k):bT j A:=⟨r.hd,by have:=r.dp;omega,by have:=r.un;omega⟩
theorem bT.deeper{k:Nat}{A:Around}(r:bT (k+1) A)(env:Env):bT k (A.deeper env):=
 ⟨r.hd,by have:=r.dp;show A.depth+1+3*k+5<_;omega,by have:=r.un;show A.units+3+16*k+200<_;omega⟩
theorem bT.in1{k:Nat}{A:Around}(r:bT (k+1) A):bT k A.in1:=
 ⟨r.hd,by have:=r.dp;show A.depth+3*k+5<_;omega,by have:=r.un;show A.units+1+16*k+200<_;omega⟩
theorem Sf{A:Around}{C:Addr}{us:List Value}{kw:List (Str×Value)}:(A.under (.builtin "type.__call__" ⟨.ref C::us,kw⟩)).depth=A.depth+1:=by
 first|rfl|simp[Around.under,Code.weight,Code.isCreation,Code.isGuard,Code.isCaller,Code.frames,Code.isFrame,guardIds]
theorem Sc{A:Around}{C:Addr}{us:List Value}{kw:List (Str×Value)}:(A.under (.builtin "type.__call__" ⟨.ref C::us,kw⟩)).units=A.units+1:=by
 first|rfl|simp[Around.under,Code.cUnits,Code.frames,Code.isFrame]
theorem bT.make{k:Nat}{A:Around}(r:bT (k+1) A)(C:Addr)(us:List Value)(kw:List (Str×Value)):bT k (A.under (.builtin "type.__call__" ⟨.ref C::us,kw⟩)):=
 ⟨r.hd,by have:=r.dp;rw[Sf];omega,by have:=r.un;rw[Sc];omega⟩
theorem bT.depth{k:Nat}{A:Around}(r:bT k A):A.depth<recursionLimit:=by have:=r.dp;omega
theorem bT.units{k:Nat}{A:Around}(r:bT k A):A.units+64<cLine:=by have:=r.un;omega
def Ir:TA:=λ _ H Q=>Q [] H
def zV(ta:TE)(tr:TA):TA:=λ σ H Q=>ta σ H λ x H1=>tr σ H1 λ xs H2=>Q (x::xs) H2
section
variable{X:Cx}{e:Expr}{es:List Expr}{te:TE}{t:TA}{pos:Pos}
theorem aI:PA X [] Ir:=λ _ _ _ _ H Q I h=>Calls.spliced_nil ⟨[],H,I,.nil,h⟩
theorem Ol(ha:PE X e te)(hr:PA X es t)(hs:starEach (e::es) X.env=(false,eval e X.env)::starEach es X.env:=by rfl):PA X (e::es) (zV te t):=by
 intro pos pins s σ H Q I h
 rw[hs]
 show wpAny _ _ (spliced ((false,eval e X.env)::backTo pos (starEach es X.env))) _ _ s
 refine Calls.spliced_cons (aP (ha pins s σ H _ I h) λ u s1 ⟨x,H1,I1,r1,q1⟩=>?_)
 exact aP (hr pos pins s1 σ H1 _ I1 q1) λ us s2 ⟨xs,H2,I2,r2,q2⟩=>⟨x::xs,H2,I2,.cons r1 r2,q2⟩
def Ie(t:TA):TE:=λ σ H Q=>t σ H λ xs H1=>xs.length<=sizeLine/\∀p,H1 p=none->Q (.ref p) (aD H1 p (.tup xs))
def Ix(t:TA):TE:=λ σ H Q=>t σ H λ xs H1=>xs.length<=sizeLine/\∀p,H1 p=none->Q (.ref p) (aD H1 p (.lst xs))
theorem dS{x1}(h:PA X es t):PE X (.Tuple es x1 pos) (Ie t):=by
 intro pins s σ H Q I hq
 refine wpAny_Tuple_spliced (aP (h pos pins s σ H _ I hq) λ us s1 ⟨xs,H1,I1,r,z,q⟩=>⟨by rw[<-r.length];exact z,?_⟩)
 have hf:H1 s1.heap.objs.size=none:=I1.hok.fresh (Nat.le_refl _)
 refine⟨.ref s1.heap.objs.size,aD H1 s1.heap.objs.size (.tup xs),I1.laid (t':=s1.toks) (λ b u e=>Heap.get?_push_of_some _ e) (Nat.le_refl _) ?_,rfl,q _ hf⟩
 exact⟨z,us,r,⟨_,Heap.get?_push_size _ rfl,rfl,_,rfl⟩,_,Heap.get?_push_size _ rfl,rfl⟩
theorem gO(h:PA X es t):PE X (.List es pos) (Ix t):=by
 intro pins s σ H Q I hq
 refine wpAny_List_spliced (aP (h pos pins s σ H _ I hq) λ us s1 ⟨xs,H1,I1,r,z,q⟩=>⟨by rw[<-r.length];exact z,?_⟩)
 have hf:H1 s1.heap.objs.size=none:=I1.hok.fresh (Nat.le_refl _)
 refine⟨.ref s1.heap.objs.size,aD H1 s1.heap.objs.size (.lst xs),I1.laid (t':=s1.toks) (λ b u e=>Heap.get?_push_of_some _ e) (Nat.le_refl _) ?_,rfl,q _ hf⟩
 exact⟨z,us,0,r,Heap.get?_push_size _ rfl⟩
end
abbrev Sp:=List V->Hp->VK->XK->Prop
abbrev dI:=List Env->Hp->Shared->XK->Value->Shared->Prop
structure fS(P:Program)(w:World)(K:PySem.W.Frag)(mg:Str->Option Value)(base:Heap)(A:Around)(outer:List Env)(s:Shared)(H:Hp):Prop where
 frames:A.frames=some outer
 mod:Mod K mg base
 bs:∀b o,base.get? b=some o->s.heap.get? b=some o/\H b=none
 bsz:base.objs.size<=s.heap.objs.size
 funs:s.heap.FunFrames base outer
 frf:∀b∈cC outer,H b=none
 hok:bZ P w H s.heap
 bare:AllBare s.gens
def CE(outer:List Env)(P:Program)(w:World)(H:Hp)(s:Shared)(Q:VK)(u:Value)(s':Shared):Prop:=
 ∃v H',s'.os=s.os/\fB s.gens s'.gens/\Un (cC outer) [] H H' s.heap s'.heap/\bZ P w H' s'.heap/\bA v u/\Q v H'
def CR(CX:dI)(outer:List Env)(P:Program)(w:World)(H:Hp)(s:Shared)(Q:VK)(E:XK)(r:Result)(s':Shared):Prop:=
 match r with
 |.ok (.ret u)=>CE outer P w H s Q u s'
 |.ok _=>False
 |.error e=>CX outer H s E e s'
structure bE(P:Program)(w:World)(K:PySem.W.Frag)(mg:Str->Option Value)(base:Heap)(CX:dI)(k:Nat)(f:Addr)(fd:FuncData)(ps:List Str)(sp:Sp):Prop where
 len:∀vs H Q E,sp vs H Q E->vs.length=ps.length
 run:∀(A:Around) (outer:List Env) (s:Shared) (H:Hp) (args:Args) (us:List Value) (vs:List V) (Q:VK) (E:XK),bT k A->fS P w K mg base A outer s H->BindsTo s fd args (ps.zip us)->aO vs us->sp vs H Q E->
  codeAny (model P w) A (.call (.ref f) args) (CR CX outer P w H s Q E) s
theorem bE.mono{P:Program}{w:World}{K:PySem.W.Frag}{mg:Str->Option Value}{base:Heap}{CX:dI}{j k:Nat}{f:Addr}{fd:FuncData}{ps:List Str}{sp:Sp}(F:bE P w K mg base CX j f fd ps sp)(h:j<=k):
  bE P w K mg base CX k f fd ps sp:=⟨F.len,λ A outer s H args us vs Q E hr=>F.run A outer s H args us vs Q E (hr.mono h)⟩
theorem bE.imp{P:Program}{w:World}{K:PySem.W.Frag}{mg:Str->Option Value}{base:Heap}{CX:dI}{k:Nat}{f:Addr}{fd:FuncData}{ps:List Str}{sp sp':Sp}(F:bE P w K mg base CX k f fd ps sp)
  (h:∀vs H Q E,sp' vs H Q E->sp vs H Q E):bE P w K mg base CX k f fd ps sp':=
 ⟨λ vs H Q E q=>F.len vs H Q E (h _ _ _ _ q),λ A outer s H args us vs Q E hr he hb hv hs=>F.run A outer s H args us vs Q E hr he hb hv (h _ _ _ _ hs)⟩
theorem fS.make{P:Program}{w:World}{K:PySem.W.Frag}{mg:Str->Option Value}{base:Heap}{A:Around}{outer:List Env}{s:Shared}{H:Hp}(e:fS P w K mg base A outer s H)(C:Addr)(us:List Value)(kw:List (Str×Value)):
  fS P w K mg base (A.under (.builtin "type.__call__" ⟨.ref C::us,kw⟩)) outer s H:=⟨by first|exact e.frames|(simpa[Around.under,Code.envs,Code.isFrame,pushEnvs]using e.frames),e.mod,e.bs,e.bsz,e.funs,e.frf,e.hok,e.bare⟩
theorem fS.in1{P:Program}{w:World}{K:PySem.W.Frag}{mg:Str->Option Value}{base:Heap}{A:Around}{outer:List Env}{s:Shared}{H:Hp}(e:fS P w K mg base A outer s H):
  fS P w K mg base A.in1 outer s H:=⟨e.frames,e.mod,e.bs,e.bsz,e.funs,e.frf,e.hok,e.bare⟩
section
variable{X:Cx}{pins:List (Addr×Obj)}{σ:St}{H:Hp}{s s':Shared}
theorem aB.env0(I:aB X pins σ H s):fS X.prog X.w X.K X.mg X.base X.A X.stack s H:=
 ⟨I.ok.frames,I.ok.mod,I.bs,Nat.le_trans I.ok.bsz I.sz,I.stack,I.stkFree,I.hok,I.bare.1⟩
theorem aB.after{Q:VK}{u:Value}(I:aB X pins σ H s)(h:CE X.stack X.prog X.w H s Q u s'):EP X pins σ Q u s':=by
 obtain⟨v,H',os,bare,un,hok,r,q⟩:=h
 obtain⟨hh,g,d,t,os'⟩:=s'
 obtain rfl:os'=s.os:=os
 exact⟨v,H',I.call (h':=hh) (g':=g) (d':=d) (t':=t) (ch:=[]) un hok bare (λ b z=>absurd z Qb),r,q⟩
end
def sW(sp:Sp)(dvs:List V)(E:XK)(t:TA):TE:=λ σ H Q=>t σ H λ vs H1=>sp (vs++dvs) H1 Q E
def hU(K:PySem.W.Frag)(fd:FuncData)(ps:List Str)(ds:List Value):Prop:=
 ∀(s:Shared) (us:List Value),K.In s.heap->(us++ds).length=ps.length->BindsTo s fd ⟨us,[]⟩ (ps.zip (us++ds))
theorem hU.all{K:PySem.W.Frag}{fd:FuncData}{ps:List Str}(h:∀us:List Value,us.length=ps.length->bindArgs fd ⟨us,[]⟩=pure (ps.zip us)):hU K fd ps []:=λ s us _ hl=>by
 rw[List.append_nil]at hl⊢
 exact .of_eq (h us hl)
def xK(CX:dI)(X:Cx)(E:XK):Prop:=∀(pins:List (Addr×Obj)) (σ:St) (H:Hp) (s:Shared) (e:Value) (s':Shared),aB X pins σ H s->CX X.stack H s E e s'->X.xe e s'
section
variable{X:Cx}{CX:dI}{k:Nat}{f C:Addr}{fd:FuncData}{ps:List Str}{sp:Sp}{dvs:List V}{ds:List Value}{E:XK}{x m:Str}{p pos apos:Pos}{e o:Expr}{es:List Expr}{ta:TE}{t:TA}
theorem Lw{pins:List (Addr×Obj)}{σ:St}{H:Hp}{s:Shared}{Q:VK}{us:List Value}{vs:List V}(F:bE X.prog X.w X.K X.mg X.base CX k f fd ps sp)(hr:bT k X.A)(hb:hU X.K fd ps ds)(hd:aO dvs ds)(hx:xK CX X E)
  (I:aB X pins σ H s) (r:aO vs us) (h:sp (vs++dvs) H Q E):wpAny (model X.prog X.w) X.A (call (.ref f) us) (EP X pins σ Q) X.xe s:=by
 have r2:aO (vs++dvs) (us++ds):=r.append hd
 have hl:(us++ds).length=ps.length:=by rw[<-r2.length];exact F.len _ _ _ _ h
 refine wpAny_call (codeAny_mono (F.run X.A X.stack s H ⟨us,[]⟩ (us++ds) (vs++dvs) Q E hr I.env0 (hb s us I.kIn hl) r2 h) λ r s' hq=>?_)
 cases r with
 |error e=>exact hx pins σ H s e s' I hq
 |ok fl=>
  cases fl with
  |ret u=>exact I.after hq
  |next=>exact False.elim hq
  |brk=>exact False.elim hq
  |cont=>exact False.elim hq
theorem Og(F:bE X.prog X.w X.K X.mg X.base CX k f fd ps sp)(hr:bT k X.A)(hg:Gl X x)(hm:X.mg x=some (.ref f))(hk:PySem.W.keepIn X.K (.ref f)=true)(hb:hU X.K fd ps ds)(hd:aO dvs ds)(hx:xK CX X E)
  (ha:PA X (e::es) t) (hdb:(x==("__debug__" :Str))=false:=by decide) (he:starEach (e::es) X.env=(false,eval e X.env)::starEach es X.env:=by rfl) (hpl:(backTo pos (starEach es X.env)).any (·.1)=false:=by rfl):
  PE X (.Call (.Name x p) (e::es) [] pos) (sW sp dvs E t):=by
 intro pins s σ H Q I h
 refine wpAny_Call_Name_kw (mF I hg hm ?_ hdb)
 refine PySem.W.callWith_K (h₀:=X.base) I.ok.mod.kin hk (aP (ha pos pins s σ H _ I h) λ us s1 ⟨vs,H1,I1,r,q⟩=>⟨I1.kIn,?_⟩) he hpl
 exact Lw F hr hb hd hx I1 r q
end
section
variable{X:Cx}{CX:dI}{k:Nat}{f C:Addr}{fd:FuncData}{ps ks:List Str}{sp:Sp}{E:XK}{x m:Str}{p pos apos kpos:Pos}{e o:Expr}{es:List Expr}{kws:List Keyword}{te ta:TE}{t tk:TA}{nm:Option Str}
variable{g:List Value->List Value->List Value}{gV:List V->List V->List V}
end
structure bW(N P:List Str)(sc:Scope):Prop where
 kind:sc.kind= .function
 co:sc.isCoroutine=false
 gen:sc.isGenerator=false
 nd:N.Nodup
 pre:N.take P.length=P
 par:∀x∈P,sc.names.lookup x=some .local\/sc.names.lookup x=some .cell
 nofree:∀y∈sc.names,y.2≠ .free
theorem Et{kindOf:Str->Option NameKind}{x:Str}:∀{binds:List (Str×Value)} {m:Str->Option Value},(∀v,(x,v)∉binds)->bindL kindOf binds m x=m x
 |[],_,_=>rfl
 | (n,v)::r,m,h=>by
  unfold bindL
  rw[Et λ w hw=>h w (List.mem_cons_of_mem _ hw)]
  split
  ·have:x≠n:=by rintro rfl;exact h v List.mem_cons_self
   simp[this]
  ·rfl
theorem Eu{kindOf:Str->Option NameKind}{x:Str}:∀{binds:List (Str×Value)} {m:Str->Option Value},(∀v,(x,v)∉binds)->bindC kindOf binds m x=m x
 |[],_,_=>rfl
 | (n,v)::r,m,h=>by
  unfold bindC
  rw[Eu λ w hw=>h w (List.mem_cons_of_mem _ hw)]
  split
  ·rfl
  ·have:x≠n:=by rintro rfl;exact h v List.mem_cons_self
   simp[this]
theorem wS{kindOf:Str->Option NameKind}{x:Str}{v:Value}:∀{P:List Str} {vs:List Value} {i:Nat} {m:Str->Option Value},P.Nodup->P[i]? =some x->vs[i]? =some v->kindOf x=some .local->
  bindL kindOf (P.zip vs) m x=some v
 |[],_,_,_,_,h,_,_=>by simp at h
 |_::_,[],_,_,_,_,h,_=>by simp at h
 |p::P,w::vs,0,m,nd,h1,h2,hk=>by
  simp at h1 h2;subst h1;subst h2
  show bindL kindOf ((p,w)::P.zip vs) m p=_
  unfold bindL
  rw[Et λ v hv=>(List.nodup_cons.mp nd).1 (List.of_mem_zip hv).1,if_pos hk]
  simp
 |p::P,w::vs,i+1,m,nd,h1,h2,hk=>by
  show bindL kindOf ((p,w)::P.zip vs) m x=_
  unfold bindL
  exact wS (i:=i) (List.nodup_cons.mp nd).2 (by simpa using h1) (by simpa using h2) hk
theorem wT{kindOf:Str->Option NameKind}{x:Str}{v:Value}:∀{P:List Str} {vs:List Value} {i:Nat} {m:Str->Option Value},P.Nodup->P[i]? =some x->vs[i]? =some v->kindOf x≠some .local->
  bindC kindOf (P.zip vs) m x=some v
 |[],_,_,_,_,h,_,_=>by simp at h
 |_::_,[],_,_,_,_,h,_=>by simp at h
 |p::P,w::vs,0,m,nd,h1,h2,hk=>by
  simp at h1 h2;subst h1;subst h2
  show bindC kindOf ((p,w)::P.zip vs) m p=_
  unfold bindC
  rw[Eu λ v hv=>(List.nodup_cons.mp nd).1 (List.of_mem_zip hv).1,if_neg hk]
  simp
 |p::P,w::vs,i+1,m,nd,h1,h2,hk=>by
  show bindC kindOf ((p,w)::P.zip vs) m x=_
  unfold bindC
  exact wT (i:=i) (List.nodup_cons.mp nd).2 (by simpa using h1) (by simpa using h2) hk
def start(N:List Str)(vs:List V):St:=vs.map some++List.replicate (N.length-vs.length) none
def gB(CX:dI)(P:Program)(w:World)(K:PySem.W.Frag)(mg:Str->Option Value)(base:Heap)(N:List Str)(qual:Str)(scope:Scope)(f:Addr)(cd:Value)(A:Around)(outer:List Env)(s:Shared)(H:Hp)(E:XK):Cx where
 prog:=P
 w:=w
 K:=K
 mg:=mg
 base:=base
 A:=A.deeper (envOfC qual scope s.heap.objs.size f cd)
 N:=N
 s₀:=s
 H₀:=H
 env:=envOfC qual scope s.heap.objs.size f cd
 outer:=outer
 stack:=envOfC qual scope s.heap.objs.size f cd::outer
 ex:=[]
 calm:=true
 fn:=λ _=>true
 pn:=[]
 xe:=λ e s'=>wpAny (model P w) (A.deeper (envOfC qual scope s.heap.objs.size f cd)) (leaving (envOfC qual scope s.heap.objs.size f cd) e) (λ _ s''=>CX outer H s E e s'') (λ e' s''=>CX outer H s E e' s'') s'
theorem rJ{sc:Scope}{n:Nat}{x:Str}(h:sc.names.lookup x=some .cell):∃c,(cellsFrom n sc.names []).lookup x=some c:=by
 have q:=PySem.W.cellsFrom_some sc.names n [] (.inl h)
 exact Option.isSome_iff_exists.mp q
theorem Tn{CX:dI}{P:Program}{w:World}{K:PySem.W.Frag}{mg:Str->Option Value}{base:Heap}{N ps:List Str}{qual:Str}{scope:Scope}{f:Addr}{cd:Value}{A:Around}{outer:List Env}{s s1:Shared}{H:Hp}{E:XK}{us:List Value}{vs:List V}
  (S:bW N ps scope) (hd:A.handled=none) (e0:fS P w K mg base A outer s H) (hl:vs.length=ps.length) (r:aO vs us)
  (x:InCallC s s.heap.objs.size (bindL (envOfC qual scope s.heap.objs.size f cd).kindOf (ps.zip us) λ _=>none) (cellsFrom (s.heap.objs.size+1) scope.names []) (bindC (envOfC qual scope s.heap.objs.size f cd).kindOf (ps.zip us) λ _=>none) s1):
  aB (gB CX P w K mg base N qual scope f cd A outer s H E) [] (start N vs) H s1:=by
 have hpl:ps.length<=N.length:=by have:=congrArg List.length S.pre;rw[List.length_take]at this;omega
 obtain⟨h1,tk,rfl,hk⟩:=x.done
 have noA:∀b:Addr,b∉(gB CX P w K mg base N qual scope f cd A outer s H E).ex:=λ b z=>absurd (show b∈([]:List Addr)from z) Qb
 refine⟨⟨e0.mod,S.kind,rfl,rfl,Nat.le_refl _,λ y z c h1 h2=>?_,λ y hy=>?_,λ y c _ h=>?_,λ _=>hd,Around.frames_deeper e0.frames,.inr ⟨rfl,rfl⟩,λ b z=>absurd z (noA b),e0.bs,e0.bsz,λ b _ _=>noA b,λ b z=>absurd z (noA b),e0.funs,e0.frf⟩,
  rfl,⟨e0.bare,Nat.le_refl _⟩,Un.kept hk,⟨_,x.toInCall.ns,λ i y v h1 h2 h3=>?_⟩,λ y c h=>⟨_,x.cell y c h⟩,e0.hok.fresh (Nat.le_refl _),λ y c h=>?_,λ p hp=>absurd (show p∈([]:List (Addr×Obj))from hp) Qb,e0.hok.kept hk,?_⟩
 ·exact name_of_addr x.apart (PySem.mem_of_lookup h1) (PySem.mem_of_lookup h2)
 ·have hy:scope.names.lookup y=some .cell\/scope.names.lookup y=some .free:=hy
  rcases hy with hy|hy
  ·exact rJ hy
  ·exact absurd rfl (S.nofree _ (PySem.mem_of_lookup hy))
 ·exact Nat.le_of_lt (x.above y c (PySem.mem_of_lookup h))
 ·have hi:i<vs.length:=by
   unfold start at h2
   by_cases hi:i<vs.length
   ·exact hi
   ·rw[List.getElem?_append_right (by simpa using hi)]at h2
    rw[List.getElem?_replicate]at h2
    split at h2<;>cases h2
  have ha:vs[i]? =some v:=by
   unfold start at h2
   rw[List.getElem?_append_left (by simpa using hi),List.getElem?_map]at h2
   cases e:vs[i]? with
   |none=>rw[e]at h2;cases h2
   |some a=>rw[e]at h2;cases h2;rfl
  obtain⟨u,hu,rv⟩:=r.get ha
  have hp:ps[i]? =some y:=by
   rw[<-S.pre,List.getElem?_take_of_lt Qa];exact h1
  have ndP:ps.Nodup:=by rw[<-S.pre];exact S.nd.sublist (List.take_sublist _ _)
  refine⟨u,rv,?_⟩
  rcases S.par y (List.mem_of_getElem? hp)with k|k
  ·exact .inl ⟨k,wS ndP hp hu k⟩
  ·obtain⟨c,e⟩:=rJ (n:=s.heap.objs.size+1) k
   refine .inr ⟨.inl k,c,e,?_⟩
   have q:=x.cell y c e
   rw[wT ndP hp hu (by show scope.names.lookup y≠_;rw[k];decide)]at q
   exact q
 ·exact e0.hok.fresh (Nat.le_of_lt (x.above y c (PySem.mem_of_lookup h)))
 ·unfold start
  show _=N.length
  rw[List.length_append,List.length_map,List.length_replicate]
  omega
theorem rA{CX:dI}{P:Program}{w:World}{K:PySem.W.Frag}{mg:Str->Option Value}{base:Heap}{k:Nat}{f:Addr}{name qual:Str}{params:Arguments}{body:List Stmt}{scope:Scope}{dV kV doc pm cdv ct oc:Value}{an od:Option Addr}
  {osl:Array (Option Value)} {N ps:List Str} {sp:Sp} (lk:K.lookup f=some ⟨oc,od,.func (PySem.W.fnOf name qual params body scope dV kV doc pm an cdv ct),osl⟩) (hcd:PySem.W.codeIn K cdv qual=true) (S:bW N ps scope)
  (len:∀vs H Q E,sp vs H Q E->vs.length=ps.length)
  (hbody:∀(A:Around) (outer:List Env) (s:Shared) (H:Hp) (vs:List V) (Q:VK) (E:XK),bT k (A.deeper (envOfC qual scope s.heap.objs.size f cdv))->sp vs H Q E->
   ∃t,dH (gB CX P w K mg base N qual scope f cdv A outer s H E) body t/\t {nx:=λ _ H'=>Q .non H',rt:=Q} (start N vs) H):
  bE P w K mg base CX (k+1) f (PySem.W.fnOf name qual params body scope dV kV doc pm an cdv ct) ps sp:=by
 refine⟨len,λ A outer s H args us vs Q E hr e0 hb r hsp=>?_⟩
 have hl:=len _ _ _ _ hsp
 have KX:K.In s.heap:=e0.mod.kin.keeps λ b o e=>(e0.bs b o e).1
 have lim:s.heap.NoLimit:=e0.mod.nolimit.keeps λ b o e=>(e0.bs b o e).1
 have hkind:∀y∈ps.zip us,scope.names.lookup y.1=some .local\/(scope.names.lookup y.1=some .cell/\((cellsFrom (s.heap.objs.size+1) scope.names []).lookup y.1).isSome=true):=λ ⟨n,v⟩ hy=>by
  rcases S.par n (List.of_mem_zip hy).1 with q|q
  ·exact .inl q
  ·exact .inr ⟨q,PySem.W.cellsFrom_some _ _ _ (.inl q)⟩
 refine codeAny_call_function hr.depth (KX _ _ lk) rfl S.co S.gen rfl (PySem.W.codeRec_of KX hcd) (hb _ _ _ _ ?_)
 refine wpAny_newFunctionEnv_cells S.kind hkind λ env he s1 x=>?_
 subst he
 refine⟨lim.keeps x.toInCall.keep,codeAny_func ?_⟩
 obtain⟨t,ht,hq⟩:=hbody A outer s H vs Q E (hr.deeper _) hsp
 have I:aB (gB CX P w K mg base N qual scope f cdv A outer s H E) [] (start N vs) H s1:=Tn S hr.hd e0 hl r x
 refine wpAny_mono (ht [] s1 (start N vs) H _ I hq) (λ fl s' hs=>?_) λ e s' hs=>hs
 have fin:∀{σ':St} {H':Hp} {v:V} {u:Value},aB (gB CX P w K mg base N qual scope f cdv A outer s H E) [] σ' H' s'->bA v u->Q v H'->CE outer P w H s Q u s':=
  fun{σ' H' v u} J rv q=>⟨v,H',J.os,J.bare,J.base,J.hok,rv,q⟩
 cases fl with
 |ret u=>
  obtain⟨v,σ',H',J,rv,q⟩:=hs
  exact fin J rv q
 |next=>
  obtain⟨σ',H',J,q⟩:=hs
  exact fin (v:=V.non) (u:=Value.none) J rfl q
 |brk=>
  obtain⟨_,_,_,q⟩:=hs
  exact False.elim q
 |cont=>
  obtain⟨_,_,_,q⟩:=hs
  exact False.elim q
section
variable{X:Cx}{x:Str}{p pos:Pos}{e:Expr}{es:List Expr}{t:TA}{id T:String}{r:List V->Hp->VK->Prop}
def zX(r:List V->Hp->VK->Prop)(t:TA):TE:=λ σ H Q=>t σ H λ vs H1=>r vs H1 Q
theorem bG(hc:dA X (.builtin id) r)(hg:Gl X x)(hm:X.mg x=none)(hv:bootBuiltins x=some (.builtin id))(ha:PA X (e::es) t)(hn:x≠ "__name__" :=by decide)(hdb:(x==("__debug__" :Str))=false:=by decide)
  (he:starEach (e::es) X.env=(false,eval e X.env)::starEach es X.env:=by rfl) (hpl:(backTo pos (starEach es X.env)).any (·.1)=false:=by rfl):PE X (.Call (.Name x p) (e::es) [] pos) (zX r t):=by
 intro pins s σ H Q I h
 refine wpAny_Call_Name_kw (kQ I hg hm hv ?_ hn hdb)
 exact PyProof.Rows.callWith_builtin1 (aP (ha pos pins s σ H _ I h) λ us s1 ⟨vs,H1,I1,r1,q1⟩=>hc pins s1 σ H1 vs us Q I1 r1 q1) he hpl
theorem fF(hc:dA X (.type T) r)(hg:Gl X x)(hm:X.mg x=none)(hv:bootBuiltins x=some (.type T))(ha:PA X (e::es) t)(hn:x≠ "__name__" :=by decide)(hdb:(x==("__debug__" :Str))=false:=by decide)
  (he:starEach (e::es) X.env=(false,eval e X.env)::starEach es X.env:=by rfl) (hpl:(backTo pos (starEach es X.env)).any (·.1)=false:=by rfl):PE X (.Call (.Name x p) (e::es) [] pos) (zX r t):=by
 intro pins s σ H Q I h
 refine wpAny_Call_Name_kw (kQ I hg hm hv ?_ hn hdb)
 exact PyProof.Rows.callWith_type1 (aP (ha pos pins s σ H _ I h) λ us s1 ⟨vs,H1,I1,r1,q1⟩=>hc pins s1 σ H1 vs us Q I1 r1 q1) he hpl
end
end L2
namespace HT
open PySem PyProof.Rows
section
open PySem.SeqAt
open PySem.AutoSeq1 (wpAny_loadPart')
open PySem.MeetsSeq PySem.MeetsSeq2 PySem.MeetsSeq3
end
section
variable{prog:Program}{w:World}{A:Around}{E:Qe}{s:Shared}
theorem cat_tup{t b:Addr}{vs ws:List Value}{Q:Qe}(ht:IsTup s.heap t vs.toArray)(hb:IsTup s.heap b ws.toArray)(hv:vs≠[])
  (h1:ws=[]->Q (.ref t) s) (h2:ws≠[]->Q (.ref s.heap.objs.size) {s with heap:=s.heap.push {cls:=.type "tuple",data:=.seq (vs++ws).toArray}})
  (hsz:vs.length+ws.length<=sizeLine):wpAny (model prog w) A (binaryOp .Add (.ref t) (.ref b)) Q E s:=by
 obtain⟨⟨cls,dd,data,sl⟩,ho,hc,n,hd⟩:=id ht
 obtain⟨⟨cls2,dd2,data2,sl2⟩,ho2,hc2,n2,hd2⟩:=id hb
 simp only at hc hd hc2 hd2
 subst hc hd hc2 hd2
 have e:vs.toArray++ws.toArray=(vs++ws).toArray:=by simp
 by_cases hw:ws=[]
 ·exact concat_meets ⟨_,ho,rfl⟩ ⟨_,ho2,rfl⟩ noFill_tuple_add seq_tuple_add PySem.F.slot_tuple_add PySem.F.entry_tuple_add (PySem.F.args_tuple_add_2 _ _)
   (tuple_addW1 t b vs.toArray ws.toArray n n2 dd dd2 sl sl2 (by simpa using hv) (by simp[hw])) ⟨ho,ho2,h1 hw⟩
 ·refine concat_meets ⟨_,ho,rfl⟩ ⟨_,ho2,rfl⟩ noFill_tuple_add seq_tuple_add PySem.F.slot_tuple_add PySem.F.entry_tuple_add (PySem.F.args_tuple_add_2 _ _)
   (tuple_addW2 t b vs.toArray ws.toArray n n2 dd dd2 sl sl2 (by simpa using hv) (by simpa using hw) (by rw[List.size_toArray,List.size_toArray];exact hsz)) ⟨ho,ho2,?_⟩
  rw[e]
  exact h2 hw
def sIx(n d:Nat):Option Int->Nat
 |none=>d
 |some v=>if v<0 then(v+(n:Int)).toNat else min v.toNat n
theorem sIx_none(n d:Nat):sIx n d none=d:=rfl
theorem sIx_nat(n d k:Nat):sIx n d (some (k:Int))=min k n:=by
 show(if(k:Int)<0 then((k:Int)+(n:Int)).toNat else min (k:Int).toNat n)=min k n
 rw[if_neg Qa,Int.toNat_natCast]
end
end HT
namespace L2
open PySem PySem.Spec PyProof.Rows
abbrev TO:=St->Hp->(Option Int->Hp->Prop)->Prop
def PO(X:Cx)(e:Option Expr)(t:TO):Prop:=
 ∀(pins:List (Addr×Obj)) (s:Shared) (σ:St) (H:Hp) (Q:Option Int->Hp->Prop),aB X pins σ H s->t σ H Q->
  wpAny (model X.prog X.w) X.A (evalPart e X.env) (λ u s'=>∃o H',aB X pins σ H' s'/\IsPart u o/\Q o H') X.xe s
def Iq:TO:=λ _ H Q=>Q none H
def Il(t:TE):TO:=λ σ H Q=>t σ H λ x H1=>∃i,x= .int i/\Q (some i) H1
section
variable{X:Cx}{e:Expr}{te:TE}{lo hi:Option Expr}{tl th:TO}{pos p2:Pos}
theorem kD:PO X none Iq:=by
 intro pins s σ H Q I h
 rw[evalPart_none]
 exact wpAny_pure ⟨none,H,I,.none,h⟩
theorem kB(h:PE X e te):PO X (some e) (Il te):=by
 intro pins s σ H Q I hw
 rw[evalPart_some]
 refine aP (h pins s σ H _ I hw) λ u s1 ⟨x,H1,I1,r1,q1⟩=>?_
 obtain⟨i,rfl,q⟩:=q1
 obtain⟨t,rfl⟩:=r1
 exact⟨some i,H1,I1,.int i t,q⟩
def jM(X:Cx)(r:V->Option Int->Option Int->Hp->VK->Prop):Prop:=
 ∀(pins:List (Addr×Obj)) (s:Shared) (σ:St) (H:Hp) (x:V) (v vl vu:Value) (lo hi:Option Int) (sl:Addr) (Q:VK),aB X pins σ H s->bA x v->s.heap.IsSliceOf sl vl vu .none->IsPart vl lo->IsPart vu hi->r x lo hi H Q->
  ∃T id,typeLookup (.type T) "__getitem__" =pure (some (.builtin id))/\s.TypeIs v T/\wpAny (model X.prog X.w) X.A (getItem v (.ref sl)) (EP X pins σ Q) X.xe s
theorem jM.or{r r':V->Option Int->Option Int->Hp->VK->Prop}(h:jM X r)(h':jM X r'):jM X (λ x lo hi H Q=>r x lo hi H Q\/r' x lo hi H Q):=by
 intro pins s σ H x v vl vu lo hi sl Q I rx hs pl pu q
 rcases q with q|q
 ·exact h pins s σ H x v vl vu lo hi sl Q I rx hs pl pu q
 ·exact h' pins s σ H x v vl vu lo hi sl Q I rx hs pl pu q
def Ii(r:V->Option Int->Option Int->Hp->VK->Prop)(te:TE)(tl th:TO):TE:=λ σ H Q=>te σ H λ x H1=>tl σ H1 λ l H2=>th σ H2 λ u H3=>r x l u H3 Q
theorem kI{r:V->Option Int->Option Int->Hp->VK->Prop}(hr:jM X r)(he:PE X e te)(hl:PO X lo tl)(hu:PO X hi th):PE X (.Subscript e (.Slice lo hi none p2) pos) (Ii r te tl th):=by
 intro pins s σ H Q I h
 refine Subscript_ (aP (he pins s σ H _ I h) λ v s1 ⟨x,H1,I1,r1,q1⟩=>?_)
 refine wpAny_Slice (aP (hl pins s1 σ H1 _ I1 q1) λ vl s2 ⟨l,H2,I2,pl,q2⟩=>aP (hu pins s2 σ H2 _ I2 q2) λ vu s3 ⟨u,H3,I3,pu,q3⟩=>?_)
 rw[evalPart_none]
 refine wpAny_pure ?_
 have I4:aB X pins σ H3 {s3 with heap:=s3.heap.push {cls:=.type "slice",data:=.fields #[vl,vu,.none]}}:=I3.kept (t':=s3.toks) λ b ob q=>Heap.get?_push_of_some _ q
 obtain⟨T,id,hT,ht,hg⟩:=hr pins {s3 with heap:=s3.heap.push {cls:=.type "slice",data:=.fields #[vl,vu,.none]}} σ H3 x v vl vu l u s3.heap.objs.size Q I4 r1 (Heap.IsSliceOf.new ..) pl pu q3
 show wpAny (model X.prog X.w) X.A (subscriptTail e (.Slice lo hi none p2) v (.ref s3.heap.objs.size)) (EP X pins σ Q) X.xe {s3 with heap:=s3.heap.push {cls:=.type "slice",data:=.fields #[vl,vu,.none]}}
 exact tail_any (ops:=[.ref s3.heap.objs.size,v]) ht hT hg (by with_unfolding_all rfl)
def mN(xs:List V)(lo hi:Option Int):List V:=(xs.drop (HT.sIx xs.length 0 lo)).take (HT.sIx xs.length xs.length hi-HT.sIx xs.length 0 lo)
theorem Xe(xs:List V)(lo hi:Option Int):(mN xs lo hi).length<=xs.length:=by
 unfold mN
 rw[List.length_take,List.length_drop]
 omega
def Mx(K:PySem.W.Frag):R2:=λ x y H Q=>∃a b xs ys,x= .ref a/\y= .ref b/\aM K H a xs/\aM K H b ys/\xs≠[]/\xs.length+ys.length<=sizeLine/\
 (ys=[]->Q (.ref a) H)/\(ys≠[]->∀p,H p=none->Q (.ref p) (aD H p (.tup (xs++ys))))
theorem aO.nil_iff{xs:List V}{us:List Value}(r:aO xs us):us=[]↔xs=[]:=by
 cases r with
 |nil=>simp
 |cons _ _=>simp
theorem vL:bV X (binaryOp .Add) (Mx X.K):=by
 intro pins s σ H x y v u Q I rx ry h
 obtain⟨a,b,xs,ys,rfl,rfl,ha,hb,hx,hz,q1,q2⟩:=h
 cases rx
 cases ry
 obtain⟨its,r1,p1,_⟩:=I.tuple ha
 obtain⟨its2,r2,p2,_⟩:=I.tuple hb
 refine HT.cat_tup p1 p2 (λ z=>hx (r1.nil_iff.mp z)) (λ z=>⟨.ref a,H,I,rfl,q1 (r2.nil_iff.mp z)⟩) (λ z=>?_) (by rw[<-r1.length,<-r2.length];exact hz)
 refine⟨.ref s.heap.objs.size,_,I.laid (t':=s.toks) (o:=.tup (xs++ys)) (λ b ob q=>Heap.get?_push_of_some _ q) (Nat.le_refl _) ?_,rfl,q2 (λ w=>z (r2.nil_iff.mpr w)) _ (I.hok.fresh (Nat.le_refl _))⟩
 exact⟨by rw[List.length_append];exact hz,_,r1.append r2,IsTup.new _ _,_,Heap.get?_push_size _ rfl,rfl⟩
end
def kW(n:Nat)(i:Int):Option Nat:=if 0<=i then(if i<n then some i.toNat else none)else if-(n:Int)<=i then some (i+n).toNat else none
def gC{α:Type}(xs:List α)(i:Int):Option α:=(kW xs.length i).bind λ j=>xs[j]?
theorem Cq{n:Nat}{i:Int}{j:Nat}(h:kW n i=some j):seqIndex? i n=some j/\j<n/\-(n:Int)<=i/\i<n:=by
 unfold kW at h
 by_cases h0:0<=i
 ·rw[if_pos h0]at h
  by_cases h1:i<n
  ·rw[if_pos h1]at h
   have e:i.toNat=j:=Option.some.inj h
   exact⟨by rw[seqIndex_of h0 h1,e],Qa,Qa,h1⟩
  ·rw[if_neg h1]at h;cases h
 ·rw[if_neg h0]at h
  by_cases h1: -(n:Int)<=i
  ·rw[if_pos h1]at h
   have e:(i+n).toNat=j:=Option.some.inj h
   exact⟨by rw[seqIndex_neg Qa h1,e],Qa,h1,Qa⟩
  ·rw[if_neg h1]at h;cases h
theorem xC{α:Type}{xs:List α}{i:Int}{v:α}(h:gC xs i=some v):∃j,seqIndex? i xs.length=some j/\xs[j]? =some v/\j<xs.length/\-(xs.length:Int)<=i/\i<xs.length:=by
 unfold gC at h
 cases e:kW xs.length i with
 |none=>rw[e]at h;cases h
 |some j=>
  rw[e]at h
  obtain⟨h1,h2,h3,h4⟩:=Cq e
  exact⟨j,h1,h,h2,h3,h4⟩
theorem xB{α:Type}{xs:List α}{j:Nat}{v:α}(h:xs[j]? =some v):gC xs (j:Int)=some v:=by
 have hj:j<xs.length:=(List.getElem?_eq_some_iff.mp h).1
 have e:kW xs.length (j:Int)=some j:=by
  unfold kW
  rw[if_pos Qa,if_pos Qa];simp
 unfold gC;rw[e];exact h
def AZ(b:Expr):Prop:=∀o i,subscripted b false o i=operate [o,i] (getItem o i)
def cW(X:Cx)(r:R2):Prop:=
 ∀(value slice:Expr) (pins:List (Addr×Obj)) (s:Shared) (σ:St) (H:Hp) (x y:V) (v u:Value) (Q:VK),aB X pins σ H s->bA x v->bA y u->r x y H Q->
  subscripted slice false v u=operate [v,u] (getItem v u)->wpAny (model X.prog X.w) X.A (subscriptTail value slice v u) (EP X pins σ Q) X.xe s
def gZ(X:Cx)(id:String)(r:V->List V->Hp->VK->Prop):Prop:=
 ∀(pins:List (Addr×Obj)) (s:Shared) (σ:St) (H:Hp) (x:V) (xs:List V) (v:Value) (us:List Value) (Q:VK),aB X pins σ H s->bA x v->aO xs us->r x xs H Q->
  wpAny (model X.prog X.w) X.A (call (.builtin id) (v::us)) (EP X pins σ Q) X.xe s
section
variable{X:Cx}{a b:Expr}{ta tb:TE}{pos:Pos}
theorem cW.or{r r':R2}(h:cW X r)(h':cW X r'):cW X (λ x y H Q=>r x y H Q\/r' x y H Q):=by
 intro value slice pins s σ H x y v u Q I rx ry q hs
 rcases q with q|q
 ·exact h value slice pins s σ H x y v u Q I rx ry q hs
 ·exact h' value slice pins s σ H x y v u Q I rx ry q hs
theorem gZ.or{id:String}{r r':V->List V->Hp->VK->Prop}(h:gZ X id r)(h':gZ X id r'):gZ X id (λ x xs H Q=>r x xs H Q\/r' x xs H Q):=by
 intro pins s σ H x xs v us Q I rx rs q
 rcases q with q|q
 ·exact h pins s σ H x xs v us Q I rx rs q
 ·exact h' pins s σ H x xs v us Q I rx rs q
theorem aV{r:R2}(hr:cW X r)(ha:PE X a ta)(hb:PE X b tb)(hs:AZ b):PE X (.Subscript a b pos) (pQ r ta tb):=by
 intro pins s σ H Q I h
 exact Subscript_ (wU ha hb I h λ v u s2 x y H2 I2 rx ry q=>hr a b pins s2 σ H2 x y v u Q I2 rx ry q (hs _ _))
def At(K:PySem.W.Frag):R2:=λ x y H Q=>∃p xs i v,x= .ref p/\y= .int i/\aN K H p xs/\gC xs i=some v/\Q v H
def fV(K:PySem.W.Frag):R2:=λ x y H Q=>∃p xs i v,x= .ref p/\y= .int i/\aM K H p xs/\gC xs i=some v/\Q v H
def Mo:R2:=λ x y H Q=>∃z i c,x= .str z/\y= .int i/\z.length<=sizeLine/\gC z.cps.toList i=some c/\Q (.str ⟨#[c]⟩) H
theorem ix_list:cW X (At X.K):=by
 intro value slice pins s σ H x y v u Q I rx ry h hs
 obtain⟨p,xs,i,z,rfl,rfl,hq,he,q⟩:=h
 cases rx
 obtain⟨t,rfl⟩:=ry
 obtain⟨its,r,pl,hz⟩:=I.list hq
 obtain⟨j,h1,h2,h3,h4,h5⟩:=xC he
 obtain⟨w,ew,rw'⟩:=r.get h2
 have hl:=r.length
 have hn:=kP
 have fin:EP X pins σ Q w s:=⟨z,H,I,rw',q⟩
 by_cases h0:0<=i
 ·have hj:i.toNat=j:=by
   rw[seqIndex_of h0 h5]at h1
   exact Option.some.inj h1
  exact item_listR pl.isList h0 Qa (by rw[hj];simpa using ew) fin hs
 ·have hj:(i+(its.toArray.size:Int)).toNat=j:=by
   rw[seqIndex_neg Qa h4]at h1
   rw[List.size_toArray,<-hl]
   exact Option.some.inj h1
  exact subscriptTail_builtinR (x:=w) pl.isList.typeIs slot_list_getitem.lookup
   (wpAny_getItem_list_neg (Q:=λ r s'=>r=w/\EP X pins σ Q r s') pl.isList Qa (by rw[List.size_toArray]<;>omega) Qa (by rw[hj];simpa using ew) ⟨rfl,fin⟩) hs
theorem bK:cW X (fV X.K):=by
 intro value slice pins s σ H x y v u Q I rx ry h hs
 obtain⟨p,xs,i,z,rfl,rfl,hq,he,q⟩:=h
 cases rx
 obtain⟨t,rfl⟩:=ry
 obtain⟨its,r,pl,hz⟩:=I.tuple hq
 obtain⟨j,h1,h2,h3,h4,h5⟩:=xC he
 obtain⟨w,ew,rw'⟩:=r.get h2
 have hl:=r.length
 have hn:=kP
 have fin:EP X pins σ Q w s:=⟨z,H,I,rw',q⟩
 exact subscriptTail_builtinR (x:=w) pl.typeIs slot_tuple_getitem.lookup
  (getItem_tuple (j:=j) (Q:=λ r s'=>r=w/\EP X pins σ Q r s') pl Qa Qa (by rw[List.size_toArray,<-hl];exact h1) (by simpa using ew) ⟨rfl,fin⟩) hs
theorem Ti:cW X Mo:=by
 intro value slice pins s σ H x y v u Q I rx ry h hs
 obtain⟨z,i,c,rfl,rfl,hz,he,q⟩:=h
 obtain⟨t,rfl⟩:=rx
 obtain⟨t',rfl⟩:=ry
 obtain⟨j,h1,h2,h3,h4,h5⟩:=xC he
 have hl:z.cps.toList.length=z.length:=by simp[Str.length]
 rw[hl]at h1 h4 h5
 have hn:=kP
 exact tail_any (typeIs_str s z t) slot_str_getitem.lookup (getItem_str (c:=c) (by
  have e1:decide (i< -(2^63:Int))=false:=decide_eq_false Qa
  have e2:decide (i≥2^63)=false:=decide_eq_false Qa
  rw[e1,e2,Bool.or_false]) (by rw[h1];simpa using h2) ⟨.str ⟨#[c]⟩,H,I.tok _,⟨_,rfl⟩,q⟩) hs
theorem Sa(its:List Value)(n j:Nat)(u:Value):Obj.mapSeq (·.setIfInBounds j u) {cls:=.type "list",data:=.seq its.toArray n}={cls:=.type "list",data:=.seq (its.set j u).toArray n}:=by
 simp[Obj.mapSeq]
theorem aB.lst{pins:List (Addr×Obj)}{σ:St}{H:Hp}{s:Shared}{p:Addr}{xs:List V}(I:aB X pins σ H s)(h:H p=some (.lst xs)):
  ∃(its:List Value) (n:Nat),aO xs its/\s.heap.get? p=some {cls:=.type "list",data:=.seq its.toArray n}/\xs.length<=sizeLine:=by
 obtain⟨z,its,n,r,e⟩:=I.hok p _ h
 exact⟨its,n,r,e,z⟩
theorem aB.lstUpd{pins:List (Addr×Obj)}{σ:St}{H:Hp}{s:Shared}{p:Addr}{xs ys:List V}{its its':List Value}{n n':Nat}{f:Obj->Obj}(I:aB X pins σ H s)(h:H p=some (.lst xs))
  (ho:s.heap.get? p=some {cls:=.type "list",data:=.seq its.toArray n}) (hf:f {cls:=.type "list",data:=.seq its.toArray n}={cls:=.type "list",data:=.seq its'.toArray n'}) (r:aO ys its') (hz:ys.length<=sizeLine) (t:Nat):
  aB X pins σ (aD H p (.lst ys)) {s with heap:=s.heap.update p f,toks:=t}:=by
 have e:(s.heap.update p f).get? p=some {cls:=.type "list",data:=.seq its'.toArray n'}:=by
  rw[Heap.get?_update_self f ho (by rw[hf]<;>rfl),hf]
 refine I.write (x:=p) (e:=p) (by rw[h];trivial) (.inl rfl) (λ b u hb q=>(Heap.get?_update_other _ _ (Ne.symm hb)).trans q) ⟨_,e⟩ ?_
 exact⟨hz,its',n',r,e⟩
def Mj:V->V->V->Hp->(Hp->Prop)->Prop:=λ o i v H Q=>∃p xs k j,o= .ref p/\i= .int k/\H p=some (.lst xs)/\kW xs.length k=some j/\Q (aD H p (.lst (xs.set j v)))
theorem Lb:Fm X Mj:=by
 intro pins s σ H o i v ov iv u Q I ro ri rv h
 obtain⟨p,xs,k,j,rfl,rfl,hp,hj,q⟩:=h
 cases ro
 obtain⟨t,rfl⟩:=ri
 obtain⟨its,n,r,ho,hz⟩:=I.lst hp
 obtain⟨h1,h2,h3,h4⟩:=Cq hj
 have hl:=r.length
 have hn:=kP
 have I':aB X pins σ (aD H p (.lst (xs.set j v))) {s with heap:=s.heap.update p (Obj.mapSeq (·.setIfInBounds j u))}:=
  I.lstUpd hp ho (Sa its n j u) (r.set rv j) (by rw[List.length_set];exact hz) s.toks
 by_cases h0:0<=k
 ·have hk:k.toNat=j:=by
   rw[seqIndex_of h0 h4]at h1
   exact Option.some.inj h1
  exact PySem.W.ki_setAt ho h0 Qa (by rw[List.size_toArray,<-hl];exact h4) (by rw[hk];exact⟨_,I',q⟩)
 ·have hk:(k+(its.toArray.size:Int)).toNat=j:=by
   rw[seqIndex_neg Qa h3]at h1
   rw[List.size_toArray,<-hl]
   exact Option.some.inj h1
  exact PySem.W.ki_setBack ho Qa (by rw[List.size_toArray,<-hl];exact h3) Qa (by rw[hk];exact⟨_,I',q⟩)
theorem Kv(lo hi:Option Int)(n:Nat):(sliceBounds lo hi none n).1=((HT.sIx n 0 lo:Nat):Int)/\(sliceBounds lo hi none n).2.1=((HT.sIx n n hi:Nat):Int)/\(sliceBounds lo hi none n).2.2=1:=by
 refine⟨?_,?_,rfl⟩
 ·cases lo with
  |none=>simp[sliceBounds,HT.sIx]
  |some i=>
   simp only[sliceBounds,HT.sIx,Option.getD_none,show(1:Int)>0 from Qc,if_true]
   by_cases h:i<0
   ·simp only[h,if_true]<;>omega
   ·simp only[h,if_false]<;>omega
 ·cases hi with
  |none=>simp[sliceBounds,HT.sIx]
  |some i=>
   simp only[sliceBounds,HT.sIx,Option.getD_none,show(1:Int)>0 from Qc,if_true]
   by_cases h:i<0
   ·simp only[h,if_true]<;>omega
   ·simp only[h,if_false]<;>omega
theorem Kw(its:List Value)(lo hi:Option Int):slicePick its.toArray lo hi none=((its.drop (HT.sIx its.length 0 lo)).take (HT.sIx its.length its.length hi-HT.sIx its.length 0 lo)).toArray:=by
 obtain⟨h1,h2,h3⟩:=Kv lo hi its.toArray.size
 unfold slicePick
 rw[h1,h2,h3]
 simp only[sliceRange_one,pick_run,List.size_toArray]<;>rfl
def Mh(K:PySem.W.Frag):V->Option Int->Option Int->Hp->VK->Prop:=λ x lo hi H Q=>∃a xs,x= .ref a/\aN K H a xs/\∀p,H p=none->Q (.ref p) (aD H p (.lst (mN xs lo hi)))
theorem Kx:jM X (Mh X.K):=by
 intro pins s σ H x v vl vu lo hi sl Q I rx hs pl pu h
 obtain⟨a,xs,rfl,hx,q⟩:=h
 cases rx
 obtain⟨its,r,ht,hz⟩:=I.list hx
 have hlen:=r.length
 refine⟨"list",_,slot_list_getitem.lookup,ht.isList.typeIs,?_⟩
 refine wpAny_getItem_list_slice ht.isList hs pl pu .none Qb ?_ (by rw[List.size_toArray]<;>omega)
 rw[Kw,<-hlen]
 refine⟨.ref s.heap.objs.size,_,I.laid (t':=s.toks) (o:=.lst (mN xs lo hi)) (λ b ob q=>Heap.get?_push_of_some _ q) (Nat.le_refl _) ?_,rfl,q _ (I.hok.fresh (Nat.le_refl _))⟩
 exact⟨Nat.le_trans (Xe xs lo hi) hz,_,0,(r.drop (HT.sIx xs.length 0 lo)).take (HT.sIx xs.length xs.length hi-HT.sIx xs.length 0 lo),Heap.get?_push_size _ rfl⟩
def eS:V->Bool
 |.non=>true
 |.bl _=>true
 |.int _=>true
 |.str _=>true
 |_=>false
def dZ:V->V->Bool
 |.non,.non=>true
 |.bl a,.bl b=>a==b
 |.bl a,.int b=>(if a then 1 else 0)==b
 |.int a,.bl b=>a==(if b then 1 else 0)
 |.int a,.int b=>a==b
 |.str a,.str b=>a==b
 |_,_=>false
theorem Xa{A:Around}{s:Shared}{y x:V}{u v:Value}(ry:bA y u)(rx:bA x v)(fy:eS y=true)(fx:eS x=true):SeqAt.EqAt A s u v (dZ y x):=by
 cases y with
 |non=>
  cases ry
  cases x with
  |non=>cases rx;exact SeqAt.EqAt.same _
  |bl b=>cases rx;exact SeqAt.EqAt.none_bool b
  |int b=>obtain⟨t,rfl⟩:=rx;exact SeqAt.EqAt.none_int b t
  |str b=>obtain⟨t,rfl⟩:=rx;exact SeqAt.EqAt.none_str b t
  |_=>exact absurd (show false=true from fx) Bool.false_ne_true
 |bl a=>
  cases ry
  cases x with
  |non=>cases rx;exact SeqAt.EqAt.bool_none a
  |bl b=>cases rx;exact SeqAt.EqAt.bool_bool a b
  |int b=>obtain⟨t,rfl⟩:=rx;exact SeqAt.EqAt.bool_int a b t
  |str b=>obtain⟨t,rfl⟩:=rx;exact SeqAt.EqAt.bool_str a b t
  |_=>exact absurd (show false=true from fx) Bool.false_ne_true
 |int a=>
  obtain⟨t',rfl⟩:=ry
  cases x with
  |non=>cases rx;exact SeqAt.EqAt.int_none a t'
  |bl b=>cases rx;exact SeqAt.EqAt.int_bool a t' b
  |int b=>obtain⟨t,rfl⟩:=rx;exact SeqAt.EqAt.int_int a t' b t
  |str b=>obtain⟨t,rfl⟩:=rx;exact SeqAt.EqAt.int_str a t' b t
  |_=>exact absurd (show false=true from fx) Bool.false_ne_true
 |str a=>
  obtain⟨t',rfl⟩:=ry
  cases x with
  |non=>cases rx;exact SeqAt.EqAt.str_none a t'
  |bl b=>cases rx;exact SeqAt.EqAt.str_bool a t' b
  |int b=>obtain⟨t,rfl⟩:=rx;exact SeqAt.EqAt.str_int a t' b t
  |str b=>obtain⟨t,rfl⟩:=rx;exact SeqAt.EqAt.str_str a t' b t
  |_=>exact absurd (show false=true from fx) Bool.false_ne_true
 |_=>exact absurd (show false=true from fy) Bool.false_ne_true
def fR(x:V)(u:Value):Bool:=match u with
 |.none=>dZ .non x
 |.bool b=>dZ (.bl b) x
 |.int i _=>dZ (.int i) x
 |.str z _=>dZ (.str z) x
 |_=>false
theorem wO{x y:V}{u:Value}(r:bA y u)(f:eS y=true):fR x u=dZ y x:=by
 cases y with
 |non=>cases r;rfl
 |bl b=>cases r;rfl
 |int i=>obtain⟨t,rfl⟩:=r;rfl
 |str z=>obtain⟨t,rfl⟩:=r;rfl
 |_=>exact absurd (show false=true from f) Bool.false_ne_true
theorem qQ{A:Around}{s:Shared}{x:V}{v:Value}(rx:bA x v)(fx:eS x=true):∀{xs:List V} {us:List Value},aO xs us->xs.all eS=true->∀u∈us,SeqAt.EqAt A s u v (fR x u)
 |_,_,.nil,_=>λ u hu=>by cases hu
 |y::xs,u::us,.cons r t,f=>λ u' hu=>by
  rw[List.all_cons,Bool.and_eq_true]at f
  rcases List.mem_cons.mp hu with rfl|hu
  ·rw[wO r f.1];exact Xa r rx f.1 fx
  ·exact qQ rx fx t f.2 u' hu
theorem cU:dA X (.builtin "len") (λ xs H Q=>∃p ys,xs=[.ref p]/\(aN X.K H p ys\/aM X.K H p ys)/\Q (.int ys.length) H):=by
 intro pins s σ H xs us Q I r h
 obtain⟨p,ys,rfl,hq,q⟩:=h
 obtain⟨u,rfl,rx⟩:=lO r
 cases rx
 have hn:=kP
 rcases hq with hq|hq
 ·obtain⟨its,r',pl,hz⟩:=I.list hq
  have hlen:=r'.length
  exact Calls.call_len_list pl.isList (by simp only[List.size_toArray]<;>omega) ⟨.int ys.length,H,I.tok _,⟨s.toks+1,by rw[List.size_toArray,hlen]⟩,q⟩
 ·obtain⟨its,r',pl,hz⟩:=I.tuple hq
  have hlen:=r'.length
  exact len_tuple pl (by simp only[List.size_toArray]<;>omega) ⟨.int ys.length,H,I.tok _,⟨s.toks+1,by rw[List.size_toArray,hlen]⟩,q⟩
theorem Xz:dA X (.builtin "len") (λ xs H Q=>∃z,xs=[.str z]/\z.length<=sizeLine/\Q (.int z.length) H):=by
 intro pins s σ H xs us Q I r h
 obtain⟨z,rfl,hz,q⟩:=h
 obtain⟨u,rfl,t,rfl⟩:=lO r
 have hn:=kP
 exact len_str Qa ⟨.int z.length,H,I.tok _,⟨_,rfl⟩,q⟩
theorem dA.or{f:Value}{r r':List V->Hp->VK->Prop}(h:dA X f r)(h':dA X f r'):dA X f (λ xs H Q=>r xs H Q\/r' xs H Q):=by
 intro pins s σ H xs us Q I rs q
 rcases q with q|q
 ·exact h pins s σ H xs us Q I rs q
 ·exact h' pins s σ H xs us Q I rs q
theorem Xy:dA X (.type "list") (λ xs H Q=>∃p ys,xs=[.ref p]/\(aN X.K H p ys\/aM X.K H p ys)/\∀l,H l=none->Q (.ref l) (aD H l (.lst ys))):=by
 intro pins s σ H xs us Q I r h
 obtain⟨p,ys,rfl,hq,q⟩:=h
 obtain⟨u,rfl,rx⟩:=lO r
 cases rx
 have fin:∀(its:List Value),aO ys its->ys.length<=sizeLine->∀(h':Heap) (c':Nat),(∀b o',s.heap.get? b=some o'->h'.get? b=some o')->
   h'.get? s.heap.objs.size=some {cls:=.type "list",dict:=none,data:=.seq its.toArray c',slots:= #[]}->EP X pins σ Q (.ref s.heap.objs.size) {s with heap:=h'}:=λ its r' hz h' c' kp e=>
  ⟨.ref s.heap.objs.size,_,I.laid (t':=s.toks) kp (Nat.le_refl _) (show cI X.prog X.w _ h' _ (.lst ys)from⟨hz,its,c',r',e⟩),rfl,q _ (I.hok.fresh (Nat.le_refl _))⟩
 rcases hq with hq|hq
 ·obtain⟨its,r',pl,hz⟩:=I.list hq
  have hlen:=r'.length
  obtain⟨o,ho,hc,n,hd⟩:=pl.isList
  exact call_list_seq p (.inl rfl) ho hc hd (λ h' c' kp e=>fin its r' hz h' c' kp e) (by simp only[List.size_toArray]<;>omega)
 ·obtain⟨its,r',pl,hz⟩:=I.tuple hq
  have hlen:=r'.length
  obtain⟨o,ho,hc,n,hd⟩:=pl
  exact call_list_seq p (.inr rfl) ho hc hd (λ h' c' kp e=>fin its r' hz h' c' kp e) (by simp only[List.size_toArray]<;>omega)
theorem lB:dA X (.type "tuple") (λ xs H Q=>∃p ys,xs=[.ref p]/\((aN X.K H p ys/\∀l,H l=none->Q (.ref l) (aD H l (.tup ys)))\/(aM X.K H p ys/\Q (.ref p) H))):=by
 intro pins s σ H xs us Q I r h
 obtain⟨p,ys,rfl,h⟩:=h
 obtain⟨u,rfl,rx⟩:=lO r
 cases rx
 rcases h with⟨hq,q⟩|⟨hq,q⟩
 ·obtain⟨its,r',pl,hz⟩:=I.list hq
  have hlen:=r'.length
  refine call_tuple_list pl.isList (λ h' kp=>?_) (by simp only[List.size_toArray]<;>omega)
  have I1:aB X pins σ H {s with heap:=h'}:=I.kept (t':=s.toks) kp
  have I2:aB X pins σ (aD H h'.objs.size (.tup ys)) {s with heap:=h'.push {cls:=.type "tuple",data:=.seq its.toArray}}:=
   I1.laid (t':=s.toks) (λ b o e=>Heap.get?_push_of_some _ e) (Nat.le_refl _) (show cI X.prog X.w _ _ _ (.tup ys)from⟨hz,its,r',IsTup.new _ _,_,Heap.get?_push_size _ rfl,rfl⟩)
  exact⟨.ref h'.objs.size,_,I2,rfl,q _ (I1.hok.fresh (Nat.le_refl _))⟩
 ·obtain⟨its,r',pl,hz⟩:=I.tuple hq
  exact call_tuple_same pl ⟨.ref p,H,I,rfl,q⟩
def zN(K:PySem.W.Frag)(T:String)(x:V)(H:Hp):Prop:=match x with
 |.str _=>T= "str"
 |.int _=>T= "int"
 | .ref p=>(T= "list"/\∃xs,aN K H p xs)\/(T= "tuple"/\∃o,K.lookup p=some o/\o.cls= .type "tuple"/\o.dict=none)\/
   (T= "dict"/\((∃kvs,H p=some (.dK kvs))\/∃kvs,H p=some (.dT kvs)))\/(T= "set"/\∃S n,H p=some (.set S n))
 |_=>False
theorem Hj{pins:List (Addr×Obj)}{σ:St}{H:Hp}{s:Shared}{T:String}{x:V}{v:Value}(I:aB X pins σ H s)(r:bA x v)(ty:zN X.K T x H):
  s.TypeIs v T/\∀a,v= .ref a->∃ob,s.heap.get? a=some ob/\ob.dict=none:=by
 cases x with
 |str z=>
  obtain⟨t,rfl⟩:=r
  cases(show T= "str" from ty)
  exact⟨typeIs_str s z t,λ _ e=>nomatch e⟩
 |int i=>
  obtain⟨t,rfl⟩:=r
  cases(show T= "int" from ty)
  exact⟨typeIs_int s i t,λ _ e=>nomatch e⟩
 | ref p=>
  cases r
  rcases ty with⟨rfl,xs,hq⟩|⟨rfl,o,hk,hc,hd⟩|⟨rfl,hk⟩|⟨rfl,S,n,hk⟩
  ·obtain⟨its,_,pl,_⟩:=I.list hq
   refine⟨pl.isList.typeIs,λ a e=>?_⟩
   cases e
   obtain⟨o,n,e,c,hd,_⟩:=pl
   exact⟨o,e,hd⟩
  ·refine⟨⟨o,I.kIn p o hk,hc⟩,λ a e=>?_⟩
   cases e
   exact⟨o,I.kIn _ o hk,hd⟩
  ·have z:∃o,s.heap.get? p=some o/\o.ExactDict:=by
    rcases hk with⟨kvs,hk⟩|⟨kvs,hk⟩
    ·obtain⟨_,_,_,_,o,_,_,e,ex,_⟩:=I.hok p _ hk
     exact⟨o,e,ex⟩
    ·obtain⟨_,_,_,_,o,_,_,e,ex,_⟩:=I.hok p _ hk
     exact⟨o,e,ex⟩
   obtain⟨o,e,ex⟩:=z
   refine⟨⟨o,e,ex.1⟩,λ a e2=>?_⟩
   cases e2
   exact⟨o,e,ex.2.1⟩
  ·obtain⟨o,_,_,_,e,ex,_⟩:=I.hok p _ hk
   refine⟨⟨o,e,ex.1⟩,λ a e2=>?_⟩
   cases e2
   exact⟨o,e,ex.2.1⟩
 |_=>exact False.elim ty
def Kj(K:PySem.W.Frag)(T:String)(r:V->List V->Hp->VK->Prop)(to:TE)(t:TA):TE:=λ σ H Q=>to σ H λ x H1=>zN K T x H1/\t σ H1 λ xs H2=>r x xs H2 Q
variable{o e:Expr}{es:List Expr}{to:TE}{t:TA}{name:Str}{apos cpos:Pos}{T id:String}{r:V->List V->Hp->VK->Prop}
theorem jB(pa:PlainAttrs T)(slot:Slot T name id)(hty:typeOf (.builtin id)=pure (.type "method_descriptor"))(hm:gZ X id r)(ho:PE X o to)(ha:PA X (e::es) t)
  (hbase:attributeBase o name X.env (eval o X.env)=eval o X.env:=by rfl)
  (hfew:((backTo cpos (starEach (e::es) X.env)).all (λ x=>!x.1)&&(backToKw cpos (keywordEach [] X.env)).all (λ x=>x.1.isSome)
   &&decide ((e::es).length+([]:List Keyword).length+(if([]:List Keyword).isEmpty then 0 else 1)<30))=true:=by rfl)
  (hline:(apos.endLine==cpos.line)=true:=by rfl) (hs:starEach (e::es) X.env=(false,eval e X.env)::starEach es X.env:=by rfl) (hplain:(backTo cpos (starEach es X.env)).any (·.1)=false:=by rfl):
  PE X (.Call (.Attribute o name apos) (e::es) [] cpos) (Kj X.K T r to t):=by
 intro pins s σ H Q I h
 refine wpAny_Call_method_late hbase hfew hline rfl (aP (ho pins s σ H _ I h) λ v s1 ⟨x,H1,I1,r1,ty,q1⟩=>?_)
 obtain⟨h1,h2⟩:=Hj I1 r1 ty
 refine⟨T,id,pa,slot,hty,h1,h2,?_⟩
 have hA:=ha cpos pins s1 σ H1 _ I1 q1
 rw[hs]at hA⊢
 refine Calls.callWith_builtin (by show(false||(backTo cpos (starEach es X.env)).any (·.1))=false;rw[hplain]<;>rfl) (Calls.evalArgs_plain ?_)
 exact aP hA λ us s2 ⟨vs,H2,I2,r2,q2⟩=>hm pins s2 σ H2 x vs v us Q I2 r1 r2 q2
end
def BA(X:Cx)(id:String)(r:V->List V->Hp->VK->Prop):Prop:=
 ∀(pins:List (Addr×Obj)) (s:Shared) (σ:St) (H:Hp) (x:V) (xs:List V) (v:Value) (us:List Value) (Q:VK),aB X pins σ H s->bA x v->aO xs us->r x xs H Q->
  wpAny (model X.prog X.w) X.A (call (.builtin id) (v::us)) (EP X pins σ Q) X.xe s
theorem aO.one:∀{x:V} {us:List Value},aO [x] us->∃u,us=[u]/\bA x u
 |_,_,.cons r .nil=>⟨_,rfl,r⟩
theorem aO.two:∀{x y:V} {us:List Value},aO [x,y] us->∃u v,us=[u,v]/\bA x u/\bA y v
 | _,_,_,h=>by
  cases h with
  |cons r t=>
   cases t with
   |cons q u=>cases u;exact⟨_,_,rfl,r,q⟩
theorem aO.zero:∀{us:List Value},aO [] us->us=[]
 |_,.nil=>rfl
theorem aO.dropLast{xs:List V}{us:List Value}(h:aO xs us):aO xs.dropLast us.dropLast:=by
 induction h with
 |nil=>exact .nil
 |cons r t ih=>
  cases t with
  |nil=>exact .nil
  |cons q t'=>exact .cons r ih
theorem aO.eraseIdx:∀{xs:List V} {us:List Value} (i:Nat),aO xs us->aO (xs.eraseIdx i) (us.eraseIdx i)
 |_,_,_,.nil=>.nil
 |_,_,0,.cons _ t=>t
 |_,_,i+1,.cons r t=>.cons r (aO.eraseIdx i t)
theorem aO.reverse{xs:List V}{us:List Value}(h:aO xs us):aO xs.reverse us.reverse:=by
 induction h with
 |nil=>exact .nil
 |cons r t ih=>rw[List.reverse_cons,List.reverse_cons];exact aO.append ih (.cons r .nil)
theorem aO.rep{xs:List V}{us:List Value}(h:aO xs us):∀k:Nat,aO (List.replicate k xs).flatten (List.replicate k us).flatten
 |0=>.nil
 |k+1=>by
  rw[List.replicate_succ,List.replicate_succ,List.flatten_cons,List.flatten_cons]
  exact aO.append h (aO.rep h k)
theorem Dr(its:List Value):∀(k:Nat) (acc:List Value),
  List.foldl (λ x1 x2=>x1++x2) acc.toArray (List.replicate k its.toArray)=(acc++(List.replicate k its).flatten).toArray
 |0,acc=>by simp
 | k+1,acc=>by
  have e:acc.toArray++its.toArray=(acc++its).toArray:=by simp
  have e2:(acc++its)++(List.replicate k its).flatten=acc++(List.replicate (k+1) its).flatten:=by
   rw[List.replicate_succ,List.flatten_cons,List.append_assoc]
  rw[<-e2,<-Dr its k (acc++its),<-e,List.replicate_succ,List.foldl_cons]
section
variable{X:Cx}{pins:List (Addr×Obj)}{σ:St}{H:Hp}{s:Shared}{l b:Addr}{xs ys zs:List V}
theorem aB.lset{its its':List Value}{n:Nat}{f:Array Value->Array Value}{t':Nat}(I:aB X pins σ H s)(hH:H l=some (.lst xs))
  (e:s.heap.get? l=some {cls:=.type "list",data:=.seq its.toArray n}) (hf:f its.toArray=its'.toArray) (hv:aO ys its') (hz:ys.length<=sizeLine):
  aB X pins σ (aD H l (.lst ys)) {s with heap:=s.heap.update l (Obj.mapSeq f),toks:=t'}:=by
 have q:=PySem.IsL.update e f
 rw[hf]at q
 refine I.write (x:=l) (e:=l) (by rw[hH];exact trivial) (.inl rfl) (λ b' u hb hu=>(Heap.get?_update_other s.heap (Obj.mapSeq f) (Ne.symm hb)).trans hu) ⟨_,q⟩ ?_
 exact⟨hz,its',_,hv,q⟩
theorem aB.lnew{its:List Value}{t':Nat}(I:aB X pins σ H s)(hv:aO ys its)(hz:ys.length<=sizeLine):
  aB X pins σ (aD H s.heap.objs.size (.lst ys)) {s with heap:=s.heap.push {cls:=.type "list",data:=.seq its.toArray},toks:=t'}:=
 I.laid (λ _ _ q=>Heap.get?_push_of_some _ q) (Nat.le_refl _) ⟨hz,its,0,hv,Heap.get?_push_size _ rfl⟩
theorem aB.fresh(I:aB X pins σ H s):H s.heap.objs.size=none:=I.hok.fresh (Nat.le_refl _)
theorem aB.lstM(I:aB X pins σ H s)(hH:H l=some (.lst xs)):xs.length<=sizeLine/\∃(its:List Value) (n:Nat),aO xs its/\xs.length=its.length/\s.heap.get? l=some {cls:=.type "list",data:=.seq its.toArray n}:=by
 obtain⟨z,its,n,r,e⟩:=I.hok l _ hH
 exact⟨z,its,n,r,r.length,e⟩
theorem Ri{n:Nat}(h:n<=sizeLine):Builtin.List.listTooLong n=false:=by
 unfold Builtin.List.listTooLong
 exact decide_eq_false Qa
end
section
variable{X:Cx}
def Na:V->List V->Hp->VK->Prop:=λ x vs H Q=>∃l xs y,x= .ref l/\vs=[y]/\H l=some (.lst xs)/\xs.length<sizeLine/\Q .non (aD H l (.lst (xs++[y])))
theorem qN:BA X "list.append" Na:=by
 intro pins s σ H x vs v us Q I rx rv h
 obtain⟨l,xs,y,rfl,rfl,hH,hz,q⟩:=h
 cases rx
 obtain⟨u,rfl,ru⟩:=rv.one
 obtain⟨z,its,n,r,hl,e⟩:=I.lstM hH
 refine call_meets F.slot_list_append ⟨_,e,rfl⟩ F.entry_list_append (F.args_list_append_2 _ _) (PySem.list_append l its.toArray n u (by rw[List.size_toArray];omega)) ⟨e,?_⟩
 refine⟨.non,_,I.lset (its':=its++[u]) hH e Qb (r.append (.cons ru .nil)) ?_,rfl,q⟩
 rw[List.length_append,List.length_singleton]
 omega
def Mz:R2:=λ x y H Q=>∃l b xs zs,x= .ref l/\y= .ref b/\H l=some (.lst xs)/\H b=some (.lst zs)/\xs.length+zs.length<=sizeLine/\∀p,H p=none->Q (.ref p) (aD H p (.lst (xs++zs)))
theorem Bj:bV X (binaryOp .Add) Mz:=by
 intro pins s σ H x y v u Q I rx ry h
 obtain⟨l,b,xs,zs,rfl,rfl,hH,hB,hz,q⟩:=h
 cases rx
 cases ry
 obtain⟨z,its,n,r,hl,e⟩:=I.lstM hH
 obtain⟨z2,its2,n2,r2,hl2,e2⟩:=I.lstM hB
 refine PySem.P.add_list e e2 ?_ (by rw[List.size_toArray,List.size_toArray];omega)
 have ea:its.toArray++its2.toArray=(its++its2).toArray:=by simp
 rw[ea]
 exact⟨.ref _,_,I.lnew (t':=s.toks) (r.append r2) (by rw[List.length_append];omega),rfl,q _ I.fresh⟩
def Mk:R2:=λ x y H Q=>∃l k xs,x= .ref l/\y= .int k/\H l=some (.lst xs)/\-(2^63)<=k/\k<2^63/\xs.length*k.toNat<=sizeLine/\
 ∀p,H p=none->Q (.ref p) (aD H p (.lst (List.replicate k.toNat xs).flatten))
theorem Cc{α:Type}(xs:List α)(k:Nat):(List.replicate k xs).flatten.length=k*xs.length:=by
 induction k with
 |zero=>simp
 |succ k ih=>rw[List.replicate_succ,List.flatten_cons,List.length_append,ih,Nat.succ_mul,Nat.add_comm]
theorem On:bV X (binaryOp .Mult) Mk:=by
 intro pins s σ H x y v u Q I rx ry h
 obtain⟨l,k,xs,rfl,rfl,hH,h1,h2,hz,q⟩:=h
 cases rx
 obtain⟨t,rfl⟩:=ry
 obtain⟨z,its,n,r,hl,e⟩:=I.lstM hH
 have hlen:its.toArray.size*k.toNat<=sizeLine:=by rw[List.size_toArray,<-hl];exact hz
 have hcap:¬its.toArray.size*k.toNat>(2^63-1)/8:=by
  have:(sizeLine:Nat)<=(2^63-1)/8:=by decide
  omega
 have hfit:¬(!Builtin.List.listFitsIndex k)=true:=by
  rw[fitsIndex_both h1 h2]
  exact Bool.false_ne_true
 have hlong:¬Builtin.List.listTooLong (its.toArray.size*k.toNat)=true:=by
  rw[Ri hlen]
  exact Bool.false_ne_true
 have hnew:List.foldl (λ x1 x2=>x1++x2) #[] (List.replicate (if its.toArray.isEmpty=true then 0 else k.toNat) its.toArray)=(List.replicate k.toNat its).flatten.toArray:=by
  have f0:∀m:Nat,List.foldl (λ x1 x2=>x1++x2) #[] (List.replicate m its.toArray)=(List.replicate m its).flatten.toArray:=λ m=>by
   have:=Dr its m []
   rw[List.nil_append]at this
   exact this
  rw[f0]
  cases its with
  |nil=>simp
  |cons a r'=>rw[if_neg Qb]
 refine wpAny_binaryOp_repeat_ref (T:= "list") (U:= "int") Qc ⟨_,e,rfl⟩ (λ s'=>typeIs_int s' k t) noFill_list_mul F.fills_int_mul F.slot_int_rmul repeat_list F.slot_int_index.lookup
  (call_meets F.slot_int_rmul (typeIs_int s k t) F.entry_int_rmul (F.args_int_rmul_2 _ _) (int___rmul___int_list k t l its.toArray n)
   ⟨e,rfl,⟨_,e,rfl⟩,call_meets F.slot_list_mul ⟨_,e,rfl⟩ F.entry_list_mul (F.args_list_mul_2 _ _) (AutoListH.list___mul___list_int_3 l its.toArray n k t hfit hcap hlong) ⟨e,?_⟩⟩)
 rw[hnew]
 exact⟨.ref _,_,I.lnew (t':=s.toks) (r.rep k.toNat) (by rw[Cc,Nat.mul_comm];exact hz),rfl,q _ I.fresh⟩
end
section
variable{prog:Program}{w:World}{A:Around}{E:Qe}{s:Shared}
end
section
variable{X:Cx}
end
end L2
namespace Att
open PySem PySem.W PySem.Calls PyProof.Rows
theorem Tq{P:Params}{h:Heap}:∀(ns:List Int) (vs:List Value),WellAll P h vs (ns.map WData.int)->IntsAre vs ns:=by
 intro ns
 induction ns with
 |nil=>
  intro vs w
  rw[List.map_nil]at w
  cases w
  exact .nil
 | cons n ns ih=>
  intro vs w
  rw[List.map_cons]at w
  cases w with
  |cons a b=>
   cases a
   exact .cons _ _ (ih _ b)
theorem Ll{l:OpenLaw}{n:Nat}(hn:l.most=some n){P:Params}{h:Heap}{args:List WData}{vals:List Value}
  (hpre:l.row.toRowW.claim.pre args=true) (hwl:WellAll P h vals args):
  ∃a vs ns,vals=[Value.ref a]/\args=[WData.list (ns.map WData.int)]/\h.get? a=some {cls:=.type "list",data:=.seq vs.toArray}/\IntsAre vs ns/\ns.length<=n:=by
 have hsh:WShape.hasAll [] args [.list .int]=true:=(pre_splitW hpre).1
 have hc:l.pre.holds [] {args:=args}=true:=(pre_splitW hpre).2
 obtain⟨d,r,rfl,h1,h2⟩:=hasAllW_cons hsh
 obtain rfl:=hasAllW_nil h2
 obtain⟨xs,rfl,h3⟩:=hasW_list h1
 obtain⟨ns,rfl⟩:=items_int h3
 have hlen:ns.length<=n:=by
  unfold OpenLaw.pre at hc
  have h4:(WTm.not (.lt (.lit (.int (n:Int))) (.len (.arg 0)))).holds [] {args:=[.list (ns.map .int)]}=true:=by
   have h4:=(holds_andW hc).1
   rw[hn]at h4
   exact h4
  have h5:=condW_of h4 (w_not (w_lt w_lit (w_len_list (w_arg rfl))))
  rw[List.length_map]at h5
  refine Nat.le_of_not_lt λ q=>?_
  have q':(n:Int)<((ns.length:Nat):Int):=by omega
  first
   |(rw[decide_eq_true q']at h5;exact absurd h5 Qc)
   |(simp at h5;omega)
 cases hwl with
 |cons w1 w2=>
  cases w2
  cases w1 with
  |list ho hall=>exact⟨_,_,ns,rfl,rfl,ho,Tq ns _ hall,hlen⟩
theorem Nk(l:OpenLaw)(args:List WData):l.row.toRowW.claim.post args (.bool true) args=true:=
 postW_of (r:=l.row.toRowW) (X:=(true==true))
  (show WShape.has [] (.bool true) .bool=true by first|rfl|decide|simp[WShape.has,WShape.arms,WShape.armsAll])
  (show(WTm.eq .res (.lit (.bool true))).value [] {args:=args,res:=some (.bool true),after:=args}=some (.bool (true==true))from w_eq_bool (w_res rfl) w_lit) rfl
theorem attach_call{l:OpenLaw}{n:Nat}{q:Program}{loose:List Str}{XP:(Str->Option Value)->Heap->Prop}{YP:World->Heap->Prop}{d:DefRec}
  (hn:l.most=some n) (hdf:d.params.defaults=[])
  (call:∀(w:World) (s₀ s₁:Shared) (mg mb:Str->Option Value) (fa:Addr) (o:Obj) (pm cd doc:Value) (a:Addr) (vs:List Value) (ns:List Int),
   Ground q loose [] XP w s₀ mg mb s₁.heap->YP w s₁.heap->
   s₁.heap.get? fa=some o->o.data= .func (docDef d.name d.params d.body d.scope pm cd doc)->s₁.heap.CodeRec cd d.name->mg d.name=some (.ref fa)->
   s₁.heap.get? a=some {cls:=.type "list",data:=.seq vs.toArray}->IntsAre vs ns->ns.length<=n->s₁.gens= #[]->
   codeAny (model l.prog w) callerA (.call (.ref fa) ⟨[.ref a],[]⟩) (λ r s'=>r= .ok (.ret (.bool true))/\OldK s₁.heap s'.heap/\s'.os=s₁.os/\AllBare s'.gens) s₁):
  WalkO q loose XP YP l.row.toRowW d [] (λ f vs=>PySem.call f vs):=by
 intro w s₀ s₁ mg mb G Y fa o pm cd doc dV kV ho hd hcd hD hmg hg args vals as hpre hlay hrd hwl hlo
 obtain rfl:dV= .none:=Dflts.none hD hdf
 obtain rfl:kV= .none:=Dflts.noKw hD
 obtain⟨a,vs,ns,rfl,rfl,hobj,hints,hlen⟩:=Ll hn hpre hwl
 refine enter_call (codeAny_mono (call w s₀ s₁ mg mb fa o pm cd doc a vs ns G Y ho (fd_plain hd) hcd hmg hobj hints hlen hg) λ r s' hq=>?_)
 obtain⟨rfl,h2,h3,h4⟩:=hq
 exact⟨.inl ⟨.bool true,.bool true,[],rfl,λ _=>rfl,.bool true,Nk l _,λ _=>⟨List.Pairwise.nil,λ _ hm=>(nomatch hm)⟩⟩,h2,h3,h4⟩
section
variable{prog:Program}{w:World}{A:Around}{E:Qe}{s:Shared}{K:Frag}
end
end Att
namespace L2
open PySem PySem.Spec PyProof.Rows
theorem zL:∀{vs:List Value} {ns:List Int},IntsAre vs ns->aO (ns.map V.int) vs
 |_,_,.nil=>.nil
 |_,_,.cons n t h=>.cons ⟨t,rfl⟩ (zL h)
def eT(s:Stmt):Arguments:=match s with
 |.FunctionDef _ a _ _ _ _ _ _ _ _=>a
 |_=>{posonlyargs:=[],args:=[],vararg:=none,kwonlyargs:=[],kw_defaults:=[],kwarg:=none,defaults:=[]}
def dG(s:Stmt):List Stmt:=match s with
 |.FunctionDef _ _ b _ _ _ _ _ _ _=>b
 |_=>[]
def aW(s:Stmt):Scope:=match s with
 |.FunctionDef _ _ _ _ _ _ sc _ _ _=>sc
 |_=>{kind:=.function,names:=[],isGenerator:=false,isCoroutine:=false}
abbrev bP:dI:=λ _ _ _ _ _ _=>False
abbrev E0:XK:=λ _ _ _=>False
theorem Oi{X:Cx}:xK bP X E0:=λ _ _ _ _ _ _ _ h=>h.elim
structure bR(K:PySem.W.Frag)(x qual:Str)(st:Stmt)(f:Addr)(fd:FuncData):Prop where
 ex:∃(oc:Value) (od:Option Addr) (kV doc pm:Value) (an:Option Addr) (cdv ct:Value) (osl:Array (Option Value)),
  fd=PySem.W.fnOf x qual (eT st) (dG st) (aW st) .none kV doc pm an cdv ct/\K.lookup f=some ⟨oc,od,.func fd,osl⟩/\PySem.W.codeIn K cdv qual=true
 kp:PySem.W.keepIn K (.ref f)=true
section
variable{P:Program}{w:World}{K:PySem.W.Frag}{mg:Str->Option Value}{base:Heap}
theorem bR.ok{x qual:Str}{st:Stmt}{f:Addr}{fd:FuncData}{N ps:List Str}{k:Nat}{sp:Sp}(F:bR K x qual st f fd)(S:bW N ps (aW st))(len:∀vs H Q E,sp vs H Q E->vs.length=ps.length)
  (hbody:∀(cdv:Value) (A:Around) (outer:List Env) (s:Shared) (H:Hp) (vs:List V) (Q:VK) (E:XK),bT k (A.deeper (envOfC qual (aW st) s.heap.objs.size f cdv))->sp vs H Q E->
   ∃t,dH (gB bP P w K mg base N qual (aW st) f cdv A outer s H E).nox (dG st) t/\t {nx:=λ _ H'=>Q .non H',rt:=Q} (start N vs) H):bE P w K mg base bP (k+1) f fd ps sp:=by
 obtain⟨oc,od,kV,doc,pm,an,cdv,ct,osl,rfl,lk,hcd⟩:=F.ex
 refine rA lk hcd S len λ A outer s H vs Q E hr hsp=>?_
 obtain⟨t,h,q⟩:=hbody cdv A outer s H vs Q E hr hsp
 exact⟨t,h.nox,q⟩
theorem bR.binds{x qual:Str}{st:Stmt}{f:Addr}{fd:FuncData}{ps:List Str}(F:bR K x qual st f fd)
  (h:∀(kV doc pm:Value) (an:Option Addr) (cdv ct:Value) (us:List Value),us.length=ps.length->bindArgs (PySem.W.fnOf x qual (eT st) (dG st) (aW st) .none kV doc pm an cdv ct) ⟨us,[]⟩=pure (ps.zip us)):hU K fd ps []:=by
 obtain⟨oc,od,kV,doc,pm,an,cdv,ct,osl,rfl,lk,hcd⟩:=F.ex
 exact .all (h kV doc pm an cdv ct)
theorem Vm{x qual:Str}{st:Stmt}{f:Addr}{oc:Value}{od an:Option Addr}{osl:Array (Option Value)}{kV doc pm cdv ct:Value}(l:K.lookup f=some ⟨oc,od,.func (PySem.W.fnOf x qual (eT st) (dG st) (aW st) .none kV doc pm an cdv ct),osl⟩)
  (c:PySem.W.codeIn K cdv qual=true) (k:PySem.W.keepIn K (.ref f)=true):bR K x qual st f (PySem.W.fnOf x qual (eT st) (dG st) (aW st) .none kV doc pm an cdv ct):=⟨⟨oc,od,kV,doc,pm,an,cdv,ct,osl,rfl,l,c⟩,k⟩
end
theorem cM{n:Nat}(h:n<=1000):n<sizeLine:=Nat.lt_of_le_of_lt h Qc
section
variable{X:Cx}
theorem pv(i:Nat){x:Str}{pos:Pos}(hN:X.N[i]? =some x:=by rfl)(hv:xF X.env.scope x:=by first|exact Or.inl rfl|exact Or.inr (Or.inl rfl)|exact Or.inr (Or.inr rfl))(hd:(x==("__debug__" :Str))=false:=by decide)
  (hcd:(x==("__classdict__" :Str))=false:=by decide):PE X (.Name x pos) (zS i):=Nw hN hv hd hcd
end
theorem cZ{A B:Prop}(h:B):if false=true then A else B:=by
 rw[if_neg Bool.false_ne_true]
 exact h
theorem mK{A B:Prop}(h:A):if true=true then A else B:=by
 rw[if_pos rfl]
 exact h
theorem bU{c A B:Prop}[Decidable c](h1:c->A)(h2:¬c->B):if c then A else B:=by
 by_cases h:c
 ·rw[if_pos h]
  exact h1 h
 ·rw[if_neg h]
  exact h2 h
def gX(H H':Hp):Prop:=∀b o,H b=some o->H' b=some o
theorem gX.refl(H:Hp):gX H H:=λ _ _ h=>h
theorem gX.trans{H H1 H2:Hp}(a:gX H H1)(b:gX H1 H2):gX H H2:=λ c o h=>b c o (a c o h)
theorem gX.free{H H':Hp}(e:gX H H'){l:Addr}(h:H' l=Option.none):H l=Option.none:=by
 cases q:H l with
 |none=>rfl
 |some o=>
  rw[e l o q]at h
  cases h
theorem gX.seq{K:PySem.W.Frag}{H H':Hp}{a:Addr}{xs:List V}(e:gX H H')(h:aN K H a xs):aN K H' a xs:=by
 rcases h with(h|⟨o,h⟩)|h
 ·exact .inl (.inl (e _ _ h))
 ·exact .inl (.inr ⟨o,e _ _ h⟩)
 ·exact .inr h
theorem Dq{α β:Type}{f:α->β->Sem (ForInStep β)}(g:β->α->β):∀{l:List α} (c:β),(∀x∈l,∀c,f x c=pure (.yield (g c x)))->forIn l c f=pure (l.foldl g c)
 |[],_,_=>rfl
 |x::l,c,h=>by
  rw[List.forIn_cons,h x List.mem_cons_self,pure_bind]
  exact Dq g (g c x) λ y hy=>h y (List.mem_cons_of_mem _ hy)
def eV(env:Env)(names:List (Str×NameKind)):List (Str×Addr):=
 names.foldl (λ cs y=>if y.2== .free then(y.1,(env.cells.lookup y.1).getD 0)::cs else cs) []
theorem wR{scope:Scope}{env:Env}(h:∀y∈scope.names,y.2= .free->∃c,env.cells.lookup y.1=some c):closureFor scope env=pure (eV env scope.names):=by
 simp only[closureFor]
 rw[Dq (λ cs y=>if y.2== .free then(y.1,(env.cells.lookup y.1).getD 0)::cs else cs) [] (λ x hx c=>by
  obtain⟨n,kind⟩:=x
  cases e:(kind==NameKind.free)with
  |false=>simp only[e,Bool.false_eq_true,if_false]
  |true=>
   obtain⟨a,ha⟩:=h (n,kind) hx (by simpa using e)
   have ha':env.cells.lookup n=some a:=ha
   simp only[e,if_true,cellOf,ha',Option.getD_some]
   rfl)]
 rfl
theorem Em{env:Env}(P:List (Str×Addr)->Prop):∀(names:List (Str×NameKind)) (cs:List (Str×Addr)),P cs->(∀y∈names,∀cs,P cs->P (if y.2== .free then(y.1,(env.cells.lookup y.1).getD 0)::cs else cs))->
  P (names.foldl (λ cs y=>if y.2== .free then(y.1,(env.cells.lookup y.1).getD 0)::cs else cs) cs)
 |[],_,h,_=>h
 |y::r,cs,h,k=>by
  rw[List.foldl_cons]
  exact Em P r _ (k y List.mem_cons_self cs h) λ z hz=>k z (List.mem_cons_of_mem _ hz)
theorem eL{env:Env}{names:List (Str×NameKind)}(h:∀y∈names,y.2= .free->∃c,env.cells.lookup y.1=some c){n:Str}{c:Addr}(e:(eV env names).lookup n=some c):env.cells.lookup n=some c:=by
 have q:∀n c,(eV env names).lookup n=some c->env.cells.lookup n=some c:=Em (λ cs=>∀n c,cs.lookup n=some c->env.cells.lookup n=some c) names [] (λ _ _ z=>by simp at z) λ y hy cs ih n c z=>by
  cases e:(y.2==NameKind.free)with
  |false=>rw[e]at z;exact ih n c z
  | true=>
   rw[e,if_pos rfl]at z
   obtain⟨a,ha⟩:=h y hy (by simpa using e)
   rw[ha,Option.getD_some]at z
   rw[List.lookup_cons]at z
   cases e2:(n==y.1)with
   |false=>rw[e2]at z;exact ih n c z
   |true=>
    rw[e2]at z
    have e3:n=y.1:=by simpa using e2
    rw[e3,ha]
    exact z
 exact q n c e
theorem rH{env:Env}{names:List (Str×NameKind)}{n:Str}(h:(n,NameKind.free)∈names):∃c,(eV env names).lookup n=some c:=by
 have gen:∀(names:List (Str×NameKind)) (cs:List (Str×Addr)),((n,NameKind.free)∈names\/∃c,cs.lookup n=some c)->∃c,(names.foldl (λ cs y=>if y.2== .free then(y.1,(env.cells.lookup y.1).getD 0)::cs else cs) cs).lookup n=some c:=by
  intro names
  induction names with
  |nil=>intro cs z;exact z.elim (λ z=>by simp at z) id
  | cons y r ih=>
   intro cs z
   rw[List.foldl_cons]
   refine ih _ ?_
   rcases z with z|⟨c,z⟩
   ·rcases List.mem_cons.mp z with z|z
    ·subst z
     exact .inr ⟨(env.cells.lookup n).getD 0,Qb⟩
    ·exact .inl z
   ·refine .inr ?_
    split
    ·rw[List.lookup_cons]
     cases n==y.1 with
     |false=>exact⟨c,z⟩
     |true=>exact⟨_,rfl⟩
    ·exact⟨c,z⟩
 exact gen names [] (.inl h)
theorem vS{env:Env}{x:Str}:∀{names:List (Str×NameKind)},
  (names.map λ (n,k)=>if(k==NameKind.free&&env.scope.kind== .function&&env.kindOf n==some .cell)then(n,NameKind.cell)else(n,k)).lookup x=
   (names.lookup x).map λ k=>if(k==NameKind.free&&env.scope.kind== .function&&env.kindOf x==some .cell)then NameKind.cell else k
 |[]=>rfl
 | (n,k)::r=>by
  have ih:= @vS env x r
  show List.lookup x ((if(k==NameKind.free&&env.scope.kind== .function&&env.kindOf n==some .cell)=true then(n,NameKind.cell)else(n,k))::_)=_
  cases hx:x==n with
  |true=>
   have e:x=n:=by simpa using hx
   subst e
   by_cases hc:(k==NameKind.free&&env.scope.kind== .function&&env.kindOf x==some .cell)=true
   ·rw[if_pos hc];simp only[List.lookup_cons,beq_self_eq_true,Option.map_some];rw[if_pos hc]
   ·rw[if_neg hc];simp only[List.lookup_cons,beq_self_eq_true,Option.map_some];rw[if_neg hc]
  |false=>
   by_cases hc:(k==NameKind.free&&env.scope.kind== .function&&env.kindOf n==some .cell)=true
   ·rw[if_pos hc];simp only[List.lookup_cons,hx];exact ih
   ·rw[if_neg hc];simp only[List.lookup_cons,hx];exact ih
structure sH(env:Env)(scope:Scope):Prop where
 kind:scope.kind= .function
 cell:∀y∈scope.names,y.2≠ .cell
 loc:∀y∈scope.names,y.2= .local->scope.names.lookup y.1=some .local
 free:∀y∈scope.names,y.2= .free->env.scope.names.lookup y.1=some .cell\/env.scope.names.lookup y.1=some .free
abbrev cX(X:Cx)(scope:Scope)(Nc:List Str)(C:Addr)(s₂:Shared)(H₂:Hp)(ex:List Addr):Cx where
 prog:=X.prog
 w:=X.w
 K:=X.K
 mg:=X.mg
 base:=X.base
 A:=X.A
 N:=Nc
 s₀:=s₂
 H₀:=H₂
 env:=compEnvC scope (eV X.env scope.names) C X.env
 outer:=X.stack
 stack:=X.stack
 ex:=ex
 fn:=λ _=>false
 calm:=true
 pn:=[]
 xe:=λ _ _=>False
section
variable{X:Cx}
def cS(k:Nat)(js:List Nat)(σ:St):St:=List.replicate k none++js.map λ j=>(σ[j]?).getD none
theorem rF{k:Nat}{js:List Nat}{σ:St}{i:Nat}{v:V}(h:(cS k js σ)[i]? =some (some v)):∃t j,i=k+t/\js[t]? =some j/\σ[j]? =some (some v):=by
 unfold cS at h
 by_cases hi:i<k
 ·rw[List.getElem?_append_left (by simpa using hi),List.getElem?_replicate,if_pos hi]at h
  cases h
 ·rw[List.getElem?_append_right (by simpa using hi),List.length_replicate,List.getElem?_map]at h
  cases e:js[i-k]? with
  |none=>rw[e]at h;cases h
  |some j=>
   rw[e]at h
   have h':(σ[j]?).getD none=some v:=Option.some.inj h
   refine⟨i-k,j,Qa,e,?_⟩
   cases e2:σ[j]? with
   |none=>rw[e2]at h';cases h'
   |some o=>rw[e2]at h';exact congrArg some h'
theorem rG{k:Nat}{js:List Nat}{σ:St}:(cS k js σ).length=k+js.length:=by
 unfold cS
 rw[List.length_append,List.length_replicate,List.length_map]
theorem Tp{pins:List (Addr×Obj)}{σ:St}{H:Hp}{s s4:Shared}{scope:Scope}{Nc:List Str}{k:Nat}{js:List Nat}{C:Addr}{fp:List Addr}(I:aB X pins σ H s)(hc:X.calm=true)(S:sH X.env scope)
  (hjs:(Nc.drop k).map some=js.map (X.N[·]?)) (hfr:∀x∈Nc.drop k,scope.names.lookup x=some .free) (hk:k<=Nc.length)
  (hfp:∀b∈fp,dW X pins H b) (hlt:∀b∈fp,b<s.heap.objs.size) (hC:s.heap.objs.size<=C) (hn:s4.heap.Ns C λ _=>none) (hkeep:∀b o,s.heap.get? b=some o->s4.heap.get? b=some o)
  (ho:s4.os=s.os) (hg:s4.gens=s.gens):aB (cX X scope Nc C s H fp) [] (cS k js σ) H s4:=by
 have fr:∀y∈scope.names,y.2= .free->∃c,X.env.cells.lookup y.1=some c:=λ y hy e=>I.ok.has y.1 (S.free y hy e)
 have kinds:∀x,(relabel scope X.env).names.lookup x=some .cell\/(relabel scope X.env).names.lookup x=some .free->(x,NameKind.free)∈scope.names:=λ x hx=>by
  have q:(relabel scope X.env).names.lookup x=(scope.names.lookup x).map λ k=>if(k==NameKind.free&&X.env.scope.kind== .function&&X.env.kindOf x==some .cell)then NameKind.cell else k:=vS
  cases e:scope.names.lookup x with
  |none=>rw[q,e]at hx;rcases hx with z|z<;>cases z
  |some kd=>
   have mem:=PySem.mem_of_lookup e
   cases kd with
   |free=>exact mem
   |cell=>exact absurd rfl (S.cell _ mem)
   |_=>rw[q,e]at hx;rcases hx with z|z<;>cases z
 have lenJ:js.length=Nc.length-k:=by
  have:=congrArg List.length hjs
  simpa using this.symm
 refine⟨⟨I.ok.mod,S.kind,I.ok.glob,I.ok.blt,hC,λ x y c h1 h2=>I.ok.inj x y c (eL fr h1) (eL fr h2),λ x hx=>rH (kinds x hx),λ x c z=>(by cases z),λ _=>I.ok.hd hc,I.ok.frames,.inl rfl,λ b hb=>⟨?_,λ x c e=>?_⟩,I.bs,Nat.le_trans I.ok.bsz I.sz,λ b o e hb=>?_,λ b hb z=>?_,I.stack,I.stkFree⟩,
  ho,?_,Un.kept hkeep,⟨_,hn,λ i x v e1 e2 e3=>?_⟩,λ x c e=>?_,I.hok.fresh hC,λ x c e=>I.freeC x c (eL fr e),λ p hp=>absurd (show p∈([]:List (Addr×Obj))from hp) Qb,I.hok.kept hkeep,?_⟩
 ·exact Nat.ne_of_lt (Nat.lt_of_lt_of_le (hlt b hb) hC)
 ·exact(hfp b hb).2.2.2.2.1 x c (eL fr e)
 ·rcases(hfp b hb).2.2.2.1 with z|z
  ·exact I.ok.noex b o e z
  ·exact absurd (Nat.lt_of_lt_of_le (Heap.lt_size e) (Nat.le_trans I.ok.bsz z)) (Nat.lt_irrefl _)
 ·rcases List.mem_cons.mp (I.stkSub b z)with z|z
  ·exact(hfp b hb).2.1 z
  ·exact(hfp b hb).2.2.1 z
 ·rw[hg];exact⟨I.bare.1,Nat.le_refl _⟩
 ·obtain⟨t,j,rfl,hj,hv⟩:=rF e2
  have ex:X.N[j]? =some x:=by
   have q:=congrArg (λ l=>l[t]?) hjs
   simp only[List.getElem?_map,List.getElem?_drop,hj,Option.map_some]at q
   have e1':Nc[k+t]? =some x:=e1
   rw[e1']at q
   exact(Option.some.inj q).symm
  have hx:scope.names.lookup x=some .free:=hfr x (by
   have:(Nc.drop k)[t]? =some x:=by rw[List.getElem?_drop];exact e1
   exact List.mem_of_getElem? this)
  have kx:=S.free (x,.free) (PySem.mem_of_lookup hx) rfl
  obtain⟨m,_,hl⟩:=I.loc
  obtain⟨u,r,l⟩:=hl j x v ex hv (.inr kx)
  obtain⟨c',hc'⟩:=rH (env:=X.env) (PySem.mem_of_lookup hx)
  have q:(relabel scope X.env).names.lookup x=(scope.names.lookup x).map λ k=>if(k==NameKind.free&&X.env.scope.kind== .function&&X.env.kindOf x==some .cell)then NameKind.cell else k:=vS
  refine⟨u,r,.inr ⟨?_,c',hc',?_⟩⟩
  ·show(relabel scope X.env).names.lookup x=some .cell\/(relabel scope X.env).names.lookup x=some .free
   rw[q,hx,Option.map_some]
   split
   ·exact .inl rfl
   ·exact .inr rfl
  ·rcases l with⟨k1,_⟩|⟨_,c,hcc,z⟩
   ·have k1':X.env.scope.names.lookup x=some .local:=k1
    have kx':X.env.scope.names.lookup x=some .cell\/X.env.scope.names.lookup x=some .free:=kx
    rw[k1']at kx'
    rcases kx' with z|z<;>cases z
   ·have e:c=c':=by
     have:=eL fr hc'
     rw[hcc]at this
     exact Option.some.inj this
    subst e
    exact z.keeps hkeep
 ·obtain⟨v,z⟩:=I.cell x c (eL fr e)
  exact⟨v,z.keeps hkeep⟩
 ·rw[rG]
  show _=Nc.length
  omega
def lH(X:Cx)(ifs:List Expr)(t:TT):Prop:=
  ∀ (pins:List (Addr×Obj)) (s:Shared) (σ:St) (H:Hp) (Q:Bool→Hp→Prop),aB X pins σ H s→t σ H Q→
    wpAny (model X.prog X.w) X.A (forIn ifs true λ c r=>if r=true then do let ok←isTrue c X.env (eval c X.env);pure (ForInStep.yield ok)else pure (ForInStep.yield r)) (TP X pins σ Q) X.xe s
def gJ:TT:=λ _ H Q=>Q true H
theorem kA:lH X [] gJ:=λ _ _ _ H _ I h=>wpAny_tests_nil ⟨H,I,h⟩
theorem jZ{c:Expr}{t:TT}(h:PT X c t):lH X [c] t:=λ pins s σ H Q I q=>wpAny_tests_one (h pins s σ H Q I q)
def lJ(k:Nat)(g:TG):Prop:=∀x σ H Q,k<=σ.length->g x σ H Q->g x σ H λ σ2 H2=>Q σ2 H2/\σ2.length=σ.length/\∀j,k<=j->σ2[j]? =σ[j]?
def rY(k:Nat)(g:gF):Prop:=∀x σ H Q,k<=σ.length->g x σ H Q->g x σ H λ σ2 H2=>Q σ2 H2/\σ2.length=σ.length/\∀j,k<=j->σ2[j]? =σ[j]?
theorem fH{i k:Nat}(h:i<k):lJ k (oJ i):=λ x σ H Q _ q=>⟨q,Qb,λ j hj=>List.getElem?_set_ne Qa⟩
theorem Ve{k:Nat}:rY k Dm:=λ x σ H Q _ ⟨e,q⟩=>⟨e,q,rfl,λ _ _=>rfl⟩
theorem De{i k:Nat}{gs:gF}(h1:i<k)(h2:rY k gs):rY k (Dn (oJ i) gs):=by
 rintro x σ H Q hl ⟨v,r,rfl,q⟩
 refine⟨v,r,rfl,?_⟩
 show gs r (σ.set i (some v)) H _
 have q':=h2 r (σ.set i (some v)) H Q (by simpa using hl) q
 have e:(λ (σ2:St) (H2:Hp)=>Q σ2 H2/\σ2.length=(σ.set i (some v)).length/\∀j,k<=j->σ2[j]? =(σ.set i (some v))[j]?)=λ σ2 H2=>Q σ2 H2/\σ2.length=σ.length/\∀j,k<=j->σ2[j]? =σ[j]?:=by
  funext σ2 H2
  rw[List.length_set]
  refine congrArg (Q σ2 H2/\·) (congrArg (σ2.length=σ.length/\·) ?_)
  refine forall_congr λ j=>?_
  refine propext ⟨λ z hj=>?_,λ z hj=>?_⟩
  ·rw[z hj,List.getElem?_set_ne Qa]
  ·rw[z hj,List.getElem?_set_ne Qa]
 rw[e]at q'
 exact q'
theorem Vf{K:PySem.W.Frag}{n k:Nat}{gs:gF}(h:rY k gs):lJ k (wF K n gs):=by
 rintro x σ H Q hl ⟨a,xs,rfl,hq,hn,q⟩
 exact⟨a,xs,rfl,hq,hn,h xs σ H Q hl q⟩
def pA(J:It)(g:TG)(tt:TT)(te:TE)(σc:St)(Q:VK)(H1:Hp):Prop:=∃W:Nat->Nat->List V->Hp->Prop,(∃m,W 0 m [] H1)/\∀i m xs H,W i m xs H->
 (J.stop i H/\∀p,H p=none->Q (.ref p) (aD H p (.lst xs)))\/
 (J.go i H/\∀x H',J.yld i H x H'->g x σc H' λ σ2 H2=>tt σ2 H2 λ b H3=>if b=true then te σ2 H3 λ v H4=>xs.length<sizeLine/\∃m',m'<m/\W (i+1) m' (xs++[v]) H4 else∃m',m'<m/\W (i+1) m' xs H3)
def sV(k:Nat)(js:List Nat)(wi:TI)(g:TG)(tt:TT)(te:TE):TE:=λ σ H Q=>wi σ H λ J H1=>pA J g tt te (cS k js σ) Q H1
end
section
variable{X:Cx}
theorem Xh{prog:Program}{w:World}{A:Around}{R:Result→Shared→Prop}{s:Shared}{elt target iter:Expr}{ifs:List Expr}{scope:Scope}{pos:Pos}{it acc:Value}{env:Env}(I:Nat→Shared→Prop)
    (turn : ∀ n s,I n s→wpAny (model prog w) A (pyNext it) (λ r s₁=>match r with
      |none=>R (.ok .next) s₁
      |some v=>wpAny (model prog w) A (letOwnedTupleGo target it v) (λ _ s₁'=>wpAny (model prog w) A (assign target env v) (λ _ s₂=>
          wpAny (model prog w) A (forIn ifs true λ c r=>if r=true then do let ok←isTrue c env (eval c env);pure (ForInStep.yield ok)else pure (ForInStep.yield r)) (λ ok s₃=>
            if ok=true then wpAny (model prog w) A (eval elt env) (λ x s₄=>
              wpAny (model prog w) A (call (.builtin "list.append") [acc,x]) (λ _ s₅=>∃m,m<n∧I m s₅) (λ _ _=>False) s₄) (λ _ _=>False) s₃
            else∃m,m<n∧I m s₃) (λ _ _=>False) s₂) (λ _ _=>False) s₁') (λ _ _=>False) s₁) (λ _ _=>False) s)
    (n:Nat) (h:I n s):
    codeAny (model prog w) A (.compLoop (.ListComp elt [⟨target,iter,ifs,0⟩] scope pos) 0 it acc env) R s:=by
  refine codeAny_loop rfl I (λ n s hI=>?_) n h
  show wpAny _ A ((compTurn (.ListComp elt [⟨target,iter,ifs,0⟩] scope pos) 0 it acc env).onRaise (λ x=>do noteFrame x env;theTreesLotGoes x)) _ _ s
  refine wpAny_noted ?_
  rw[compTurn_list]
  refine wpAny_bind (wpAny_standAt (wpAny_bind (wpAny_mono (turn n s hI) (λ r s₁ h₁=>?_) λ _ _ h'=>h'.elim)))
  cases r with
  |none=>exact wpAny_pure h₁
  | some v=>
    refine wpAny_bind (wpAny_mono h₁ (λ _ s₁' h₁'=>?_) λ _ _ h'=>h'.elim)
    refine wpAny_bind (wpAny_mono h₁' (λ _ s₂ h₂=>wpAny_bind (wpAny_mono h₂ (λ ok s₃ h₃=>?_) λ _ _ h'=>h'.elim)) λ _ _ h'=>h'.elim)
    cases ok with
    |false=>exact wpAny_pure ⟨rfl,h₃⟩
    | true=>
      exact wpAny_bind (wpAny_bind (wpAny_mono h₃ (λ x s₄ h₄=>wpAny_bind (wpAny_mono h₄ (λ _ s₅ h₅=>wpAny_pure (wpAny_pure ⟨rfl,h₅⟩)) λ _ _ h'=>h'.elim)) λ _ _ h'=>h'.elim))
theorem El{elt tg iter:Expr}{ifs:List Expr}{scope:Scope}{pos:Pos}{Nc:List Str}{k:Nat}{js:List Nat}{wi:TI}{g:TG}{tt:TT}{te:TE}(hc:X.calm=true)(S:sH X.env scope)
  (hjs:(Nc.drop k).map some=js.map (X.N[·]?)) (hfr:∀x∈Nc.drop k,scope.names.lookup x=some .free) (hk:k<=Nc.length) (hi:PI X tg iter wi)
  (hg:∀C s H ex,PG (cX X scope Nc C s H ex) tg g) (gk:lJ k g) (ht:∀C s H ex,lH (cX X scope Nc C s H ex) ifs tt) (he:∀C s H ex,PE (cX X scope Nc C s H ex) elt te)
  {pins:List (Addr×Obj)} {s:Shared} {σ:St} {H:Hp} {Q:VK} (I:aB X pins σ H s) (h:sV k js wi g tt te σ H Q):
  wpAny (model X.prog X.w) X.A (eval iter X.env) (λ x s₁=>wpAny (model X.prog X.w) X.A (pyIter x) (λ itv s₂=>wpAny (model X.prog X.w) X.A (newList []) (λ acc s₃=>
   wpAny (model X.prog X.w) X.A (newFunctionEnv scope X.env.globals (eV X.env scope.names) [] X.env.qual none .none (some X.env)) (λ cenv s₄=>
    codeAny (model X.prog X.w) X.A (.compStart (.ListComp elt [⟨tg,iter,ifs,0⟩] scope pos) 0 itv acc {cenv with scope:=relabel scope X.env})
     (λ r s'=>∃fl D H' m,r= .ok fl/\acc= .ref D/\aB X pins σ H' s'/\s'.heap.Ns cenv.locals m/\dW X pins H' cenv.locals/\Q (.ref D) H') s₄) X.xe s₃) X.xe s₂) X.xe s₁) X.xe s:=by
 refine aP (hi pins s σ H _ I h) λ v s1 h1=>aP h1 λ itv s2 h2=>?_
 obtain⟨it,fp,tn,J,H2,e,I2,T,st2,f2,W,⟨m0,w0⟩,turn⟩:=h2
 subst e
 refine wpAny_newObj_type (wpAny_newFunctionEnv S.cell (by intro y hy;simp at hy) (λ h₁ hns₁ hsb₁=>?_) S.kind)
 dsimp only at hns₁ hsb₁⊢
 generalize hH3:s2.heap.push {cls:=.type "list",dict:=none,data:=.seq ([]:List Value).toArray}=H3 at hns₁ hsb₁⊢
 have hC:H3.objs.size=s2.heap.objs.size+1:=by rw[<-hH3,Heap.size_push]
 generalize eC:H3.objs.size=C at hns₁ hsb₁ hC⊢
 generalize eD:s2.heap.objs.size=D at hC⊢
 have hDC:D≠C:=by omega
 have hle:D<=C:=by omega
 have hlt':D<C:=by omega
 have hltD:∀b o,s2.heap.get? b=some o->b<D:=λ b o e=>by rw[<-eD];exact Heap.lt_size e
 have keep:∀b o,s2.heap.get? b=some o->h₁.get? b=some o:=λ b o e=>hsb₁.extBut b o (Nat.ne_of_lt (Nat.lt_trans (hltD b o e) hlt')) (Heap.get?_push_of_some _ (hH3▸Heap.get?_push_of_some _ e))
 have hD1:∃nn,h₁.get? D=some {cls:=.type "list",data:=.seq (([]:List Value).toArray) nn}:=
  ⟨_,hsb₁.extBut _ _ hDC (Heap.get?_push_of_some _ (hH3▸eD▸Heap.get?_push_size _ rfl))⟩
 have ltf:∀b∈fp,b<s2.heap.objs.size:=λ b hb=>by
  obtain⟨o,e,_⟩:=T.obj 0 _ st2 b hb
  exact Heap.lt_size e
 have I4:aB (cX X scope Nc C s2 H2 fp) [] (cS k js σ) H2 {s2 with heap:=h₁,toks:=s2.toks+([]:List (Str×Value)).length}:=
  Tp (s4:={s2 with heap:=h₁,toks:=s2.toks+([]:List (Str×Value)).length}) I2 hc S hjs hfr hk f2 ltf Qa hns₁ keep rfl rfl
 have frz:∀y∈scope.names,y.2= .free->∃c,X.env.cells.lookup y.1=some c:=λ y hy e=>I2.ok.has y.1 (S.free y hy e)
 have Dcell:∀x c,(eV X.env scope.names).lookup x=some c->c≠D:=λ x c e z=>by
  obtain⟨v,q⟩:=I2.cell x c (eL frz e)
  have l:=q.lt
  rw[z,eD]at l
  exact Nat.lt_irrefl _ l
 have Dstk:D∉cC X.stack:=λ z=>by
  rcases List.mem_cons.mp (I2.stkSub D z)with z|z
  ·have l:=I2.lt
   rw[<-z,eD]at l
   exact Nat.lt_irrefl _ l
  ·exact I2.nofs (Nat.le_of_eq eD) z
 have Dfp:∀b∈fp,D≠b:=λ b hb z=>by have l:=ltf b hb;rw[<-z,eD]at l;exact Nat.lt_irrefl _ l
 have fpok:∀{H':Hp} {o:Obj},(∀b∈fp,H' b=none)->∀b∈fp,dW (cX X scope Nc C s2 H2 fp) [(D,o)] H' b:=fun{H' o} hn b hb=>by
  refine⟨hn b hb,?_,?_,.inl hb,λ x c e=>(f2 b hb).2.2.2.2.1 x c (eL frz e),λ p hp=>?_⟩
  ·have l:=ltf b hb
   rw[eD]at l
   exact Nat.ne_of_lt (Nat.lt_trans l hlt')
  ·intro z
   rcases List.mem_cons.mp (I2.stkSub b z)with z|z
   ·exact(f2 b hb).2.1 z
   ·exact(f2 b hb).2.2.1 z
  ·have e:p=(D,o):=by simpa using hp
   subst e
   exact Dfp b hb
 have loop:codeAny (model X.prog X.w) X.A (.compLoop (.ListComp elt [⟨tg,iter,ifs,0⟩] scope pos) 0 (.ref it) (.ref D) (compEnvC scope (eV X.env scope.names) C X.env))
   (λ r s'=>∃fl D' H' m,r= .ok fl/\Value.ref D= .ref D'/\aB X pins σ H' s'/\s'.heap.Ns C m/\dW X pins H' C/\Q (.ref D') H') {s2 with heap:=h₁,toks:=s2.toks+([]:List (Str×Value)).length}:=by
  refine Xh (λ n s'=>∃(i:Nat) (xs:List V) (H':Hp) (its:List Value) (nn:Nat),aB (cX X scope Nc C s2 H2 fp) [] (cS k js σ) H' s'/\tn i s'.heap/\(∀b∈fp,H' b=none)/\H' D=none/\
   s'.heap.get? D=some {cls:=.type "list",data:=.seq its.toArray nn}/\aO xs its/\xs.length<=sizeLine/\W i n xs H') ?_ m0 ?_
  ·rintro n s3 ⟨i,xs,H3',its,nn,I3,st3,fr3,fD3,oD3,rv,hz,w3⟩
   have I3':aB (cX X scope Nc C s2 H2 fp) [(D,{cls:=.type "list",data:=.seq its.toArray nn})] (cS k js σ) H3' s3:=I3.pins_of λ p hp=>by
    have e:p=(D,{cls:=.type "list",data:=.seq its.toArray nn}):=by simpa using hp
    subst e
    refine⟨oD3,fD3,hDC,Dstk,λ v z=>?_⟩
    cases z
   rcases turn i n xs H3' w3 with⟨stop,qn⟩|⟨go,step⟩
   ·refine aP (T.done (cX X scope Nc C s2 H2 fp) rfl rfl rfl rfl i _ s3 (cS k js σ) H3' _ I3' (fpok fr3) st3 stop) λ r s4 ⟨hr,I5⟩=>?_
    subst hr
    obtain⟨oD5,fD5,_⟩:=I5.pin (D,{cls:=.type "list",data:=.seq its.toArray nn}) Qb
    obtain⟨mC,nC,_⟩:=I5.loc
    have hu:Un (cC X.stack) fp H2 H3' s2.heap s4.heap:=I5.base
    have neD:∀b o,H3' b=some o->b≠D:=λ b o e=>fN e fD3
    have neDh:∀b o,s2.heap.get? b=some o->b≠D:=λ b o e=>Nat.ne_of_lt (hltD b o e)
    have hok':bZ X.prog X.w (aD H3' D (.lst xs)) s4.heap:=λ b u e=>by
     by_cases hb:b=D
     ·subst hb
      rw[aR]at e
      cases e
      exact⟨hz,its,nn,rv,oD5⟩
     ·rw[aU hb]at e
      exact(I5.hok b u e).stay (λ c v _ q=>q) (λ c q=>by rw[aU (neD c _ q)];exact q) λ c ys q=>by rw[aU (neD c _ q)];exact q
    have hu':Un (cC X.stack) fp H2 (aD H3' D (.lst xs)) s2.heap s4.heap:=⟨hu.keep,hu.slot,λ b o e n hx=>by rw[aU (neDh b o e)];exact hu.free b o e n hx,hu.there,
     λ b ys e=>by rw[aU (neD b _ (hu.tups b ys e))];exact hu.tups b ys e,λ b o u e=>by rw[aU (neD b _ (hu.frzs b o u e))];exact hu.frzs b o u e,
     λ b ps e=>by obtain⟨more,q⟩:=hu.tbls b ps e;exact⟨more,by rw[aU (neD b _ q)];exact q⟩⟩
    have IX:aB X pins σ (aD H3' D (.lst xs)) s4:=I2.call' I5.os hu' hok' I5.bare λ b hb=>⟨(f2 b hb).2.2.2.1,(f2 b hb).2.1,(f2 b hb).2.2.2.2.1,(f2 b hb).2.2.2.2.2⟩
    refine⟨_,D,_,mC,rfl,rfl,IX,nC,I2.fpOk Qa ?_,qn D fD3⟩
    rw[aU (Ne.symm hDC)]
    exact I5.free
   ·refine aP (T.item (cX X scope Nc C s2 H2 fp) rfl rfl rfl rfl i _ s3 (cS k js σ) H3' _ I3' (fpok fr3) st3 go) λ r s4 ⟨u,hr,h4⟩=>?_
    subst hr
    refine aP h4 λ _ s5 ⟨x,H5,I5,r5,y5,st5,fr5⟩=>?_
    have I5':=I5.pinned (fpok fr5) (T.obj _ _ st5)
    have lenS:k<=(cS k js σ).length:=by rw[rG];omega
    refine aP (hg C s2 H2 fp _ s5 (cS k js σ) H5 x u _ I5' r5 (gk _ _ _ _ lenS (step x H5 y5))) λ _ s6 ⟨σ6,H6,I6,q6,l6,a6⟩=>?_
    have weak6:∀{H':Hp} {s':Shared} {ps:List (Addr×Obj)},aB (cX X scope Nc C s2 H2 fp) ps σ6 H' s'->aB (cX X scope Nc C s2 H2 fp) ps (cS k js σ) H' s':=fun{H' s' ps} I'=>I'.weak l6.symm λ j v e=>by
     obtain⟨t,j',rfl,_,_⟩:=rF e
     rw[a6 _ (Nat.le_add_right _ _)]
     exact e
    refine aP (ht C s2 H2 fp _ s6 σ6 H6 _ I6 q6) λ b s7 ⟨H7,I7,q7⟩=>?_
    have pinD:∀{H':Hp} {s':Shared},aB (cX X scope Nc C s2 H2 fp) ([(D,{cls:=.type "list",data:=.seq its.toArray nn})]++kG fp s5.heap) σ6 H' s'->s'.heap.get? D=some {cls:=.type "list",data:=.seq its.toArray nn}/\H' D=none:=fun{H' s'} I'=>by
     obtain⟨e1,e2,_⟩:=I'.pin (D,{cls:=.type "list",data:=.seq its.toArray nn}) Qb
     exact⟨e1,e2⟩
    have pinF:∀{H':Hp} {s':Shared},aB (cX X scope Nc C s2 H2 fp) ([(D,{cls:=.type "list",data:=.seq its.toArray nn})]++kG fp s5.heap) σ6 H' s'->(∀b∈fp,∀o,s5.heap.get? b=some o->s'.heap.get? b=some o)/\∀b∈fp,H' b=none:=fun{H' s'} I'=>by
     refine⟨λ b hb o e=>(I'.pin (b,o) (List.mem_append_right _ (List.mem_append_right _ (mE hb e)))).1,λ b hb=>?_⟩
     obtain⟨o,e,d⟩:=T.obj _ _ st5 b hb
     exact(I'.pin (b,o) (List.mem_append_right _ (List.mem_append_right _ (mE hb e)))).2.1
    cases b with
    |false=>
     obtain⟨m',hm,w7⟩:=q7
     obtain⟨d1,d2⟩:=pinD I7
     obtain⟨p1,p2⟩:=pinF I7
     refine⟨m',hm,i+1,xs,H7,its,nn,weak6 (I7.pins_of λ p hp=>absurd (show p∈([]:List (Addr×Obj))from hp) Qb),T.keep _ _ _ st5 p1,p2,d2,d1,rv,hz,w7⟩
    | true=>
     refine aP (he C s2 H2 fp _ s7 σ6 H7 _ I7 q7) λ y s8 ⟨vv,H8,I8,r8,hz8,m',hm,w8⟩=>?_
     obtain⟨d1,d2⟩:=pinD I8
     obtain⟨p1,p2⟩:=pinF I8
     refine wpAny_list_append_plain (items:=its.toArray) ⟨nn,d1⟩ (λ h' ⟨nn',hp'⟩ hsb=>?_) (by have:=rv.length;rw[List.size_toArray];omega)
     have I8':aB (cX X scope Nc C s2 H2 fp) [] (cS k js σ) H8 s8:=weak6 (I8.pins_of λ p hp=>absurd (show p∈([]:List (Addr×Obj))from hp) Qb)
     have I9:aB (cX X scope Nc C s2 H2 fp) [] (cS k js σ) H8 {s8 with heap:=h'}:=I8'.turned (it:=D) (t':=s8.toks) (λ b o hb e=>(hsb.2 b hb).trans e) d2 hDC (.inr (Nat.le_of_eq eD)) (λ x c e=>Dcell x c e) λ p hp=>absurd (show p∈([]:List (Addr×Obj))from hp) Qb
     refine⟨m',hm,i+1,xs++[vv],H8,its++[y],nn',I9,T.keep _ _ _ st5 (λ b hb o e=>(hsb.2 b (Ne.symm (Dfp b hb))).trans (p1 b hb o e)),p2,d2,?_,rv.append (.cons r8 .nil),?_,w8⟩
     ·rw[<-List.push_toArray]
      exact hp'
     ·rw[List.length_append,List.length_singleton]
      omega
  ·obtain⟨nn,e⟩:=hD1
   exact⟨0,[],H2,[],nn,I4,T.keep _ _ _ st2 (λ b _ o e=>keep b o e),λ b hb=>(f2 b hb).1,I2.hok.fresh (Nat.le_of_eq eD),e,.nil,Nat.zero_le _,w0⟩
 exact codeAny_compStart_list loop (wpAny_mono (T.self _ 0 _ _ (λ _ _=>False) (T.keep _ _ _ st2 λ b _ o e=>keep b o e) loop) (λ _ _ q=>q) λ _ _ z=>z.elim)
theorem kJ{elt tg iter:Expr}{ifs:List Expr}{scope:Scope}{pos:Pos}{Nc:List Str}{k:Nat}{js:List Nat}{wi:TI}{g:TG}{tt:TT}{te:TE}(hc:X.calm=true)(S:sH X.env scope)
  (hjs:(Nc.drop k).map some=js.map (X.N[·]?)) (hfr:∀x∈Nc.drop k,scope.names.lookup x=some .free) (hk:k<=Nc.length) (hi:PI X tg iter wi)
  (hg:∀C s H ex,PG (cX X scope Nc C s H ex) tg g) (gk:lJ k g) (ht:∀C s H ex,lH (cX X scope Nc C s H ex) ifs tt) (he:∀C s H ex,PE (cX X scope Nc C s H ex) elt te)
  (hs:∀x,foldedSetIterable iter X.env x=pure x:=by intro _;rfl):PE X (.ListComp elt [⟨tg,iter,ifs,0⟩] scope pos) (sV k js wi g tt te):=by
 intro pins s σ H Q I h
 rw[eval_ListComp]
 refine wpAny_comprehension_free (use:=none) rfl hs (wR λ y hy e=>I.ok.has y.1 (S.free y hy e)) S.kind S.loc (aP (El hc S hjs hfr hk hi hg gk ht he I h) λ x s1 h1=>aP h1 λ itv s2 h2=>aP h2 λ acc s3 h3=>aP h3 λ cenv s4 h4=>codeAny_mono h4 λ r s' hr=>?_)
 obtain⟨fl,D,H',m,rfl,rfl,I',nC,fC,q⟩:=hr
 refine⟨m,nC,λ h' sb=>⟨.ref D,H',I'.turned (it:=cenv.locals) (t':=s'.toks) (λ b o hb e=>(sb.2 b hb).trans e) fC.1 fC.2.1 fC.2.2.2.1 fC.2.2.2.2.1 fC.2.2.2.2.2,rfl,q⟩⟩
theorem lX{elt tg iter:Expr}{ifs:List Expr}{scope:Scope}{cpos pos pos':Pos}{Nc:List Str}{k:Nat}{js:List Nat}{wi:TI}{g:TG}{tt:TT}{te:TE}{i:Nat}{x:Str}(hN:X.N.Nodup)(hxi:X.N[i]? =some x)(hx:oZ X.env.scope x)(hc:X.calm=true)(S:sH X.env scope)
    (hjs:(Nc.drop k).map some=js.map (X.N[·]?)) (hfr:∀x∈Nc.drop k,scope.names.lookup x=some .free) (hk:k≤Nc.length) (hi:PI X tg iter wi)
    (hg:∀C s H ex,PG (cX X scope Nc C s H ex) tg g) (gk:lJ k g) (ht:∀C s H ex,lH (cX X scope Nc C s H ex) ifs tt) (he:∀C s H ex,PE (cX X scope Nc C s H ex) elt te)
    (hs:∀x,foldedSetIterable iter X.env x=pure x:=by intro _;rfl) (hsw:swapsWith (.ListComp elt [⟨tg,iter,ifs,0⟩] scope cpos) (some (.Name x pos')) pos.line X.env=pure true:=by rfl)
    (hf:X.fn x=true∨X.env.scope.names.lookup x=some .local:=by first|exact .inl rfl|exact .inr rfl|assumption):
    PS X (.Assign [.Name x pos'] (.ListComp elt [⟨tg,iter,ifs,0⟩] scope cpos) pos) (sX (sV k js wi g tt te) (oJ i)):=by
  intro pins s σ H D I h
  rw[exec_Assign_Name_used _ _ _ _ hsw]
  refine wpAny_bind (wpAny_standAt (wpAny_bind ?_))
  show wpAny _ X.A (do let _←comprehension (.ListComp elt [⟨tg,iter,ifs,0⟩] scope cpos) scope X.env _ (newList []) false (eval iter X.env) (some (assign (.Name x pos') X.env))) _ _ s
  refine wpAny_bind (wpAny_mono (wpAny_comprehension_free (use:=some (assign (.Name x pos') X.env)) (Q:=λ _ s'=>SP X pins D .next s') rfl hs (wR λ y hy e=>I.ok.has y.1 (S.free y hy e)) S.kind S.loc
    (aP (El hc S hjs hfr hk hi hg gk ht he I h) λ xv s1 h1=>aP h1 λ itv s2 h2=>aP h2 λ acc s3 h3=>aP h3 λ cenv s4 h4=>codeAny_mono h4 λ r s' hr=>?_)) (λ _ s' hq=>wpAny_pure (wpAny_pure hq)) λ _ _ e=>e)
  obtain⟨fl,Dl,H',m,rfl,rfl,I',nC,fC,q⟩:=hr
  show wpAny _ X.A (assign (.Name x pos') X.env (.ref Dl)) _ _ _
  refine wpAny_assign_Name (Aa (v:= .ref Dl) I' hN hxi hx rfl (λ s'' I'' ⟨a,sa,ha⟩=>?_) hf)
  have na:cenv.locals≠a:=by
    rcases ha with rfl|ha
    ·exact fC.2.1
    ·exact λ z=>fC.2.2.2.2.1 x a ha z.symm
  refine⟨m,nC.sameBut sa na,λ h' sb=>⟨_,H',I''.turned (it:=cenv.locals) (t':=s''.toks) (λ b o hb e=>(sb.2 b hb).trans e) fC.1 fC.2.1 fC.2.2.2.1 fC.2.2.2.2.1 fC.2.2.2.2.2,q⟩⟩
end
abbrev gT(X:Cx)(scope:Scope)(Nc:List Str)(C:Addr)(code:Value)(e:Expr)(it:Addr)(s₂:Shared)(H₂:Hp)(ex:List Addr):Cx where
 prog:=X.prog
 w:=X.w
 K:=X.K
 mg:=X.mg
 base:=X.base
 A:=(X.A.in1.in1).over (.compLoop e 0 (.ref it) .none (genEnv scope (eV X.env scope.names) C code builtinsNs X.env)) []
 N:=Nc
 s₀:=s₂
 H₀:=H₂
 env:=genEnv scope (eV X.env scope.names) C code builtinsNs X.env
 outer:=X.stack
 stack:=genEnv scope (eV X.env scope.names) C code builtinsNs X.env::X.stack
 ex:=ex
 fn:=λ _=>false
 calm:=true
 pn:=[]
 xe:=λ _ _=>False
section
variable{X:Cx}
theorem aB.setGens{pins:List (Addr×Obj)}{σ:St}{H:Hp}{s:Shared}{g':Array GenState}(I:aB X pins σ H s)(hg:fB s.gens g'):aB X pins σ H {s with gens:=g'}:=
 ⟨I.ok,I.os,⟨hg.1,Nat.le_trans I.bare.2 hg.2⟩,I.base,I.loc,I.cell,I.free,I.freeC,I.pin,I.hok,I.len⟩
theorem qW{gens:Array GenState}{g:Nat}{x:GenState}(h:AllBare gens)(hx:x.bare=true):fB gens (gens.setIfInBounds g x):=by
 refine⟨λ y hy=>?_,Qb⟩
 rcases Array.mem_or_eq_of_mem_setIfInBounds hy with z|z
 ·exact h y z
 ·rw[z];exact hx
theorem Vk{A:Around}{l:List Env}(h:A.frames=some l){elt:Expr}{gens:List Comprehension}{scope:Scope}{pos:Pos}{it acc:Value}{env:Env}:
  ((A.in1.in1).over (.compLoop (.GeneratorExp elt gens scope pos) 0 it acc env) []).frames=some (env::l):=by
 show pushEnvs [env] (pushEnvs [] A.frames)=_
 rw[h]
 rfl
structure Fp(env:Env)(scope:Scope):Prop where
 kind:scope.kind= .function
 co:scope.isCoroutine=false
 cell:∀y∈scope.names,y.2≠ .cell
 zero:scope.names.lookup (".0" :Str)=some .local
 free:∀y∈scope.names,y.2= .free->env.scope.names.lookup y.1=some .cell\/env.scope.names.lookup y.1=some .free
theorem To{pins:List (Addr×Obj)}{σ:St}{H:Hp}{s s4:Shared}{scope:Scope}{Nc:List Str}{k:Nat}{js:List Nat}{C it:Addr}{code:Value}{elt:Expr}{gens:List Comprehension}{pos:Pos}{fp:List Addr}{m0:Str->Option Value}(I:aB X pins σ H s)(hc:X.calm=true)(S:Fp X.env scope)
  (hjs:(Nc.drop k).map some=js.map (X.N[·]?)) (hfr:∀x∈Nc.drop k,scope.names.lookup x=some .free) (hk:k<=Nc.length)
  (hfp:∀b∈fp,dW X pins H b) (hlt:∀b∈fp,b<s.heap.objs.size) (hC:s.heap.objs.size<=C) (hn:s4.heap.Ns C m0) (hkeep:∀b o,s.heap.get? b=some o->s4.heap.get? b=some o)
  (ho:s4.os=s.os) (hg:fB s.gens s4.gens):aB (gT X scope Nc C code (.GeneratorExp elt gens scope pos) it s H fp) [] (cS k js σ) H s4:=by
 have fr:∀y∈scope.names,y.2= .free->∃c,X.env.cells.lookup y.1=some c:=λ y hy e=>I.ok.has y.1 (S.free y hy e)
 have kinds:∀x,scope.names.lookup x=some .cell\/scope.names.lookup x=some .free->(x,NameKind.free)∈scope.names:=λ x hx=>by
  rcases hx with e|e
  ·exact absurd rfl (S.cell _ (PySem.mem_of_lookup e))
  ·exact PySem.mem_of_lookup e
 have lenJ:js.length=Nc.length-k:=by
  have:=congrArg List.length hjs
  simpa using this.symm
 refine⟨⟨I.ok.mod,S.kind,I.ok.glob,rfl,hC,λ x y c h1 h2=>I.ok.inj x y c (eL fr h1) (eL fr h2),λ x hx=>rH (kinds x hx),λ x c z=>(by cases z),λ _=>I.ok.hd hc,Vk I.ok.frames,.inr ⟨rfl,rfl⟩,λ b hb=>⟨?_,λ x c e=>?_⟩,I.bs,Nat.le_trans I.ok.bsz I.sz,λ b o e hb=>?_,λ b hb z=>?_,I.stack,I.stkFree⟩,
  ho,hg,Un.kept hkeep,⟨_,hn,λ i x v e1 e2 e3=>?_⟩,λ x c e=>?_,I.hok.fresh hC,λ x c e=>I.freeC x c (eL fr e),λ p hp=>absurd (show p∈([]:List (Addr×Obj))from hp) Qb,I.hok.kept hkeep,?_⟩
 ·exact Nat.ne_of_lt (Nat.lt_of_lt_of_le (hlt b hb) hC)
 ·exact(hfp b hb).2.2.2.2.1 x c (eL fr e)
 ·rcases(hfp b hb).2.2.2.1 with z|z
  ·exact I.ok.noex b o e z
  ·exact absurd (Nat.lt_of_lt_of_le (Heap.lt_size e) (Nat.le_trans I.ok.bsz z)) (Nat.lt_irrefl _)
 ·rcases List.mem_cons.mp (I.stkSub b z)with z|z
  ·exact(hfp b hb).2.1 z
  ·exact(hfp b hb).2.2.1 z
 ·obtain⟨t,j,rfl,hj,hv⟩:=rF e2
  have ex:X.N[j]? =some x:=by
   have q:=congrArg (λ l=>l[t]?) hjs
   simp only[List.getElem?_map,List.getElem?_drop,hj,Option.map_some]at q
   have e1':Nc[k+t]? =some x:=e1
   rw[e1']at q
   exact(Option.some.inj q).symm
  have hx:scope.names.lookup x=some .free:=hfr x (by
   have:(Nc.drop k)[t]? =some x:=by rw[List.getElem?_drop];exact e1
   exact List.mem_of_getElem? this)
  have kx:=S.free (x,.free) (PySem.mem_of_lookup hx) rfl
  obtain⟨m,_,hl⟩:=I.loc
  obtain⟨u,r,l⟩:=hl j x v ex hv (.inr kx)
  obtain⟨c',hc'⟩:=rH (env:=X.env) (PySem.mem_of_lookup hx)
  refine⟨u,r,.inr ⟨.inr hx,c',hc',?_⟩⟩
  rcases l with⟨k1,_⟩|⟨_,c,hcc,z⟩
  ·have k1':X.env.scope.names.lookup x=some .local:=k1
   have kx':X.env.scope.names.lookup x=some .cell\/X.env.scope.names.lookup x=some .free:=kx
   rw[k1']at kx'
   rcases kx' with z|z<;>cases z
  ·have e:c=c':=by
    have:=eL fr hc'
    rw[hcc]at this
    exact Option.some.inj this
   subst e
   exact z.keeps hkeep
 ·obtain⟨v,z⟩:=I.cell x c (eL fr e)
  exact⟨v,z.keeps hkeep⟩
 ·rw[rG]
  show _=Nc.length
  omega
def rS(H:Hp)(P:Addr)(ps:Array Value):Prop:=H P=some (.tbl ps)/\TriplesOk ps.toList
theorem aB.table{pins:List (Addr×Obj)}{σ:St}{H:Hp}{s:Shared}{P:Addr}{ps more:Array Value}{h':Heap}{t':Nat}(I:aB X pins σ H s)(hP:H P=some (.tbl ps))(hx:Heap.ExtBut P s.heap h')(hp:h'.get? P=some {cls:=.none,data:=.fields (ps++more)}):
  aB X pins σ (aD H P (.tbl (ps++more))) {s with heap:=h',toks:=t'}:=by
 have ne:∀b o,H b=some o->(∀q,o≠ .tbl q)->b≠P:=λ b o e n z=>by
  subst z
  rw[hP]at e
  exact n ps (Option.some.inj e).symm
 have ne0:∀b,H b=none->b≠P:=λ b n z=>by subst z;rw[hP]at n;cases n
 refine I.un ⟨λ b o e n _ _=>hx b o (ne0 b n) e,λ b o e n _ _=>⟨o.slots,hx b o (ne0 b n) e⟩,λ b o e n _=>by rw[aU (ne0 b n)];exact n,λ b o e _=>?_,λ b xs e=>by rw[aU (ne b _ e (by intro q z;cases z))];exact e,
  λ b o u e=>by rw[aU (ne b _ e (by intro q z;cases z))];exact e,λ b qs e=>?_⟩ λ b u e=>?_
 ·by_cases hb:b=P
  ·subst hb;exact⟨_,hp⟩
  ·exact⟨o,hx b o hb e⟩
 ·by_cases hb:b=P
  ·subst hb
   rw[hP]at e;cases e
   exact⟨more,aR⟩
  ·exact⟨#[],by rw[aU hb,e];simp⟩
 ·by_cases hb:b=P
  ·subst hb
   rw[aR]at e;cases e
   exact hp
  ·rw[aU hb]at e
   refine(I.hok b u e).stay (λ c v hc q=>hx c v ?_ q) (λ c q=>by rw[aU (ne c _ q (by intro q z;cases z))];exact q) λ c ys q=>by rw[aU (ne c _ q (by intro q z;cases z))];exact q
   rcases hc with z|z
   ·rw[z];exact hb
   ·exact ne c _ z (by intro q z;cases z)
theorem Vj{pins:List (Addr×Obj)}{σ:St}{H:Hp}{s:Shared}{E:Qe}{env:Env}{c P:Addr}{ps:Array Value}{pos:Pos}{qualname:Str}{scope:Scope}{Q:Qe}(I:aB X pins σ H s)(hc:env.code= .ref c)(hd:PySem.W.CodeHd X.base c P)(hP:rS H P ps)
  (hQ:∀code s' more,aB X pins σ (aD H P (.tbl (ps++more))) s'->TriplesOk (ps++more).toList->s'.gens=s.gens->s'.os=s.os->s.heap.objs.size<=s'.heap.objs.size->Heap.ExtBut P s.heap s'.heap->Q code s'):wpAny (model X.prog X.w) X.A (genexprCode env pos qualname scope) Q E s:=by
 have hd':PySem.W.CodeHd s.heap c P:=hd.keeps λ b o e=>(I.bs b o e).1
 have hop:s.heap.get? P=some (PySem.W.tabObj ps):=I.hok P _ hP.1
 have hcode:=hd'.code hop hP.2
 have htab:=hd'.tab hop
 cases hnf:codeAmong pos ps.toList with
 |none=>
  refine wpAny_genexprCodeX hc hcode htab hnf λ c' h' tk hx h1 h2 hc3 _ ht3 _=>?_
  refine hQ _ {s with heap:=h',toks:=tk} _ (I.table hP.1 hx ht3.2) ?_ rfl rfl (Nat.le_trans h1 (Nat.le_of_lt h2)) hx
  obtain⟨_,_,_,_,_,_,_,_,_,_,_,_,_,_,_,_,_,_,_,tr,_⟩:=hc3
  exact tr
 | some cv=>
  obtain⟨o,vs,file,tf,flags,tg,inF,text,tt,op,ho,hdd,h11,h2,h7,h9,h10,hop',hpd,htr,hne⟩:=id hcode
  unfold genexprCode codeAt
  rw[hc,if_neg (show¬((Value.ref c==Value.none)=true)from Bool.false_ne_true)]
  refine wpAny_bind (wpAny_fieldsOf ho hdd ?_)
  rw[h11]
  refine wpAny_bind (wpAny_fieldsOf hop' hpd ?_)
  rw[hnf]
  refine wpAny_pure (hQ cv s #[] ?_ (by simpa using hP.2) rfl rfl (Nat.le_refl _) (Heap.ExtBut.refl _ _))
  have e:aD H P (.tbl (ps++ #[]))=H:=by
   funext b
   by_cases hb:b=P
   ·subst hb;rw[aR,hP.1];simp
   ·rw[aU hb]
  rw[e]
  exact I
end
section
variable{Xg:Cx}{A:Around}{elt tg iter:Expr}{ifs:List Expr}{scope:Scope}{pos:Pos}{it:Addr}{J:It}{fp:List Addr}{tn:Nat->Heap->Prop}{g:TG}{tt:TT}{te:TE}{k:Nat}{σg:St}{pa:List (Addr×Obj)}
end
section
variable{prog:Program}{w:World}{A:Around}{a:Addr}{gi:Nat}
end
def iR(mg:Str->Option Value)(base:Heap):Prop:=∃bm ob,mg "__builtins__" =some (.ref bm)/\bm≠builtinsNs/\base.get? bm=some ob/\ob.cls= .type "module"/\ob.dict=some builtinsNs/\ob.data= .plain
section
variable{X:Cx}
end
mutual
def aE(ex:List Addr)(H:Hp):PyData->V->Prop
 |.none,v=>v= .non
 |.bool b,v=>v= .bl b
 |.int i,v=>v= .int i
 |.str x,v=>v= .str x
 |.tuple ds,v=>∃a vs,v= .ref a/\a∉ex/\H a=some (.tup vs)/\aJ ex H ds vs
 |.list ds,v=>∃a vs,v= .ref a/\a∉ex/\H a=some (.lst vs)/\aJ ex H ds vs
 |.dict _,_=>False
def aJ(ex:List Addr)(H:Hp):List PyData->List V->Prop
 |[],vs=>vs=[]
 |d::ds,vs=>∃v r,vs=v::r/\aE ex H d v/\aJ ex H ds r
end
structure aG(ex:List Addr)(H H':Hp):Prop where
 old:∀b o,b∉ex->H b=some o->(∀ps,o≠ .tbl ps)->H' b=some o
 tab:∀b ps,b∉ex->H b=some (.tbl ps)->∃ps',H' b=some (.tbl ps')/\(TriplesOk ps.toList->TriplesOk ps'.toList)
theorem aG.refl{ex:List Addr}{H:Hp}:aG ex H H:=⟨λ _ _ _ h _=>h,λ _ ps _ h=>⟨ps,h,id⟩⟩
theorem aG.trans{ex:List Addr}{H H1 H2:Hp}(a:aG ex H H1)(b:aG ex H1 H2):aG ex H H2:=
 ⟨λ c o hc h n=>b.old c o hc (a.old c o hc h n) n,λ c ps hc h=>by
  obtain⟨p1,h1,t1⟩:=a.tab c ps hc h
  obtain⟨p2,h2,t2⟩:=b.tab c p1 hc h1
  exact⟨p2,h2,λ z=>t2 (t1 z)⟩⟩
theorem aG.mono{ex ex':List Addr}{H H':Hp}(a:aG ex H H')(h:∀b∈ex,b∈ex'):aG ex' H H':=⟨λ c o hc=>a.old c o λ z=>hc (h c z),λ c ps hc=>a.tab c ps λ z=>hc (h c z)⟩
theorem aG.free{ex:List Addr}{H H':Hp}(a:aG ex H H'){l:Addr}(hx:l∉ex)(h:H' l=none):H l=none:=by
 cases q:H l with
 |none=>rfl
 | some o=>
  cases o with
  |tbl ps=>
   obtain⟨p',h',_⟩:=a.tab l ps hx q
   rw[h]at h';cases h'
  |_=>rw[a.old l _ hx q (by intro ps z;cases z)]at h;cases h
theorem aG.new{ex:List Addr}{H:Hp}{p:Addr}(h:H p=none)(o:HO):aG ex H (aD H p o):=
 ⟨λ b u _ q _=>by rw[aU (fN q h)];exact q,λ b ps _ q=>⟨ps,by rw[aU (fN q h)];exact q,id⟩⟩
theorem aG.put{ex:List Addr}{H:Hp}{p:Addr}(h:p∈ex)(o:HO):aG ex H (aD H p o):=
 ⟨λ b u hb q _=>by rw[aU (λ z:b=p=>hb (z▸h))];exact q,λ b ps hb q=>⟨ps,by rw[aU (λ z:b=p=>hb (z▸h))];exact q,id⟩⟩
theorem aG.tbl{ex:List Addr}{H:Hp}{p:Addr}{ps ps':Array Value}(h:H p=some (.tbl ps))(t:TriplesOk ps'.toList):aG ex H (aD H p (.tbl ps')):=by
 refine⟨λ b u _ q n=>?_,λ b qs _ q=>?_⟩
 ·rw[aU]
  ·exact q
  ·rintro rfl
   rw[h]at q
   exact n ps (Option.some.inj q).symm
 ·by_cases hb:b=p
  ·subst hb
   exact⟨ps',aR,λ _=>t⟩
  ·exact⟨qs,by rw[aU hb];exact q,id⟩
theorem aG.lst{ex:List Addr}{H H':Hp}(a:aG ex H H'){p:Addr}{xs:List V}(hp:p∉ex)(h:H p=some (.lst xs)):H' p=some (.lst xs):=a.old p _ hp h (by intro ps z;cases z)
theorem aG.tup{ex:List Addr}{H H':Hp}(a:aG ex H H'){p:Addr}{xs:List V}(hp:p∉ex)(h:H p=some (.tup xs)):H' p=some (.tup xs):=a.old p _ hp h (by intro ps z;cases z)
theorem aG.sql{K:PySem.W.Frag}{ex:List Addr}{H H':Hp}(a:aG ex H H'){p:Addr}{xs:List V}(hp:p∉ex)(h:aN K H p xs):aN K H' p xs:=by
 rcases h with(h|⟨o,h⟩)|h
 ·exact .inl (.inl (a.lst hp h))
 ·exact .inl (.inr ⟨o,a.old p _ hp h (by intro ps z;cases z)⟩)
 ·exact .inr h
def Tb(ts:List Addr)(H:Hp):Prop:=∀P∈ts,∃ps,rS H P ps
theorem aG.tb{ex ts:List Addr}{H H':Hp}(a:aG ex H H')(h:Tb ts H)(hx:∀P∈ts,P∉ex):Tb ts H':=λ P hP=>by
 obtain⟨ps,h1,h2⟩:=h P hP
 obtain⟨ps',q1,q2⟩:=a.tab P ps (hx P hP) h1
 exact⟨ps',q1,q2 h2⟩
mutual
theorem aE.ext{ex:List Addr}{H H':Hp}(e:aG ex H H'):∀{d:PyData} {v:V},aE ex H d v->aE ex H' d v
 |.none,_,h=>h
 |.bool _,_,h=>h
 |.int _,_,h=>h
 |.str _,_,h=>h
 |.tuple ds,v,h=>by
  obtain⟨a,vs,h1,h2,h3,h4⟩:=h
  exact⟨a,vs,h1,h2,e.tup h2 h3,aJ.ext e h4⟩
 |.list ds,v,h=>by
  obtain⟨a,vs,h1,h2,h3,h4⟩:=h
  exact⟨a,vs,h1,h2,e.lst h2 h3,aJ.ext e h4⟩
 |.dict _,_,h=>h.elim
theorem aJ.ext{ex:List Addr}{H H':Hp}(e:aG ex H H'):∀{ds:List PyData} {vs:List V},aJ ex H ds vs->aJ ex H' ds vs
 |[],_,h=>h
 |d::ds,vs,h=>by
  obtain⟨v,r,h1,h2,h3⟩:=h
  exact⟨v,r,h1,aE.ext e h2,aJ.ext e h3⟩
end
mutual
theorem aE.less{ex ex':List Addr}{H:Hp}(e:∀b∈ex',b∈ex):∀{d:PyData} {v:V},aE ex H d v->aE ex' H d v
 |.none,_,h=>h
 |.bool _,_,h=>h
 |.int _,_,h=>h
 |.str _,_,h=>h
 |.tuple ds,v,h=>by
  obtain⟨a,vs,h1,h2,h3,h4⟩:=h
  exact⟨a,vs,h1,λ z=>h2 (e a z),h3,aJ.less e h4⟩
 |.list ds,v,h=>by
  obtain⟨a,vs,h1,h2,h3,h4⟩:=h
  exact⟨a,vs,h1,λ z=>h2 (e a z),h3,aJ.less e h4⟩
 |.dict _,_,h=>h.elim
theorem aJ.less{ex ex':List Addr}{H:Hp}(e:∀b∈ex',b∈ex):∀{ds:List PyData} {vs:List V},aJ ex H ds vs->aJ ex' H ds vs
 |[],_,h=>h
 |d::ds,vs,h=>by
  obtain⟨v,r,h1,h2,h3⟩:=h
  exact⟨v,r,h1,aE.less e h2,aJ.less e h3⟩
end
theorem aJ.get{ex:List Addr}{H:Hp}:∀{ds:List PyData} {vs:List V} {i:Nat} {d:PyData},aJ ex H ds vs->ds[i]? =some d->∃v,vs[i]? =some v/\aE ex H d v
 |[],_,_,_,_,e=>by simp at e
 |d::ds,vs,0,d',h,e=>by
  obtain⟨v,r,rfl,h2,h3⟩:=h
  simp at e
  subst e
  exact⟨v,rfl,h2⟩
 |d::ds,vs,i+1,d',h,e=>by
  obtain⟨v,r,rfl,h2,h3⟩:=h
  obtain⟨w,h4,h5⟩:=aJ.get (i:=i) h3 (by simpa using e)
  exact⟨w,by simpa using h4,h5⟩
theorem aJ.length{ex:List Addr}{H:Hp}:∀{ds:List PyData} {vs:List V},aJ ex H ds vs->vs.length=ds.length
 |[],_,h=>by cases h;rfl
 |d::ds,vs,h=>by
  obtain⟨v,r,rfl,h2,h3⟩:=h
  simp[aJ.length h3]
theorem aJ.append{ex:List Addr}{H:Hp}:∀{ds es:List PyData} {vs ws:List V},aJ ex H ds vs->aJ ex H es ws->aJ ex H (ds++es) (vs++ws)
 |[],_,_,_,h,h'=>by cases h;exact h'
 |d::ds,es,vs,ws,h,h'=>by
  obtain⟨v,r,rfl,h2,h3⟩:=h
  exact⟨v,r++ws,rfl,h2,aJ.append h3 h'⟩
theorem aJ.take{ex:List Addr}{H:Hp}:∀{ds:List PyData} {vs:List V} (n:Nat),aJ ex H ds vs->aJ ex H (ds.take n) (vs.take n)
 |[],_,n,h=>by cases h;simp[aJ]
 |d::ds,vs,0,h=>by simp[aJ]
 |d::ds,vs,n+1,h=>by
  obtain⟨v,r,rfl,h2,h3⟩:=h
  exact⟨v,r.take n,rfl,h2,aJ.take n h3⟩
theorem aJ.drop{ex:List Addr}{H:Hp}:∀{ds:List PyData} {vs:List V} (n:Nat),aJ ex H ds vs->aJ ex H (ds.drop n) (vs.drop n)
 |[],_,n,h=>by cases h;simp[aJ]
 |d::ds,vs,0,h=>h
 |d::ds,vs,n+1,h=>by
  obtain⟨v,r,rfl,h2,h3⟩:=h
  exact aJ.drop n h3
theorem aJ.strs{ex:List Addr}{H:Hp}:∀(xs:List Str),aJ ex H (xs.map .str) (xs.map .str)
 |[]=>rfl
 |x::xs=>⟨_,_,rfl,rfl,aJ.strs xs⟩
theorem aJ.strs_of{ex:List Addr}{H:Hp}:∀{xs:List Str} {vs:List V},aJ ex H (xs.map .str) vs->vs=xs.map .str
 |[],_,h=>h
 |x::xs,vs,h=>by
  obtain⟨v,r,rfl,h2,h3⟩:=h
  rw[aJ.strs_of h3,show v=V.str x from h2]
  rfl
theorem aJ.ints_of{ex:List Addr}{H:Hp}:∀{xs:List Int} {vs:List V},aJ ex H (xs.map .int) vs->vs=xs.map .int
 |[],_,h=>h
 |x::xs,vs,h=>by
  obtain⟨v,r,rfl,h2,h3⟩:=h
  rw[aJ.ints_of h3,show v=V.int x from h2]
  rfl
theorem aJ.ints{ex:List Addr}{H:Hp}:∀(xs:List Int),aJ ex H (xs.map .int) (xs.map .int)
 |[]=>rfl
 |x::xs=>⟨_,_,rfl,rfl,aJ.ints xs⟩
section
variable{X:Cx}{pins:List (Addr×Obj)}{σ:St}{H:Hp}{s:Shared}{ex:List Addr}
mutual
theorem aE.reads(I:aB X pins σ H s):∀{d:PyData} {v:V} {u:Value},aE ex H d v->bA v u->∃as,Reads s.heap u d as
 |.none,_,_,h,r=>by cases h;cases r;exact⟨_,.none⟩
 |.bool b,_,_,h,r=>by cases h;cases r;exact⟨_,.bool b⟩
 |.int i,_,_,h,r=>by cases h;obtain⟨t,rfl⟩:=r;exact⟨_,.int i t⟩
 |.str x,_,_,h,r=>by cases h;obtain⟨t,rfl⟩:=r;exact⟨_,.str x t⟩
 |.tuple ds,v,u,h,r=>by
  obtain⟨a,vs,rfl,_,h3,h4⟩:=h
  cases r
  obtain⟨_,its,rv,⟨ob,e1,e2,n,e3⟩,_⟩:vs.length<=sizeLine/\∃its:List Value,aO vs its/\IsTup s.heap a its.toArray/\∃o,s.heap.get? a=some o/\o.dict=none:=I.hok a _ h3
  obtain⟨as,q⟩:=aJ.reads I h4 rv
  exact⟨as,reads_tuple_at e1 e2 e3 (by simpa using q)⟩
 |.list ds,v,u,h,r=>by
  obtain⟨a,vs,rfl,_,h3,h4⟩:=h
  cases r
  obtain⟨_,its,n,rv,e1⟩:vs.length<=sizeLine/\∃(its:List Value) (n:Nat),aO vs its/\s.heap.get? a=some {cls:=.type "list",data:=.seq its.toArray n}:=I.hok a _ h3
  obtain⟨as,q⟩:=aJ.reads I h4 rv
  exact⟨_,reads_list_at e1 rfl rfl (by simpa using q)⟩
 |.dict _,_,_,h,_=>h.elim
theorem aJ.reads(I:aB X pins σ H s):∀{ds:List PyData} {vs:List V} {us:List Value},aJ ex H ds vs->aO vs us->∃as,ReadsAll s.heap us ds as
 |[],_,_,h,r=>by cases h;cases r;exact⟨_,.nil⟩
 | d::ds,vs,us,h,r=>by
  obtain⟨v,rs,rfl,h2,h3⟩:=h
  cases r with
  |cons r1 r2=>
   obtain⟨as,q1⟩:=aE.reads I h2 r1
   obtain⟨bs,q2⟩:=aJ.reads I h3 r2
   exact⟨_,.cons q1 q2⟩
end
end
section
variable{X:Cx}
open SeqAt (shaped)
def Mt:R2:=λ x y H Q=>∃dx dy,aE [] H dx x/\aE [] H dy y/\shaped dx=true/\shaped dy=true/\Q (.bl (PyData.eqv dx dy)) H
def Ml:R2:=λ x y H Q=>∃dx dy,aE [] H dx x/\aE [] H dy y/\shaped dx=true/\shaped dy=true/\Q (.bl (!PyData.eqv dx dy)) H
theorem qD(hu:X.A.units+64<cLine):bV X (compareOp .Eq) Mt:=by
 intro pins s σ H x y v u Q I rx ry h
 obtain⟨dx,dy,h1,h2,s1,s2,q⟩:=h
 obtain⟨as,r1⟩:=h1.reads I rx
 obtain⟨bs,r2⟩:=h2.reads I ry
 exact eq_dataH r1 r2 s1 s2 hu ⟨.bl _,H,I,rfl,q⟩
theorem pZ(hu:X.A.units+64<cLine):bV X (compareOp .NotEq) Ml:=by
 intro pins s σ H x y v u Q I rx ry h
 obtain⟨dx,dy,h1,h2,s1,s2,q⟩:=h
 obtain⟨as,r1⟩:=h1.reads I rx
 obtain⟨bs,r2⟩:=h2.reads I ry
 exact ne_dataH r1 r2 s1 s2 hu ⟨.bl _,H,I,rfl,q⟩
def Mr(K:PySem.W.Frag):List V->Hp->VK->Prop:=λ vs H Q=>∃x T t b,vs=[x,.ty T]/\eZ K H x t/\PySem.W.kitOne K t (.type T)=some b/\Q (.bl b) H
theorem iM:dA X (.builtin "isinstance") (Mr X.K):=by
 intro pins s σ H xs us Q I r h
 obtain⟨x,T,t,b,rfl,ty,e,q⟩:=h
 obtain⟨u1,u2,rfl,r1,r2⟩:=r.two
 cases r2
 exact Tl I r1 ty e λ tk=>⟨.bl b,H,I.tok tk,rfl,q⟩
def Mf:V->Option Int->Option Int->Hp->VK->Prop:=λ x lo hi H Q=>∃z,x= .str z/\z.length<=sizeLine/\Q (.str (Txt.slice z lo hi)) H
theorem pU:jM X Mf:=by
 intro pins s σ H x v vl vu lo hi sl Q I rx hs pl pu h
 obtain⟨z,rfl,hz,q⟩:=h
 obtain⟨t,rfl⟩:=rx
 have fin:∀t' k,EP X pins σ Q (.str (Txt.slice z lo hi) t') {s with toks:=k}:=λ t' k=>⟨.str _,H,I.tok k,⟨_,rfl⟩,q⟩
 cases pl with
 |none=>
  cases pu with
  |none=>exact⟨"str",_,F.slot_str_getitem.lookup,typeIs_str _ _ _,wpAny_getItem_str_slice (l:=none) (u:=none) (st:=none) hs rfl (post_val_or_str ⟨Nat.le_trans (Txt.slice_le z _ _) hz,fin⟩)⟩
  |int j t'=>exact⟨"str",_,F.slot_str_getitem.lookup,typeIs_str _ _ _,wpAny_getItem_str_slice (l:=none) (u:=some (j,t')) (st:=none) hs rfl (post_val_or_str ⟨Nat.le_trans (Txt.slice_le z _ _) hz,fin⟩)⟩
 |int i t''=>
  cases pu with
  |none=>exact⟨"str",_,F.slot_str_getitem.lookup,typeIs_str _ _ _,wpAny_getItem_str_slice (l:=some (i,t'')) (u:=none) (st:=none) hs rfl (post_val_or_str ⟨Nat.le_trans (Txt.slice_le z _ _) hz,fin⟩)⟩
  |int j t'=>exact⟨"str",_,F.slot_str_getitem.lookup,typeIs_str _ _ _,wpAny_getItem_str_slice (l:=some (i,t'')) (u:=some (j,t')) (st:=none) hs rfl (post_val_or_str ⟨Nat.le_trans (Txt.slice_le z _ _) hz,fin⟩)⟩
theorem strs_of:∀{ys:List Str} {us:List Value},aO (ys.map V.str) us->StrsAre us ys
 |[],_,.nil=>.nil
 |y::ys,_,.cons ⟨t,e⟩ r=>by subst e;exact .cons y t (strs_of r)
def Mn(K:PySem.W.Frag):V->List V->Hp->VK->Prop:=λ x vs H Q=>∃z a ys,x= .str z/\vs=[.ref a]/\aN K H a (ys.map V.str)/\(ys.map (·.length)).sum+ys.length*z.length<=16777216/\Q (.str (Txt.join z ys)) H
theorem Rv:gZ X "str.join" (Mn X.K):=by
 intro pins s σ H x vs v us Q I rx rv h
 obtain⟨z,a,ys,rfl,rfl,hq,hl,q⟩:=h
 obtain⟨t,rfl⟩:=rx
 obtain⟨u,rfl,ru⟩:=rv.one
 cases ru
 obtain⟨its,r,pl,_⟩:=I.list hq
 exact join_list pl.isList (by simpa using strs_of r) hl λ t' k=>⟨.str _,H,I.tok k,⟨_,rfl⟩,q⟩
end
def xM(tabs:List Addr)(H:Hp):Prop:=(∀b,H b=none\/(∃o xs,H b=some (.frz o (.lst xs)))\/(b∈tabs/\H b=some (.tbl #[])))/\∀b∈tabs,H b=some (.tbl #[])
theorem Sm{P:Program}{w:World}{K:PySem.W.Frag}{mg mb:Str->Option Value}{CX:dI}{k:Nat}{fa a:Addr}{fd:FuncData}{x:Str}{sp:Sp}{s₁:Shared}{vs:List Value}{ns:List Int}{tabs:List Addr}
  (KX:K.In s₁.heap) (hns:s₁.heap.Ns mainGlobals mg) (hb:s₁.heap.Ns builtinsNs mb) (hbb:∀x:Str,x≠ "__name__"->mb x=bootBuiltins x) (hlim:s₁.heap.NoLimit) (hg:s₁.gens= #[]) (hbm:iR mg s₁.heap)
  (htab:∀p∈tabs,s₁.heap.get? p=some (PySem.W.tabObj #[])/\isCodeTable s₁.heap p/\K.lookup p=none)
  (ha:s₁.heap.get? a=some {cls:=.type "list",data:=.seq vs.toArray}) (hi:IntsAre vs ns) (hl:ns.length<=sizeLine) (hr:bT k callerA)
  (F:∀base:Heap,K.In base->base.Ns mainGlobals mg->iR mg base->bE P w K mg base CX k fa fd [x] sp) (hbind:∀(s:Shared) (u:Value),BindsTo s fd ⟨[u],[]⟩ [(x,u)])
  (hsp:∀H:Hp,xM tabs H->aN K H a (ns.map V.int)->sp [.ref a] H (λ v _=>v= .bl true) λ _ _ _=>False)
  (hCX:∀H e s',CX [] H s₁ (λ _ _ _=>False) e s'->False):
  codeAny (model P w) callerA (.call (.ref fa) ⟨[.ref a],[]⟩) (λ r s'=>r= .ok (.ret (.bool true))/\OldK s₁.heap s'.heap/\s'.os=s₁.os/\AllBare s'.gens) s₁:=by
 have rv:=zL hi
 have lenV:=hi.length
 have anT:a∉tabs:=λ z=>by
  have e:=(htab a z).1
  rw[ha]at e
  cases e
 have core:∀H:Hp,xM tabs H->aN K H a (ns.map V.int)->bZ P w H s₁.heap->(∀b,H b≠none->b=a\/b∈tabs)->(H a≠none->K.lookup a=none)->
   codeAny (model P w) callerA (.call (.ref fa) ⟨[.ref a],[]⟩) (λ r s'=>r= .ok (.ret (.bool true))/\OldK s₁.heap s'.heap/\s'.os=s₁.os/\AllBare s'.gens) s₁:=by
  intro H hO hS hok hA hK
  have base_of:∀{b:Addr} {o:Obj},s₁.heap.get? b=some o->H b=none->(gQ s₁.heap H).get? b=some o:=λ e n=>Vc e n
  have noT:∀{b:Addr} {o:Obj},s₁.heap.get? b=some o->(∀(vs:Array Value) n,o.data≠ .seq vs n)->(∀vs:Array Value,o.data≠ .fields vs)->H b=none:=fun{b o} e d1 d2=>by
   cases q:H b with
   |none=>rfl
   | some u=>
    rcases hA b (by rw[q];simp)with e'|e'
    ·subst e'
     rw[ha]at e;cases e
     exact absurd rfl (d1 _ _)
    ·rw[(htab b e').1]at e;cases e
     exact absurd rfl (d2 _)
  have nsK:∀{b:Addr} {m:Str->Option Value},s₁.heap.Ns b m->(gQ s₁.heap H).Ns b m:=fun{b m} ⟨o,es,ep,e,d,r⟩=>⟨o,es,ep,base_of e (noT e (by intro _ _ z;rw[d]at z;cases z) (by intro _ z;rw[d]at z;cases z)),d,r⟩
  have hKb:K.In (gQ s₁.heap H):=λ b o e=>base_of (KX b o e) (by
   cases q:H b with
   |none=>rfl
   | some u=>
    rcases hA b (by rw[q];simp)with e'|e'
    ·subst e'
     rw[hK (by rw[q];simp)]at e;cases e
    ·rw[(htab b e').2.2]at e;cases e)
  have hM:Mod K mg (gQ s₁.heap H):=⟨hKb,nsK hns,⟨mb,nsK hb,hbb⟩,let⟨mc,h1,h2⟩:=hlim;⟨mc,nsK h1,h2⟩⟩
  have hB:iR mg (gQ s₁.heap H):=by
   obtain⟨bm,ob,b1,b2,b3,b4,b5,b6⟩:=hbm
   exact⟨bm,ob,b1,b2,base_of b3 (noT b3 (by intro _ _ z;rw[b6]at z;cases z) (by intro _ z;rw[b6]at z;cases z)),b4,b5,b6⟩
  have e0:fS P w K mg (gQ s₁.heap H) callerA [] s₁ H:=⟨rfl,hM,λ b o e=>Rf e,Nat.le_of_eq (Vb _ _),trivial,λ b hb=>absurd (show b∈([]:List Addr)from hb) Qb,hok,.of_eq hg⟩
  refine codeAny_mono ((F _ hKb (nsK hns) hB).run callerA [] s₁ H ⟨[.ref a],[]⟩ [.ref a] [.ref a] _ _ hr e0 (hbind s₁ (.ref a)) (.cons rfl .nil) (hsp H hO hS)) λ r s' h=>?_
  cases r with
  |error e=>exact(hCX H e s' h).elim
  | ok fl=>
   cases fl with
   |next=>exact False.elim h
   |brk=>exact False.elim h
   |cont=>exact False.elim h
   | ret u=>
    obtain⟨v,H',os,bare,un,hok',r',q⟩:=h
    have q':v= .bl true:=q
    subst q'
    obtain rfl:u=Value.bool true:=r'
    have no:∀b:Addr,b∉cC []:=λ b z=>absurd (show b∈([]:List Addr)from z) Qb
    refine⟨rfl,⟨λ b o e=>?_,λ b o e=>un.there b o e Qb⟩,os,bare.1⟩
    rcases hO.1 b with z|⟨ob,xs,z⟩|⟨zt,z⟩
    ·exact .inl (un.keep b o e z (no b) Qb)
    ·have z2:=un.frzs b ob _ z
     obtain⟨e1,_⟩:=hok b _ z
     obtain⟨e2,_⟩:=hok' b _ z2
     rw[e]at e1;cases e1
     exact .inl e2
    ·obtain⟨more,z2⟩:=un.tbls b _ z
     have e2:s'.heap.get? b=some {cls:=.none,data:=.fields (#[]++more)}:=hok' b _ z2
     have e1:=(htab b zt).1
     rw[e]at e1;cases e1
     exact .inr (.inl ⟨(htab b zt).2.1,rfl,#[],more,rfl,e2⟩)
 have tabOk:∀b∈tabs,s₁.heap.get? b=some {cls:=.none,data:=.fields #[]}:=λ b hb=>(htab b hb).1
 cases hk:K.lookup a with
 | some o=>
  have e:=KX a o hk
  rw[ha]at e
  cases e
  refine core (λ b=>if b∈tabs then some (.tbl #[])else none) ⟨λ b=>?_,λ b hb=>if_pos hb⟩ (.inr ⟨_,vs.toArray,_,hk,rfl,rfl,rfl,by rw[List.size_toArray,lenV];exact hl,by simpa using rv⟩) (λ b u z=>?_) (λ b z=>?_) (λ z=>absurd (if_neg anT) z)
  ·by_cases hb:b∈tabs
   ·exact .inr (.inr ⟨hb,if_pos hb⟩)
   ·exact .inl (if_neg hb)
  ·by_cases hb:b∈tabs
   ·have z':=(if_pos hb).symm.trans z
    cases z'
    exact tabOk b hb
   ·have z':=(if_neg hb).symm.trans z
    cases z'
  ·by_cases hb:b∈tabs
   ·exact .inr hb
   ·exact absurd (if_neg hb) z
 | none=>
  refine core (λ b=>if b=a then some (.frz {cls:=.type "list",data:=.seq vs.toArray} (.lst (ns.map V.int)))else if b∈tabs then some (.tbl #[])else none) ⟨λ b=>?_,λ b hb=>?_⟩ (.inl (.inr ⟨{cls:=.type "list",data:=.seq vs.toArray},if_pos rfl⟩)) (λ b u z=>?_) (λ b z=>?_) λ _=>hk
  ·by_cases hb:b=a
   ·exact .inr (.inl ⟨_,_,if_pos hb⟩)
   ·by_cases hb':b∈tabs
    ·exact .inr (.inr ⟨hb',(if_neg hb).trans (if_pos hb')⟩)
    ·exact .inl ((if_neg hb).trans (if_neg hb'))
  ·have hne:b≠a:=λ z=>anT (z▸hb)
   exact(if_neg hne).trans (if_pos hb)
  ·by_cases hb:b=a
   ·have z':=(if_pos hb).symm.trans z
    cases z'
    subst hb
    exact⟨ha,by rw[List.length_map];exact hl,vs,_,rv,ha⟩
   ·have z1:(if b∈tabs then some (HO.tbl #[])else none)=some u:=(if_neg hb).symm.trans z
    by_cases hb':b∈tabs
    ·have z':=(if_pos hb').symm.trans z1
     cases z'
     exact tabOk b hb'
    ·have z':=(if_neg hb').symm.trans z1
     cases z'
  ·by_cases hb:b=a
   ·exact .inl hb
   ·by_cases hb':b∈tabs
    ·exact .inr hb'
    ·exact absurd ((if_neg hb).trans (if_neg hb')) z
def jU(K:PySem.W.Frag)(gn:List Str):List Addr:=gn.filterMap λ x=>(PySem.W.tabIn K x).map (·.2)
theorem Gy{l:PySem.W.OpenLaw}{n k:Nat}{q:Program}{loose:List Str}{XP:(Str->Option Value)->Heap->Prop}{YP:World->Heap->Prop}{d:DefRec}{K:Params->PySem.W.Frag}{CX:World->dI}{sp:World->Sp}{x:Str}(gn:List Str)
  (hn:l.most=some n) (hn2:n<=sizeLine) (hdf:d.params.defaults=[]) (hr:bT k callerA)
  (hY:∀(w:World) (h:Heap),YP w h->(K w.params).In h)
  (hgn:∀y∈gn,((recsOf q).find? (λ e=>e.name==y)).isSome=true)
  (hT:∀(w:World) (h:Heap),(K w.params).In h->∀y∈gn,∀c P,PySem.W.tabIn (K w.params) y=some (c,P)->(K w.params).lookup P=none)
  (F:∀(w:World) (mg:Str->Option Value) (fa:Addr) (h:Heap),(K w.params).In h->h.Ns mainGlobals mg->mg d.name=some (.ref fa)->
   ∃fd:FuncData,(∀(s:Shared) (u:Value),BindsTo s fd ⟨[u],[]⟩ [(x,u)])/\
    ∀base:Heap,(K w.params).In base->base.Ns mainGlobals mg->iR mg base->bE l.prog w (K w.params) mg base (CX w) k fa fd [x] (sp w))
  (hsp:∀(w:World) (H:Hp) (a:Addr) (ns:List Int),ns.length<=n->xM (jU (K w.params) gn) H->aN (K w.params) H a (ns.map V.int)->sp w [.ref a] H (λ v _=>v= .bl true) λ _ _ _=>False)
  (hCX:∀(w:World) (H:Hp) (s:Shared) (e:Value) (s':Shared),CX w [] H s (λ _ _ _=>False) e s'->False):
  PySem.W.WalkO q loose XP YP l.row.toRowW d [] (λ f vs=>PySem.call f vs):=by
 refine Att.attach_call hn hdf λ w s₀ s₁ mg mb fa o pm cd doc a vs ns G Y ho hd hcd hmg hobj hints hlen hg=>?_
 have KX:=hY w _ Y
 obtain⟨fd,hb,hF⟩:=F w mg fa _ KX G.T.g hmg
 refine Sm (tabs:=jU (K w.params) gn) KX G.T.g G.T.b G.T.builtins G.T.nolimit hg G.T.bmain (λ p hp=>?_) hobj hints (Nat.le_trans hlen hn2) hr hF hb (λ H hO hS=>hsp w H a ns hlen hO hS) λ H e s'=>hCX w H s₁ e s'
 obtain⟨y,hy,e⟩:=List.mem_filterMap.mp hp
 cases et:PySem.W.tabIn (K w.params) y with
 |none=>rw[et]at e;cases e
 |some cP=>
  obtain⟨c,P⟩:=cP
  rw[et]at e
  have e':P=p:=Option.some.inj e
  subst e'
  obtain⟨d',hd'⟩:=Option.isSome_iff_exists.mp (hgn y hy)
  obtain⟨t1,t2⟩:=PySem.W.tab_of G.T KX hd' et
  exact⟨t2,(t1.tab t2).isCodeTable,hT w _ KX y hy c P et⟩
def rV(z:Str):It:=⟨λ i _=>i<z.cps.size,λ i H x H'=>H'=H/\∃c,z.cps[i]? =some c/\x= .str ⟨#[c]⟩,λ i _=>i=z.cps.size⟩
theorem zQ{P:Program}{w:World}{K:PySem.W.Frag}{tg:Expr}(it:Addr)(z:Str)(t:Tok)(ty:String)
  (hty:["enumerate","zip","dict_itemiterator","dict_reverseitemiterator","odict_iterator","itertools.zip_longest","itertools.pairwise"].contains ty=false)
  (W:∀A:Around,A.handled=none->Walks P w A it [it] [it] z.cps.size (SignAt z) (λ i h=>h.IsStrIter it ty z t i))
  (self:∀(A:Around) (i:Nat) (s:Shared) (Q:Qe) (E:Qe),s.heap.IsStrIter it ty z t i->Q (.ref it) s->wpAny (model P w) A (pyIter (.ref it)) Q E s):
  iO P w K tg (rV z) [it] it (λ i h=>h.IsStrIter it ty z t i) where
 mem:=by simp
 obj:=λ i h st b hb=>by
  have e:b=it:=by simpa using hb
  subst e
  obtain⟨o,e,c,d⟩:=st
  exact⟨o,e,λ v z=>by rw[d]at z;cases z⟩
 keep:=λ i h h' st k=>let⟨o,ho,r⟩:=st;⟨o,k it Qb o ho,r⟩
 item:=by
  intro X hP hw hK hc i pins s σ H E I hf st hg
  subst hP hw hK
  obtain⟨f0,f1,f2,f3,f4,f5⟩:=hf it Qb
  refine(W X.A (I.ok.hd hc)).item i s _ _ hg st λ v h' tk hv st' kk=>?_
  obtain⟨c,u,hc',rfl⟩:=hv
  have I1:aB X pins σ H {s with heap:=h',toks:=tk}:=I.turned (λ b o hb e=>kk b o (by simpa using hb) e) f0 f1 f3 f4 f5
  obtain⟨o,e,oc,d⟩:=id st'
  exact⟨_,rfl,qX (s:={s with heap:=h',toks:=tk}) e oc d hty ⟨.str ⟨#[c]⟩,H,I1,⟨_,rfl⟩,⟨rfl,c,hc',rfl⟩,st',λ b hb=>(hf b hb).1⟩⟩
 done:=by
  intro X hP hw hK hc i pins s σ H E I hf st hg
  subst hP hw hK
  obtain⟨f0,f1,f2,f3,f4,f5⟩:=hf it Qb
  obtain rfl:i=z.cps.size:=hg
  exact(W X.A (I.ok.hd hc)).done s _ _ st λ h' tk kk=>⟨rfl,I.turned (λ b o hb e=>kk b o (by simpa using hb) e) f0 f1 f3 f4 f5⟩
 self:=λ A i s Q E st h=>self A i s Q E st h
section
variable{X:Cx}{tg:Expr}
def Ty(tl:TE):TI:=λ σ H R=>tl σ H λ x H1=>∃z,x= .str z/\R (rV z) H1
theorem Nt{l:Expr}{tl:TE}(hl:PE X l tl):PI X tg l (Ty tl):=by
 intro pins s σ H R I h
 refine aP (hl pins s σ H _ I h) λ v s1 ⟨x,H1,I1,r1,q1⟩=>?_
 obtain⟨z,e,q⟩:=q1
 subst e
 obtain⟨t,rfl⟩:=r1
 have fin:∀(ty:String) (T:iO X.prog X.w X.K tg (rV z) [s1.heap.objs.size] s1.heap.objs.size (λ i h=>h.IsStrIter s1.heap.objs.size ty z t i)),
   xL X pins σ tg R (.ref s1.heap.objs.size) {s1 with heap:=s1.heap.push {cls:=.type ty,data:=.fields #[.str z t,.int 0 0]}}:=λ ty T=>by
  refine⟨s1.heap.objs.size,[s1.heap.objs.size],_,_,H1,rfl,I1.kept (t':=s1.toks) λ b o e=>Heap.get?_push_of_some _ e,T,⟨_,Heap.get?_push_size _ rfl,rfl,rfl⟩,λ b hb=>?_,q⟩
  have e:b=s1.heap.objs.size:=by simpa using hb
  subst e
  exact I1.fpOk (Nat.le_refl _) (I1.hok.fresh (Nat.le_refl _))
 cases ha:z.cps.all (· <128)
 ·exact wpAny_pyIter_wide ha (fin _ (zQ _ z t _ Qc (λ A hA=>Walks.strWide hA _ z t) λ A i s Q E st h=>wpAny_pyIter_striter_wide st h))
 ·exact wpAny_pyIter_ascii ha (fin _ (zQ _ z t _ Qc (λ A hA=>Walks.strAscii hA _ z t) λ A i s Q E st h=>wpAny_pyIter_striter_ascii st h))
theorem AK{bs:List Bool}{its:List Value}(r:aO (bs.map V.bl) its){i:Nat}{v:Value}(h:its[i]? =some v):∃b,bs[i]? =some b/\v= .bool b:=by
 have hi:i<its.length:=(List.getElem?_eq_some_iff.mp h).1
 have hl:=r.length
 rw[List.length_map]at hl
 have hb:i<bs.length:=by omega
 obtain⟨u,hu,ru⟩:=r.get (i:=i) (x:=.bl bs[i]) (by simp[hb])
 rw[h]at hu
 cases hu
 exact⟨bs[i],by simp[hb],ru⟩
theorem AT(bs:List Bool):(List.range bs.length).all (λ i=>(bs[i]?).getD true)=bs.all id:=by
 rw[Bool.eq_iff_iff,List.all_eq_true,List.all_eq_true]
 constructor
 ·intro h b hb
  obtain⟨j,hj,rfl⟩:=List.getElem_of_mem hb
  simpa[List.getElem?_eq_getElem hj]using h j (List.mem_range.mpr hj)
 ·intro h j hj
  have hj':=List.mem_range.mp hj
  have:=h _ (List.getElem_mem hj')
  simpa[List.getElem?_eq_getElem hj']using this
theorem AB(hc:X.calm=true):dA X (.builtin "all") (λ xs H Q=>∃(a:Addr) (bs:List Bool),xs=[.ref a]/\aN X.K H a (bs.map V.bl)/\Q (.bl (bs.all id)) H):=by
 intro pins s σ H xs us Q I r h
 obtain⟨a,bs,rfl,hq,q⟩:=h
 obtain⟨u,rfl,ru⟩:=r.one
 cases ru
 obtain⟨its,rv,pl,hz⟩:=I.list hq
 have hl:=rv.length
 rw[List.length_map]at hl
 have hlt:a<s.heap.objs.size:=by obtain⟨_,e,_⟩:=pl.isList;exact Heap.lt_size e
 refine call_all_walk (wpAny_pyIter_list pl.isList ⟨s.heap.objs.size,[s.heap.objs.size,a],[s.heap.objs.size],its.toArray.size,_,_,λ i=>(bs[i]?).getD true,rfl,Walks.list (A:=X.A.in1) (show X.A.in1.handled=none from I.ok.hd hc) s.heap.objs.size a (Nat.ne_of_lt hlt) its.toArray,⟨⟨_,Heap.get?_push_size _ rfl,rfl,rfl⟩,pl.isList.push _⟩,?_,?_⟩)
 ·intro i v s' Q' E' hv hQ
  have hv':its[i]? =some v:=by simpa using hv
  obtain⟨b,hb,rfl⟩:=AK rv hv'
  have hQ':Q' ((bs[i]?).getD true) s':=hQ
  rw[hb]at hQ'
  exact wpAny_truthy_bool hQ'
 ·intro h' tk hk
  have e:its.toArray.size=bs.length:=by rw[List.size_toArray];omega
  rw[e,AT]
  refine⟨.bl _,H,I.kept λ b o e=>hk b o (λ z=>?_) (Heap.get?_push_of_some _ e),rfl,q⟩
  have z':b=s.heap.objs.size:=by simpa using z
  subst z'
  exact absurd (Heap.lt_size e) (Nat.lt_irrefl _)
end
structure lD(J:It)(ok:Hp->Prop)(ys:List V):Prop where
 go:∀i H,ok H->i<ys.length->J.go i H
 stop:∀H,ok H->J.stop ys.length H
 yld:∀i H x H',ok H->i<ys.length->J.yld i H x H'->H'=H/\ys[i]? =some x
theorem yO{lo:Int}{n:Nat}:lD (lI lo n) (λ _=>True) ((List.range n).map λ i=>V.int (lo+(i:Nat))) where
 go:=λ i H _ hi=>by show i<n;simpa using hi
 stop:=λ H _=>by show n<=_;simp
 yld:=λ i H x H' _ hi ⟨e,y⟩=>⟨e,by
  have hi':i<n:=by simpa using hi
  subst y
  simp[hi']⟩
theorem pG{K:PySem.W.Frag}{a:Addr}{ys:List V}:lD (mY K a) (λ H=>aN K H a ys) ys where
 go:=λ i H h hi=>⟨ys,ys[i],h,by simp[hi]⟩
 stop:=λ H h=>⟨ys,h,Nat.le_refl _⟩
 yld:=λ i H x H' h hi ⟨e,y⟩=>⟨e,y ys h⟩
theorem lN{K:PySem.W.Frag}{a:Addr}{ys:List V}:lD (mX K a) (λ H=>aM K H a ys) ys where
 go:=λ i H h hi=>⟨ys,ys[i],h,by simp[hi]⟩
 stop:=λ H h=>⟨ys,h,Nat.le_refl _⟩
 yld:=λ i H x H' h hi ⟨e,y⟩=>⟨e,y ys h⟩
def jW(z:Str):List V:=z.cps.toList.map λ c=>V.str ⟨#[c]⟩
theorem Fx{z:Str}:lD (rV z) (λ _=>True) (jW z) where
 go:=λ i H _ hi=>by show i<z.cps.size;simpa[jW]using hi
 stop:=λ H _=>by show _=z.cps.size;simp[jW]
 yld:=λ i H x H' _ hi ⟨e,c,hc,y⟩=>⟨e,by
  subst y
  have hc':z.cps.toList[i]? =some c:=by simpa using hc
  simp only[jW,List.getElem?_map,hc',Option.map_some]⟩
def Nx(n i:Nat)(p:Prop):Prop:=∃m',m'<n-i/\m'=n-(i+1)/\i+1<=n/\p
theorem nx{n i:Nat}{p:Prop}(h:i<n)(q:p):Nx n i p:=⟨n-(i+1),Qa,rfl,h,q⟩
theorem kR{J:It}{ok:Hp->Prop}{ys:List V}{g:TG}{tt:TT}{te:TE}{σc:St}{H:Hp}{Q:VK}(Y:lD J ok ys)(Pv:Nat->List V->Hp->Prop)(h0:Pv 0 [] H)(hok:∀i xs H,Pv i xs H->ok H)
  (step:∀i x xs H,ys[i]? =some x->i<ys.length->Pv i xs H->g x σc H λ σ2 H2=>tt σ2 H2 λ b H3=>if b=true then te σ2 H3 λ v H4=>xs.length<sizeLine/\Nx ys.length i (Pv (i+1) (xs++[v]) H4)else Nx ys.length i (Pv (i+1) xs H3))
  (fin:∀xs H,Pv ys.length xs H->∀p,H p=none->Q (.ref p) (aD H p (.lst xs))):
  pA J g tt te σc Q H:=by
 refine⟨λ i m xs H=>m=ys.length-i/\i<=ys.length/\Pv i xs H,⟨ys.length,Qb,Nat.zero_le _,h0⟩,?_⟩
 rintro i m xs H ⟨rfl,hi,p⟩
 have o:=hok i xs H p
 by_cases hlt:i<ys.length
 ·refine .inr ⟨Y.go i H o hlt,λ x H' y=>?_⟩
  obtain⟨e,hx⟩:=Y.yld i H x H' o hlt y
  subst e
  exact step i x xs _ hx hlt p
 ·have e:i=ys.length:=by omega
  subst e
  exact .inl ⟨Y.stop H o,fin xs H p⟩
theorem mG{J:It}{ok:Hp->Prop}{ys:List V}{g:TG}{te:TE}{σc:St}{H:Hp}{Q:VK}(Y:lD J ok ys)(Pv:Nat->List V->Hp->Prop)(h0:Pv 0 [] H)(hok:∀i xs H,Pv i xs H->ok H)
  (step:∀i x xs H,ys[i]? =some x->i<ys.length->Pv i xs H->g x σc H λ σ2 H2=>te σ2 H2 λ v H4=>xs.length<sizeLine/\Nx ys.length i (Pv (i+1) (xs++[v]) H4))
  (fin:∀xs H,Pv ys.length xs H->∀p,H p=none->Q (.ref p) (aD H p (.lst xs))):pA J g gJ te σc Q H:=by
 refine kR Y Pv h0 hok (λ i x xs H hx hi p=>?_) fin
 have e:(λ (σ2:St) (H2:Hp)=>gJ σ2 H2 λ b H3=>if b=true then te σ2 H3 λ v H4=>xs.length<sizeLine/\Nx ys.length i (Pv (i+1) (xs++[v]) H4)else Nx ys.length i (Pv (i+1) xs H3))=
   λ σ2 H2=>te σ2 H2 λ v H4=>xs.length<sizeLine/\Nx ys.length i (Pv (i+1) (xs++[v]) H4):=by
  funext σ2 H2
  unfold gJ
  dsimp only
  rw[if_pos rfl]
 rw[e]
 exact step i x xs H hx hi p
structure jO(K:PySem.W.Frag)(x qual:Str)(st:Stmt)(f:Addr)(fd:FuncData)(c:Addr):Prop where
 ex:∃(oc:Value) (od:Option Addr) (kV doc pm:Value) (an:Option Addr) (ct:Value) (osl:Array (Option Value)),
  fd=PySem.W.fnOf x qual (eT st) (dG st) (aW st) .none kV doc pm an (.ref c) ct/\K.lookup f=some ⟨oc,od,.func fd,osl⟩/\PySem.W.codeIn K (.ref c) qual=true
 kp:PySem.W.keepIn K (.ref f)=true
section
variable{P:Program}{w:World}{K:PySem.W.Frag}{mg:Str->Option Value}{base:Heap}
theorem jO.fn{x qual:Str}{st:Stmt}{f:Addr}{fd:FuncData}{c:Addr}(F:jO K x qual st f fd c):bR K x qual st f fd:=by
 obtain⟨oc,od,kV,doc,pm,an,ct,osl,h⟩:=F.ex
 exact⟨⟨oc,od,kV,doc,pm,an,.ref c,ct,osl,h⟩,F.kp⟩
theorem jO.ok{x qual:Str}{st:Stmt}{f:Addr}{fd:FuncData}{c:Addr}{N ps:List Str}{k:Nat}{sp:Sp}(F:jO K x qual st f fd c)(S:bW N ps (aW st))(len:∀vs H Q E,sp vs H Q E->vs.length=ps.length)
  (hbody:∀(A:Around) (outer:List Env) (s:Shared) (H:Hp) (vs:List V) (Q:VK) (E:XK),bT k (A.deeper (envOfC qual (aW st) s.heap.objs.size f (.ref c)))->sp vs H Q E->
   ∃t,dH (gB bP P w K mg base N qual (aW st) f (.ref c) A outer s H E).nox (dG st) t/\t {nx:=λ _ H'=>Q .non H',rt:=Q} (start N vs) H):bE P w K mg base bP (k+1) f fd ps sp:=by
 obtain⟨oc,od,kV,doc,pm,an,ct,osl,rfl,lk,hcd⟩:=F.ex
 refine rA lk hcd S len λ A outer s H vs Q E hr hsp=>?_
 obtain⟨t,h,q⟩:=hbody A outer s H vs Q E hr hsp
 exact⟨t,h.nox,q⟩
end
def bF(P:Program)(w:World)(K:PySem.W.Frag)(mg:Str->Option Value)(base:Heap)(x:Str)(k:Nat)(ps:List Str)(sp:Sp):Prop:=
 ∃f fd,bE P w K mg base bP k f fd ps sp/\mg x=some (.ref f)/\PySem.W.keepIn K (.ref f)=true/\hU K fd ps []
section
variable{X:Cx}{x:Str}{k j:Nat}{ps:List Str}{sp:Sp}{e:Expr}{es:List Expr}{p pos:Pos}{t:TA}
theorem bD(C:bF X.prog X.w X.K X.mg X.base x k ps sp)(hr:bT j X.A)(ha:PA X (e::es) t)(hg:Gl X x:=by rfl)(hj:k<=j:=by decide)(hdb:(x==("__debug__" :Str))=false:=by decide)
  (he:starEach (e::es) X.env=(false,eval e X.env)::starEach es X.env:=by rfl) (hpl:(backTo pos (starEach es X.env)).any (·.1)=false:=by rfl):
  PE X (.Call (.Name x p) (e::es) [] pos) (sW sp [] E0 t):=by
 obtain⟨f,fd,F,hm,hk,hb⟩:=C
 exact Og F (hr.mono hj) hg hm hk hb .nil Oi ha hdb he hpl
theorem kK{v:V}(h:∃u,X.mg x=some u/\bA v u)(hg:Gl X x:=by rfl)(hd:(x==("__debug__" :Str))=false:=by decide):PE X (.Name x pos) (tC v):=by
 obtain⟨u,hm,r⟩:=h
 exact Od hg hm r hd
end
def Ax:Expr->Bool
 |.Starred _ _=>false
 |_=>true
theorem Kp:∀(e:Expr) (rest:List Expr) (env:Env),Ax e=true->starEach (e::rest) env=(false,eval e env)::starEach rest env:=by
 intro e rest env h
 cases e<;>first|rfl|(cases h)
theorem aA{X:Cx}{e:Expr}{es:List Expr}{te:TE}{t:TA}(ha:PE X e te)(hr:PA X es t)(h:Ax e=true:=by rfl):PA X (e::es) (zV te t):=Ol ha hr (Kp e es X.env h)
theorem aQ{N:List Str}{x:Str}(n:Nat)(h:N[n]? =some x:=by rfl):N[n]? =some x:=h
theorem eU{N:List Str}(Nc:List Str)(k:Nat)(js:List Nat)(h:(Nc.drop k).map some=js.map (N[·]?):=by rfl):(Nc.drop k).map some=js.map (N[·]?):=h
theorem AE:bootBuiltins ("str" :Str)=some (.type "str"):=by decide+kernel
theorem AG:bootBuiltins ("int" :Str)=some (.type "int"):=by decide+kernel
theorem Er:bootBuiltins ("bool" :Str)=some (.type "bool"):=by decide+kernel
theorem eX:bootBuiltins ("tuple" :Str)=some (.type "tuple"):=by decide+kernel
theorem rM:bootBuiltins ("list" :Str)=some (.type "list"):=by decide+kernel
theorem eM:bootBuiltins ("isinstance" :Str)=some (.builtin "isinstance"):=by decide+kernel
theorem AI:bootBuiltins ("min" :Str)=some (.builtin "min"):=by decide+kernel
theorem AJ:bootBuiltins ("all" :Str)=some (.builtin "all"):=by decide+kernel
def lP:PyData->String
 |.none=>"NoneType"
 |.bool _=>"bool"
 |.int _=>"int"
 |.str _=>"str"
 |.tuple _=>"tuple"
 |.list _=>"list"
 |.dict _=>"dict"
theorem aE.ty{K:PySem.W.Frag}{ex:List Addr}{H:Hp}:∀{d:PyData} {v:V},aE ex H d v->eZ K H v (.type (lP d))
 |.none,_,h=>by cases h;exact .non
 |.bool b,_,h=>by cases h;exact .bl b
 |.int i,_,h=>by cases h;exact .int i
 |.str x,_,h=>by cases h;exact .str x
 |.tuple ds,_,h=>by obtain⟨a,vs,rfl,_,h3,_⟩:=h;exact .tup h3
 |.list ds,_,h=>by obtain⟨a,vs,rfl,_,h3,_⟩:=h;exact .lst h3
 |.dict _,_,h=>h.elim
def mL(T:String):PyData->Bool
 |.bool _=>T== "bool" ||T== "int"
 |d=>lP d==T
theorem Cm{K:PySem.W.Frag}:∀d:PyData,PySem.W.kitOne K (.type (lP d)) (.type "str")=some (mL "str" d)
 |.none=>rfl|.bool _=>rfl|.int _=>rfl|.str _=>rfl|.tuple _=>rfl|.list _=>rfl|.dict _=>rfl
theorem Cn{K:PySem.W.Frag}:∀d:PyData,PySem.W.kitOne K (.type (lP d)) (.type "bool")=some (mL "bool" d)
 |.none=>rfl|.bool _=>rfl|.int _=>rfl|.str _=>rfl|.tuple _=>rfl|.list _=>rfl|.dict _=>rfl
theorem kU{K:PySem.W.Frag}:∀d:PyData,PySem.W.kitOne K (.type (lP d)) (.type "tuple")=some (mL "tuple" d)
 |.none=>rfl|.bool _=>rfl|.int _=>rfl|.str _=>rfl|.tuple _=>rfl|.list _=>rfl|.dict _=>rfl
theorem mH{K:PySem.W.Frag}:∀d:PyData,PySem.W.kitOne K (.type (lP d)) (.type "list")=some (mL "list" d)
 |.none=>rfl|.bool _=>rfl|.int _=>rfl|.str _=>rfl|.tuple _=>rfl|.list _=>rfl|.dict _=>rfl
section
variable{X:Cx}
end
end L2
namespace L2
open PySem PySem.Spec PyProof.Rows HT
structure Zn where
 ex:List Addr
 p:Addr
 ts:List Addr
structure Cz(z:Zn)(H:Hp):Prop where
 mem:z.p∈z.ex
 al:∀b∈z.ex,∃xs,H b=some (.lst xs)
 held:∃n:Int,H z.p=some (.lst [.int n])
 tb:Tb z.ts H
structure aX(z:Zn)(H H':Hp):Prop where
 ext:aG [z.p] H H'
 cz:Cz z H'
theorem Cz.out{z:Zn}{H:Hp}(c:Cz z H){P:Addr}(h:P∈z.ts):P∉z.ex:=λ hm=>by
 obtain⟨ps,h1,_⟩:=c.tb P h
 obtain⟨xs,h2⟩:=c.al P hm
 rw[h1]at h2
 cases h2
theorem Cz.ext{z:Zn}{H H':Hp}(c:Cz z H)(e:aG [] H H'):Cz z H':=
 ⟨c.mem,λ b hb=>let⟨xs,h⟩:=c.al b hb;⟨xs,e.lst Qb h⟩,let⟨n,h⟩:=c.held;⟨n,e.lst Qb h⟩,e.tb c.tb Qb⟩
theorem Cz.extp{z:Zn}{H H':Hp}(c:Cz z H)(e:aG [z.p] H H')(h:∃n:Int,H' z.p=some (.lst [.int n])):Cz z H':=
 ⟨c.mem,λ b hb=>by
  by_cases q:b=z.p
  ·subst q
   obtain⟨n,h⟩:=h
   exact⟨_,h⟩
  ·obtain⟨xs,h⟩:=c.al b hb
   exact⟨xs,e.lst (by simpa using q) h⟩,h,e.tb c.tb λ P hP q=>c.out hP (by rw[List.mem_singleton.mp q];exact c.mem)⟩
theorem aX.refl{z:Zn}{H:Hp}(c:Cz z H):aX z H H:=⟨aG.refl,c⟩
theorem aX.trans{z:Zn}{H H1 H2:Hp}(a:aX z H H1)(b:aX z H1 H2):aX z H H2:=⟨a.ext.trans b.ext,b.cz⟩
theorem aX.of{z:Zn}{H H':Hp}(c:Cz z H)(e:aG [] H H'):aX z H H':=⟨e.mono Qb,c.ext e⟩
theorem aX.ex{z:Zn}{H H':Hp}(s:aX z H H'):aG z.ex H H':=s.ext.mono λ b hb=>by rw[List.mem_singleton.mp hb];exact s.cz.mem
theorem aE.stp{z:Zn}{H H':Hp}{d:PyData}{v:V}(h:aE z.ex H d v)(s:aX z H H'):aE z.ex H' d v:=aE.ext s.ex h
theorem aJ.stp{z:Zn}{H H':Hp}{d:List PyData}{v:List V}(h:aJ z.ex H d v)(s:aX z H H'):aJ z.ex H' d v:=aJ.ext s.ex h
theorem Cz.free{z:Zn}{H:Hp}(c:Cz z H){q:Addr}(h:H q=none):q∉z.ex:=λ hm=>by
 obtain⟨xs,h2⟩:=c.al q hm
 rw[h]at h2
 cases h2
def fJ(z:Zn)(Q:VK)(d:PyData)(H:Hp):Prop:=∀v H',aX z H H'->aE z.ex H' d v->Q v H'
theorem fJ.tup{z:Zn}{Q:VK}{ds:List PyData}{xs:List V}{H:Hp}(k:fJ z Q (.tuple ds) H)(c:Cz z H)(h:aJ z.ex H ds xs){q:Addr}(hq:H q=none):Q (.ref q) (aD H q (.tup xs)):=
 have e:aG [] H (aD H q (.tup xs)):=aG.new hq _
 k _ _ (aX.of c e) ⟨q,xs,rfl,c.free hq,aR,aJ.ext (e.mono Qb) h⟩
theorem fJ.lst{z:Zn}{Q:VK}{ds:List PyData}{xs:List V}{H:Hp}(k:fJ z Q (.list ds) H)(c:Cz z H)(h:aJ z.ex H ds xs){q:Addr}(hq:H q=none):Q (.ref q) (aD H q (.lst xs)):=
 have e:aG [] H (aD H q (.lst xs)):=aG.new hq _
 k _ _ (aX.of c e) ⟨q,xs,rfl,c.free hq,aR,aJ.ext (e.mono Qb) h⟩
theorem fJ.same{z:Zn}{Q:VK}{d:PyData}{v:V}{H:Hp}(k:fJ z Q d H)(c:Cz z H)(h:aE z.ex H d v):Q v H:=k v H (aX.refl c) h
theorem gM:1000<=sizeLine:=Nat.le_of_lt (cM (Nat.le_refl _))
section
variable{X:Cx}{es:List Expr}{t:TA}{pos:Pos}
def Ic(t:TA):TE:=λ σ H Q=>t σ H λ xs H1=>∃(z:Zn) (ds:List PyData),aJ z.ex H1 ds xs/\ds.length<=1000/\Cz z H1/\fJ z Q (.tuple ds) H1
def Iw(t:TA):TE:=λ σ H Q=>t σ H λ xs H1=>∃(z:Zn) (ds:List PyData),aJ z.ex H1 ds xs/\ds.length<=1000/\Cz z H1/\fJ z Q (.list ds) H1
theorem iD{x1}(h:PA X es t):PE X (.Tuple es x1 pos) (Ic t):=by
 intro pins s σ H Q I hq
 refine wpAny_Tuple_spliced (aP (h pos pins s σ H _ I hq) λ us s1 hz=>?_)
 obtain⟨xs,H1,I1,r,z,ds,hd,hl,c,k⟩:=hz
 have hxs:xs.length<=sizeLine:=by rw[hd.length];exact Nat.le_trans hl gM
 refine⟨by rw[<-r.length];exact hxs,?_⟩
 have hf:H1 s1.heap.objs.size=none:=I1.hok.fresh (Nat.le_refl _)
 exact⟨.ref s1.heap.objs.size,aD H1 s1.heap.objs.size (.tup xs),I1.laid (t':=s1.toks) (λ b u e=>Heap.get?_push_of_some _ e) (Nat.le_refl _) ⟨hxs,us,r,⟨_,Heap.get?_push_size _ rfl,rfl,_,rfl⟩,_,Heap.get?_push_size _ rfl,rfl⟩,rfl,k.tup c hd hf⟩
theorem iE(h:PA X es t):PE X (.List es pos) (Iw t):=by
 intro pins s σ H Q I hq
 refine wpAny_List_spliced (aP (h pos pins s σ H _ I hq) λ us s1 hz=>?_)
 obtain⟨xs,H1,I1,r,z,ds,hd,hl,c,k⟩:=hz
 have hxs:xs.length<=sizeLine:=by rw[hd.length];exact Nat.le_trans hl gM
 refine⟨by rw[<-r.length];exact hxs,?_⟩
 have hf:H1 s1.heap.objs.size=none:=I1.hok.fresh (Nat.le_refl _)
 exact⟨.ref s1.heap.objs.size,aD H1 s1.heap.objs.size (.lst xs),I1.laid (t':=s1.toks) (λ b u e=>Heap.get?_push_of_some _ e) (Nat.le_refl _) ⟨hxs,us,0,r,Heap.get?_push_size _ rfl⟩,rfl,k.lst c hd hf⟩
theorem Xn{prog:Program}{w:World}{A:Around}{E:Qe}{s:Shared}{t b:Addr}{ws:List Value}{Q:Qe}(ht:IsTup s.heap t #[])(hb:IsTup s.heap b ws.toArray)(h1:Q (.ref b) s):wpAny (model prog w) A (binaryOp .Add (.ref t) (.ref b)) Q E s:=by
 obtain⟨⟨cls,dd,data,sl⟩,ho,hc,n,hd⟩:=id ht
 obtain⟨⟨cls2,dd2,data2,sl2⟩,ho2,hc2,n2,hd2⟩:=id hb
 simp only at hc hd hc2 hd2
 subst hc hd hc2 hd2
 exact concat_meets ⟨_,ho,rfl⟩ ⟨_,ho2,rfl⟩ noFill_tuple_add seq_tuple_add PySem.F.slot_tuple_add PySem.F.entry_tuple_add (PySem.F.args_tuple_add_2 _ _)
  (tuple_addW0 t b #[] ws.toArray n n2 dd dd2 sl sl2 rfl) ⟨ho,ho2,h1⟩
def Mw:R2:=λ x y H Q=>∃(z:Zn) (ds es:List PyData),aE z.ex H (.tuple ds) x/\aE z.ex H (.tuple es) y/\ds.length+es.length<=1000/\Cz z H/\fJ z Q (.tuple (ds++es)) H
theorem Oq:bV X (binaryOp .Add) Mw:=by
 intro pins s σ H x y v u Q I rx ry h
 obtain⟨z,ds,es,⟨a,xs,rfl,na,ha,hd⟩,⟨b,ys,rfl,nb,hb,he⟩,hl,c,k⟩:=h
 have l1:=hd.length
 have l2:=he.length
 have hz:xs.length+ys.length<=sizeLine:=by have:=gM;omega
 by_cases hx:xs=[]
 ·subst hx
  have e0:ds=[]:=List.length_eq_zero_iff.mp l1.symm
  subst e0
  cases rx
  cases ry
  obtain⟨its,r1,p1,_⟩:=I.tuple (aM.of (K:=X.K) ha)
  obtain⟨its2,r2,p2,_⟩:=I.tuple (aM.of (K:=X.K) hb)
  cases r1
  exact Xn p1 p2 ⟨.ref b,H,I,rfl,k.same c ⟨b,ys,rfl,nb,hb,he⟩⟩
 ·refine vL pins s σ H (.ref a) (.ref b) v u Q I rx ry ⟨a,b,xs,ys,rfl,rfl,aM.of ha,aM.of hb,hx,hz,λ e=>?_,λ _ q hq=>k.tup c (aJ.append hd he) hq⟩
  have e0:es=[]:=by
   rw[e]at l2
   exact List.length_eq_zero_iff.mp l2.symm
  rw[e0,List.append_nil]at k
  exact k.same c ⟨a,xs,rfl,na,ha,hd⟩
def My:R2:=λ x y H Q=>∃(z:Zn) (ds es:List PyData),aE z.ex H (.list ds) x/\aE z.ex H (.list es) y/\ds.length+es.length<=1000/\Cz z H/\fJ z Q (.list (ds++es)) H
theorem vM:bV X (binaryOp .Add) My:=by
 intro pins s σ H x y v u Q I rx ry h
 obtain⟨z,ds,es,⟨a,xs,rfl,na,ha,hd⟩,⟨b,ys,rfl,nb,hb,he⟩,hl,c,k⟩:=h
 have l1:=hd.length
 have l2:=he.length
 have:=gM
 exact Bj pins s σ H (.ref a) (.ref b) v u Q I rx ry ⟨a,b,xs,ys,rfl,rfl,ha,hb,Qa,λ q hq=>k.lst c (aJ.append hd he) hq⟩
def iL(ds:List PyData)(lo hi:Option Int):List PyData:=(ds.drop (HT.sIx ds.length 0 lo)).take (HT.sIx ds.length ds.length hi-HT.sIx ds.length 0 lo)
theorem aJ.cut{ex:List Addr}{H:Hp}{ds:List PyData}{xs:List V}(lo hi:Option Int)(h:aJ ex H ds xs):aJ ex H (iL ds lo hi) (mN xs lo hi):=by
 unfold iL mN
 rw[h.length]
 exact aJ.take _ (aJ.drop _ h)
def Mg:V->Option Int->Option Int->Hp->VK->Prop:=λ x lo hi H Q=>∃(z:Zn) (ds:List PyData),aE z.ex H (.list ds) x/\Cz z H/\fJ z Q (.list (iL ds lo hi)) H
theorem uC:jM X Mg:=by
 intro pins s σ H x v vl vu lo hi sl Q I rx hs pl pu h
 obtain⟨z,ds,⟨a,xs,rfl,na,ha,hd⟩,c,k⟩:=h
 exact Kx pins s σ H (.ref a) v vl vu lo hi sl Q I rx hs pl pu ⟨a,xs,rfl,aN.of ha,λ q hq=>k.lst c (aJ.cut lo hi hd) hq⟩
theorem rL:dA X (.type "tuple") (λ xs H Q=>∃(z:Zn) (x:V) (ds:List PyData),xs=[x]/\aE z.ex H (.list ds) x/\Cz z H/\fJ z Q (.tuple ds) H):=by
 intro pins s σ H xs us Q I r h
 obtain⟨z,x,ds,rfl,⟨a,ys,rfl,na,ha,hd⟩,c,k⟩:=h
 exact lB pins s σ H [.ref a] us Q I r ⟨a,ys,rfl,.inl ⟨aN.of ha,λ l hl=>k.tup c hd hl⟩⟩
theorem eY{α:Type}{xs:List α}{i:Int}{v:α}(h0:0<=i)(h:xs[i.toNat]? =some v):gC xs i=some v:=by
 have:=xB h
 rw[show((i.toNat:Nat):Int)=i from Qa]at this
 exact this
theorem cW.mono{r r':R2}(h:cW X r)(k:∀x y H Q,r' x y H Q->r x y H Q):cW X r':=by
 intro a1 a2 a3 a4 a5 a6 a7 a8 a9 a10 a11 a12 a13 a14 q
 exact h a1 a2 a3 a4 a5 a6 a7 a8 a9 a10 a11 a12 a13 a14 (k _ _ _ _ q)
def Mp:R2:=λ x y H Q=>∃(z:Zn) (ds:List PyData) (i:Int) (d:PyData),(aE z.ex H (.tuple ds) x\/aE z.ex H (.list ds) x)/\y= .int i/\0<=i/\ds[i.toNat]? =some d/\∀v,aE z.ex H d v->Q v H
theorem cB:cW X Mp:=by
 have h1:cW X (λ x y H Q=>At X.K x y H Q\/fV X.K x y H Q):=ix_list.or bK
 refine cW.mono h1 λ x y H Q h=>?_
 obtain⟨z,ds,i,d,hd,rfl,h0,hg,q⟩:=h
 rcases hd with⟨a,xs,rfl,na,ha,hd⟩|⟨a,xs,rfl,na,ha,hd⟩
 ·obtain⟨v,hv,dv⟩:=hd.get hg
  exact .inr ⟨a,xs,i,v,rfl,rfl,aM.of ha,eY h0 hv,q v dv⟩
 ·obtain⟨v,hv,dv⟩:=hd.get hg
  exact .inl ⟨a,xs,i,v,rfl,rfl,aN.of ha,eY h0 hv,q v dv⟩
theorem jH:dA X (.builtin "len") (λ xs H Q=>∃(z:Zn) (x:V) (ds:List PyData),xs=[x]/\(aE z.ex H (.tuple ds) x\/aE z.ex H (.list ds) x)/\Q (.int ds.length) H):=by
 intro pins s σ H xs us Q I r h
 obtain⟨z,x,ds,rfl,hd,q⟩:=h
 rcases hd with⟨a,ys,rfl,na,ha,hd⟩|⟨a,ys,rfl,na,ha,hd⟩
 ·exact cU pins s σ H [.ref a] us Q I r ⟨a,ys,rfl,.inr (aM.of ha),by rw[hd.length];exact q⟩
 ·exact cU pins s σ H [.ref a] us Q I r ⟨a,ys,rfl,.inl (aN.of ha),by rw[hd.length];exact q⟩
end
mutual
theorem aE.more{ex:List Addr}{H:Hp}{l:Addr}(h0:H l=none):∀{d:PyData} {v:V},aE ex H d v->aE (l::ex) H d v
 |.none,_,h=>h
 |.bool _,_,h=>h
 |.int _,_,h=>h
 |.str _,_,h=>h
 |.tuple ds,v,h=>by
  obtain⟨a,vs,h1,h2,h3,h4⟩:=h
  refine⟨a,vs,h1,λ z=>?_,h3,aJ.more h0 h4⟩
  rcases List.mem_cons.mp z with rfl|z
  ·rw[h0]at h3;cases h3
  ·exact h2 z
 |.list ds,v,h=>by
  obtain⟨a,vs,h1,h2,h3,h4⟩:=h
  refine⟨a,vs,h1,λ z=>?_,h3,aJ.more h0 h4⟩
  rcases List.mem_cons.mp z with rfl|z
  ·rw[h0]at h3;cases h3
  ·exact h2 z
 |.dict _,_,h=>h.elim
theorem aJ.more{ex:List Addr}{H:Hp}{l:Addr}(h0:H l=none):∀{ds:List PyData} {vs:List V},aJ ex H ds vs->aJ (l::ex) H ds vs
 |[],_,h=>h
 |d::ds,vs,h=>by
  obtain⟨v,r,h1,h2,h3⟩:=h
  exact⟨v,r,h1,aE.more h0 h2,aJ.more h0 h3⟩
end
def Zn.with(z:Zn)(l:Addr):Zn:=⟨l::z.ex,z.p,z.ts⟩
structure cN(z:Zn)(l:Addr)(H H':Hp):Prop where
 ext:aG [l,z.p] H H'
 cz:Cz (z.with l) H'
theorem Cz.with{z:Zn}{H:Hp}{l:Addr}{xs:List V}(c:Cz z H)(h0:H l=none):Cz (z.with l) (aD H l (.lst xs)):=by
 have c':=c.ext (aG.new h0 (.lst xs))
 refine⟨List.mem_cons_of_mem _ c.mem,λ b hb=>?_,c'.held,c'.tb⟩
 rcases List.mem_cons.mp hb with rfl|hb
 ·exact⟨xs,aR⟩
 ·exact c'.al b hb
theorem Cz.less{z:Zn}{H:Hp}{l:Addr}(c:Cz (z.with l) H)(hp:z.p∈z.ex):Cz z H:=⟨hp,λ b hb=>c.al b (List.mem_cons_of_mem _ hb),c.held,c.tb⟩
theorem cN.back{z:Zn}{l:Addr}{H H':Hp}(s:cN z l H H')(h0:H l=none)(hp:z.p∈z.ex):aX z H H':=by
 refine⟨⟨λ b o hb h n=>s.ext.old b o (λ q=>?_) h n,λ b ps hb h=>s.ext.tab b ps (λ q=>?_) h⟩,s.cz.less hp⟩
 all_goals
  rcases List.mem_cons.mp q with rfl|q
  ·rw[h0]at h;cases h
  ·exact hb q
theorem cN.new{z:Zn}{H:Hp}{l:Addr}{xs:List V}(c:Cz z H)(h0:H l=none):cN z l H (aD H l (.lst xs)):=⟨aG.new h0 _,c.with h0⟩
theorem cN.stp{z:Zn}{l:Addr}{H H1 H2:Hp}(a:cN z l H H1)(b:aX (z.with l) H1 H2):cN z l H H2:=⟨a.ext.trans (b.ext.mono λ q hq=>List.mem_cons_of_mem _ hq),b.cz⟩
theorem cN.put{z:Zn}{l:Addr}{H H1:Hp}{xs:List V}(a:cN z l H H1)(hne:l≠z.p):cN z l H (aD H1 l (.lst xs)):=by
 have e:aG [l,z.p] H1 (aD H1 l (.lst xs)):=aG.put Qb _
 have c:=a.cz
 refine⟨a.ext.trans e,c.mem,λ b hb=>?_,?_,(aG.put (ex:=[l]) Qb _).tb c.tb λ P hP q=>c.out hP (by rw[List.mem_singleton.mp q];exact List.mem_cons_self)⟩
 ·by_cases q:b=l
  ·subst q
   exact⟨xs,aR⟩
  ·obtain⟨ys,h⟩:=c.al b hb
   exact⟨ys,by rw[aU q];exact h⟩
 ·obtain⟨n,h⟩:=c.held
  exact⟨n,by rw[aU (show(z.with l).p≠l from λ q=>hne q.symm)];exact h⟩
theorem cN.ex{z:Zn}{l:Addr}{H H':Hp}(s:cN z l H H'):aG (z.with l).ex H H':=s.ext.mono λ b hb=>by
 rcases List.mem_cons.mp hb with rfl|hb
 ·exact List.mem_cons_self
 ·rw[List.mem_singleton.mp hb];exact s.cz.mem
theorem aE.stl{z:Zn}{l:Addr}{H H':Hp}{d:PyData}{v:V}(h:aE (z.with l).ex H d v)(s:cN z l H H'):aE (z.with l).ex H' d v:=aE.ext s.ex h
theorem aJ.stl{z:Zn}{l:Addr}{H H':Hp}{d:List PyData}{v:List V}(h:aJ (z.with l).ex H d v)(s:cN z l H H'):aJ (z.with l).ex H' d v:=aJ.ext s.ex h
theorem pY{l:Addr}{H:Hp}{ex:List Addr}{o:HO}(h:l∈ex){ds:List PyData}{vs:List V}(hd:aJ ex H ds vs):aJ ex (aD H l o) ds vs:=aJ.ext (aG.put h _) hd
end L2
namespace L2
open PySem PySem.Spec PyProof.Rows
def tx(l:List Nat):Str:=⟨l.toArray⟩
theorem fM(l:List Nat):(tx l).length=l.length:=by show l.toArray.size=_;simp
theorem hZ(a b:List Nat):tx a++tx b=tx (a++b):=by
 show(⟨a.toArray++b.toArray⟩:Str)=⟨(a++b).toArray⟩
 simp
theorem lQ{a b:List Nat}(h:tx a=tx b):a=b:=by
 have h2:a.toArray=b.toArray:=congrArg Str.cps h
 simpa using h2
theorem zO{l:List Nat}{i:Int}(h0:0<=i)(h1:i<=l.length):Txt.slice (tx l) none (some i)=tx (l.take i.toNat):=by
 have h:=eq_of_beq (slice_closes_to (x:=tx l) (j:=i) ⟨h0,by simpa[tx]using h1⟩)
 rw[h]
 simp[tx]
theorem zP{l:List Nat}{i:Int}(h0:0<=i)(h1:i<=l.length):Txt.slice (tx l) (some i) none=tx (l.drop i.toNat):=by
 have h:=eq_of_beq (slice_closes_from (x:=tx l) (i:=i) ⟨h0,by simpa[tx]using h1⟩)
 rw[h]
 have e:((tx l).cps.toList.drop i.toNat).take (((tx l).cps.toList.length:Int)-i).toNat=l.drop i.toNat:=by
  rw[List.take_of_length_le]
  ·simp[tx]
  ·simp[tx]
   omega
 rw[e]
 rfl
theorem Hk:∀l:List Nat,Txt.join ("" :Str) (l.map λ c=>tx [c])=tx l:=by
 intro l
 rw[show Txt.join ("" :Str) (l.map λ c=>tx [c])=Str.join ("" :Str) (l.map λ c=>tx [c])from PySem.StrLaws.glued_eq_join _ _]
 induction l with
 |nil=>rfl
 | cons c l ih=>
  cases l with
  |nil=>rfl
  |cons d r=>
   have e0:("" :Str)=tx []:=by decide+kernel
   show tx [c]++("" :Str)++Str.join ("" :Str) ((d::r).map λ c=>tx [c])=_
   rw[ih,e0,hZ,hZ]
   rfl
theorem Rz(l:List Nat):((l.map λ c=>tx [c]).map (·.length)).sum=l.length:=by
 induction l with
 |nil=>rfl
 |cons c l ih=>
  rw[List.map_cons,List.map_cons,List.sum_cons,ih,fM]
  simp
  omega
theorem Xd{ds:List PyData}{i:Int}(h:0<=i):iL ds none (some i)=ds.take i.toNat:=by
 unfold iL
 show(ds.drop 0).take ((if i<0 then _ else min i.toNat ds.length)-0)=_
 rw[if_neg Qa,List.drop_zero,Nat.sub_zero]
 by_cases q:i.toNat<=ds.length
 ·rw[Nat.min_eq_left q]
 ·rw[Nat.min_eq_right Qa,List.take_length,List.take_of_length_le Qa]
def Ds:V->Option Str
 |.str x=>if x.length<=1000 then some x else none
 |.int i=>if i.natAbs.log2<1920 then some (toString i:String)else none
 |_=>none
def Kf(te:TE):TE:=λ σ H Q=>te σ H λ v H1=>∃x,Ds v=some x/\Q (.str x) H1
abbrev TJ:=St->Hp->Str->(Str->Hp->Prop)->Prop
def Ka:TJ:=λ _ H acc Q=>acc.length<=sizeLine/\Q acc H
def Iz(te:TE)(r:TJ):TJ:=λ σ H acc Q=>te σ H λ v H1=>∃y,v= .str y/\(acc++y).length<=sizeLine/\r σ H1 (acc++y) Q
def PJ(X:Cx)(vs:List Expr)(t:TJ):Prop:=∀(pins:List (Addr×Obj)) (s:Shared) (σ:St) (H:Hp) (acc:Str) (Q:Str->Hp->Prop),aB X pins σ H s->t σ H acc Q->
 Joins (model X.prog X.w) X.A X.xe (evalEach vs X.env) acc (λ out s₁=>out.length<=sizeLine/\∃H',aB X pins σ H' s₁/\Q out H') s
section
variable{X:Cx}{e v₁ v₂:Expr}{es rest:List Expr}{te:TE}{r:TJ}{pos:Pos}
theorem vF:PJ X [] Ka:=λ pins s σ H acc Q I h=>⟨h.1,H,I,h.2⟩
theorem kF(he:PE X e te)(hr:PJ X es r)(h:evalEach (e::es) X.env=eval e X.env::evalEach es X.env:=by rfl):PJ X (e::es) (Iz te r):=λ pins s σ H acc Q I q=>by
 rw[h]
 refine aP (he pins s σ H _ I q) λ u s1 ⟨v,H1,I1,rv,y,ev,hl,q1⟩=>?_
 subst ev
 obtain⟨tk,rfl⟩:∃tk,u=Value.str y tk:=rv
 exact⟨y,tk,rfl,hl,hr pins s1 σ H1 _ Q I1 q1⟩
def Iy(r:TJ):TE:=λ σ H Q=>r σ H Str.empty λ x H1=>Q (.str x) H1
theorem Cp{M:Model}{A:Around}{E:Qe}{Q Q':Str->Shared->Prop}(hq:∀out s,Q out s->Q' out s):∀(l:List (Sem Value)) (acc:Str) (s:Shared),Joins M A E l acc Q s->Joins M A E l acc Q' s
 |[],acc,s,h=>hq _ _ h
 |_::l,acc,s,h=>aP h λ v s1 ⟨y,tk,ev,hl,z1⟩=>⟨y,tk,ev,hl,Cp hq l _ _ z1⟩
theorem vI(h:PJ X (v₁::v₂::rest) r):PE X (.JoinedStr (v₁::v₂::rest) pos) (Iy r):=λ pins s σ H Q I q=>
 wpAny_JoinedStr (Cp (λ out s1 ⟨hl,H',I',q'⟩=>⟨hl,V.str out,H',I'.tok _,⟨_,rfl⟩,q'⟩) _ _ _ (h pins s σ H Str.empty _ I q))
theorem vJ(he:PE X e te):PE X (.FormattedValue e (-1) none pos) (Kf te):=λ pins s σ H Q I q=>by
 refine wpAny_FormattedValue_plain (aP (he pins s σ H _ I q) λ u s1 ⟨v,H1,I1,rv,x,ev,q1⟩=>?_)
 cases v with
 | str y=>
  obtain⟨tk,rfl⟩:∃tk,u=Value.str y tk:=rv
  have ev:(if y.length<=1000 then some y else none)=some x:=ev
  split at ev
  ·rename_i hl
   cases ev
   refine wpAny_formatField_str ⟨V.str _,H1,I1,⟨_,rfl⟩,q1⟩ ⟨V.str _,H1,I1.tok _,⟨_,rfl⟩,q1⟩ (Nat.le_of_lt (cM hl))
  ·cases ev
 | int i=>
  obtain⟨tk,rfl⟩:∃tk,u=Value.int i tk:=rv
  have ev:(if i.natAbs.log2<1920 then some (Str.ofString (toString i))else none)=some x:=ev
  split at ev
  ·rename_i hl
   cases ev
   exact wpAny_formatField_int hl ⟨V.str _,H1,I1.tok _,⟨_,rfl⟩,q1⟩
  ·cases ev
 |_=>cases ev
end
open AutoSeq1 (wpAny_loadPart')
theorem aB.turnedNew{X:Cx}{pins:List (Addr×Obj)}{σ:St}{H:Hp}{s:Shared}{h':Heap}{t':Nat}{fp:List Addr}{T:Addr}{xs:List V}{its:List Value}(I:aB X pins σ H s)(hf:∀b∈fp,dW X pins H b)(k:∀b o,b∉fp->s.heap.get? b=some o->h'.get? b=some o)
  (hx:∀b∈fp,∃o,h'.get? b=some o) (hT:s.heap.objs.size<=T) (ht:IsTup h' T its.toArray/\∃o,h'.get? T=some o/\o.dict=none) (r:aO xs its) (hl:xs.length<=sizeLine):aB X pins σ (aD H T (.tup xs)) {s with heap:=h',toks:=t'}:=by
 have fr:H T=none:=I.hok.fresh hT
 have nT:∀{b o},s.heap.get? b=some o->b≠T:=λ z y=>absurd (Heap.lt_size z) (Nat.not_lt.mpr (y▸hT))
 have kH:∀b u,H b=some u->aD H T (.tup xs) b=some u:=λ b u z=>by rw[aU (λ y=>by rw[y,fr]at z;cases z)];exact z
 have nf:∀b u,H b=some u->b∉fp:=λ b u z y=>by rw[(hf b y).1]at z;cases z
 refine I.step (g':=s.gens) (d':=s.drawn) (ch:=fp) (λ b hb=>⟨(hf b hb).2.2.2.1,(hf b hb).2.1,(hf b hb).2.2.2.2.1,(hf b hb).2.2.2.2.2⟩) (λ b o _ _ hb z _=>k b o hb z) (λ b o _ _ hb z _=>⟨o.slots,k b o hb z⟩) (λ b o _ z n=>by rw[aU (nT z)];exact n)
  (λ b o hb z=>⟨o,k b o hb z⟩) (λ b ys z=>kH b _ z) (λ b o u z=>kH b _ z) (λ b ps z=>⟨#[],by rw[kH b _ z];simp⟩) (λ m hn=>?_) (λ b u z=>?_) ⟨I.bare.1,Nat.le_refl _⟩
 ·obtain⟨o,es,ep,ho,rr⟩:=hn
  exact⟨o,es,ep,k _ o (λ y=>(hf _ y).2.1 rfl) ho,rr⟩
 ·by_cases hb:b=T
  ·subst hb
   rw[aR]at z
   cases z
   exact⟨hl,its,r,ht⟩
  ·rw[aU hb]at z
   refine(I.hok b u z).stay (λ c v hc y=>k c v (λ x=>?_) y) (λ c y=>kH c _ y) (λ c ys y=>kH c _ y)
   rcases hc with e|e
   ·rw[e]at x;exact nf b u z x
   ·exact nf c _ e x
section
variable{prog:Program}{w:World}{A:Around}{E:Qe}{s:Shared}
theorem Rn{it l:Addr}{i:Nat}{items:Array Value}{x:Value}{Q:Qe}(hit:s.heap.IsTupleIter it l i)(hl:s.heap.IsTuple l items)(hx:items[i]? =some x)
  (hQ:∀h',h'.IsTupleIter it l (i+1)->Heap.SameBut it s.heap h'->Q x {s with heap:=h'}):wpAny (model prog w) A (Builtin.SmallTypes.nextOf (.ref it)) Q E s:=by
 obtain⟨o,ho,hc,hd⟩:=id hit
 obtain⟨ol,hol,_,nl,hdl⟩:=hl
 unfold Builtin.SmallTypes.nextOf
 refine wpAny_bind (wpAny_callSpecial?_slot (name:=Str.ofString "__next__") hit.typeIs F.slot_tuple_iterator_next (wpAny_call_entry F.slot_tuple_iterator_next hit.typeIs F.entry_tuple_iterator_next ?_ (F.args_tuple_iterator_next_1 _)))
 show wpAny _ _ (field (.ref it) 0>>=_) _ _ s
 refine wpAny_bind (wpAny_field ho hd (x:=.ref l) rfl ?_)
 show wpAny _ _ (if(Value.ref l==Value.none)=true then _ else _) _ _ s
 rw[if_neg Qb]
 show wpAny _ _ (field (.ref it) 1>>=_) _ _ s
 refine wpAny_bind (wpAny_field ho hd (x:=.int i 0) rfl ?_)
 show wpAny _ _ (seqItems? (.ref l)>>=_) _ _ s
 refine wpAny_bind (wpAny_seqItems hol hdl ?_)
 simp only[Int.toNat_natCast,hx]
 refine wpAny_bind (wpAny_setField ho hd Qb (wpAny_pure ⟨x,rfl,wpAny_pure (hQ _ ⟨_,Heap.get?_update_self _ ho (Obj.isFreed_of_fields (Obj.data_mapFields hd _)),(Obj.cls_mapFields ..).trans hc,?_⟩ (Heap.SameBut.update ..))⟩))
 rw[Obj.data_mapFields hd];simp[rawInt]
theorem Ro{it l:Addr}{i:Nat}{items:Array Value}{Q:Qe}(hh:A.handled=none)(hit:s.heap.IsTupleIter it l i)(hl:s.heap.IsTuple l items)(hx:items[i]? =none)
  (hE:∀h' e,Heap.ExtBut it s.heap h'->(∃o,h'.get? e=some o/\o.cls= .type "StopIteration")->E (.ref e) {s with heap:=h'}):wpAny (model prog w) A (Builtin.SmallTypes.nextOf (.ref it)) Q E s:=by
 obtain⟨o,ho,hc,hd⟩:=id hit
 obtain⟨ol,hol,_,nl,hdl⟩:=hl
 unfold Builtin.SmallTypes.nextOf
 refine wpAny_bind (wpAny_callSpecial?_slot (name:=Str.ofString "__next__") hit.typeIs F.slot_tuple_iterator_next (wpAny_call_entry F.slot_tuple_iterator_next hit.typeIs F.entry_tuple_iterator_next ?_ (F.args_tuple_iterator_next_1 _)))
 show wpAny _ _ (field (.ref it) 0>>=_) _ _ s
 refine wpAny_bind (wpAny_field ho hd (x:=.ref l) rfl ?_)
 show wpAny _ _ (if(Value.ref l==Value.none)=true then _ else _) _ _ s
 rw[if_neg Qb]
 show wpAny _ _ (field (.ref it) 1>>=_) _ _ s
 refine wpAny_bind (wpAny_field ho hd (x:=.int i 0) rfl ?_)
 show wpAny _ _ (seqItems? (.ref l)>>=_) _ _ s
 refine wpAny_bind (wpAny_seqItems hol hdl ?_)
 simp only[Int.toNat_natCast,hx]
 refine wpAny_bind (wpAny_rule (wpAny_bind (wpAny_setField ho hd Qb ?_)))
 show wpAny _ _ (newExc (.type "StopIteration") []>>=_) _ _ _
 refine wpAny_bind ?_
 simp only[newExc,newTuple]
 refine wpAny_bind (wpAny_newObj_type (wpAny_bind (m:=firstArgMember _ _) (wpAny_of_eq (a:=Value.none) (by first|rfl|(simp only[firstArgMember];rfl)) (wpAny_newObj_type ?_ (by size_fits)))) (by size_fits))
 simp only[raiseNew]
 refine wpAny_bind (wpAny_handled ?_)
 rw[show A.in1.handled=none from hh]
 exact wpAny_bind (wpAny_pure (wpAny_throw (hE _ _ (((Heap.SameBut.update ..).extBut.push _).push _) ⟨_,Heap.get?_push_size _ rfl,rfl⟩)))
end
theorem _root_.PySem.Draws.tuple{prog:Program}{w:World}{A:Around}(hh:A.handled=none)(it l:Addr)(hne:l≠it)(items:Array Value):
  Draws prog w A it [it,l] items.size (λ i v=>items[i]? =some v) (λ i h=>h.IsTupleIter it l i/\h.IsTuple l items) where
 live:=λ _ _ st=>let⟨o,ho,_⟩:=st.1;⟨o,ho⟩
 frame:=λ _ _ _ st hk=>⟨st.1.at λ o e=>hk it Qb o e,st.2.at λ o e=>hk l Qb o e⟩
 item:=λ i s Q E hi st hQ=>Rn st.1 st.2 (x:=items[i]) (by simp[hi]) λ h' hit' hs'=>hQ _ h' s.toks (by simp[hi]) ⟨hit',st.2.extBut hs'.extBut hne⟩ hs'
 done:=λ s Q E st hE=>Ro hh st.1 st.2 Qb hE
section
variable{prog:Program}{w:World}{A:Around}{E:Qe}{s:Shared}
end
section
variable{X:Cx}{elts:List Expr}{k:Nat}{tpos:Pos}
end
section
variable{prog:Program}{w:World}{A:Around}{E:Qe}{s:Shared}
end
section
variable{X:Cx}{elts:List Expr}{k:Nat}{tpos:Pos}
end
end L2
namespace L2
open PySem PySem.Spec PyProof.Rows PySem.Builtin PySem.Builtin.Str
section
variable{X:Cx}
end
end L2
namespace L2
open PySem PySem.Spec PyProof.Rows
structure ZA(z TI TO i j:Addr)(fp gp:List Addr):Prop where
 nd:[z,TI,TO,i,j].Nodup
 f:∀b∈fp,b≠z/\b≠TO/\b≠j/\b≠TI
 g:∀b∈gp,b≠z/\b≠TO/\b≠i/\b≠TI
theorem Ep:bootBuiltins ("zip" :Str)=some (.type "zip"):=by decide+kernel
section
variable{prog:Program}{w:World}{A:Around}{E:Qe}{s:Shared}{z TI TO i j:Addr}{fp gp:List Addr}{n m k:Nat}{P R:Nat->Value->Prop}{St Su:Nat->Heap->Prop}{a b:Value}
theorem Fv{Q:Qe}(Z:ZA z TI TO i j fp gp)(D:Draws prog w A i fp n P St)(G:Draws prog w A j gp m R Su)(hz:IsZip s.heap z TI TO .none)(hI:IsPair s.heap TI (.ref i) (.ref j))(hO:IsPair s.heap TO a b)(h1:St k s.heap)(h2:Su k s.heap)(hk:k<n)(hm:k<m)
  (hQ:∀x y h' tk,P k x->R k y->IsZip h' z TI TO (rawInt s.heap.objs.size)->IsPair h' TI (.ref i) (.ref j)->IsPair h' TO x y->St (k+1) h'->Su (k+1) h'->IsPair h' s.heap.objs.size x y->(∀c o,c∉[z,TO,i,j]->s.heap.get? c=some o->h'.get? c=some o)->Q (.ref s.heap.objs.size) {s with heap:=h',toks:=tk}):
  wpAny (model prog w) A (Builtin.«zip.__next__» ⟨[.ref z],[]⟩) (λ fin s'=>∃v,fin= .done (.ret v)/\Q v s') E s:=by
 have nd:=Z.nd
 simp only[List.nodup_cons,List.mem_cons,List.not_mem_nil,or_false,not_or,List.nodup_nil,and_true,not_false_eq_true]at nd
 obtain⟨⟨nzI,nzO,nzi,nzj⟩,⟨nIO,nIi,nIj⟩,⟨nOi,nOj⟩,nij⟩:=nd
 obtain⟨hp,g,d,t0,os⟩:=s
 show wpAny _ _ (field (.ref z) 2>>=_) _ _ _
 refine wpAny_bind (wpAny_field hz rfl (x:=.bool false) rfl ?_)
 show wpAny _ _ (field (.ref z) 3>>=_) _ _ _
 refine wpAny_bind (wpAny_field hz rfl (x:=.ref TI) rfl (wpAny_bind (wpAny_seqItems hI rfl ?_)))
 show wpAny _ _ (Builtin.SmallTypes.ownedTupleIsFree (.ref z)>>=_) _ _ _
 refine wpAny_bind ?_
 unfold Builtin.SmallTypes.ownedTupleIsFree
 refine wpAny_bind (wpAny_field hz rfl (x:=.none) rfl (wpAny_pure ?_))
 simp only[if_true]
 refine wpAny_bind (wpAny_rule (wpAny_bind (wpAny_field hz rfl (x:=.ref TO) rfl (wpAny_bind (wpAny_setField_rec hz Qb λ hA zA sA=>wpAny_bind ?_)))))
 replace zA:IsZip hA z TI TO .ellipsis:=zA
 replace sA:Heap.SameBut z hp hA:=sA
 simp only[List.zipIdx_cons,List.zipIdx_nil,List.forIn_cons,List.forIn_nil]
 refine wpAny_bind (wpAny_bind (wpAny_onRaise ?_))
 show wpAny _ _ (Builtin.SmallTypes.nextOf (.ref i)>>=_) _ _ _
 have h1A:St k hA:=D.frame _ _ _ h1 λ b hb o q=>(sA.2 b (Z.f b hb).1).trans q
 refine wpAny_bind (D.item k _ _ _ hk h1A λ x hB tB px h1B sB=>wpAny_pure ?_)
 replace sB:Heap.SameBut i hA hB:=sB
 have OB:IsPair hB TO a b:=(sB.2 _ nOi).trans ((sA.2 _ (Ne.symm nzO)).trans hO)
 refine wpAny_bind (wpAny_seqItems OB rfl (wpAny_bind (wpAny_updateSeq_pair (s:=⟨hB,g,d,tB,os⟩) OB λ hC OC sC=>wpAny_bind (wpAny_letGo (wpAny_pure ?_)))))
 replace OC:IsPair hC TO x b:=OC
 replace sC:Heap.SameBut TO hB hC:=sC
 refine wpAny_bind (wpAny_bind (wpAny_onRaise ?_))
 show wpAny _ _ (Builtin.SmallTypes.nextOf (.ref j)>>=_) _ _ _
 have h2C:Su k hC:=G.frame _ _ _ h2 λ b hb o q=>(sC.2 b (Z.g b hb).2.1).trans ((sB.2 b (Z.g b hb).2.2.1).trans ((sA.2 b (Z.g b hb).1).trans q))
 refine wpAny_bind (G.item k _ _ _ hm h2C λ y hD tD py h2D sD=>wpAny_pure ?_)
 replace sD:Heap.SameBut j hC hD:=sD
 have OD:IsPair hD TO x b:=(sD.2 _ nOj).trans OC
 refine wpAny_bind (wpAny_seqItems OD rfl (wpAny_bind (wpAny_updateSeq_pair (s:=⟨hD,g,d,tD,os⟩) OD λ hE OE sE=>wpAny_bind (wpAny_letGo (wpAny_pure (wpAny_pure ?_))))))
 replace OE:IsPair hE TO x y:=OE
 replace sE:Heap.SameBut TO hD hE:=sE
 refine wpAny_bind (wpAny_seqItems OE rfl (wpAny_bind (wpAny_newTuple ?_)))
 have sz:hE.objs.size=hp.objs.size:=by rw[sE.1,sD.1,sC.1,sB.1,sA.1]
 have zE:IsZip hE z TI TO .ellipsis:=(sE.2 _ nzO).trans ((sD.2 _ nzj).trans ((sC.2 _ nzO).trans ((sB.2 _ nzi).trans zA)))
 have kE:∀c o,c∉[z,TO,i,j]->hp.get? c=some o->hE.get? c=some o:=λ c o hc q=>by
  simp only[List.mem_cons,List.not_mem_nil,or_false,not_or]at hc
  exact(sE.2 _ hc.2.1).trans ((sD.2 _ hc.2.2.2).trans ((sC.2 _ hc.2.1).trans ((sB.2 _ hc.2.2.1).trans ((sA.2 _ hc.1).trans q))))
 have zlt:z<hE.objs.size:=Heap.lt_size zE
 have up1:∀c o,hE.get? c=some o->(hE.push {cls:=.type "tuple",data:=.seq #[x,y]}).get? c=some o:=λ c o q=>Heap.get?_push_of_some _ q
 show wpAny _ _ (Builtin.SmallTypes.ownedTupleHandOut (.ref z) (.ref hE.objs.size)>>=_) _ _ _
 refine wpAny_bind ?_
 unfold Builtin.SmallTypes.ownedTupleHandOut
 refine wpAny_bind (wpAny_setField_rec (up1 _ _ zE) Qb λ hF zF sF=>?_)
 replace zF:IsZip hF z TI TO (rawInt hE.objs.size):=zF
 refine wpAny_setField_rec zF Qb λ hG zG sG=>?_
 replace zG:IsZip hG z TI TO (rawInt hE.objs.size):=zG
 have up:∀c o,c≠z->hE.get? c=some o->hG.get? c=some o:=λ c o hc q=>(sG.2 c hc).trans ((sF.2 c hc).trans (up1 c o q))
 have TG:IsPair hG hE.objs.size x y:=(sG.2 _ (Nat.ne_of_gt zlt)).trans ((sF.2 _ (Nat.ne_of_gt zlt)).trans (Heap.get?_push_size _ rfl))
 rw[sz]at zG TG
 refine wpAny_pure ⟨_,rfl,?_⟩
 show Q (.ref hE.objs.size) _
 rw[sz]
 have st1:St (k+1) hG:=D.frame _ _ _ h1B λ b hb o q=>up b o (Z.f b hb).1 ((sE.2 b (Z.f b hb).2.1).trans ((sD.2 b (Z.f b hb).2.2.1).trans ((sC.2 b (Z.f b hb).2.1).trans q)))
 have st2:Su (k+1) hG:=G.frame _ _ _ h2D λ b hb o q=>up b o (Z.g b hb).1 ((sE.2 b (Z.g b hb).2.1).trans q)
 refine hQ x y hG tD px py zG (up _ _ (Ne.symm nzI) (kE _ _ (by simp[Ne.symm nzI,nIO,nIi,nIj]) hI)) (up _ _ (Ne.symm nzO) OE) st1 st2 TG λ c o hc q=>up c o ?_ (kE c o hc q)
 intro h
 rw[h]at hc
 simp at hc
theorem yN{Q:Option Value->Shared->Prop}(Z:ZA z TI TO i j fp gp)(D:Draws prog w A.in1 i fp n P St)(hz:IsZip s.heap z TI TO .none)(hI:IsPair s.heap TI (.ref i) (.ref j))(h1:St n s.heap)
  (hQ:∀h',(∀c o,c∉[z,TO,i,j]->s.heap.get? c=some o->h'.get? c=some o)->Q none {s with heap:=h'}):wpAny (model prog w) A (pyNext (.ref z)) Q E s:=by
 have nd:=Z.nd
 simp only[List.nodup_cons,List.mem_cons,List.not_mem_nil,or_false,not_or,List.nodup_nil,and_true,not_false_eq_true]at nd
 obtain⟨⟨nzI,nzO,nzi,nzj⟩,⟨nIO,nIi,nIj⟩,⟨nOi,nOj⟩,nij⟩:=nd
 have hT:s.TypeIs (.ref z) "zip" :=⟨_,hz,rfl⟩
 obtain⟨hp,g,d,t0,os⟩:=s
 unfold pyNext
 refine wpAny_bind (wpAny_attempt (wpAny_callSpecial?_slot (name:=Str.ofString "__next__") hT F.slot_zip_next (wpAny_call_entry F.slot_zip_next hT F.entry_zip_next ?_ (F.args_zip_next_1 _))))
 show wpAny _ _ (field (.ref z) 2>>=_) _ _ _
 refine wpAny_bind (wpAny_field hz rfl (x:=.bool false) rfl ?_)
 show wpAny _ _ (field (.ref z) 3>>=_) _ _ _
 refine wpAny_bind (wpAny_field hz rfl (x:=.ref TI) rfl (wpAny_bind (wpAny_seqItems hI rfl ?_)))
 show wpAny _ _ (Builtin.SmallTypes.ownedTupleIsFree (.ref z)>>=_) _ _ _
 refine wpAny_bind ?_
 unfold Builtin.SmallTypes.ownedTupleIsFree
 refine wpAny_bind (wpAny_field hz rfl (x:=.none) rfl (wpAny_pure ?_))
 simp only[if_true]
 refine wpAny_bind (wpAny_rule (wpAny_bind (wpAny_field hz rfl (x:=.ref TO) rfl (wpAny_bind (wpAny_setField_rec hz Qb λ hA zA sA=>wpAny_bind ?_)))))
 replace zA:IsZip hA z TI TO .ellipsis:=zA
 replace sA:Heap.SameBut z hp hA:=sA
 simp only[List.zipIdx_cons,List.zipIdx_nil,List.forIn_cons,List.forIn_nil]
 refine wpAny_bind (wpAny_bind (wpAny_onRaise ?_))
 show wpAny _ _ (Builtin.SmallTypes.nextOf (.ref i)>>=_) _ _ _
 have h1A:St n hA:=D.frame _ _ _ h1 λ b hb o q=>(sA.2 b (Z.f b hb).1).trans q
 refine wpAny_bind (D.done ⟨hA,g,d,t0,os⟩ _ _ h1A λ hB e sB ⟨oe,he,hce⟩=>?_)
 have zB:IsZip hB z TI TO .ellipsis:=sB _ _ nzi zA
 have nez:e≠z:=λ x=>by subst x;rw[zB]at he;cases he;simp at hce
 refine wpAny_setField_rec zB Qb λ hC _ sC=>?_
 replace sC:Heap.SameBut z hB hC:=sC
 refine wpAny_bind (wpAny_isInstance (T:= "StopIteration") (b:=true) ⟨oe,(sC.2 _ nez).trans he,hce⟩ isSubtype_stop (wpAny_pure (hQ _ λ c o hc q=>?_)))
 simp only[List.mem_cons,List.not_mem_nil,or_false,not_or]at hc
 exact(sC.2 _ hc.1).trans (sB _ _ hc.2.2.1 ((sA.2 _ hc.1).trans q))
theorem Av{Q:Option Value->Shared->Prop}(Z:ZA z TI TO i j fp gp)(D:Draws prog w A.in1 i fp n P St)(G:Draws prog w A.in1 j gp m R Su)(hz:IsZip s.heap z TI TO .none)(hI:IsPair s.heap TI (.ref i) (.ref j))(hO:IsPair s.heap TO a b)(h1:St k s.heap)(h2:Su k s.heap)(hk:k<n)(hm:k<m)
  (hQ:∀x y h' tk,P k x->R k y->IsZip h' z TI TO (rawInt s.heap.objs.size)->IsPair h' TI (.ref i) (.ref j)->IsPair h' TO x y->St (k+1) h'->Su (k+1) h'->IsPair h' s.heap.objs.size x y->(∀c o,c∉[z,TO,i,j]->s.heap.get? c=some o->h'.get? c=some o)->Q (some (.ref s.heap.objs.size)) {s with heap:=h',toks:=tk}):
  wpAny (model prog w) A (pyNext (.ref z)) Q E s:=by
 have hT:s.TypeIs (.ref z) "zip" :=⟨_,hz,rfl⟩
 unfold pyNext
 exact wpAny_bind (wpAny_attempt (wpAny_callSpecial?_slot (name:=Str.ofString "__next__") hT F.slot_zip_next (wpAny_call_entry F.slot_zip_next hT F.entry_zip_next (Fv Z D G hz hI hO h1 h2 hk hm λ x y h' tk a1 a2 a3 a4 a5 a6 a7 a8 a9=>wpAny_pure (hQ x y h' tk a1 a2 a3 a4 a5 a6 a7 a8 a9)) (F.args_zip_next_1 _))))
end
theorem wG{X:Cx}{pins:List (Addr×Obj)}{σ:St}{H:Hp}{s:Shared}{a b:Addr}{xs:List V}(I:aB X pins σ H s)(hf:dW X pins H b)(hq:aM X.K H a xs):a≠b:=by
 intro e
 subst e
 obtain⟨f0,_,_,f3,_,_⟩:=hf
 rcases hq with(h|⟨o,h⟩)|⟨o,_,_,hk,_⟩
 ·rw[f0]at h;cases h
 ·rw[f0]at h;cases h
 ·have hb:=I.ok.mod.kin _ _ hk
  rcases f3 with z|z
  ·exact I.ok.noex _ _ hb z
  ·exact absurd (Nat.lt_of_lt_of_le (Heap.lt_size (I.ok.bs _ _ hb).1) z) (Nat.lt_irrefl _)
section
variable{prog:Program}{w:World}{A:Around}{E:Qe}{s:Shared}
abbrev pP(l:Addr):Obj:={cls:=.type "tuple_iterator",data:=.fields #[.ref l,.int 0 0]}
abbrev iV(x y:Value):Obj:={cls:=.type "tuple",data:=.seq #[x,y]}
abbrev pE(x y:Value):Obj:={cls:=.type "zip",data:=.fields #[.none,.bool false,.bool false,x,y]}
abbrev za(h:Heap)(l:Addr):Heap:=h.push (pP l)
abbrev zb(h:Heap)(l c:Addr):Heap:=(za h l).push (pP c)
abbrev zc(h:Heap)(l c:Addr):Heap:=(zb h l c).push (iV (.ref h.objs.size) (.ref (za h l).objs.size))
abbrev zd(h:Heap)(l c:Addr):Heap:=(zc h l c).push (iV .none .none)
abbrev ze(h:Heap)(l c:Addr):Heap:=(zd h l c).push (pE (.ref (zb h l c).objs.size) (.ref (zc h l c).objs.size))
theorem Rq(l c:Addr)(xs ys:Array Value):Meets (Builtin.«zip.__new__» ⟨[.type "zip",.ref l,.ref c],[]⟩) (λ _ R s=>(s.heap.IsTuple l xs/\s.heap.IsTuple c ys)/\R (.ok (.ret (.ref (zd s.heap l c).objs.size))) {s with heap:=ze s.heap l c}):=
 .of_wp λ prog w A R s h=>by
  obtain⟨hp,g,d,tk,os⟩:=s;obtain⟨⟨hl1,hl2⟩,h⟩:=h
  have hsub:=sub_zip
  have hL1:Heap.IsTuple (Shared.heap ⟨hp,g,d,tk,os⟩) l xs:=hl1
  have hL2:Heap.IsTuple (Shared.heap ⟨za hp l,g,d,tk,os⟩) c ys:=hl2.at λ o e=>Heap.get?_push_of_some _ e
  wp_walk using wpAny_pyIter_tuple hL1,wpAny_pyIter_tuple hL2
  exact⟨_,rfl,h⟩
theorem Xq{l c:Addr}{xs ys:Array Value}{Q:Qe}(h1:s.heap.IsTuple l xs)(h2:s.heap.IsTuple c ys)
  (h:∀h',IsZip h' (s.heap.objs.size+4) (s.heap.objs.size+2) (s.heap.objs.size+3) .none->IsPair h' (s.heap.objs.size+2) (.ref s.heap.objs.size) (.ref (s.heap.objs.size+1))->IsPair h' (s.heap.objs.size+3) .none .none->
   h'.IsTupleIter s.heap.objs.size l 0->h'.IsTupleIter (s.heap.objs.size+1) c 0->(∀b o,s.heap.get? b=some o->h'.get? b=some o)->Q (.ref (s.heap.objs.size+4)) {s with heap:=h'}):wpAny (model prog w) A (call (.type "zip") [.ref l,.ref c]) Q E s:=by
 refine callType_new F.called_zip Qc (F.typeCall_zip_2 _ _) (F.newCall_zip_2 _ _) (λ obj=>F.args_object_init_3 obj _ _) F.entry_zip_new (Rq l c xs ys) ⟨⟨h1,h2⟩,?_⟩
 have z1:(za s.heap l).objs.size=s.heap.objs.size+1:=Heap.size_push ..
 have z2:(zb s.heap l c).objs.size=s.heap.objs.size+2:=(Heap.size_push ..).trans (congrArg (· +1) z1)
 have z3:(zc s.heap l c).objs.size=s.heap.objs.size+3:=(Heap.size_push ..).trans (congrArg (· +1) z2)
 have z4:(zd s.heap l c).objs.size=s.heap.objs.size+4:=(Heap.size_push ..).trans (congrArg (· +1) z3)
 have up:∀{hh:Heap} {o o':Obj} {b:Addr},hh.get? b=some o->(hh.push o').get? b=some o:=λ e=>Heap.get?_push_of_some _ e
 have p1:(ze s.heap l c).get? s.heap.objs.size=some (pP l):=up (up (up (up (Heap.get?_push_size _ rfl))))
 have p2:(ze s.heap l c).get? (za s.heap l).objs.size=some (pP c):=up (up (up (Heap.get?_push_size _ rfl)))
 have p3:(ze s.heap l c).get? (zb s.heap l c).objs.size=some (iV (.ref s.heap.objs.size) (.ref (za s.heap l).objs.size)):=up (up (Heap.get?_push_size _ rfl))
 have p4:(ze s.heap l c).get? (zc s.heap l c).objs.size=some (iV .none .none):=up (Heap.get?_push_size _ rfl)
 have p5:(ze s.heap l c).get? (zd s.heap l c).objs.size=some (pE (.ref (zb s.heap l c).objs.size) (.ref (zc s.heap l c).objs.size)):=Heap.get?_push_size _ rfl
 have pp:=λ b o (e:s.heap.get? b=some o)=>show(ze s.heap l c).get? b=some o from up (up (up (up (up e))))
 show _/\_
 generalize ze s.heap l c=hh at p1 p2 p3 p4 p5 pp⊢
 rw[z1]at p2 p3
 rw[z2]at p3 p5
 rw[z3]at p4 p5
 rw[z4]at p5⊢
 exact⟨⟨_,p5,rfl⟩,h _ p5 p3 p4 ⟨_,p1,rfl,rfl⟩ ⟨_,p2,rfl,rfl⟩ pp⟩
end
def xS(K:PySem.W.Frag)(a c:Addr):It:=
  ⟨λ k H=>∃xs ys x y,aM K H a xs∧aM K H c ys∧xs[k]? =some x∧ys[k]? =some y,
   λ k H v H'=>∃T x y,v= .ref T∧H T=none∧H'=aD H T (.tup [x,y])∧(∀xs,aM K H a xs→xs[k]? =some x)∧(∀ys,aM K H c ys→ys[k]? =some y),
   λ k H=>∃xs,aM K H a xs∧xs.length=k⟩
theorem Hm{P:Program}{w:World}{K:PySem.W.Frag}{elts:List Expr}{q}{pos:Pos}(a c z TI TO i j:Addr)(nd:[z,TI,TO,i,j].Nodup):
  iO P w K (.Tuple elts q pos) (xS K a c) [z,TI,TO,i,j] z (λ k h=>IsZip h z TI TO .none/\IsPair h TI (.ref i) (.ref j)/\(∃u v,IsPair h TO u v)/\h.IsTupleIter i a k/\h.IsTupleIter j c k) where
 mem:=by simp
 obj:=λ k h st b hb=>by
  obtain⟨h1,h2,⟨u,v,h3⟩,⟨o4,h4,_,d4⟩,⟨o5,h5,_,d5⟩⟩:=st
  simp only[List.mem_cons,List.not_mem_nil,or_false]at hb
  rcases hb with rfl|rfl|rfl|rfl|rfl
  ·exact⟨_,h1,λ v z=>by cases z⟩
  ·exact⟨_,h2,λ v z=>by cases z⟩
  ·exact⟨_,h3,λ v z=>by cases z⟩
  ·exact⟨_,h4,λ v z=>by rw[d4]at z;cases z⟩
  ·exact⟨_,h5,λ v z=>by rw[d5]at z;cases z⟩
 keep:=λ k h h' st kk=>by
  obtain⟨h1,h2,⟨u,v,h3⟩,h4,h5⟩:=st
  exact⟨kk _ Qb _ h1,kk _ Qb _ h2,⟨u,v,kk _ Qb _ h3⟩,h4.at λ o e=>kk i Qb o e,h5.at λ o e=>kk j Qb o e⟩
 item:=by
  intro X hP hw hK hc k pins s σ H E I hf st hg
  subst hP hw hK
  obtain⟨xs,ys,x,y,hq1,hq2,hx,hy⟩:=hg
  obtain⟨h1,h2,⟨u,v,h3⟩,h4,h5⟩:=st
  obtain⟨its1,rv1,p1,_⟩:=I.tuple hq1
  obtain⟨its2,rv2,p2,_⟩:=I.tuple hq2
  obtain⟨u1,hu1,ru1⟩:=rv1.get hx
  obtain⟨u2,hu2,ru2⟩:=rv2.get hy
  have na:∀b∈[z,TI,TO,i,j],a≠b:=λ b hb=>wG I (hf b hb) hq1
  have nc:∀b∈[z,TI,TO,i,j],c≠b:=λ b hb=>wG I (hf b hb) hq2
  have nd':=nd
  simp only[List.nodup_cons,List.mem_cons,List.not_mem_nil,or_false,not_or,List.nodup_nil,and_true,not_false_eq_true]at nd'
  obtain⟨⟨nzI,nzO,nzi,nzj⟩,⟨nIO,nIi,nIj⟩,⟨nOi,nOj⟩,nij⟩:=nd'
  have Z:ZA z TI TO i j [i,a] [j,c]:=⟨nd,λ b hb=>by
   rcases List.mem_cons.mp hb with rfl|hb
   ·exact⟨Ne.symm nzi,Ne.symm nOi,nij,Ne.symm nIi⟩
   ·rw[show b=a by simpa using hb];exact⟨na z Qb,na TO Qb,na j Qb,na TI Qb⟩,λ b hb=>by
   rcases List.mem_cons.mp hb with rfl|hb
   ·exact⟨Ne.symm nzj,Ne.symm nOj,Ne.symm nij,Ne.symm nIj⟩
   ·rw[show b=c by simpa using hb];exact⟨nc z Qb,nc TO Qb,nc i Qb,nc TI Qb⟩⟩
  have D1:=Draws.tuple (prog:=X.prog) (w:=X.w) (A:=X.A.in1) (I.ok.hd hc) i a (na i Qb) its1.toArray
  have D2:=Draws.tuple (prog:=X.prog) (w:=X.w) (A:=X.A.in1) (I.ok.hd hc) j c (nc j Qb) its2.toArray
  refine Av Z D1 D2 h1 h2 h3 ⟨h4,p1⟩ ⟨h5,p2⟩ (by rw[List.size_toArray];exact(List.getElem?_eq_some_iff.mp hu1).1) (by rw[List.size_toArray];exact(List.getElem?_eq_some_iff.mp hu2).1) λ v1 v2 h' tk e1 e2 a1 a2 a3 a4 a5 a6 a7=>?_
  have e1':its1[k]? =some v1:=by simpa using e1
  have e2':its2[k]? =some v2:=by simpa using e2
  rw[hu1]at e1'
  rw[hu2]at e2'
  cases e1'
  cases e2'
  refine⟨_,rfl,wpAny_letOwnedTupleGo_zip (s:={s with heap:=h',toks:=tk}) a1 λ h3' b1 sb=>?_⟩
  replace sb:Heap.SameBut z h' h3':=sb
  have lt:∀b∈[z,TI,TO,i,j],b<s.heap.objs.size:=λ b hb=>by
   obtain⟨_,q4,_⟩:=id h4
   obtain⟨_,q5,_⟩:=id h5
   simp only[List.mem_cons,List.not_mem_nil,or_false]at hb
   rcases hb with rfl|rfl|rfl|rfl|rfl
   ·exact Heap.lt_size h1
   ·exact Heap.lt_size h2
   ·exact Heap.lt_size h3
   ·exact Heap.lt_size q4
   ·exact Heap.lt_size q5
  have stn:IsZip h3' z TI TO .none/\IsPair h3' TI (.ref i) (.ref j)/\(∃u v,IsPair h3' TO u v)/\h3'.IsTupleIter i a (k+1)/\h3'.IsTupleIter j c (k+1):=
   ⟨b1,(sb.2 _ (Ne.symm nzI)).trans a2,⟨_,_,(sb.2 _ (Ne.symm nzO)).trans a3⟩,a4.1.at λ o e=>(sb.2 i (Ne.symm nzi)).trans e,a5.1.at λ o e=>(sb.2 j (Ne.symm nzj)).trans e⟩
  have J:aB X pins σ (aD H s.heap.objs.size (.tup [x,y])) {s with heap:=h3',toks:=tk}:=by
   refine I.turnedNew (fp:=[z,TI,TO,i,j]) (its:=[u1,u2]) hf (λ b o hb q=>(sb.2 b (λ e=>hb (by simp[e]))).trans (a7 b o (λ e=>hb (by simp only[List.mem_cons,List.not_mem_nil,or_false]at e⊢;rcases e with e|e|e|e<;>simp[e])) q)) (λ b hb=>?_) (Nat.le_refl _) ⟨⟨_,(sb.2 _ (Nat.ne_of_gt (lt z Qb))).trans a6,rfl,0,rfl⟩,_,(sb.2 _ (Nat.ne_of_gt (lt z Qb))).trans a6,rfl⟩ (.cons ru1 (.cons ru2 .nil)) (by show 2<=sizeLine;decide)
   obtain⟨t1,t2,⟨_,_,t3⟩,⟨_,t4,_⟩,⟨_,t5,_⟩⟩:=id stn
   simp only[List.mem_cons,List.not_mem_nil,or_false]at hb
   rcases hb with rfl|rfl|rfl|rfl|rfl
   ·exact⟨_,t1⟩
   ·exact⟨_,t2⟩
   ·exact⟨_,t3⟩
   ·exact⟨_,t4⟩
   ·exact⟨_,t5⟩
  refine⟨.ref s.heap.objs.size,aD H s.heap.objs.size (.tup [x,y]),J,rfl,⟨_,x,y,rfl,I.hok.fresh (Nat.le_refl _),rfl,λ zs hz=>by rw[I.tuple_inj hz hq1];exact hx,λ zs hz=>by rw[I.tuple_inj hz hq2];exact hy⟩,stn,λ b hb=>?_⟩
  rw[aU (Nat.ne_of_lt (lt b hb))]
  exact(hf b hb).1
 done:=by
  intro X hP hw hK hc k pins s σ H E I hf st hg
  subst hP hw hK
  obtain⟨xs,hq1,hl⟩:=hg
  obtain⟨h1,h2,⟨u,v,h3⟩,h4,h5⟩:=st
  obtain⟨its1,rv1,p1,_⟩:=I.tuple hq1
  have na:∀b∈[z,TI,TO,i,j],a≠b:=λ b hb=>wG I (hf b hb) hq1
  have nd':=nd
  simp only[List.nodup_cons,List.mem_cons,List.not_mem_nil,or_false,not_or,List.nodup_nil,and_true,not_false_eq_true]at nd'
  obtain⟨⟨nzI,nzO,nzi,nzj⟩,⟨nIO,nIi,nIj⟩,⟨nOi,nOj⟩,nij⟩:=nd'
  have Z:ZA z TI TO i j [i,a] []:=⟨nd,λ b hb=>by
   rcases List.mem_cons.mp hb with rfl|hb
   ·exact⟨Ne.symm nzi,Ne.symm nOi,nij,Ne.symm nIi⟩
   ·rw[show b=a by simpa using hb];exact⟨na z Qb,na TO Qb,na j Qb,na TI Qb⟩,λ b hb=>nomatch hb⟩
  have D1:=Draws.tuple (prog:=X.prog) (w:=X.w) (A:=X.A.in1) (I.ok.hd hc) i a (na i Qb) its1.toArray
  have hk:its1.toArray.size=k:=by rw[List.size_toArray,<-rv1.length];exact hl
  refine yN Z D1 h1 h2 ⟨by rw[hk];exact h4,p1⟩ λ h' kk=>⟨rfl,?_⟩
  refine I.step (g':=s.gens) (d':=s.drawn) (t':=s.toks) (ch:=[z,TO,i,j]) (λ b hb=>?_) (λ b o _ _ hb q _=>kk b o hb q) (λ b o _ _ hb q _=>⟨o.slots,kk b o hb q⟩) (λ _ _ _ _ n=>n) (λ b o hb q=>⟨o,kk b o hb q⟩) (λ _ _ e=>e) (λ _ _ _ e=>e) (λ b ps e=>⟨#[],by rw[e];simp⟩) (λ m hn=>?_) (λ b u q=>?_) ⟨I.bare.1,Nat.le_refl _⟩
  ·have hb':b∈[z,TI,TO,i,j]:=by simp only[List.mem_cons,List.not_mem_nil,or_false]at hb⊢;rcases hb with e|e|e|e<;>simp[e]
   obtain⟨f0,f1,f2,f3,f4,f5⟩:=hf b hb'
   exact⟨f3,f1,f4,f5⟩
  ·obtain⟨o,es,ep,ho,r⟩:=hn
   refine⟨o,es,ep,kk _ o (λ hb=>?_) ho,r⟩
   have hb':X.env.locals∈[z,TI,TO,i,j]:=by simp only[List.mem_cons,List.not_mem_nil,or_false]at hb⊢;rcases hb with e|e|e|e<;>simp[e]
   exact(hf _ hb').2.1 rfl
  ·refine(I.hok b u q).stay (λ c' v' hc' y=>kk c' v' (λ hb=>?_) y) (λ _ y=>y) λ _ _ y=>y
   have hb':c'∈[z,TI,TO,i,j]:=by simp only[List.mem_cons,List.not_mem_nil,or_false]at hb⊢;rcases hb with e|e|e|e<;>simp[e]
   have:=(hf _ hb').1
   rcases hc' with e|e
   ·rw[e]at this;rw[this]at q;cases q
   ·rw[this]at e;cases e
 self:=λ _ _ _ _ _ st h=>wpAny_pyIter_zip st.1 h
section
variable{X:Cx}{elts:List Expr}{q:Nat}{tpos:Pos}
def Dd(K:PySem.W.Frag)(ta:TA):TI:=λ σ H R=>ta σ H λ vs H1=>∃a c,vs=[.ref a,.ref c]/\(∃xs,aM K H1 a xs)/\(∃ys,aM K H1 c ys)/\R (xS K a c) H1
theorem Nr{l m:Expr}{ta:TA}{p pos:Pos}(hg:Gl X "zip")(hm:X.mg "zip" =none)(ha:PA X [l,m] ta)(hs:starEach [l,m] X.env=(false,eval l X.env)::starEach [m] X.env:=by rfl)(hs2:(backTo pos (starEach [m] X.env)).any (·.1)=false:=by rfl):PI X (.Tuple elts q tpos) (.Call (.Name "zip" p) [l,m] [] pos) (Dd X.K ta):=by
 intro pins s σ H R I h
 refine Call_ (kQ I hg hm Ep (PyProof.Rows.callWith_type1 (aP (ha pos pins s σ H _ I h) λ us s1 ⟨vs,H1,I1,r1,q1⟩=>?_) hs hs2))
 obtain⟨a,c,e,⟨xs,hq1⟩,⟨ys,hq2⟩,qq⟩:=q1
 subst e
 cases r1 with
 | cons r rr=>
  cases rr with
  | cons r' rr'=>
   cases rr'
   cases r
   cases r'
   obtain⟨its1,rv1,p1,_⟩:=I1.tuple hq1
   obtain⟨its2,rv2,p2,_⟩:=I1.tuple hq2
   refine Xq (s:=s1) (show s1.heap.IsTuple a its1.toArray from p1) (show s1.heap.IsTuple c its2.toArray from p2) λ h' h1 h2 h3 h4 h5 kp=>wpAny_pyIter_zip (s:={s1 with heap:=h'}) h1 ?_
   refine⟨s1.heap.objs.size+4,[s1.heap.objs.size+4,s1.heap.objs.size+2,s1.heap.objs.size+3,s1.heap.objs.size,s1.heap.objs.size+1],_,_,H1,rfl,I1.kept (t':=s1.toks) kp,Hm a c _ _ _ _ _ (by simp<;>omega),⟨h1,h2,⟨_,_,h3⟩,h4,h5⟩,λ b hb=>?_,qq⟩
   have:s1.heap.objs.size<=b:=by
    simp only[List.mem_cons,List.not_mem_nil,or_false]at hb
    rcases hb with rfl|rfl|rfl|rfl|rfl<;>omega
   exact I1.fpOk this (I1.hok.fresh this)
end
def Ih(K:PySem.W.Frag)(te:TE)(tr:TA):TA:=λ σ H Q=>te σ H λ v H1=>∃a xs,v= .ref a/\(aN K H1 a xs\/aM K H1 a xs)/\tr σ H1 λ ys H2=>Q (xs++ys) H2
section
variable{X:Cx}{e:Expr}{es:List Expr}{te:TE}{t:TA}{p pos:Pos}
theorem Oj(ha:PE X e te)(hr:PA X es t)(hs:starEach (.Starred e p::es) X.env=(true,eval e X.env)::starEach es X.env:=by rfl):PA X (.Starred e p::es) (Ih X.K te t):=by
 intro pos pins s σ H Q I h
 refine PySem.W.items_star (aP (ha pins s σ H _ I h) λ u s1 ⟨x,H1,I1,r1,a,xs,ex,hq,q1⟩=>?_) hs
 subst ex
 cases r1
 have fin:∀(T:String) (o:Obj) (its:List Value) (n:Nat),(T= "list"\/T= "tuple")->s1.heap.get? a=some o->o.cls= .type T->o.data= .seq its.toArray n->aO xs its->xs.length<=sizeLine->
   PySem.W.StarOf (model X.prog X.w) X.A X.xe (.ref a) (λ here s₂=>wpAny (model X.prog X.w) X.A (spliced (backTo pos (starEach es X.env))) (λ vs s₃=>∃ys H',aB X pins σ H' s₃/\aO ys (here++vs)/\Q ys H') X.xe s₂) s1:=λ T o its n hT ho hc hd rv hz=>by
  have hT':s1.TypeIs (.ref a) T:=⟨o,ho,hc⟩
  have z:wpAny (model X.prog X.w) X.A (collect (.ref a)) (λ here s₂=>wpAny (model X.prog X.w) X.A (spliced (backTo pos (starEach es X.env))) (λ vs s₃=>∃ys H',aB X pins σ H' s₃/\aO ys (here++vs)/\Q ys H') X.xe s₂) X.xe s1:=by
   refine wpAny_collect_seq a hT ho hc hd (λ h' hk=>?_) (by rw[List.size_toArray,<-rv.length];exact hz)
   have I2:aB X pins σ H1 {s1 with heap:=h'}:=I1.kept (t':=s1.toks) hk
   exact aP (hr pos pins {s1 with heap:=h'} σ H1 _ I2 q1) λ us s2 ⟨ys,H2,I3,r2,q2⟩=>⟨xs++ys,H2,I3,rv.append r2,q2⟩
  unfold PySem.W.StarOf notIterableAtAll
  rcases hT with rfl|rfl
  ·exact wpAny_bind (wpAny_specialOf hT' PySem.F.slot_list_iter.lookup (wpAny_pure ⟨rfl,z⟩))
  ·exact wpAny_bind (wpAny_specialOf hT' PySem.F.slot_tuple_iter.lookup (wpAny_pure ⟨rfl,z⟩))
 rcases hq with hq|hq
 ·obtain⟨its,rv,pl,hz⟩:=I1.list hq
  obtain⟨o,ho,hc,n,hd⟩:=pl.isList
  exact fin "list" o its n (.inl rfl) ho hc hd rv hz
 ·obtain⟨its,rv,⟨o,ho,hc,n,hd⟩,hz⟩:=I1.tuple hq
  exact fin "tuple" o its n (.inr rfl) ho hc hd rv hz
end
theorem Nu{X:Cx}{K:PySem.W.Frag}{es:List Expr}{k:Nat}{t:gF}{n:Nat}{pos:Pos}(hK:X.K=K)(hc:X.calm=true)(h:oX X es t)
  (hn:(assignEach es X.env).length=n:=by rfl) (hst:(assignEach es X.env).findIdx? (·.1)=none:=by rfl):PG X (.Tuple es k pos) (wF K n t):=by
 subst hK
 exact mB hc h hn hst
theorem Sl{K:PySem.W.Frag}{a c:Addr}{xs ys:List V}{g:TG}{te:TE}{σc:St}{H:Hp}{Q:VK}(hlen:ys.length=xs.length)(Pv:Nat->List V->Hp->Prop)(h0:Pv 0 [] H)(hok:∀i vs H,Pv i vs H->aM K H a xs/\aM K H c ys)
  (step:∀i x y T vs H,xs[i]? =some x->ys[i]? =some y->i<xs.length->Pv i vs H->H T=none->g (.ref T) σc (aD H T (.tup [x,y])) λ σ2 H2=>te σ2 H2 λ v H4=>vs.length<sizeLine/\Nx xs.length i (Pv (i+1) (vs++[v]) H4))
  (fin:∀vs H,Pv xs.length vs H->∀p,H p=none->Q (.ref p) (aD H p (.lst vs))):pA (xS K a c) g gJ te σc Q H:=by
 refine⟨λ i m vs H=>m=xs.length-i/\i<=xs.length/\Pv i vs H,⟨xs.length,Qb,Nat.zero_le _,h0⟩,?_⟩
 rintro i m vs H ⟨rfl,hi,p⟩
 obtain⟨o1,o2⟩:=hok i vs H p
 by_cases hlt:i<xs.length
 ·have hlt':i<ys.length:=by omega
  refine .inr ⟨⟨xs,ys,xs[i],ys[i],o1,o2,by simp[hlt],by simp[hlt']⟩,λ v H' yy=>?_⟩
  obtain⟨T,x,y,rfl,hT,rfl,y1,y2⟩:=yy
  have e:(λ (σ2:St) (H2:Hp)=>gJ σ2 H2 λ b H3=>if b=true then te σ2 H3 λ v H4=>vs.length<sizeLine/\∃m',m'<xs.length-i/\(m'=xs.length-(i+1)/\i+1<=xs.length/\Pv (i+1) (vs++[v]) H4)else∃m',m'<xs.length-i/\(m'=xs.length-(i+1)/\i+1<=xs.length/\Pv (i+1) vs H3))=
    λ σ2 H2=>te σ2 H2 λ v H4=>vs.length<sizeLine/\Nx xs.length i (Pv (i+1) (vs++[v]) H4):=by
   funext σ2 H2
   unfold gJ
   dsimp only
   rw[if_pos rfl]
   rfl
  rw[e]
  exact step i x y T vs H (y1 xs o1) (y2 ys o2) hlt p hT
 ·have e:i=xs.length:=by omega
  subst e
  exact .inl ⟨⟨xs,o1,rfl⟩,fin vs H p⟩
def fA(h:Heap)(e:Addr)(o:Obj)(T:Addr)(fl:Value):Prop:=
 ∃vs oT ts,h.get? e=some {o with data:=.fields vs}/\(vs[1]?:Option Value)=some (.ref T)/\T≠e/\h.get? T=some oT/\oT.data= .fields ts/\(ts[3]?:Option Value)=some fl
structure Fk(ch fs:List Addr)(h h':Heap):Prop where
 keep:∀b o,b∉ch->b∉fs->h.get? b=some o->h'.get? b=some o
 slot:∀b o,b∉ch->h.get? b=some o->∃sl,h'.get? b=some {o with slots:=sl}
 size:h.objs.size<=h'.objs.size
theorem Fk.of_same{a:Addr}{fs:List Addr}{h h':Heap}(x:Heap.SameBut a h h'):Fk [a] fs h h':=
 ⟨λ b o hb _ e=>(x.2 b (by simpa using hb)).trans e,λ b o hb e=>⟨o.slots,(x.2 b (by simpa using hb)).trans e⟩,Nat.le_of_eq x.1.symm⟩
theorem Fk.trans{ch ch' fs:List Addr}{h h1 h2:Heap}(x:Fk ch fs h h1)(y:Fk ch' fs h1 h2):Fk (ch++ch') fs h h2:=
  ⟨λ b o hb hf e=>y.keep b o (λ z=>hb (by simp[z])) hf (x.keep b o (λ z=>hb (by simp[z])) hf e),
   λ b o hb e=>by
    obtain⟨sl,e1⟩:=x.slot b o (λ z=>hb (by simp[z])) e
    obtain⟨sl2,e2⟩:=y.slot b _ (λ z=>hb (by simp[z])) e1
    exact⟨sl2,e2⟩,Nat.le_trans x.size y.size⟩
theorem Fk.mono{ch ch' fs:List Addr}{h h':Heap}(x:Fk ch fs h h')(hc:∀b∈ch,b∈ch'):Fk ch' fs h h':=
 ⟨λ b o hb hf e=>x.keep b o (λ z=>hb (hc b z)) hf e,λ b o hb e=>x.slot b o (λ z=>hb (hc b z)) e,x.size⟩
section
variable{M:Model}{A:Around}{E:Qe}{s:Shared}{Q:Unit->Shared->Prop}
theorem pW{a:Addr}{o:Obj}{vs:Array Value}{i:Nat}{x:Value}(ho:s.heap.get? a=some {o with data:=.fields vs})(hi:i<vs.size)
  (h:∀h',h'.get? a=some {o with data:=.fields (vs.setIfInBounds i x)}->Heap.SameBut a s.heap h'->Q () {s with heap:=h'}):wpAny M A (setField (.ref a) i x) Q E s:=by
 refine wpAny_setField ho rfl hi (h _ ?_ (Heap.SameBut.update ..))
 exact Heap.get?_update_self _ ho rfl
variable{base:Heap}{env:Env}{outer:List Env}{L e T:Addr}{o:Obj}{vs:Array Value}{head fl:Value}{hadNext:Bool}
theorem Eb(hfr : A.frames=some (env::outer))(hl:s.heap.FunFrames base (env::outer))(hf:env.frame=some L)(he:s.heap.get? e=some {o with data:= .fields vs})(hsz:1<vs.size)
    (h:∀h' T,s.heap.objs.size≤T→fA h' e o T (rawInt L)→Fk [e] (cC (env::outer)) s.heap h'→Q () {s with heap:=h'}):
    wpAny M A (do let a←frameOf env
                  let pl←entryPlaceOf L hadNext
                  let b←EntryCells.newEntry head a .none (rawInt L) .none pl
                  setField (.ref e) 1 b) Q E s:=by
  have nfr:e∉cC (env::outer):=λ z=>by
    obtain⟨_,ob,hob,nf⟩:=hl.mem z
    rw[he]at hob
    cases hob
    exact nf vs rfl
  refine wpAny_bind (wpAny_frameOf_fun hfr hl hf λ h1 ⟨z1,z2,z3⟩=>wpAny_bind (wpAny_entryPlaceOf λ pl hpl=>?_))
  unfold EntryCells.newEntry newFields
  refine wpAny_bind (wpAny_newObj_type ?_ (hpl.sizeOk5 _ _ _ _ _))
  have e1:h1.get? e=some {o with data:= .fields vs}:=(z2 e nfr).trans he
  refine pW (o:=o) (Heap.get?_push_of_some _ e1) hsz λ h2 e2 sb=>h h2 h1.objs.size (Nat.le_of_eq z1.symm) ?_ ?_
  · have nT:h1.objs.size≠e:=Nat.ne_of_gt (Heap.lt_size e1)
    refine⟨_,_,_,e2,by simp[hsz],nT,(sb.2 _ nT).trans (Heap.get?_push_size h1 rfl),rfl,?_⟩
    first|(simp;done)|(rcases hpl with rfl|⟨_,_,_,_,_,_,_,rfl⟩<;>simp)
  · refine⟨λ b ob hb hfb eb=>?_,λ b ob hb eb=>?_,?_⟩
    ·exact(sb.2 b (by simpa using hb)).trans (Heap.get?_push_of_some _ ((z2 b hfb).trans eb))
    · obtain⟨sl,q⟩:=z3 b ob eb
      exact⟨sl,(sb.2 b (by simpa using hb)).trans (Heap.get?_push_of_some _ q)⟩
    · rw[sb.1,Heap.size_push,z1]
      exact Nat.le_succ _
theorem vV(ht:fA s.heap e o T fl){fs:List Addr}(h:∀h',fA h' e o T .none->Fk [T] fs s.heap h'->Q () {s with heap:=h'}):wpAny M A (setFlight (.ref e) none) Q E s:=by
 obtain⟨vs,oT,ts,he,h1,nT,hT,hd,h3⟩:=ht
 unfold setFlight
 refine wpAny_bind (wpAny_field he rfl h1 ?_)
 rw[if_pos (show(Value.ref T !=Value.none)=true from Qb)]
 obtain⟨c,d,dt,sl⟩:=oT
 have hd':dt= .fields ts:=hd
 subst hd'
 have h3':3<ts.size:=(Array.getElem?_eq_some_iff.mp h3).1
 refine pW (o:=⟨c,d,.fields ts,sl⟩) hT h3' λ h' e' sb=>h h' ⟨vs,_,_,(sb.2 e (Ne.symm nT)).trans he,h1,nT,e',rfl,by simp[h3']⟩ (.of_same sb)
theorem Bo(hfr:A.frames=some (env::outer))(hl:s.heap.FunFrames base (env::outer))(hf:env.frame=some L)(he:s.heap.get? e=some {o with data:=.fields vs})(h1:(vs[1]?:Option Value)=some .none)
  (h:∀h' T,s.heap.objs.size<=T->fA h' e o T (rawInt L)->Fk [e] (cC (env::outer)) s.heap h'->Q () {s with heap:=h'}):wpAny M A (noteFrame (.ref e) env) Q E s:=by
 unfold noteFrame
 simp only[hf]
 refine wpAny_bind (wpAny_field he rfl h1 ?_)
 rw[if_neg Qc]
 exact Eb hfr hl hf he (Array.getElem?_eq_some_iff.mp h1).1 h
theorem Bn(hfr:A.frames=some (env::outer))(hl:s.heap.FunFrames base (env::outer))(hf:env.frame=some L)(ht:fA s.heap e o T .none)
  (h:∀h' T',s.heap.objs.size<=T'->fA h' e o T' (rawInt L)->Fk [T,e] (cC (env::outer)) s.heap h'->Q () {s with heap:=h'}):wpAny M A (noteFrame (.ref e) env) Q E s:=by
 obtain⟨vs,oT,ts,he,h1,nT,hT,hd,h3⟩:=ht
 unfold noteFrame
 simp only[hf]
 refine wpAny_bind (wpAny_field he rfl h1 ?_)
 rw[if_pos (show(Value.ref T !=Value.none)=true from Qb)]
 refine wpAny_bind (wpAny_field hT hd h3 ?_)
 rw[if_neg (show¬((Value.none==rawInt L)=true) by simp[rawInt])]
 obtain⟨c,d,dt,sl⟩:=oT
 have hd':dt= .fields ts:=hd
 subst hd'
 have nF:T∉cC (env::outer):=λ z=>by
  obtain⟨_,ob,hob,nf⟩:=hl.mem z
  rw[hT]at hob
  cases hob
  exact nf ts rfl
 refine wpAny_bind (pW (o:=⟨c,d,.fields ts,sl⟩) hT (Array.getElem?_eq_some_iff.mp h3).1 λ h2 e2 sb=>?_)
 have k2:Fk [T] (cC (env::outer)) s.heap h2:=.of_same sb
 refine Eb (s:={s with heap:=h2}) (o:=o) (vs:=vs) hfr (hl.of_keeps λ b ob hb nf=>⟨ob,(sb.2 b λ z=>by subst z;rw[hT]at hb;cases hb;exact nf ts rfl).trans hb,rfl⟩) hf ((sb.2 e (Ne.symm nT)).trans he) (Array.getElem?_eq_some_iff.mp h1).1 λ h3 T' z1 z2 z3=>h h3 T' (by rw[<-sb.1];exact z1) z2 (k2.trans z3)
theorem Sj(hfr:A.frames=some (env::outer))(hl:s.heap.FunFrames base (env::outer))(hf:env.frame=some L)(he:s.heap.get? e=some {o with data:=.fields vs})(h1:(vs[1]?:Option Value)=some .none)
  (h:∀h' T,s.heap.objs.size<=T->fA h' e o T .none->Fk [e] (cC (env::outer)) s.heap h'->Q () {s with heap:=h'}):wpAny M A (leaving env (.ref e)) Q E s:=by
 unfold leaving
 refine wpAny_bind (Bo hfr hl hf he h1 λ h' T z1 z2 z3=>vV (fs:=cC (env::outer)) z2 λ h2 y1 y2=>h h2 T z1 y1 ?_)
 have nT:∀b ob,s.heap.get? b=some ob->b≠T:=λ b ob q z=>absurd (Heap.lt_size q) (Nat.not_lt.mpr (z▸z1))
 exact⟨λ b ob hb hfb q=>y2.keep b ob (by simpa using nT b ob q) hfb (z3.keep b ob hb hfb q),λ b ob hb q=>by
  obtain⟨sl,q1⟩:=z3.slot b ob hb q
  obtain⟨sl2,q2⟩:=y2.slot b _ (by simpa using nT b ob q) q1
  exact⟨sl2,q2⟩,Nat.le_trans z3.size y2.size⟩
theorem Si(hfr:A.frames=some (env::outer))(hl:s.heap.FunFrames base (env::outer))(hf:env.frame=some L)(ht:fA s.heap e o T .none)
  (h:∀h' T',s.heap.objs.size<=T'->fA h' e o T' .none->Fk [T,e] (cC (env::outer)) s.heap h'->Q () {s with heap:=h'}):wpAny M A (leaving env (.ref e)) Q E s:=by
 unfold leaving
 refine wpAny_bind (Bn hfr hl hf ht λ h' T' z1 z2 z3=>vV (fs:=cC (env::outer)) z2 λ h2 y1 y2=>h h2 T' z1 y1 ?_)
 have nT:∀b ob,s.heap.get? b=some ob->b≠T':=λ b ob q z=>absurd (Heap.lt_size q) (Nat.not_lt.mpr (z▸z1))
 exact⟨λ b ob hb hfb q=>y2.keep b ob (by simpa using nT b ob q) hfb (z3.keep b ob hb hfb q),λ b ob hb q=>by
  obtain⟨sl,q1⟩:=z3.slot b ob hb q
  obtain⟨sl2,q2⟩:=y2.slot b _ (by simpa using nT b ob q) q1
  exact⟨sl2,q2⟩,Nat.le_trans z3.size y2.size⟩
end
def bM(C:Addr)(d:Option Addr)(vs:Array Value):Obj:={cls:=.ref C,dict:=d,data:=.fields vs}
def cA(e C:Addr)(d:Option Addr):HO:=.ext λ h=>∃vs,h.get? e=some (bM C d vs)
def cH(e C:Addr)(d:Option Addr):HO:=.ext λ h=>∃vs,h.get? e=some (bM C d vs)/\(vs[1]?:Option Value)=some .none
section
variable{P:Program}{w:World}{H H':Hp}{h h':Heap}{e C:Addr}{d:Option Addr}
theorem cA.ok{vs:Array Value}(q:h.get? e=some (bM C d vs)):cI P w H h e (cA e C d):=⟨⟨vs,q⟩,⟨_,q⟩,λ _ _ ⟨us,z⟩ k=>⟨us,k _ z⟩⟩
theorem cH.ok{vs:Array Value}(q:h.get? e=some (bM C d vs))(q1:(vs[1]?:Option Value)=some .none):cI P w H h e (cH e C d):=⟨⟨vs,q,q1⟩,⟨_,q⟩,λ _ _ ⟨us,z,y⟩ k=>⟨us,k _ z,y⟩⟩
theorem bZ.exc(k:bZ P w H h)(q:H e=some (cA e C d)):∃vs,h.get? e=some (bM C d vs):=(k e _ q).1
theorem bZ.exn(k:bZ P w H h)(q:H e=some (cH e C d)):∃vs,h.get? e=some (bM C d vs)/\(vs[1]?:Option Value)=some .none:=(k e _ q).1
theorem bZ.fly{ch fs:List Addr}{u:HO}(k:bZ P w H h)(f:Fk ch fs h h')(hc:∀b∈ch,b=e\/H b=none)(hf:∀b∈fs,H b=none)(hm:gY (H e))(new:cI P w (aD H e u) h' e u):bZ P w (aD H e u) h':=λ b ob q=>by
 by_cases hb:b=e
 ·subst hb
  rw[aR]at q
  cases q
  exact new
 ·rw[aU hb]at q
  refine(k b ob q).stay (λ c v hcb z=>f.keep c v (λ y=>?_) (λ y=>?_) z) (λ c z=>?_) (λ c xs z=>?_)
  ·rcases hc c y with rfl|n
   ·rcases hcb with rfl|n
    ·exact hb rfl
    ·rw[n]at hm;exact hm
   ·rcases hcb with rfl|n'
    ·rw[n]at q;cases q
    ·rw[n]at n';cases n'
  ·have n:=hf c y
   rcases hcb with rfl|n'
   ·rw[n]at q;cases q
   ·rw[n]at n';cases n'
  ·rw[aU (λ y=>by subst y;rw[z]at hm;exact hm)];exact z
  ·rw[aU (λ y=>by subst y;rw[z]at hm;exact hm)];exact z
end
theorem pJ{H:Hp}{a:Addr}{o:HO}(h:H a=some o):aD H a o=H:=by
 funext b
 by_cases hb:b=a
 ·subst hb;rw[aR,h]
 ·rw[aU hb]
def fD(P:Program)(w:World):dI:=λ outer H s E ev s'=>∃(e C:Addr) (d:Option Addr) (T:Addr) (H':Hp),ev= .ref e/\s'.os=s.os/\fB s.gens s'.gens/\Un (cC outer) [] H H' s.heap s'.heap/\bZ P w H' s'.heap/\
 s.heap.objs.size<=T/\H' T=none/\fA s'.heap e (bM C d #[]) T .none/\H' e=some (cA e C d)/\E (.ref e) d H'
theorem Un.fly{fs fs' ch:List Addr}{H H':Hp}{h h1 h2:Heap}{e:Addr}{u:HO}(x:Un fs [] H H' h h1)(f:Fk ch fs' h1 h2)(hm:gY (H' e))(he:∃o,h2.get? e=some o)
  (hc:∀b∈ch,b=e\/h.objs.size<=b) (hf:∀b∈fs',b∈fs\/h.objs.size<=b):Un fs [] H (aD H' e u) h h2:=by
 have big:∀{b o},h.get? b=some o->¬h.objs.size<=b:=λ q=>Nat.not_le.mpr (Heap.lt_size q)
 have ne:∀{b o},h.get? b=some o->H b=none->b≠e:=fun{b o} q n z=>by
  have:=x.free b o q n Qb
  rw[z]at this
  rw[this]at hm
  exact hm
 have nch:∀{b o},h.get? b=some o->b≠e->b∉ch:=fun{b o} q n z=>(hc b z).elim n (big q)
 refine⟨λ b o q n hb _=>?_,λ b o q n hb _=>?_,λ b o q n _=>?_,λ b o q _=>?_,λ b xs q=>?_,λ b o v q=>?_,λ b ps q=>?_⟩
 ·exact f.keep b o (nch q (ne q n)) (λ z=>(hf b z).elim hb (big q)) (x.keep b o q n hb Qb)
 ·obtain⟨sl,q1⟩:=x.slot b o q n hb Qb
  obtain⟨sl2,q2⟩:=f.slot b _ (nch q (ne q n)) q1
  exact⟨sl2,q2⟩
 ·rw[aU (ne q n)];exact x.free b o q n Qb
 ·by_cases hb:b=e
  ·rw[hb];exact he
  ·obtain⟨o1,q1⟩:=x.there b o q Qb
   obtain⟨sl2,q2⟩:=f.slot b _ (nch q hb) q1
   exact⟨_,q2⟩
 ·have:=x.tups b xs q
  rw[aU (λ z=>by rw[z]at this;rw[this]at hm;exact hm)];exact this
 ·have:=x.frzs b o v q
  rw[aU (λ z=>by rw[z]at this;rw[this]at hm;exact hm)];exact this
 ·obtain⟨more,this⟩:=x.tbls b ps q
  exact⟨more,by rw[aU (λ z=>by rw[z]at this;rw[this]at hm;exact hm)];exact this⟩
structure Fq(X:Cx)(pins:List (Addr×Obj))(H:Hp)(s:Shared)(e C:Addr)(d:Option Addr)(T:Addr):Prop where
 tr:fA s.heap e (bM C d #[]) T .none
 at_:H e=some (cA e C d)
 big:X.s₀.heap.objs.size<=T
 free:H T=none
 loc:T≠X.env.locals
 cell:∀x c,X.env.cells.lookup x=some c->c≠T
 pin:∀p∈X.pn++pins,p.1≠T
abbrev SK:=St->Addr->Addr->Option Addr->Hp->Prop
structure lE(X:Cx)(S:SK):Prop where
 new:∀(pins:List (Addr×Obj)) (σ:St) (H:Hp) (s:Shared) (e C:Addr) (d:Option Addr),aB X pins σ H s->H e=some (cH e C d)->S σ e C d (aD H e (cA e C d))->X.xe (.ref e) s
 fly:∀(pins:List (Addr×Obj)) (σ:St) (H:Hp) (s:Shared) (e C:Addr) (d:Option Addr) (T:Addr),aB X pins σ H s->Fq X pins H s e C d T->S σ e C d H->X.xe (.ref e) s
section
variable{CX:dI}{P:Program}{w:World}{K:PySem.W.Frag}{mg:Str->Option Value}{base:Heap}{N:List Str}{qual:Str}{scope:Scope}{f:Addr}{cdv:Value}{A:Around}{outer:List Env}{s₀:Shared}{H₀:Hp}{E:XK}
theorem iT:lE (gB (fD P w) P w K mg base N qual scope f cdv A outer s₀ H₀ E) (λ _ e _ d H=>E (.ref e) d H) where
 new:=λ pins σ H s e C d I he hS=>by
  obtain⟨vs,q,q1⟩:=I.hok.exn he
  show wpAny _ _ (leaving _ _) _ _ _
  refine Sj (base:=base) (o:=bM C d #[]) (vs:=vs) I.ok.frames I.stack rfl q q1 λ h' T z1 z2 z3=>?_
  have hT:H T=none:=I.hok.fresh z1
  have hm:gY (H e):=by rw[he];trivial
  obtain⟨vs',_,_,q',_⟩:=id z2
  have neT:T≠e:=z2.elim λ _ ⟨_,_,_,_,n,_⟩=>n
  exact⟨e,C,d,T,aD H e (cA e C d),rfl,I.os,I.bare,I.base.fly z3 hm ⟨_,q'⟩ (λ b hb=>.inl (by simpa using hb)) (λ b hb=>(List.mem_cons.mp (I.stkSub b hb)).elim (λ z=>.inr (z▸I.ok.above)) .inl),
   I.hok.fly z3 (λ b hb=>.inl (by simpa using hb)) I.stkFree hm (cA.ok q'),Nat.le_trans I.sz z1,by rw[aU neT];exact hT,z2,aR,hS⟩
 fly:=λ pins σ H s e C d T I F hS=>by
  show wpAny _ _ (leaving _ _) _ _ _
  refine Si (base:=base) I.ok.frames I.stack rfl F.tr λ h' T' z1 z2 z3=>?_
  have hT:H T'=none:=I.hok.fresh z1
  have hm:gY (H e):=by rw[F.at_];trivial
  obtain⟨vs',_,_,q',_⟩:=id z2
  have u:=pJ F.at_
  exact⟨e,C,d,T',H,rfl,I.os,I.bare,u▸(I.base.fly (u:=cA e C d) z3 hm ⟨_,q'⟩ (λ b hb=>by
    rcases List.mem_cons.mp hb with rfl|hb
    ·exact .inr F.big
    ·exact .inl (by simpa using hb)) (λ b hb=>(List.mem_cons.mp (I.stkSub b hb)).elim (λ z=>.inr (z▸I.ok.above)) .inl)),
   u▸(I.hok.fly (u:=cA e C d) z3 (λ b hb=>by
    rcases List.mem_cons.mp hb with rfl|hb
    ·exact .inr F.free
    ·exact .inl (by simpa using hb)) I.stkFree hm (cA.ok q')),Nat.le_trans I.sz z1,hT,z2,F.at_,hS⟩
end
section
variable{X:Cx}{S:SK}
theorem lE.pass(hX:lE X S){pins:List (Addr×Obj)}{σ:St}{H:Hp}{s:Shared}{ev:Value}{s':Shared}(I:aB X pins σ H s)
  (h:fD X.prog X.w X.stack H s (λ v d H'=>∀e C,v= .ref e->H' e=some (cA e C d)->S σ e C d H') ev s'):X.xe ev s':=by
 obtain⟨e,C,d,T,H',rfl,os,g,un,hok,hT,hTn,tr,he,hE⟩:=h
 have I':aB X pins σ H' s':=I.call' (ch:=[]) os un hok g Qb
 refine hX.fly pins σ H' s' e C d T I' ⟨tr,he,Nat.le_trans I.sz hT,hTn,λ z=>?_,λ x c q z=>?_,λ p hp z=>?_⟩ (hE e C rfl he)
 ·exact absurd I.lt (Nat.not_lt.mpr (z▸hT))
 ·obtain⟨v,o,ho,_⟩:=I.cell x c q
  exact absurd (Heap.lt_size ho) (Nat.not_lt.mpr (z▸hT))
 ·exact absurd (Heap.lt_size (I.pin p hp).1) (Nat.not_lt.mpr (z▸hT))
variable{k j:Nat}{f:Addr}{fd:FuncData}{ps:List Str}{sp:Sp}{x:Str}{p pos:Pos}{e:Expr}{es:List Expr}{t:TA}
def Kh(sp:Sp)(S:SK)(t:TA):TE:=λ σ H Q=>t σ H λ vs H1=>sp vs H1 Q λ v d H'=>∀e C,v= .ref e->H' e=some (cA e C d)->S σ e C d H'
def dQ(P:Program)(w:World)(K:PySem.W.Frag)(mg:Str->Option Value)(base:Heap)(x:Str)(k:Nat)(ps:List Str)(sp:Sp):Prop:=
 ∃f fd,bE P w K mg base (fD P w) k f fd ps sp/\mg x=some (.ref f)/\PySem.W.keepIn K (.ref f)=true/\hU K fd ps []
theorem fY(hX:lE X S)(C:dQ X.prog X.w X.K X.mg X.base x k ps sp)(hr:bT j X.A)(ha:PA X (e::es) t)(hg:Gl X x:=by rfl)(hj:k<=j:=by decide)(hdb:(x==("__debug__" :Str))=false:=by decide)
  (he:starEach (e::es) X.env=(false,eval e X.env)::starEach es X.env:=by rfl) (hpl:(backTo pos (starEach es X.env)).any (·.1)=false:=by rfl):PE X (.Call (.Name x p) (e::es) [] pos) (Kh sp S t):=by
 obtain⟨f,fd,F,hm,hk,hb⟩:=C
 intro pins s σ H Q I h
 refine wpAny_Call_Name_kw (mF I hg hm ?_ hdb)
 refine PySem.W.callWith_K (h₀:=X.base) I.ok.mod.kin hk (aP (ha pos pins s σ H _ I h) λ us s1 ⟨vs,H1,I1,r,q⟩=>⟨I1.kIn,?_⟩) he hpl
 have hl:us.length=ps.length:=by rw[<-r.length];exact F.len _ _ _ _ q
 have hb':=hb s1 us I1.kIn (by simpa using hl)
 rw[List.append_nil]at hb'
 refine wpAny_call (codeAny_mono (F.run X.A X.stack s1 H1 ⟨us,[]⟩ us vs Q _ (hr.mono hj) I1.env0 hb' r q) λ r s' hq=>?_)
 cases r with
 |error ev=>exact hX.pass I1 hq
 |ok fl=>
  cases fl with
  |ret u=>exact I1.after hq
  |next=>exact False.elim hq
  |brk=>exact False.elim hq
  |cont=>exact False.elim hq
end
section
variable{P:Program}{w:World}{K:PySem.W.Frag}{mg:Str->Option Value}{base:Heap}
theorem bR.okX{x qual:Str}{st:Stmt}{f:Addr}{fd:FuncData}{N ps:List Str}{k:Nat}{sp:Sp}(F:bR K x qual st f fd)(S:bW N ps (aW st))(len:∀vs H Q E,sp vs H Q E->vs.length=ps.length)
  (hbody:∀(cdv:Value) (A:Around) (outer:List Env) (s:Shared) (H:Hp) (vs:List V) (Q:VK) (E:XK),bT k (A.deeper (envOfC qual (aW st) s.heap.objs.size f cdv))->sp vs H Q E->
   ∃t,dH (gB (fD P w) P w K mg base N qual (aW st) f cdv A outer s H E) (dG st) t/\t {nx:=λ _ H'=>Q .non H',rt:=Q} (start N vs) H):bE P w K mg base (fD P w) (k+1) f fd ps sp:=by
 obtain⟨oc,od,kV,doc,pm,an,cdv,ct,osl,rfl,lk,hcd⟩:=F.ex
 exact rA lk hcd S len λ A outer s H vs Q E hr hsp=>hbody cdv A outer s H vs Q E hr hsp
theorem bF.x{x:Str}{k:Nat}{ps:List Str}{sp:Sp}(C:bF P w K mg base x k ps sp):dQ P w K mg base x k ps sp:=by
 obtain⟨f,fd,F,r⟩:=C
 refine⟨f,fd,⟨F.len,λ A outer s H args us vs Q E hr he hb hv hs=>codeAny_mono (F.run A outer s H args us vs Q E hr he hb hv hs) λ r s' q=>?_⟩,r⟩
 cases r with
 |error e=>exact q.elim
 |ok fl=>cases fl<;>exact q
end
abbrev Cx.tr(X:Cx)(S:SK)(pins:List (Addr×Obj)):Cx:=
 {X with pn:=X.pn++pins,xe:=λ ev s'=>∃σ H e C d,ev= .ref e/\aB X pins σ H s'/\(H e=some (cH e C d)\/∃T,Fq X pins H s' e C d T)/\S σ e C d (aD H e (cA e C d))}
abbrev Cx.hand(X:Cx)(e:Addr):Cx:={X with A:=X.A.mark (some (.ref e)),calm:=false,xe:=λ _ _=>False}
section
variable{X:Cx}{S:SK}{pins pins':List (Addr×Obj)}{σ:St}{H:Hp}{s:Shared}{e:Addr}
theorem aB.tr(I:aB X pins σ H s):aB (X.tr S pins) [] σ H s:=
 ⟨⟨I.ok.mod,I.ok.kind,I.ok.glob,I.ok.blt,I.ok.above,I.ok.inj,I.ok.has,I.ok.cab,I.ok.hd,I.ok.frames,I.ok.stk,I.ok.exf,I.ok.bs,I.ok.bsz,I.ok.noex,I.ok.exfs,I.ok.funs,I.ok.frf⟩,I.os,I.bare,I.base,I.loc,I.cell,I.free,I.freeC,λ p hp=>I.pin p (by simpa using hp),I.hok,I.len⟩
theorem aB.untr(I:aB (X.tr S pins) pins' σ H s):aB X pins σ H s:=
 ⟨⟨I.ok.mod,I.ok.kind,I.ok.glob,I.ok.blt,I.ok.above,I.ok.inj,I.ok.has,I.ok.cab,I.ok.hd,I.ok.frames,I.ok.stk,I.ok.exf,I.ok.bs,I.ok.bsz,I.ok.noex,I.ok.exfs,I.ok.funs,I.ok.frf⟩,I.os,I.bare,I.base,I.loc,I.cell,I.free,I.freeC,λ p hp=>I.pin p (List.mem_append_left _ hp),I.hok,I.len⟩
theorem aB.hand(I:aB X pins σ H s):aB (X.hand e) pins σ H s:=
 ⟨⟨I.ok.mod,I.ok.kind,I.ok.glob,I.ok.blt,I.ok.above,I.ok.inj,I.ok.has,I.ok.cab,(λ z=>by cases z),I.ok.frames,I.ok.stk,I.ok.exf,I.ok.bs,I.ok.bsz,I.ok.noex,I.ok.exfs,I.ok.funs,I.ok.frf⟩,I.os,I.bare,I.base,I.loc,I.cell,I.free,I.freeC,I.pin,I.hok,I.len⟩
theorem aB.unhand(ok:X.Ok)(I:aB (X.hand e) pins σ H s):aB X pins σ H s:=
 ⟨ok,I.os,I.bare,I.base,I.loc,I.cell,I.free,I.freeC,I.pin,I.hok,I.len⟩
theorem SP.untr{D:gG}{f:Flow}(h:SP (X.tr S pins) [] D f s):SP X pins D f s:=by
 cases f with
 |next=>obtain⟨σ',H',I,q⟩:=h;exact⟨σ',H',I.untr,q⟩
 |brk=>obtain⟨σ',H',I,q⟩:=h;exact⟨σ',H',I.untr,q⟩
 |cont=>obtain⟨σ',H',I,q⟩:=h;exact⟨σ',H',I.untr,q⟩
 |ret u=>obtain⟨v,σ',H',I,r,q⟩:=h;exact⟨v,σ',H',I.untr,r,q⟩
theorem Gf:lE (X.tr S pins) S where
 new:=λ pins' σ H s e C d I he hS=>⟨σ,H,e,C,d,rfl,I.untr,.inl he,hS⟩
 fly:=λ pins' σ H s e C d T I F hS=>⟨σ,H,e,C,d,rfl,I.untr,.inr ⟨T,F.tr,F.at_,F.big,F.free,F.loc,F.cell,λ p hp=>F.pin p (List.mem_append_left _ hp)⟩,by rw[pJ F.at_];exact hS⟩
theorem aB.flew{ch:List Addr}{h':Heap}{C:Addr}{d:Option Addr}{vs:Array Value}(I:aB X pins σ H s)(f:Fk ch (cC X.stack) s.heap h')(hm:gY (H e))(q:h'.get? e=some (bM C d vs))
  (hc:∀b∈ch,b=e\/(H b=none/\X.s₀.heap.objs.size<=b/\b≠X.env.locals/\(∀x c,X.env.cells.lookup x=some c->c≠b)/\∀p∈X.pn++pins,p.1≠b)):
  aB X pins σ (aD H e (cA e C d)) {s with heap:=h'}:=by
 have nU:∀b,H b=none->b≠e:=λ b n z=>by rw[z]at n;rw[n]at hm;exact hm
 have nD:∀b,H b=none->b∉ch.filter (· !=e)->b∉ch:=λ b n hb z=>hb (List.mem_filter.mpr ⟨z,by simpa using nU b n⟩)
 refine I.step (g':=s.gens) (d':=s.drawn) (t':=s.toks) (ch:=ch.filter (· !=e)) (λ b hb=>?_) (λ b o hL hf hb q n=>f.keep b o (nD b n hb) (λ z=>(List.mem_cons.mp (I.stkSub b z)).elim hL hf) q)
  (λ b o _ _ hb q n=>f.slot b o (nD b n hb) q) (λ b o _ _ n=>by rw[aU (nU b n)];exact n) (λ b o hb z=>?_) (λ b xs z=>?_) (λ b o u z=>?_) (λ b ps z=>?_) (λ m hn=>?_) (I.hok.fly f (λ b hb=>(hc b hb).imp id (·.1)) I.stkFree hm (cA.ok q)) ⟨I.bare.1,Nat.le_refl _⟩
 ·obtain⟨h1,h2⟩:=List.mem_filter.mp hb
  rcases hc b h1 with z|⟨_,h3,h4,h5,h6⟩
  ·rw[z]at h2;simp at h2
  ·exact⟨.inr h3,h4,h5,h6⟩
 ·by_cases hbe:b=e
  ·exact⟨_,hbe▸q⟩
  ·obtain⟨sl,z1⟩:=f.slot b o (λ y=>hb (List.mem_filter.mpr ⟨y,by simpa using hbe⟩)) z
   exact⟨_,z1⟩
 ·rw[aU (λ y=>by rw[y]at z;rw[z]at hm;exact hm)];exact z
 ·rw[aU (λ y=>by rw[y]at z;rw[z]at hm;exact hm)];exact z
 ·exact⟨#[],by rw[aU (λ y=>by rw[y]at z;rw[z]at hm;exact hm)];simpa using z⟩
 ·obtain⟨o,es,ep,ho,r⟩:=hn
  have ny:X.env.locals∉ch:=λ y=>by
   rcases hc _ y with y|⟨_,_,y,_⟩
   ·exact nU _ I.free y
   ·exact y rfl
  obtain⟨sl,z⟩:=f.slot _ o ny ho
  exact⟨_,es,ep,z,r⟩
end
section
variable{X:Cx}{body suite:List Stmt}{b₀:Stmt}{x n:Str}{np pos hpos:Pos}{i:Nat}{D₀:Addr}{tb:SK->TS}{ts:Addr->TS}
def Ig(K:PySem.W.Frag)(i:Nat)(D₀:Addr)(tb:SK->TS)(ts:Addr->TS):TS:=λ D σ H=>tb (λ σ' e C _ H'=>PySem.W.mroIn K C (.ref D₀)=some true/\
 ts e {nx:=λ σ2 H2=>D.nx (σ2.set i none) H2,rt:=D.rt,bk:=λ σ2 H2=>D.bk (σ2.set i none) H2,ct:=λ σ2 H2=>D.ct (σ2.set i none) H2} (σ'.set i (some (.ref e))) H') D σ H
theorem pK{pins:List (Addr×Obj)}{σ:St}{H:Hp}{s:Shared}{M:Model}{A:Around}{E:Qe}{Q:Unit->Shared->Prop}(I:aB X pins σ H s)(hN:X.N.Nodup)(hi:X.N[i]? =some n)(hk:X.env.scope.names.lookup n=some .local)
  (h:∀s',aB X pins (σ.set i none) H s'->Q () s'):wpAny M A (do bindName X.env n .none;unbindBehindTheSuite X.env n pos) Q E s:=by
 obtain⟨m,hn,hl⟩:=id I.loc
 refine wpAny_nameGoes_keeps hk hn (by rw[I.ok.kind];rfl) λ h' v hn' sb=>h _ ?_
 obtain⟨oL,_,_,hoL,_⟩:=id hn
 have keep:∀b o,b≠X.env.locals->s.heap.get? b=some o->h'.get? b=some o:=λ b o hb q=>(sb.2 b hb).trans q
 have hσ:∀(j:Nat) (w:V),(σ.set i none)[j]? =some (some w)->j≠i/\σ[j]? =some (some w):=λ j w q=>by
  by_cases hj:j=i
  ·subst hj
   rw[List.getElem?_set]at q
   simp only[if_true]at q
   split at q<;>cases q
  ·rw[List.getElem?_set_ne (Ne.symm hj)]at q
   exact⟨hj,q⟩
 have I2:aB X pins (σ.set i none) H s:=I.weak Qb λ j w q=>(hσ j w q).2
 have hx:∀j y w,X.N[j]? =some y->(σ.set i none)[j]? =some (some w)->y≠n:=λ j y w h1 h2 z=>(hσ j w h2).1 (vO hN h1 (z▸hi))
 refine⟨I.ok,I.os,I.bare,⟨λ b o q nn hb hx=>keep b o ?_ (I.base.keep b o q nn hb hx),λ b o q nn hb hx=>?_,I.base.free,λ b o q hx=>?_,I.base.tups,I.base.frzs,I.base.tbls⟩,⟨_,hn',λ j y w h1 h2 h3=>?_⟩,λ y c q=>?_,I.free,I.freeC,λ p hp=>?_,λ b ob q=>?_,I2.len⟩
 ·exact Nat.ne_of_lt (Nat.lt_of_lt_of_le (Heap.lt_size q) I.ok.above)
 ·obtain⟨sl,q1⟩:=I.base.slot b o q nn hb hx
  exact⟨sl,keep b _ (Nat.ne_of_lt (Nat.lt_of_lt_of_le (Heap.lt_size q) I.ok.above)) q1⟩
 ·obtain⟨o',q1⟩:=I.base.there b o q hx
  exact⟨o',keep b _ (Nat.ne_of_lt (Nat.lt_of_lt_of_le (Heap.lt_size q) I.ok.above)) q1⟩
 ·obtain⟨u,r,l⟩:=hl j y w h1 (hσ j w h2).2 h3
  refine⟨u,r,?_⟩
  rcases l with⟨k,q⟩|⟨k,c,q,z⟩
  ·exact .inl ⟨k,by simp[hx j y w h1 h2,q]⟩
  ·exact .inr ⟨k,c,q,z.sameBut sb (I.cne y c q)⟩
 ·obtain⟨v,z⟩:=I.cell y c q
  exact⟨v,z.sameBut sb (I.cne y c q)⟩
 ·obtain⟨q,nn,ne,nf,dd⟩:=I.pin p hp
  exact⟨keep _ _ ne q,nn,ne,nf,dd⟩
 ·refine(I.hok b ob q).stay (λ c v hc z=>keep c v (λ y=>?_) z) (λ _ z=>z) λ _ _ z=>z
  subst y
  rcases hc with rfl|hc
  ·rw[I.free]at q;cases q
  ·rw[I.free]at hc;cases hc
def oN(K:PySem.W.Frag)(D:Addr):Bool:=(PySem.W.clsIn K D).isSome&&PySem.W.instIn K (.ref D) (.type "tuple")==some false&&PySem.W.mroIn K D (.type "BaseException")==some true
open PySem.W in
theorem Vx{M:Model}{A:Around}{E:Qe}{s:Shared}{K:PySem.W.Frag}{D e C:Addr}{oe:Obj}{Q:Bool->Shared->Prop}(X:K.In s.heap)(hD:oN K D=true)(he:s.heap.get? e=some oe)(hc:oe.cls= .ref C)
  (hs:PySem.W.mroIn K C (.ref D)=some true) (hq:Q true s):wpAny M A (excMatches (.ref e) (.ref D)) Q E s:=by
 unfold oN at hD
 rw[Bool.and_eq_true,Bool.and_eq_true,beq_iff_eq,beq_iff_eq]at hD
 obtain⟨⟨h1,h2⟩,h3⟩:=hD
 obtain⟨hh,g,dr,tk,os⟩:=s
 have L1:=looks_instIn (M:=M) X h2
 have L2:=looks_mroIn (M:=M) X h3
 have L3:=looks_mroIn (M:=M) X hs
 obtain⟨oD,hD1,cdD,hD2⟩:∃oD,hh.get? D=some oD/\∃cd,oD.data= .cls cd:=by
  unfold clsIn at h1
  split at h1
  ·rename_i ho
   exact⟨_,X _ _ ho,_,rfl⟩
  ·cases h1
 have T:Looks M hh (typeOf (.ref e)) (.ref C):=hc▸(Looks.ld he).andThen .now
 unfold excMatches isExcClass
 repeat (first|(with_reducible refine Looks.at L1 ?_)|(with_reducible refine Looks.at L2 ?_)|(with_reducible refine Looks.at L3 ?_)|(with_reducible refine Looks.at T ?_)|(with_reducible refine ks_wpAny_isType_cls hD1 hD2 ?_)|wp_step)
 all_goals exact hq
theorem Nj(hb:∀pins S,dH (X.tr S pins) body (tb S))(hh:∀e,dH (X.hand e) (b₀::suite) (ts e))(hN:X.N.Nodup)(hi:X.N[i]? =some n)(hm:X.mg x=some (.ref D₀))(hD:oN X.K D₀=true)(hk:X.env.scope.names.lookup n=some .local:=by rfl)
  (hg:Gl X x:=by rfl) (hs:X.stack=X.env::X.outer:=by rfl) (hf:X.env.frame=some X.env.locals:=by rfl) (hdb:(x==("__debug__" :Str))=false:=by decide):
  PS X (.Try body [.ExceptHandler (some (.Name x np)) (some n) (b₀::suite) hpos] [] [] pos) (Ig X.K i D₀ tb ts):=by
 intro pins s σ H D I h
 refine wpAny_Try_except (wpAny_mono (hb pins _ [] s σ H D I.tr h) (λ f s1 q=>?_) λ ev s1 q=>?_)
 ·cases f with
  |next=>exact wpAny_execs_nil q.untr
  |ret u=>exact q.untr
  |brk=>exact q.untr
  |cont=>exact q.untr
 obtain⟨σ1,H1,e,C,d,rfl,I1,hfl,hsub,hS⟩:=q
 have fr:X.A.frames=some (X.env::X.outer):=hs▸I1.ok.frames
 have new:∀{T:Addr},s1.heap.objs.size<=T->X.s₀.heap.objs.size<=T/\T≠X.env.locals/\(∀x c,X.env.cells.lookup x=some c->c≠T)/\∀p∈X.pn++pins,p.1≠T:=fun{T} hT=>
  ⟨Nat.le_trans I1.sz hT,λ z=>absurd I1.lt (Nat.not_lt.mpr (z▸hT)),λ y c q z=>by
   obtain⟨v,o,ho,_⟩:=I1.cell y c q
   exact absurd (Heap.lt_size ho) (Nat.not_lt.mpr (z▸hT)),λ p hp z=>absurd (Heap.lt_size (I1.pin p hp).1) (Nat.not_lt.mpr (z▸hT))⟩
 generalize hH2:aD H1 e (cA e C d)=H2 at hS
 have a2:H2 e=some (cA e C d):=by rw[<-hH2];exact aR
 have m2:gY (H2 e):=by rw[a2];trivial
 have noted:∀{Q:Unit->Shared->Prop} {E:Qe},(∀h' T,s1.heap.objs.size<=T->fA h' e (bM C d #[]) T (rawInt X.env.locals)->aB X pins σ1 H2 {s1 with heap:=h'}->Q () {s1 with heap:=h'})->
   wpAny (model X.prog X.w) X.A (noteFrame (.ref e) X.env) Q E s1:=by
  intro Q E k
  rcases hfl with he|⟨T,F⟩
  ·obtain⟨vs,q,q1⟩:=I1.hok.exn he
   refine Bo (base:=X.base) (o:=bM C d #[]) fr (hs▸I1.stack) hf q q1 λ h' T z1 z2 z3=>k h' T z1 z2 ?_
   obtain⟨vs',_,_,q',_⟩:=id z2
   exact hH2▸I1.flew (by rw[hs];exact z3) (by rw[he];trivial) q' λ b hb=>.inl (by simpa using hb)
  ·refine Bn (base:=X.base) fr (hs▸I1.stack) hf F.tr λ h' T' z1 z2 z3=>k h' T' z1 z2 ?_
   obtain⟨vs',_,_,q',_⟩:=id z2
   refine hH2▸I1.flew (by rw[hs];exact z3) (by rw[F.at_];trivial) q' λ b hb=>?_
   rcases List.mem_cons.mp hb with rfl|hb
   ·exact .inr ⟨F.free,F.big,F.loc,F.cell,F.pin⟩
   ·exact .inl (by simpa using hb)
 have land:∀{A:Around} {Q:Unit->Shared->Prop} {E:Qe} {s2:Shared} {T:Addr} {fl:Value},s1.heap.objs.size<=T->fA s2.heap e (bM C d #[]) T fl->aB X pins σ1 H2 s2->
   (∀h',fA h' e (bM C d #[]) T .none->aB X pins σ1 H2 {s2 with heap:=h'}->Q () {s2 with heap:=h'})->wpAny (model X.prog X.w) A (setFlight (.ref e) none) Q E s2:=by
  intro A Q E s2 T fl z1 z2 I2 k
  refine vV (fs:=cC X.stack) z2 λ h' y1 y2=>k h' y1 ?_
  obtain⟨vs',_,_,q',_⟩:=id y1
  have nT:T≠e:=y1.elim λ _ ⟨_,_,_,_,z,_⟩=>z
  have f2:H2 T=none:=by rw[<-hH2,aU nT];exact I1.hok.fresh z1
  have:=I2.flew (e:=e) (C:=C) (d:=d) (vs:=vs') y2 m2 q' λ b hb=>.inr (by rw[show b=T by simpa using hb];exact⟨f2,new z1⟩)
  rwa[pJ a2]at this
 refine noted λ h1 T z1 z2 I2=>land z1 z2 I2 λ h2 z3 I3=>?_
 refine wpAny_handleBy_cons (codeAny_handlers_test (mF (X:=X.hand e) I3.hand hg hm ?_ hdb)) (by intro q;cases q)
 obtain⟨vs3,q3⟩:=I3.hok.exc a2
 refine Vx I3.kIn hD q3 rfl hsub ?_
 refine codeAny_handlers_suite_as (land (A:=X.A.mark (some (.ref e))) z1 z3 I3 λ h4 z4 I4=>?_)
 refine sZ (X:=X.hand e) I4.hand hN hi (.inl hk) (show bA (.ref e) (.ref e)from rfl) (λ s5 I5=>?_) (.inr hk)
 refine wpAny_mono (hh e pins s5 _ H2 _ I5 hS) (λ f s6 q=>?_) λ _ _ z=>z.elim
 cases f with
 |next=>
  obtain⟨σ6,H6,I6,q6⟩:=q
  exact pK (I6.unhand I1.ok) hN hi hk λ s7 I7=>⟨_,_,I7,q6⟩
 |brk=>
  obtain⟨σ6,H6,I6,q6⟩:=q
  exact pK (I6.unhand I1.ok) hN hi hk λ s7 I7=>⟨_,_,I7,q6⟩
 |cont=>
  obtain⟨σ6,H6,I6,q6⟩:=q
  exact pK (I6.unhand I1.ok) hN hi hk λ s7 I7=>⟨_,_,I7,q6⟩
 |ret u=>
  obtain⟨v,σ6,H6,I6,r,q6⟩:=q
  exact pK (I6.unhand I1.ok) hN hi hk λ s7 I7=>⟨v,_,_,I7,r,q6⟩
end
def fU(K:PySem.W.Frag)(C:Addr):Bool:=PySem.W.mroIn K C (.type "BaseException")==some true&&PySem.W.typeIn K (.ref C)==some (.type "type")
def Ik(K:PySem.W.Frag)(S:SK)(te:TE):TS:=λ _ σ H=>te σ H λ v H1=>∃e C d,v= .ref e/\H1 e=some (cH e C d)/\fU K C=true/\S σ e C d (aD H1 e (cA e C d))
section
variable{X:Cx}{S:SK}{e:Expr}{te:TE}{pos:Pos}
open PySem.W in
theorem vD(hX:lE X S)(he:PE X e te)(hc:X.calm=true:=by rfl):PS X (.Raise (some e) none pos) (Ik X.K S te):=by
  intro pins s σ H D I h
  rw[arm_exec_Raise]
  show wpAny _ _ (do standAt pos;raiseStmt X.env (some (do let v←eval e X.env;standAt pos;pure v)) none) _ _ _
  refine wpAny_bind (wpAny_standAt ?_)
  unfold raiseStmt
  refine wpAny_bind (wpAny_bind (aP (he pins s σ H _ I h) λ u s1 ⟨v,H1,I1,r,a,C,d,ev,a1,hr,q⟩=>wpAny_bind (wpAny_standAt (wpAny_pure ?_))))
  subst ev
  obtain rfl:u=Value.ref a:=r
  obtain⟨vs,o1,f1⟩:=I1.hok.exn a1
  have hE:=hX.new pins σ H1 s1 a C d I1 a1 q
  have KX:=I1.kIn
  obtain⟨hh,g,dr,tk,os⟩:=s1
  unfold fU at hr
  rw[Bool.and_eq_true,beq_iff_eq,beq_iff_eq]at hr
  have L1:=looks_mroIn (M:=model X.prog X.w) KX hr.1
  have L2:=looks_typeIn (M:=model X.prog X.w) KX hr.2
  have T:Looks (model X.prog X.w) hh (typeOf (.ref a)) (.ref C):=(Looks.ld o1).andThen .now
  have nc:∀c,(bM C d vs).data≠ .cls c:=λ c z=>by cases z
  have hcalm:=I1.ok.hd hc
  refine wpAny_bind (wpAny_pure (wpAny_bind (wpAny_holding ?_)))
  unfold excFromValue isExcClass
  refine wpAny_bind (wpAny_bind (ks_wpAny_isType_inst o1 nc (wpAny_pure ?_)))
  show wpAny _ _ (isInstance (.ref a) _>>=_) _ _ _
  unfold isInstance
  refine wpAny_bind (wpAny_bind (T.at (L1.at ?_)))
  refine wpAny_pure ?_
  refine wpAny_bind (ks_wpAny_isType_inst o1 nc ?_)
  show wpAny _ _ (raisedInstance (.ref a)>>=_) _ _ _
  unfold raisedInstance
  refine wpAny_bind (wpAny_bind (T.at (wpAny_bind (L2.at ?_))))
  refine wpAny_pure ?_
  unfold setFlight
  refine wpAny_bind (wpAny_bind (wpAny_field o1 rfl f1 ?_))
  rw[if_neg Qc]
  refine wpAny_pure ?_
  exact wpAny_raiseNew_none hcalm hE
end
abbrev cT:List Value:=[.type "ValueError",.type "Exception",.type "BaseException",.type "object"]
def oM(K:PySem.W.Frag)(C:Addr):Bool:=match K.lookup C with
 |some ⟨.type "type",_,.cls cd,sl⟩=>(match cd.mro,sl.toList with
  |.ref C'::bm,[_,_,_,_,some (.builtin n),_]=>C'==C&&n== "ValueError.__new__" && !cd.hasDel&&PySem.W.tailIn K cT bm
  |_,_=>false)
 |_=>false
theorem Vy{K:PySem.W.Frag}{h:Heap}{C:Addr}(X:K.In h)(q:oM K C=true):∃nm qn N bs bm hdct sn sub ab col dd k0 k1 k2 k3 k5,
  h.get? C=some (excClassObj nm qn C N bs bm hdct sn sub ab col dd k0 k1 k2 k3 k5 "ValueError.__new__")/\OwnTail h cT bm:=by
 unfold oM at q
 split at q
 ·rename_i dd cd sl ho
  split at q
  ·rename_i C' bm k0 k1 k2 k3 n k5 hm hs
   simp only[Bool.and_eq_true,beq_iff_eq,Bool.not_eq_true']at q
   obtain⟨⟨⟨rfl,rfl⟩,hdel⟩,ht⟩:=q
   obtain⟨nm,bs,mro,ns,qn,hd,sn,sub,ab,col,del⟩:=cd
   dsimp only at hm hdel
   subst hm hdel
   have hsl:sl= #[k0,k1,k2,k3,some (.builtin "ValueError.__new__"),k5]:=by
    obtain⟨l⟩:=sl
    simp only at hs
    rw[hs]
   subst hsl
   exact⟨nm,qn,ns,bs,bm,hd,sn,sub,ab,col,dd,k0,k1,k2,k3,k5,X _ _ ho,PySem.W.tail_of_in X ht⟩
  ·cases q
 ·cases q
structure Fo(K:PySem.W.Frag)(C f:Addr):Prop where
 shape:oM K C=true
 init:PySem.W.findIn K (.ref C) "__init__" =some (some (.ref f))
 fn:PySem.W.isFn K (.ref f)=true
 kp:PySem.W.keepIn K (.ref C)=true
section
variable{prog:Program}{w:World}{A:Around}{E:Qe}{K:PySem.W.Frag}{C f:Addr}{s:Shared}{rest:List Value}{Q:Qe}
open PySem.W in
theorem Se(X:K.In s.heap)(m:Fo K C f)(hl:rest.length<=sizeLine)
  (hq:∀h',(∀b o,s.heap.get? b=some o->h'.get? b=some o)->h'.get? (s.heap.objs.size+1)=some (bM C none #[.ref s.heap.objs.size,.none,.none,.none,.bool false,.none])->
   wpAny (model prog w) (A.under (.builtin "type.__call__" ⟨.ref C::rest,[]⟩)) (call (.ref f) (.ref (s.heap.objs.size+1)::rest)) (λ r s'=>r= .none/\Q (.ref (s.heap.objs.size+1)) s') E {s with heap:=h'}):
  wpAny (model prog w) A (call (.ref C) rest) Q E s:=by
 obtain⟨nm,qn,N,bs,bm,hdct,sn,sub,ab,col,dd,k0,k1,k2,k3,k5,hC,T⟩:=Vy X m.shape
 have F:=PySem.F.excBase_ValueError
 obtain⟨h,g,d,t,os⟩:=s
 have f1:=tc_lookup
 have f2:=tc_bind (.ref C)
 have hT:(⟨h,g,d,t,os⟩:Shared).TypeIs (.ref C) "type" :=⟨_,hC,rfl⟩
 refine wpAny_call (codeAny_of_tree ?_)
 show wpAny _ _ (callAny (.ref C) _) _ _ _
 repeat (any_goals (first|assumption|(with_reducible refine wpAny_loadPart_at hC ?_)|wp_step))
 refine⟨rfl,codeAny_call_builtin_at (Code.quiet_builtin _ Qd) entry_typeCall (wpAny_check_type_call_sub hC ?_)⟩
 repeat (first|(with_reducible refine wpAny_loadPart_at hC ?_)|(with_reducible refine wpAny_madeBy_exc hC ?_)|wp_step)
 refine codeAny_call_builtin_code (Code.quiet_builtin _ F.quiet) (wpAny_check_new_subT F T hC ?_)
 refine codeAny_exc_new_subT F T hC ?_ hl
 show wpAny _ _ _ _ _ _
 have kp:∀b o,h.get? b=some o->((h.push {cls:=.type "tuple",data:=.seq rest.toArray}).push {cls:=.ref C,data:=.fields #[.ref h.objs.size,.none,.none,.none,.bool false,.none]}).get? b=some o:=λ b o e=>Heap.get?_push_of_some _ (Heap.get?_push_of_some _ e)
 have get:((h.push {cls:=.type "tuple",data:=.seq rest.toArray}).push {cls:=.ref C,data:=.fields #[.ref h.objs.size,.none,.none,.none,.bool false,.none]}).get? (h.objs.size+1)=some (bM C none #[.ref h.objs.size,.none,.none,.none,.bool false,.none]):=Heap.get?_push_at (by rw[Heap.size_push]) rfl
 have X1:K.In ((h.push {cls:=.type "tuple",data:=.seq rest.toArray}).push {cls:=.ref C,data:=.fields #[.ref h.objs.size,.none,.none,.none,.bool false,.none]}):=X.keeps kp
 have hC1:=kp _ _ hC
 have hcC:(Value.ref C::bm).contains (.ref C)=true:=by simp
 have T1:Looks (model prog w) ((h.push {cls:=.type "tuple",data:=.seq rest.toArray}).push {cls:=.ref C,data:=.fields #[.ref h.objs.size,.none,.none,.none,.bool false,.none]}) (typeOf (.ref (h.objs.size+1))) (.ref C):=(Looks.ld get).andThen .now
 have L1:=looks_findIn (M:=model prog w) X1 m.init
 have L2:=bind_fn (M:=model prog w) X1 (.ref (h.objs.size+1)) (beq_iff_eq.mp m.fn)
 have hq1:=hq _ kp get
 unfold isInstance
 repeat (first|(with_reducible refine Looks.at T1 ?_)|(with_reducible refine wpAny_loadPart_at get ?_)|(with_reducible refine wpAny_isSubtype_exc hC1 ?_;rw[hcC])|wp_step)
 show wpAny _ _ (isSubtype (.ref C) (.ref C)) _ _ _
 refine wpAny_isSubtype_exc hC1 ?_
 rw[hcC]
 repeat (first|(with_reducible refine Looks.at T1 ?_)|wp_step)
 show wpAny _ _ (typeLookup (.ref C) _) _ _ _
 refine Looks.at L1 ?_
 refine wpAny_holding (wpAny_bind ?_)
 refine Looks.at L2 ?_
 refine wpAny_bind (wpAny_mono hq1 (λ r s' hr=>?_) λ _ _ z=>z)
 obtain⟨rfl,hQ⟩:=hr
 wp_walk
 exact hQ
end
def Iv(C:Addr)(sp:Sp)(t:TA):TE:=λ σ H Q=>t σ H λ vs H1=>vs.length<=1000/\∀e,H1 e=none->sp (.ref e::vs) (aD H1 e (cH e C none)) (λ v H2=>v= .non/\Q (.ref e) H2) E0
def oY(P:Program)(w:World)(K:PySem.W.Frag)(mg:Str->Option Value)(base:Heap)(x:Str)(C:Addr)(k:Nat)(ps:List Str)(sp:Sp):Prop:=
 ∃f fd,Fo K C f/\bE P w K mg base bP k f fd ps sp/\mg x=some (.ref C)/\hU K fd ps []
section
variable{X:Cx}{k j:Nat}{C:Addr}{ps:List Str}{sp:Sp}{x:Str}{p pos:Pos}{e:Expr}{es:List Expr}{t:TA}
theorem vH(M:oY X.prog X.w X.K X.mg X.base x C k ps sp)(hr:bT j X.A)(ha:PA X (e::es) t)(hg:Gl X x:=by rfl)(hj:k+1<=j:=by decide)(hdb:(x==("__debug__" :Str))=false:=by decide)
  (he:starEach (e::es) X.env=(false,eval e X.env)::starEach es X.env:=by rfl) (hpl:(backTo pos (starEach es X.env)).any (·.1)=false:=by rfl):PE X (.Call (.Name x p) (e::es) [] pos) (Iv C sp t):=by
 obtain⟨f,fd,M,F,hm,hb⟩:=M
 intro pins s σ H Q I h
 refine wpAny_Call_Name_kw (mF I hg hm ?_ hdb)
 refine PySem.W.callWith_K (h₀:=X.base) I.ok.mod.kin M.kp (aP (ha pos pins s σ H _ I h) λ us s1 ⟨vs,H1,I1,r,hl,q⟩=>⟨I1.kIn,?_⟩) he hpl
 show wpAny _ _ (call (.ref C) us) _ _ _
 refine Se I1.kIn M (by rw[<-r.length];exact Nat.le_of_lt (cM hl)) λ h' kp get=>?_
 have q:=q (s1.heap.objs.size+1) (I1.hok.fresh (Nat.le_succ _))
 have I2:aB X pins σ (aD H1 (s1.heap.objs.size+1) (cH (s1.heap.objs.size+1) C none)) {s1 with heap:=h'}:=I1.laid (t':=s1.toks) kp (Nat.le_succ _) (cH.ok get rfl)
 have r2:aO (V.ref (s1.heap.objs.size+1)::vs) (Value.ref (s1.heap.objs.size+1)::us):=.cons rfl r
 have hl2:(Value.ref (s1.heap.objs.size+1)::us).length=ps.length:=by rw[<-r2.length];exact F.len _ _ _ _ q
 have hb':=hb {s1 with heap:=h'} (Value.ref (s1.heap.objs.size+1)::us) I2.kIn (by rw[List.append_nil];exact hl2)
 rw[List.append_nil]at hb'
 refine wpAny_call (codeAny_mono (F.run _ X.stack _ _ ⟨_,[]⟩ _ _ _ E0 ((hr.mono hj).make C us []) (I2.env0.make C us []) hb' r2 q) λ r s' hq'=>?_)
 cases r with
 |error ev=>exact hq'.elim
 | ok fl=>
  cases fl with
  |ret u=>
   obtain⟨v,H',I3,rv,ev,q3⟩:=I2.after hq'
   subst ev
   exact⟨rv,⟨V.ref (s1.heap.objs.size+1),H',I3,rfl,q3⟩⟩
  |next=>exact False.elim hq'
  |brk=>exact False.elim hq'
  |cont=>exact False.elim hq'
end
end L2
namespace L2
open PySem PySem.Spec PyProof.Rows PySem.W
abbrev veInit:String:= "ValueError.__init__"
theorem xw_slot:Slot "wrapper_descriptor" "__get__" "wrapper_descriptor.__get__" := .of (owner:= "wrapper_descriptor") (n:= "__get__") (by rw[typeLookup_type,builtinLookup_eq_fast];kernel_rfl) Qd Qd Qd (by first|exact .inl Qd|exact .inr Qd) (by rw[isSubtype_type];kernel_rfl)
theorem Ga:entryFor table "wrapper_descriptor.__get__" =some Builtin.«wrapper_descriptor.__get__»:=entryFor_of_tree (by kernel_rfl)
theorem Gc(a b c:Value):argsOk "wrapper_descriptor.__get__" ⟨[a,b,c],[]⟩:=by unfold argsOk;kernel_rfl
theorem Fy:typeOf (.builtin veInit)=pure (.type "wrapper_descriptor"):=by kernel_rfl
theorem Gb{M:Model}{A:Around}{E:Qe}{hh:Heap}{g:Array GenState}{d:Drawn}{t:Nat}{os:OsState}{Q:Unit->Shared->Prop}{e C:Addr}{oe:Obj}{K:Frag}(b:Value)(X:K.In hh)(he:hh.get? e=some oe)(hc:oe.cls= .ref C)
  (hk:(clsIn K C).isSome=true) (hq:Q () ⟨hh,g,d,t,os⟩):wpAny M A (checkBoundCall veInit ⟨[.ref e,b],[]⟩) Q E ⟨hh,g,d,t,os⟩:=by
 have F:=PySem.F.excBase_ValueError
 obtain⟨cd,hcd⟩:=Option.isSome_iff_exists.mp hk
 have L:=looks_clsIn (M:=M) X hcd
 simp only[checkBoundCall,F.initRow,F.initKind]
 repeat (first|(with_reducible refine wpAny_loadPart_at he ?_;rw[hc])|(with_reducible refine Looks.at L ?_)|(with_reducible refine wpAny_onRaise ?_)|wp_step)
 exact hq
abbrev fG(x:Addr):Obj:={cls:=.type "method-wrapper",data:=.fields #[.builtin veInit,.ref x]}
section
variable{prog:Program}{w:World}{A:Around}{E:Qe}{h:Heap}{g:Array GenState}{d:Drawn}{t:Nat}{os:OsState}{so D x C:Addr}{ox:Obj}{l₀ l:List Value}{K:Frag}
theorem Fz{Q:Fin->Shared->Prop}(X:K.In h)(hx:h.get? x=some ox)(hxc:ox.cls= .ref C)(hve:mroIn K C (.type "ValueError")=some true)
  (hq:Q (.done (.ret (.ref h.objs.size))) ⟨h.push (fG x),g,d,t,os⟩):
  wpAny (model prog w) A (Builtin.«wrapper_descriptor.__get__» ⟨[.builtin veInit,.ref x,.ref C],[]⟩) Q E ⟨h,g,d,t,os⟩:=by
 have T:Looks (model prog w) h (typeOf (.ref x)) (.ref C):=hxc▸(Looks.ld hx).andThen .now
 have L1:=looks_mroIn (M:=model prog w) X hve
 unfold Builtin.«wrapper_descriptor.__get__»
 repeat (first|(with_reducible refine Looks.at T ?_)|(with_reducible refine Looks.at L1 ?_)|wp_step|dsimp only)
 rw[show(".".intercalate (veInit.cutAt '.').dropLast)= "ValueError" from Qd]
 refine Looks.at L1 ?_
 repeat (first|(with_reducible refine wpAny_newObj_type ?_ (by size_fits))|wp_step|dsimp only)
 exact hq
theorem Ge{tk:Tok}{Q:Fin→Shared→Prop}(hso:h.get? so=some (ks_superObj D x C))(hno:Looks (model prog w) h (opaqueClassAbove (.ref C)) none)
    (hC:Looks (model prog w) h (mroOf (.ref C)) l₀) (hl:(l₀.dropWhile (· != .ref D)).drop 1=l) (X:K.In h) (hf:alongIn K "__init__" l=some (some (.builtin veInit))) (hx:h.get? x=some ox) (hxc:ox.cls= .ref C) (hve:mroIn K C (.type "ValueError")=some true) (hxC:x≠C)
    (hq:Q (.done (.ret (.ref h.objs.size))) ⟨h.push (fG x),g,d,t,os⟩):
    wpAny (model prog w) A (Builtin.«super.__getattribute__» ⟨[.ref so,.str "__init__" tk],[]⟩) Q E ⟨h,g,d,t,os⟩:=by
  have hlk:=xw_slot.lookup
  have hne:(Value.ref x==Value.ref C)=false:=by simp[hxC]
  have hT:(⟨h,g,d,t,os⟩:Shared).TypeIs (.builtin veInit) "wrapper_descriptor" :=Fy
  have dt:(ks_superObj D x C).data= .fields #[.ref D,.ref x,.ref C]:=rfl
  have f0:(#[.ref D,.ref x,.ref C]:Array Value)[0]? =some (.ref D):=rfl
  have f1:(#[.ref D,.ref x,.ref C]:Array Value)[1]? =some (.ref x):=rfl
  have f2:(#[.ref D,.ref x,.ref C]:Array Value)[2]? =some (.ref C):=rfl
  unfold Builtin.«super.__getattribute__»
  repeat (first
    |(with_reducible refine wpAny_field hso dt f0 ?_)|(with_reducible refine wpAny_field hso dt f1 ?_)|(with_reducible refine wpAny_field hso dt f2 ?_)
    |(with_reducible refine ks_wpAny_notOpaque hno ?_)|(with_reducible refine Looks.at hC ?_;rw[hl])
    |(refine ks_forIn_along X (λ _ _=>rfl) rfl ?_ hf)
    |(with_reducible refine wpAny_typeOf hT ?_)
    |(with_reducible refine wpAny_call_entry xw_slot hT Ga (Fz X hx hxc hve ?_) (Gc _ _ _))
    |(with_reducible refine⟨_,rfl,?_⟩)
    |(simp only[hne,Bool.false_eq_true,if_false])
    |wp_step|dsimp only)
  all_goals exact hq
theorem Gd{pl:Sem Bool}{Q:Value×List Value→Shared→Prop}(hso:h.get? so=some (ks_superObj D x C))(hno:Looks (model prog w) h (opaqueClassAbove (.ref C)) none)
    (hC:Looks (model prog w) h (mroOf (.ref C)) l₀) (hl:(l₀.dropWhile (· != .ref D)).drop 1=l) (X:K.In h) (hf:alongIn K "__init__" l=some (some (.builtin veInit))) (hx:h.get? x=some ox) (hxc:ox.cls= .ref C) (hve:mroIn K C (.type "ValueError")=some true) (hxC:x≠C)
    (hq:Q (.ref h.objs.size,[]) ⟨h.push (fG x),g,d,t+1,os⟩):wpAny (model prog w) A (getMethod (.ref so) "__init__" pl) Q E ⟨h,g,d,t,os⟩:=by
  have hT:∀t',(⟨h,g,d,t',os⟩:Shared).TypeIs (.ref so) "super" :=λ _=>⟨_,hso,rfl⟩
  unfold getMethod
  refine wpAny_bind (wpAny_specialOf (hT _) PySem.F.ks_slot_super_ga.lookup ?_)
  show wpAny _ _ (if(Manifest.canonical "super.__getattribute__" != "object.__getattribute__")=true then _ else _) _ _ _
  rw[if_pos PySem.F.ks_canon_super_ga]
  unfold getAttr getAttrBy
  refine wpAny_bind (wpAny_bind (wpAny_mkText (wpAny_holding (wpAny_bind (wpAny_typeOf (hT _) (wpAny_bind (wpAny_of_eq PySem.F.ks_slot_super_ga.lookup ?_)))))))
  show wpAny _ _ (getAttrByItsOwn (.ref so) (.str "__init__" t) (.type "super") (.builtin "super.__getattribute__") true false) _ _ _
  unfold getAttrByItsOwn hookBefore;unfold callGetattribute boundAndCalled
  refine wpAny_bind (wpAny_of_eq (show(if onTheHeap (.type "super")then typeLookup (.type "super") "__getattr__" else pure none)=pure none from rfl) (wpAny_bind (wpAny_attempt (wpAny_holding ?_))))
  show wpAny _ _ (bindSpecial (.builtin "super.__getattribute__") (.ref so)>>=_) _ _ _
  refine wpAny_bind (wpAny_of_eq (PySem.F.ks_slot_super_ga.bind _) ?_)
  refine wpAny_mono (Q:=λ v s'=>v= .ref h.objs.size∧s'=⟨h.push (fG x),g,d,t+1,os⟩) (E:=λ _ _=>False)
    (wpAny_call_entry PySem.F.ks_slot_super_ga (hT _) PySem.F.ks_entry_super_ga (Ge hso hno hC hl X hf hx hxc hve hxC ⟨_,rfl,rfl,rfl⟩) (PySem.F.ks_gaArgs_super _ _)) (λ v s' hv=>?_) λ _ _ z=>z.elim
  obtain⟨rfl,rfl⟩:=hv
  exact wpAny_pure (wpAny_pure hq)
theorem Ru{s:Shared}{mw e:Addr}{x0:Value}{dx:Option Addr}{vs:Array Value}{u:Value}{Q:Qe}(X:K.In s.heap)(hk:(clsIn K C).isSome=true)(hm:s.heap.get? mw=some (fG e))(he:s.heap.get? e=some (bM C dx vs))(h0:(vs[0]?:Option Value)=some x0)
  (hq:∀h',(∀b o,b≠e->s.heap.get? b=some o->h'.get? b=some o)->h'.get? e=some (bM C dx (vs.setIfInBounds 0 (.ref s.heap.objs.size)))->Q .none {s with heap:=h'}):wpAny (model prog w) A (call (.ref mw) [u]) Q E s:=by
 have F:=PySem.F.excBase_ValueError
 obtain⟨hh,g,d,tk,os⟩:=s
 refine wpAny_call (codeAny_of_tree ?_)
 show wpAny _ A.in1 (callAny (.ref mw) ⟨[u],[]⟩) _ _ _
 simp only[callAny]
 refine wpAny_bind (wpAny_load hm ?_)
 show wpAny _ _ (checkBoundCall veInit ⟨[.ref e,u],[]⟩>>=λ _=>_) _ _ _
 refine wpAny_bind (Gb u X he rfl hk ?_)
 refine wpAny_bind (wpAny_pure (wpAny_pure ⟨Code.quiet_builtin _ Qd,codeAny_builtin F.initEntry ?_⟩))
 unfold Builtin.«BaseException.__init__»
 dsimp only
 rw[if_neg Qb]
 unfold newTuple Builtin.BaseException.bexcPut
 have he1:=Heap.get?_push_of_some (h:=hh) {cls:=.type "tuple",data:=.seq #[u]} he
 refine wpAny_bind (wpAny_newObj_type (wpAny_bind (wpAny_bind (wpAny_field he1 rfl h0 (wpAny_bind ?_)))) (by show 1<=sizeLine;decide))
 refine pW (o:=bM C dx #[]) he1 (Array.getElem?_eq_some_iff.mp h0).1 λ h' e' sb=>?_
 have fin:=hq h' (λ b o hb q=>(sb.2 b hb).trans (Heap.get?_push_of_some _ q)) e'
 cases x0<;>first|exact wpAny_letGo (wpAny_pure fin)|exact wpAny_pure (wpAny_pure fin)
end
theorem By{α β:Type}[BEq α][LawfulBEq α]:∀{l:List (α×β)} {k:α} {v:β},(l.map (·.1)).Nodup->(k,v)∈l->l.lookup k=some v
 |[],_,_,_,h=>nomatch h
 | (a,b)::l,k,v,nd,h=>by
  rw[List.map_cons,List.nodup_cons]at nd
  rw[List.lookup_cons]
  rcases List.mem_cons.mp h with h|h
  ·cases h;simp
  ·have:(k==a)=false:=beq_eq_false_iff_ne.mpr λ z=>nd.1 (z▸List.mem_map_of_mem (f:=(·.1)) h)
   rw[this]
   exact By nd.2 h
structure BI(ps:List Str)(sc:Scope):Prop where
 kind:sc.kind= .function
 co:sc.isCoroutine=false
 gen:sc.isGenerator=false
 nd:ps.Nodup
 loc:∀x∈ps,sc.names.lookup x=some .local
 cell:∀x∈sc.names,x.2≠ .cell
 free:∀x∈sc.names,x.2= .free->x.1= "__class__"
def iK(P:Program)(w:World)(K:PySem.W.Frag)(mg:Str->Option Value)(base:Heap)(N:List Str)(qual:Str)(scope:Scope)(f:Addr)(cd:Value)(cc:Addr)(A:Around)(outer:List Env)(s:Shared)(H:Hp):Cx where
 prog:=P
 w:=w
 K:=K
 mg:=mg
 base:=base
 A:=A.deeper (ksEnv qual scope s.heap.objs.size f cd cc)
 N:=N
 s₀:=s
 H₀:=H
 env:=ksEnv qual scope s.heap.objs.size f cd cc
 outer:=outer
 stack:=ksEnv qual scope s.heap.objs.size f cd cc::outer
 ex:=[]
 calm:=true
 fn:=λ x=>x != "__class__"
 pn:=[]
 xe:=λ _ _=>False
section
variable{P:Program}{w:World}{K:PySem.W.Frag}{mg:Str->Option Value}{base:Heap}{k:Nat}{f cc C cda:Addr}{name qual:Str}{params:Arguments}{body:List Stmt}{scope:Scope}{kV doc pm ct oc cl:Value}{an od cld:Option Addr}
 {osl csl:Array (Option Value)} {ps:List Str} {sp:Sp}
theorem wC(lk:K.lookup f=some ⟨oc,od,.func (ksFn name qual params body scope .none kV doc pm an (.ref cda) ct cc),osl⟩)(hcd:PySem.W.codeIn K (.ref cda) qual=true)(lc:K.lookup cc=some ⟨cl,cld,.cell (some (.ref C)),csl⟩)
  (S:BI ps scope) (len:∀vs H Q E,sp vs H Q E->vs.length=ps.length)
  (hbody:∀(A:Around) (outer:List Env) (s s1:Shared) (H:Hp) (vs:List V) (Q:VK) (E:XK),bT k (A.deeper (ksEnv qual scope s.heap.objs.size f (.ref cda) cc))->sp vs H Q E->
   aB (iK P w K mg base ps qual scope f (.ref cda) cc A outer s H) [] (vs.map some) H s1->
   PySem.wpAt (model P w) (A.deeper (ksEnv qual scope s.heap.objs.size f (.ref cda) cc)) (.func body (ksEnv qual scope s.heap.objs.size f (.ref cda) cc)) (execs body (ksEnv qual scope s.heap.objs.size f (.ref cda) cc))
    (SP (iK P w K mg base ps qual scope f (.ref cda) cc A outer s H) [] {nx:=λ _ H'=>Q .non H',rt:=Q}) (λ _ _=>False) s1):
  bE P w K mg base bP (k+1) f (ksFn name qual params body scope .none kV doc pm an (.ref cda) ct cc) ps sp:=by
 refine⟨len,λ A outer s H args us vs Q E hr e0 hb r hsp=>?_⟩
 have hl:=len _ _ _ _ hsp
 have hlu:us.length=ps.length:=r.length▸hl
 have kb:∀b o,base.get? b=some o->s.heap.get? b=some o:=λ b o e=>(e0.bs b o e).1
 have KX:K.In s.heap:=e0.mod.kin.keeps kb
 have lim:s.heap.NoLimit:=e0.mod.nolimit.keeps kb
 refine ks_codeAny_call_defAt (fd:=ksFn name qual params body scope .none kV doc pm an (.ref cda) ct cc) (body:=body) (binds:=ps.zip us) hr.depth (KX _ _ lk) rfl lim (PySem.W.codeRec_of KX hcd) rfl hb S.cell (λ y hy=>S.loc _ (List.of_mem_zip hy).1) (λ h₀ hns hk=>?_) S.co S.gen S.kind
 have ndz:((ps.zip us).reverse.map (·.1)).Nodup:=by
  rw[List.map_reverse,List.map_fst_zip (by rw[hlu];exact Nat.le_refl _)]
  exact List.pairwise_reverse.mpr (S.nd.imp λ z y=>z y.symm)
 have I:aB (iK P w K mg base ps qual scope f (.ref cda) cc A outer s H) [] (vs.map some) H {s with heap:=h₀,toks:=s.toks+(ps.zip us).length}:=by
  have cellL:∀y c,(ksEnv qual scope s.heap.objs.size f (.ref cda) cc).cells.lookup y=some c->y= "__class__"/\c=cc:=λ y c q=>by
   have q':List.lookup y [(("__class__" :Str),cc)]=some c:=q
   rw[List.lookup_cons]at q'
   split at q'
   ·rename_i z
    exact⟨by simpa using z,(Option.some.inj q').symm⟩
   ·cases q'
  have noA:∀b:Addr,b∉(iK P w K mg base ps qual scope f (.ref cda) cc A outer s H).ex:=λ b z=>absurd (show b∈([]:List Addr)from z) Qb
  have cb:=e0.mod.kin cc _ lc
  refine⟨⟨e0.mod,S.kind,rfl,rfl,Nat.le_refl _,λ y z c h1 h2=>(cellL y c h1).1.trans (cellL z c h2).1.symm,λ y hy=>?_,λ y c h1 h2=>?_,λ _=>hr.hd,Around.frames_deeper e0.frames,.inr ⟨rfl,rfl⟩,λ b z=>absurd z (noA b),e0.bs,e0.bsz,λ b _ _=>noA b,λ b z=>absurd z (noA b),e0.funs,e0.frf⟩,
   rfl,⟨e0.bare,Nat.le_refl _⟩,Un.kept hk,⟨_,hns,λ i y v h1 h2 h3=>?_⟩,λ y c h=>?_,e0.hok.fresh (Nat.le_refl _),λ y c h=>?_,λ p hp=>absurd (show p∈([]:List (Addr×Obj))from hp) Qb,e0.hok.kept hk,(List.length_map _).trans hl⟩
  ·have hy:scope.names.lookup y=some .cell\/scope.names.lookup y=some .free:=hy
   rcases hy with hy|hy
   ·exact absurd rfl (S.cell _ (PySem.mem_of_lookup hy))
   ·have e:=S.free _ (PySem.mem_of_lookup hy) rfl
    exact⟨cc,by show List.lookup y [(("__class__" :Str),cc)]=some cc;rw[show y= "__class__" from e];rfl⟩
  ·have h1':(y != "__class__")=true:=h1
   rw[(cellL y c h2).1]at h1'
   simp at h1'
  ·have h2':(vs.map some)[i]? =some (some v):=h2
   rw[List.getElem?_map]at h2'
   obtain⟨v',hv,e⟩:=Option.map_eq_some_iff.mp h2'
   cases e
   obtain⟨u,hu,rv⟩:=r.get hv
   have h1':ps[i]? =some y:=h1
   refine⟨u,rv,.inl ⟨S.loc y (List.mem_of_getElem? h1'),?_⟩⟩
   exact By ndz (List.mem_reverse.mpr (List.mem_iff_getElem?.mpr ⟨i,by rw[List.getElem?_zip_eq_some];exact⟨h1',hu⟩⟩))
  ·rw[(cellL y c h).2]
   exact⟨_,_,hk _ _ (kb _ _ cb),rfl⟩
  ·rw[(cellL y c h).2]
   exact(e0.bs _ _ cb).2
 refine ks_wpAt_mono (hbody A outer s _ H vs Q E (hr.deeper _) hsp I) (λ fl s' hs=>?_) (λ _ _ (z:False)=>z.elim)
 have fin:∀{σ':St} {H':Hp} {v:V} {u:Value},aB (iK P w K mg base ps qual scope f (.ref cda) cc A outer s H) [] σ' H' s'->bA v u->Q v H'->CE outer P w H s Q u s':=
  fun{σ' H' v u} J rv q=>⟨v,H',J.os,J.bare,J.base,J.hok,rv,q⟩
 cases fl with
 |ret u=>
  obtain⟨v,σ',H',J,rv,q⟩:=hs
  exact fin J rv q
 |next=>
  obtain⟨σ',H',J,q⟩:=hs
  exact fin (v:=V.non) (u:=Value.none) J rfl q
 |brk=>
  obtain⟨_,_,_,q⟩:=hs
  exact False.elim q
 |cont=>
  obtain⟨_,_,_,q⟩:=hs
  exact False.elim q
end
def oO(K:Frag)(C:Addr):Bool:=(clsIn K C).isSome&&mroIn K C (.ref C)==some true&&mroIn K C (.type "ValueError")==some true&&ks_superIn K C C "__init__" ==some (some (.builtin veInit))&&nsIn K cStatics "thirdparty.any" ==some none
section
variable{P:Program}{w:World}{K:PySem.W.Frag}{mg:Str->Option Value}{base:Heap}{f cc C cda e:Addr}{qual:Str}{scope:Scope}{ps:List Str}{A:Around}{outer:List Env}{s₀ s:Shared}{H₀ H:Hp}{σ:St}{body:List Stmt}{arg:Expr}{t:TA}{p0 p1 p2 p3 p4:Pos}
 {fd:FuncData} {ar:Arg} {vs:Array Value} {file:Str} {tf:Tok} {oc ccl cl:Value} {od cdd cld:Option Addr} {osl ccs csl:Array (Option Value)} {D:gG}
theorem sY(lk:K.lookup f=some ⟨oc,od,.func fd,osl⟩)(hp:(fd.params.posonlyargs++fd.params.args).head? =some ar)(hi:ps[0]? =some ar.arg)
  (lcode:K.lookup cda=some ⟨ccl,cdd,.fields vs,ccs⟩) (hvs:(vs[2]?:Option Value)=some (.str file tf)) (hfile:((P.main.file:Str)==file)=true) (lc:K.lookup cc=some ⟨cl,cld,.cell (some (.ref C)),csl⟩)
  (hsup:mg "super" =none) (htop:(P.main.scope.names.lookup ("super" :Str)).isSome=false) (hks:scope.names.lookup ("super" :Str)=some .globalImplicit) (hkc:scope.names.lookup ("__class__" :Str)=some .free) (hka:scope.names.lookup ar.arg=some .local)
  (xc:oO K C=true) (ha:PA (iK P w K mg base ps qual scope f (.ref cda) cc A outer s₀ H₀) [arg] t)
  (I:aB (iK P w K mg base ps qual scope f (.ref cda) cc A outer s₀ H₀) [] σ H s) (h0:σ[0]? =some (some (.ref e))) (he:H e=some (cH e C none))
  (q:t σ H λ us H1=>us.length=1/\H1 e=some (cH e C none)/\D.nx σ H1)
  {pl:Sem Bool} (hev:eval (.Call (.Attribute (.Call (.Name "super" p0) [] [] p1) "__init__" p2) [arg] [] p3) (ksEnv qual scope s₀.heap.objs.size f (.ref cda) cc)=(do
   let ov<-attributeBase (.Call (.Name "super" p0) [] [] p1) "__init__" (ksEnv qual scope s₀.heap.objs.size f (.ref cda) cc) (eval (.Call (.Name "super" p0) [] [] p1) (ksEnv qual scope s₀.heap.objs.size f (.ref cda) cc))
   standAt p2.atName
   let(gm,fst)<-holding [ov] (getMethod ov "__init__" pl)
   callWith p3 gm fst (backTo p3 (starEach [arg] (ksEnv qual scope s₀.heap.objs.size f (.ref cda) cc))) [])) (hsw:swapsWith (.Call (.Attribute (.Call (.Name "super" p0) [] [] p1) "__init__" p2) [arg] [] p3) none p4.line (ksEnv qual scope s₀.heap.objs.size f (.ref cda) cc)=pure false)
  (hpl:starEach [arg] (ksEnv qual scope s₀.heap.objs.size f (.ref cda) cc)=[(false,eval arg (ksEnv qual scope s₀.heap.objs.size f (.ref cda) cc))]):
  PySem.wpAt (model P w) (A.deeper (ksEnv qual scope s₀.heap.objs.size f (.ref cda) cc)) (.func body (ksEnv qual scope s₀.heap.objs.size f (.ref cda) cc))
   (exec (.Expr (.Call (.Attribute (.Call (.Name "super" p0) [] [] p1) "__init__" p2) [arg] [] p3) p4) (ksEnv qual scope s₀.heap.objs.size f (.ref cda) cc))
   (SP (iK P w K mg base ps qual scope f (.ref cda) cc A outer s₀ H₀) [] D) (λ _ _=>False) s:=by
 unfold oO at xc
 simp only[Bool.and_eq_true,beq_iff_eq]at xc
 obtain⟨⟨⟨⟨x1,x2⟩,x3⟩,x4⟩,x5⟩:=xc
 obtain⟨cd,hcd⟩:=Option.isSome_iff_exists.mp x1
 have KX:K.In s.heap:=I.kIn
 have kind:scope.kind= .function:=I.ok.kind
 obtain⟨m,hns,hl⟩:=id I.loc
 obtain⟨u,ru,lu⟩:=hl 0 _ _ hi h0 (.inl hka)
 have hm:m ar.arg=some (.ref e):=by
  obtain rfl:u= .ref e:=ru
  rcases lu with⟨_,z⟩|⟨z,_⟩
  ·exact z
  ·have z':scope.names.lookup ar.arg=some .cell\/scope.names.lookup ar.arg=some .free:=z
   rw[hka]at z'
   rcases z' with z'|z'<;>cases z'
 obtain⟨ve,oe,fe⟩:=I.hok.exn he
 obtain⟨oD,hD1,hD2⟩:∃oD,s.heap.get? C=some oD/\oD.data= .cls cd:=by
  unfold clsIn at hcd
  split at hcd
  ·rename_i ho
   cases hcd
   exact⟨_,KX _ _ ho,rfl⟩
  ·cases hcd
 have neC:e≠C:=λ z=>by
  rw[z]at oe
  rw[hD1]at oe
  cases oe
  cases hD2
 obtain⟨mb,hb1,hb2⟩:=I.mod.blt
 have bk:=I.bk
 refine ks_wpAt_Expr_any (ks_wpAt_MethodCall (ks_wpAt_super_base (env:=ksEnv qual scope s₀.heap.objs.size f (.ref cda) cc) hks hkc Qc rfl (KX _ _ lk) rfl hp rfl (KX _ _ lcode) rfl hvs hfile htop ?_) hev) (by simp[interactive,kind]) hsw
 refine ks_loadName_global kind hks (PySem.Calls.loadGlobal_builtin (env:=ksEnv qual scope s₀.heap.objs.size f (.ref cda) cc) (I.mod.glob.keeps bk) hsup (hb1.keeps bk) ((hb2 _ Qc).trans Qd) ⟨rfl,?_⟩)
 refine wpAny_loadName_free kind hkc rfl ⟨_,KX _ _ lc,rfl⟩ ?_
 refine wpAny_loadName_local kind hka hns hm ?_
 obtain⟨hh,g,dr,tk,os⟩:=s
 refine ks_wpAny_isType_cls hD1 hD2 ⟨rfl,?_⟩
 refine ks_wpAny_call_super hD1 hD2 oe rfl (λ c z=>by cases z) (looks_mroIn KX x2) λ h1 so k1=>?_
 have I1:=I.kept (t':=tk) k1
 have X1:K.In h1:=I1.kIn
 have L1:Looks (model P w) h1 (mroOf (.ref C)) cd.mro:=(looks_clsIn X1 hcd).andThen .now
 have hsp:alongIn K "__init__" ((cd.mro.dropWhile (· != .ref C)).drop 1)=some (some (.builtin veInit)):=by
  unfold ks_superIn at x4
  rw[hcd]at x4
  exact x4
 refine Gd so (looks_opaque X1 x5) L1 rfl X1 hsp (k1 _ _ oe) rfl x3 neC ?_
 have I2:=I1.kept (h':=h1.push (fG e)) (t':=tk+1) λ b o z=>Heap.get?_push_of_some _ z
 have mwg:(h1.push (fG e)).get? h1.objs.size=some (fG e):=Heap.get?_push_size _ rfl
 have I3:=I2.pins_of (pins':=[(h1.objs.size,fG e)]) λ p hp=>by
  rw[show p=(h1.objs.size,fG e) by simpa using hp]
  exact⟨mwg,I1.hok.fresh (Nat.le_refl _),λ z=>absurd I1.lt (by rw[<-z];exact Nat.lt_irrefl _),I1.nofs (Nat.le_refl _),λ v z=>by cases z⟩
 show wpAny _ _ (callWith p3 (.ref h1.objs.size) [] (backTo p3 (starEach [arg] _)) []) _ _ _
 refine callWith_of (P:=λ hp=>hp.get? h1.objs.size=some (fG e)) (by rw[hpl];rfl) (λ hp z=>⟨.machine,.inr (.inl rfl),(Looks.ld (part:=none) z).andThen .now⟩) ?_
 have hpa:=ha p3 [(h1.objs.size,fG e)] _ σ H _ I3 q
 rw[show starEach [arg] (iK P w K mg base ps qual scope f (.ref cda) cc A outer s₀ H₀).env=_ from hpl]at hpa
 rw[hpl]
 refine PySem.Calls.evalArgs_plain (wpAny_mono hpa (λ us s4 ⟨vs4,H4,I4,r4,hl4,he4,hn4⟩=>?_) (λ _ _ (z:False)=>z.elim))
 have pin4:=(I4.pin (h1.objs.size,fG e) Qb).1
 refine⟨pin4,?_⟩
 obtain⟨ve4,oe4,fe4⟩:=I4.hok.exn he4
 have sz:1<ve4.size:=(Array.getElem?_eq_some_iff.mp fe4).1
 match us,r4 with
 |[u4],_=>
  refine Ru I4.kIn x1 pin4 oe4 (Array.getElem?_eq_getElem (Nat.lt_of_succ_lt sz)) λ h5 k5 e5=>?_
  have I5:=I4.write (x:=e) (e:=e) (h':=h5) (t':=s4.toks) (o:=cH e C none) (by rw[he4];trivial) (.inl rfl) k5 ⟨_,e5⟩ (cH.ok e5 (by rw[Array.getElem?_setIfInBounds_ne Qc];exact fe4))
  rw[pJ he4]at I5
  exact⟨σ,H4,I5.pins_of (λ p hp=>absurd hp Qb),hn4⟩
 |[],.nil=>exact absurd hl4 Qb
 |_::_::_,.cons _ (.cons _ _)=>exact absurd hl4 Qb
end
def qI:List Value->Bool
 |.ref _::r=>qI r
 |l=>l==cT
theorem As(self:Value):∀{l:List Value},qI l=true->refuseLoop self "__setattr__" l=pure ()
 |.ref c::r,e=>by rw[refuseLoop_ref];exact As self (l:=r) e
 |[],e=>by cases e
 |.type n::r,e=>by rw[show(Value.type n::r)=cT from beq_iff_eq.mp e];exact PySem.F.store_ValueError.passes self
 |.none::r,e=>by cases(beq_iff_eq.mp (show((Value.none::r)==cT)=true from e))
 |.bool _::r,e=>by cases(beq_iff_eq.mp (show((Value.bool _::r)==cT)=true from e))
 |.int _ _::r,e=>by cases(beq_iff_eq.mp (show((Value.int _ _::r)==cT)=true from e))
 |.float _ _::r,e=>by cases(beq_iff_eq.mp (show((Value.float _ _::r)==cT)=true from e))
 |.str _ _::r,e=>by cases(beq_iff_eq.mp (show((Value.str _ _::r)==cT)=true from e))
 |.bytes _ _::r,e=>by cases(beq_iff_eq.mp (show((Value.bytes _ _::r)==cT)=true from e))
 |.builtin _::r,e=>by cases(beq_iff_eq.mp (show((Value.builtin _::r)==cT)=true from e))
 |.ellipsis::r,e=>by cases(beq_iff_eq.mp (show((Value.ellipsis::r)==cT)=true from e))
 |.notImplemented::r,e=>by cases(beq_iff_eq.mp (show((Value.notImplemented::r)==cT)=true from e))
theorem zK:∀{l:List Value},qI l=true->l.contains (.type "object")=true
 |.ref c::r,e=>by rw[List.contains_cons,zK (l:=r) e,Bool.or_true]
 |[],e=>by cases e
 |.type n::r,e=>by rw[show(Value.type n::r)=cT from beq_iff_eq.mp e];rfl
 |.none::r,e=>by cases(beq_iff_eq.mp (show((Value.none::r)==cT)=true from e))
 |.bool _::r,e=>by cases(beq_iff_eq.mp (show((Value.bool _::r)==cT)=true from e))
 |.int _ _::r,e=>by cases(beq_iff_eq.mp (show((Value.int _ _::r)==cT)=true from e))
 |.float _ _::r,e=>by cases(beq_iff_eq.mp (show((Value.float _ _::r)==cT)=true from e))
 |.str _ _::r,e=>by cases(beq_iff_eq.mp (show((Value.str _ _::r)==cT)=true from e))
 |.bytes _ _::r,e=>by cases(beq_iff_eq.mp (show((Value.bytes _ _::r)==cT)=true from e))
 |.builtin _::r,e=>by cases(beq_iff_eq.mp (show((Value.builtin _::r)==cT)=true from e))
 |.ellipsis::r,e=>by cases(beq_iff_eq.mp (show((Value.ellipsis::r)==cT)=true from e))
 |.notImplemented::r,e=>by cases(beq_iff_eq.mp (show((Value.notImplemented::r)==cT)=true from e))
def dO(K:Frag)(C:Addr)(f:Str):Bool:=findIn K (.ref C) "__setattr__" ==some (some (.builtin "object.__setattr__"))&&findIn K (.ref C) "__getattribute__" ==some (some (.builtin "BaseException.__getattribute__"))&&findIn K (.ref C) "__getattr__" ==some none&&
  findIn K (.ref C) f==some none&&(clsIn K C).any (λ cd=>qI cd.mro&&cd.hasDict)&&mroIn K C (.type "BaseException")==some true
section
variable{prog:Program}{w:World}{A:Around}{E:Qe}{s:Shared}{K:Frag}{e C:Addr}{vs:Array Value}{f:Str}{v:Value}
theorem zZ{dx:Option Addr}{od:Option Obj}{Q:Unit->Shared->Prop}(X:K.In s.heap)(J:InstAt s.heap e (bM C dx vs) C od)(hk:dO K C f=true)
  (h:∀(b:Bool) (tk:Tok),wpAny (model prog w) A.in1 (Builtin.ObjectAttr.storeInOwnDict (.ref e) (.ref C) (.str f tk) f v b) (λ fin s'=>fin= .done (.ret .none)/\Q () s') (λ _ _=>False) {s with toks:=s.toks+1}):
  wpAny (model prog w) A (setAttr (.ref e) f v) Q E s:=by
 unfold dO at hk
 simp only[Bool.and_eq_true,beq_iff_eq]at hk
 obtain⟨⟨⟨⟨⟨k1,k2⟩,k3⟩,k4⟩,k5⟩,k6⟩:=hk
 obtain⟨cd,hc,ho⟩:=any_some k5
 rw[Bool.and_eq_true]at ho
 have SF:=PySem.F.store_ValueError
 have ne:cd.mro.isEmpty=false:=by cases q:cd.mro with|nil=>rw[q]at ho;cases ho.1|cons _ _=>rfl
 have X1:K.In ({s with toks:=s.toks+1}:Shared).heap:=X
 have J1:InstAt ({s with toks:=s.toks+1}:Shared).heap e (bM C dx vs) C od:=J
 have sub:Looks (model prog w) s.heap (isInstance (.ref e) (.type "object")) true:=J.type.andThen (looks_mroIn X (by unfold mroIn;rw[hc,Option.bind_some,if_neg (by rw[ne];decide),zK ho.1]))
 have hm:Looks (model prog w) s.heap (mroOf (.ref C)) cd.mro:=(looks_clsIn X hc).andThen .now
 refine set_plain X J k1 (codeAny_call_builtin SF.slot.plain SF.entry (@check_slot (model prog w) _ _ {s with toks:=s.toks+1} "object.__setattr__" "object" "__setattr__" (.ref e) [.str f s.toks,v] [] _ SF.kind SF.split sub (SF.args _ _ _) ?_))
 rw[osa_eq,refuse_eq]
 refine wpAny_bind (wpAny_bind (J1.type.here (wpAny_bind (Looks.here (s:={s with toks:=s.toks+1}) hm ?_))))
 rw[As _ ho.1]
 refine wpAny_pure (wpAny_bind (J1.type.here (wpAny_bind ((looks_findIn X1 k4).here (wpAny_bind (Looks.here (s:={s with toks:=s.toks+1}) (r:=none) .now ?_))))))
 refine wpAny_mono (h false s.toks) (λ fin s' z=>?_) (λ _ _ (z:False)=>z.elim)
 obtain⟨rfl,z⟩:=z
 exact z
theorem Kn{Q:Unit->Shared->Prop}(X:K.In s.heap)(he:s.heap.get? e=some (bM C none vs))(hk:dO K C f=true)
  (h:∀h' tk,h'.get? e=some (bM C (some s.heap.objs.size) vs)->h'.Ns1 s.heap.objs.size (λ y=>if y=f then some v else none)->(∀b o,b≠e->s.heap.get? b=some o->h'.get? b=some o)->Q () {s with heap:=h',toks:=tk}):
  wpAny (model prog w) A (setAttr (.ref e) f v) Q E s:=by
 have J:InstAt s.heap e (bM C none vs) C none:=⟨he,rfl,rfl,trivial⟩
 refine zZ X J hk λ b tk=>?_
 unfold dO at hk
 simp only[Bool.and_eq_true,beq_iff_eq]at hk
 obtain⟨cd,hc,ho⟩:=any_some hk.1.2
 rw[Bool.and_eq_true]at ho
 obtain⟨hh,g,dr,t,os⟩:=s
 have L:=looks_clsIn (M:=model prog w) X hc
 have hxs:e≠hh.objs.size:=Nat.ne_of_lt (Heap.lt_size he)
 have he1:(hh.push {cls:=.type "dict",data:=.dict #[]}).get? e=some (bM C none vs):=Heap.get?_push_of_some _ he
 refine wpAny_bind (wpAny_pure (wpAny_bind (wpAny_bind (wpAny_loadPart he (wpAny_bind (L.at ?_))))))
 rw[ho.2]
 refine wpAny_bind (wpAny_alloc' (wpAny_bind (wpAny_update' he1 (wpAny_pure ?_))))
 have gd:((hh.push {cls:=.type "dict",data:=.dict #[]}).update e λ o=>{cls:=o.cls,dict:=some hh.objs.size,data:=o.data,slots:=o.slots}).get? hh.objs.size=some {cls:=.type "dict",data:=.dict #[]}:=
  (Heap.get?_update_ne _ _ _ _ hxs.symm).trans (Heap.get?_push_at rfl rfl)
 have ge:((hh.push {cls:=.type "dict",data:=.dict #[]}).update e λ o=>{cls:=o.cls,dict:=some hh.objs.size,data:=o.data,slots:=o.slots}).get? e=some (bM C (some hh.objs.size) vs):=Heap.get?_update_self _ he1 rfl
 have nd:((hh.push {cls:=.type "dict",data:=.dict #[]}).update e λ o=>{cls:=o.cls,dict:=some hh.objs.size,data:=o.data,slots:=o.slots}).Ns hh.objs.size (λ _=>none):=⟨_,#[],_,gd,rfl,λ z hz=>absurd hz Qb,λ _=>rfl⟩
 show wpAny _ _ (Builtin.ObjectAttr.storeInDict hh.objs.size (.str f tk) f v) _ _ _
 refine wpAny_bind (wpAny_pure (wpAny_bind (wpAny_nsSet1 (Heap.Ns1.of_empty nd) λ h' hn sb=>?_)))
 obtain⟨oD,esD,epD,hoD,hdD,hcD⟩:=hn.count (PySem.Within.cons f v PySem.Within.nil)
 refine wpAny_bind (wpAny_lookBehind hoD (by rw[hdD];exact pastItsLine_dict (Nat.le_trans hcD (by rw[List.length_cons,List.length_nil,sizeLine_eq];omega))) (wpAny_pure ⟨rfl,h h' _ ((sb.2 e hxs).trans ge) hn λ b o hb q=>?_⟩))
 exact(sb.2 b (Nat.ne_of_lt (Heap.lt_size q))).trans ((Heap.get?_update_ne _ _ _ _ hb).trans (Heap.get?_push_of_some _ q))
theorem Km{d:Addr}{mA:Str->Option Value}{ns:List Str}{Q:Unit->Shared->Prop}(X:K.In s.heap)(he:s.heap.get? e=some (bM C (some d) vs))(hn:s.heap.Ns1 d mA)(hw:PySem.Within mA ns)(hs:ns.length<=1000)(hk:dO K C f=true)
  (h:∀h' tk,h'.Ns1 d (λ y=>if y=f then some v else mA y)->Heap.SameBut d s.heap h'->Q () {s with heap:=h',toks:=tk}):wpAny (model prog w) A (setAttr (.ref e) f v) Q E s:=by
 obtain⟨od,hod,hl⟩:=qR hn
 have J:InstAt s.heap e (bM C (some d) vs) C (some od):=⟨he,rfl,rfl,hod⟩
 refine zZ X J hk λ b tk=>?_
 unfold dO at hk
 simp only[Bool.and_eq_true,beq_iff_eq]at hk
 obtain⟨cd,hc,ho⟩:=any_some hk.1.2
 rw[Bool.and_eq_true]at ho
 obtain⟨hh,g,dr,t,os⟩:=s
 have L:=looks_clsIn (M:=model prog w) X hc
 refine wpAny_bind (wpAny_pure (wpAny_bind (wpAny_bind (wpAny_loadPart he (wpAny_bind (L.at ?_))))))
 rw[ho.2]
 refine wpAny_pure (a:=some d) ?_
 show wpAny _ _ (Builtin.ObjectAttr.storeInDict d (.str f tk) f v) _ _ _
 refine wpAny_bind (wpAny_pure (wpAny_bind (wpAny_nsSet1 (s:=⟨hh,g,dr,t+1,os⟩) hn λ h' hn' sb=>?_)))
 obtain⟨oD,esD,epD,hoD,hdD,hcD⟩:=hn'.count (PySem.Within.cons f v hw)
 exact wpAny_bind (wpAny_lookBehind hoD (by rw[hdD];exact pastItsLine_dict (Nat.le_trans hcD (by rw[List.length_cons,sizeLine_eq];omega))) (wpAny_pure ⟨rfl,h h' _ hn' sb⟩))
theorem Sg{d:Addr}{mA:Str→Option Value}{expr:Bool}{Q:Value→Shared→Prop}(X:K.In s.heap)(he:s.heap.get? e=some (bM C (some d) vs))(hn:s.heap.Ns1 d mA)(hk:dO K C f=true)(hv:mA f=some v)(hh':handedIn v=true)
    (hq:Q v {s with toks:=s.toks+1}):wpAny (model prog w) A (getAttr (.ref e) f expr) Q E s:=by
  obtain⟨od,hod,hl⟩:=qR hn
  have J:InstAt s.heap e (bM C (some d) vs) C (some od):=⟨he,rfl,rfl,hod⟩
  unfold dO at hk
  simp only[Bool.and_eq_true,beq_iff_eq]at hk
  obtain⟨⟨⟨⟨⟨k1,k2⟩,k3⟩,k4⟩,k5⟩,k6⟩:=hk
  obtain⟨cd,hc,ho⟩:=any_some k5
  rw[Bool.and_eq_true]at ho
  have hfo:findObj K C (some od) f=some (.value v):=findObj_own (by unfold hasDictIn;rw[hc];exact ho.2) k4 rfl (by rw[hl,hv])
  obtain⟨hh,g,dr,t,os⟩:=s
  have T:=J.type (M:=model prog w)
  have L1:=looks_findIn (M:=model prog w) X k2
  have L2:=looks_findIn (M:=model prog w) X k3
  have L3:=looks_find (M:=model prog w) X J hfo
  have FB:=PySem.F.attr_ValueError
  have f3:=FB.ga.bind (.ref e)
  have hx0:(expr&&onTheHeap (Value.builtin "BaseException.__getattribute__"))=false:=by cases expr<;>rfl
  unfold getAttr getAttrBy
  refine wpAny_bind (wpAny_mkText (wpAny_holding (wpAny_bind (T.at (wpAny_bind (L1.at ?_))))))
  show wpAny _ _ (getAttrByItsOwn (.ref e) (.str f t) (.ref C) (.builtin "BaseException.__getattribute__") true expr) _ _ _
  unfold getAttrByItsOwn hookBefore;unfold callGetattribute boundAndCalled
  refine wpAny_bind (L2.at (wpAny_bind (wpAny_attempt (wpAny_holding ?_))))
  rw[hx0]
  show wpAny _ _ (bindSpecial (.builtin "BaseException.__getattribute__") (.ref e)>>=_) _ _ _
  refine wpAny_bind (wpAny_of_eq f3 ?_)
  refine wpAny_mono (Q:=λ u s'=>u=v∧s'=⟨hh,g,dr,t+1,os⟩) (E:=λ _ _=>False) (wpAny_call (codeAny_call_builtin FB.ga.plain PySem.F.entry_bexc_ga (@check_slot (model prog w) _ _ ⟨hh,g,dr,t+1,os⟩ "BaseException.__getattribute__" "BaseException" "__getattribute__" (.ref e) [.str f t] [] _ Qd Qd
    (T.andThen (looks_mroIn X k6)) (PySem.F.args_bexc_ga _ _) ?_))) (λ u s' hu=>?_) λ _ _ z=>z.elim
  · unfold Builtin.«object.__getattribute__»
    repeat (first|(with_reducible refine Looks.at T ?_)|(with_reducible refine Looks.at L3 ?_)|wp_step)
    all_goals exact⟨rfl,rfl⟩
  · obtain⟨rfl,rfl⟩:=hu
    show wpAny _ _ (handedOut u) _ _ _
    rw[handedOut_of hh']
    exact wpAny_pure hq
end
def Hz(K:Frag)(ta:TE)(f:Str):TE:=λ σ H Q=>ta σ H λ x H1=>∃e C d fs v,x= .ref e/\H1 e=some (cA e C (some d))/\H1 d=some (.xd fs)/\dO K C f=true/\fs.lookup f=some v/\Q v H1
def Ls(K:Frag)(ta tv:TE)(f:Str):TS:=λ D σ H=>tv σ H λ y H1=>ta σ H1 λ x H2=>∃e C,x= .ref e∧dO K C f=true∧
  ((H2 e=some (cH e C none)∧∀d,H2 d=none→D.nx σ (aD (aD H2 d (.xd [(f,y)])) e (cH e C (some d))))∨
   ∃d fs,H2 e=some (cH e C (some d))∧H2 d=some (.xd fs)∧fs.length<1000∧D.nx σ (aD H2 d (.xd (nX f y fs))))
section
variable{X:Cx}{o value:Expr}{f:Str}{pos pos':Pos}{ta tv:TE}
theorem Bc(he:PE X o ta)(hb:attributeBase o f X.env (eval o X.env)=eval o X.env:=by rfl):PE X (.Attribute o f pos) (Hz X.K ta f):=by
 intro pins s σ H Q I h
 refine AO hb (aP (he pins s σ H _ I h) λ u s1 ⟨x,H1,I1,rx,e,C,d,fs,v,ex,e1,e2,k,l,q⟩=>?_)
 subst ex
 obtain rfl:u=Value.ref e:=rx
 obtain⟨vs,oe⟩:=I1.hok.exc e1
 obtain⟨mA,hn,r⟩:=I1.hok d _ e2
 obtain⟨y,hy,ry⟩:∃y,mA f=some y/\bA v y:=by
  have:=r f
  rw[l]at this
  cases z:mA f with
  |none=>rw[z]at this;exact this.elim
  |some y=>rw[z]at this;exact⟨y,rfl,this⟩
 exact Sg I1.kIn oe hn k hy (Vd ry) ⟨v,H1,I1.tok _,ry,q⟩
theorem aB.firstX{pins:List (Addr×Obj)}{σ:St}{H:Hp}{s:Shared}{h':Heap}{t':Nat}{e C:Addr}{vs:Array Value}{fs:List (Str×V)}{mA:Str->Option Value}(I:aB X pins σ H s)(he:H e=some (cH e C none))(q:h'.get? e=some (bM C (some s.heap.objs.size) vs))(q1:(vs[1]?:Option Value)=some .none)
  (hn:h'.Ns1 s.heap.objs.size mA) (r:∀f,mV (fs.lookup f) (mA f)) (k:∀b o,b≠e->s.heap.get? b=some o->h'.get? b=some o):
  aB X pins σ (aD (aD H s.heap.objs.size (.xd fs)) e (cH e C (some s.heap.objs.size))) {s with heap:=h',toks:=t'}:=by
 obtain⟨_,oe,_⟩:=I.hok.exn he
 have ne:s.heap.objs.size≠e:=Nat.ne_of_gt (Heap.lt_size oe)
 have nd:∀{b o},s.heap.get? b=some o->b≠s.heap.objs.size:=λ z=>Nat.ne_of_lt (Heap.lt_size z)
 have fr:H s.heap.objs.size=none:=I.hok.fresh (Nat.le_refl _)
 have kH:∀b u,H b=some u->b≠e->aD (aD H s.heap.objs.size (.xd fs)) e (cH e C (some s.heap.objs.size)) b=some u:=λ b u z n=>by
  rw[aU n,aU (λ y=>by rw[y,fr]at z;cases z)];exact z
 have tn:∀b u,H b=some u->u≠cH e C none->b≠e:=λ b u z n y=>by rw[y,he]at z;exact n (Option.some.inj z).symm
 refine I.un ⟨λ b o z n _ _=>k b o (λ y=>by rw[y,he]at n;cases n) z,λ b o z n _ _=>⟨o.slots,k b o (λ y=>by rw[y,he]at n;cases n) z⟩,λ b o z n _=>?_,λ b o z _=>?_,λ b xs z=>kH b _ z (tn b _ z λ y=>by cases y),λ b o u z=>kH b _ z (tn b _ z λ y=>by cases y),λ b ps z=>⟨#[],by rw[kH b _ z (tn b _ z λ y=>by cases y)];simp⟩⟩ λ b u z=>?_
 ·rw[aU (λ y=>by rw[y,he]at n;cases n),aU (nd z)];exact n
 ·by_cases hb:b=e
  ·exact⟨_,hb▸q⟩
  ·exact⟨o,k b o hb z⟩
 ·by_cases hb:b=e
  ·subst hb
   rw[aR]at z
   cases z
   exact cH.ok q q1
  ·rw[aU hb]at z
   by_cases hd:b=s.heap.objs.size
   ·subst hd
    rw[aR]at z
    cases z
    exact⟨mA,hn,r⟩
   ·rw[aU hd]at z
    refine(I.hok b u z).stay (λ c v hc y=>k c v (λ x=>?_) y) (λ c y=>kH c _ y (tn c _ y λ x=>by cases x)) (λ c xs y=>kH c _ y (tn c _ y λ x=>by cases x))
    subst x
    rcases hc with x|x
    ·exact hb x.symm
    ·rw[he]at x;cases x
theorem aB.nextX{pins:List (Addr×Obj)}{σ:St}{H:Hp}{s:Shared}{h':Heap}{t':Nat}{d:Addr}{fs fs':List (Str×V)}{mA:Str->Option Value}(I:aB X pins σ H s)(he:H d=some (.xd fs))(sb:Heap.SameBut d s.heap h')(hn:h'.Ns1 d mA)(r:∀f,mV (fs'.lookup f) (mA f)):
  aB X pins σ (aD H d (.xd fs')) {s with heap:=h',toks:=t'}:=by
 have k:∀b o,b≠d->s.heap.get? b=some o->h'.get? b=some o:=λ b o n z=>(sb.2 b n).trans z
 have tn:∀b u,H b=some u->u≠ .xd fs->b≠d:=λ b u z n y=>by rw[y,he]at z;exact n (Option.some.inj z).symm
 have kH:∀b u,H b=some u->b≠d->aD H d (.xd fs') b=some u:=λ b u z n=>by rw[aU n];exact z
 refine I.un ⟨λ b o z n _ _=>k b o (λ y=>by rw[y,he]at n;cases n) z,λ b o z n _ _=>⟨o.slots,k b o (λ y=>by rw[y,he]at n;cases n) z⟩,λ b o z n _=>by rw[aU (λ y=>by rw[y,he]at n;cases n)];exact n,λ b o z _=>?_,λ b xs z=>kH b _ z (tn b _ z λ y=>by cases y),λ b o u z=>kH b _ z (tn b _ z λ y=>by cases y),λ b ps z=>⟨#[],by rw[kH b _ z (tn b _ z λ y=>by cases y)];simp⟩⟩ λ b u z=>?_
 ·by_cases hb:b=d
  ·obtain⟨o,_,_,z,_⟩:=hn
   exact⟨_,hb▸z⟩
  ·exact⟨o,k b o hb z⟩
 ·by_cases hb:b=d
  ·subst hb
   rw[aR]at z
   cases z
   exact⟨mA,hn,r⟩
  ·rw[aU hb]at z
   refine(I.hok b u z).stay (λ c v hc y=>k c v (λ x=>?_) y) (λ c y=>kH c _ y (tn c _ y λ x=>by cases x)) (λ c xs y=>kH c _ y (tn c _ y λ x=>by cases x))
   subst x
   rcases hc with x|x
   ·exact hb x.symm
   ·rw[he]at x;cases x
theorem vC(ha:PE X o ta)(hv:PE X value tv)(hs:swapsWith value (some (.Attribute o f pos')) pos.line X.env=pure false:=by rfl):PS X (.Assign [.Attribute o f pos'] value pos) (Ls X.K ta tv f):=by
 intro pins s σ H D I h
 refine plainObj_wpAny_Assign_Attribute (aP (hv pins s σ H _ I h) λ u s1 ⟨y,H1,I1,ry,q⟩=>aP (ha pins s1 σ H1 _ I1 q) λ ov s2 ⟨x,H2,I2,rx,e,C,ex,k,q2⟩=>?_) hs
 subst ex
 obtain rfl:ov=Value.ref e:=rx
 rcases q2 with⟨e1,q2⟩|⟨d,fs,e1,e2,hl,q2⟩
 ·obtain⟨vs,oe,f1⟩:=I2.hok.exn e1
  refine Kn I2.kIn oe k λ h' tk z1 z2 z3=>⟨σ,_,I2.firstX e1 z1 f1 z2 (λ g=>?_) z3,q2 _ (I2.hok.fresh (Nat.le_refl _))⟩
  show mV (List.lookup g [(f,y)]) (if g=f then some u else none)
  rw[List.lookup_cons]
  by_cases hg:g=f
  ·rw[if_pos hg,show(g==f)=true by simp[hg]];exact ry
  ·rw[if_neg hg,show(g==f)=false by simp[hg]];trivial
 ·obtain⟨vs,oe,f1⟩:=I2.hok.exn e1
  obtain⟨mA,hn,r⟩:=I2.hok d _ e2
  refine Km (ns:=fs.map (·.1)) I2.kIn oe hn (λ g hg=>?_) (by rw[List.length_map];exact Nat.le_of_lt hl) k λ h' tk z1 z2=>⟨σ,_,I2.nextX e2 z2 z1 (λ g=>?_),q2⟩
  ·have:=r g
   cases z:fs.lookup g with
   |none=>rw[z]at this;cases z':mA g with|none=>exact absurd z' hg|some _=>rw[z']at this;exact this.elim
   |some v=>exact List.mem_map.mpr ⟨(g,v),PySem.mem_of_lookup z,rfl⟩
  ·rw[Bx]
   by_cases hg:g=f
   ·rw[if_pos hg,if_pos hg];exact ry
   ·rw[if_neg hg,if_neg hg];exact r g
end
def mI(K:Frag)(C:Addr):Bool:=findIn K (.ref C) "__getattribute__" ==some (some (.builtin "BaseException.__getattribute__"))&&findIn K (.ref C) "__getattr__" ==some none&&findIn K (.ref C) "__class__" ==some (some (.builtin "object.__class__"))&&
  specialIn K (.builtin "object.__class__") "__get__" ==some (some (.builtin "getset_descriptor.__get__"))&&takesIn K (.builtin "object.__class__")==some true&&mroIn K C (.type "object")==some true&&mroIn K C (.type "BaseException")==some true&&(clsIn K C).isSome
section
variable{K:Frag}{e C d:Addr}
theorem Sv(hk:mI K C=true):KitX K (.ref e) (.ref C) (λ h=>∃vs od,InstAt h e (bM C (some d) vs) C (some od)):=by
  unfold mI at hk
  simp only[Bool.and_eq_true,beq_iff_eq]at hk
  obtain⟨⟨⟨⟨⟨⟨⟨k1,k2⟩,k3⟩,k4⟩,k5⟩,k6⟩,k7⟩,k8⟩:=hk
  obtain⟨cd,hc⟩:=Option.isSome_iff_exists.mp k8
  have cls:∀{h:Heap},K.In h→∃oD,h.get? C=some oD∧oD.data= .cls cd:=fun{h} X=>by
    unfold clsIn at hc
    split at hc
    · rename_i ho
      cases hc
      exact⟨_,X _ _ ho,rfl⟩
    ·cases hc
  refine⟨λ _ _ _ ⟨_,_,I⟩=>I.type,λ M h X _=>?_,λ h tp dd its n sl X htp=>?_,?_⟩
  · obtain⟨oD,h1,h2⟩:=cls X
    intro A' Q' E' s' k q
    unfold isType loadHead
    refine wpAny_bind (wpAny_loadPart (k _ _ h1) ?_)
    rw[h2]
    exact wpAny_pure q
  · obtain⟨oD,h1,h2⟩:=cls X
    refine Bool.eq_false_iff.mpr λ q=>?_
    have z:C=tp:=Value.ref.inj (beq_iff_eq.mp q)
    rw[z,htp]at h1
    cases h1
    cases h2
  · intro prog w A E Q s X ⟨vs,od,I⟩ hq
    obtain⟨hh,g,dr,t,os⟩:=s
    have hf:findObj K C (some od) "__class__" =some (.bind (.builtin "getset_descriptor.__get__") (.builtin "object.__class__")):=findObj_data k8 k3 k4 k5
    have T:=I.type (M:=model prog w)
    have L1:=looks_findIn (M:=model prog w) X k1
    have L2:=looks_findIn (M:=model prog w) X k2
    have L3:=looks_find (M:=model prog w) X I hf
    have FB:=PySem.F.attr_ValueError
    have f3:=FB.ga.bind (.ref e)
    unfold getAttr? getAttrBy?;unfold getAttrBy
    refine wpAny_bind (wpAny_mkText (wpAny_bind (wpAny_attempt (wpAny_holding (wpAny_bind (T.at (wpAny_bind (L1.at ?_))))))))
    show wpAny _ _ (getAttrByItsOwn (.ref e) (.str "__class__" t) (.ref C) (.builtin "BaseException.__getattribute__") false false) _ _ _
    unfold getAttrByItsOwn hookBefore;unfold callGetattribute boundAndCalled
    refine wpAny_bind (L2.at (wpAny_bind (wpAny_attempt (wpAny_holding ?_))))
    show wpAny _ _ (bindSpecial (.builtin "BaseException.__getattribute__") (.ref e)>>=_) _ _ _
    refine wpAny_bind (wpAny_of_eq f3 ?_)
    refine wpAny_mono (Q:=λ u s'=>u= .ref C∧s'=⟨hh,g,dr,t+1,os⟩) (E:=λ _ _=>False) (wpAny_call (codeAny_call_builtin FB.ga.plain PySem.F.entry_bexc_ga (@check_slot (model prog w) _ _ ⟨hh,g,dr,t+1,os⟩ "BaseException.__getattribute__" "BaseException" "__getattribute__" (.ref e) [.str "__class__" t] [] _ Qd Qd
      (T.andThen (looks_mroIn X k7)) (PySem.F.args_bexc_ga _ _) ?_))) (λ u s' hu=>?_) λ _ _ z=>z.elim
    · unfold Builtin.«object.__getattribute__»
      repeat (first|(with_reducible refine Looks.at T ?_)|(with_reducible refine Looks.at L3 ?_)|wp_step)
      refine class_get (s:=⟨hh,g,dr,t+1,os⟩) X I k6 ?_
      repeat (first|exact⟨rfl,rfl⟩|wp_step)
    · obtain⟨rfl,rfl⟩:=hu
      exact wpAny_pure (wpAny_pure hq)
end
def cV:V->Option Value
 |.ref a=>some (.ref a)
 |.ty n=>some (.type n)
 |_=>none
def Mq(K:Frag):List V->Hp->VK->Prop:=λ vs H Q=>∃e C d fs c cv b,vs=[.ref e,c]/\H e=some (cA e C (some d))/\H d=some (.xd fs)/\mI K C=true/\cV c=some cv/\kitOne K (.ref C) cv=some b/\Q (.bl b) H
theorem mO{X:Cx}:dA X (.builtin "isinstance") (Mq X.K):=by
 intro pins s σ H xs us Q I r h
 obtain⟨e,C,d,fs,c,cv,b,rfl,h1,h2,k,hc,hb,q⟩:=h
 obtain⟨u1,u2,rfl,r1,r2⟩:=r.two
 obtain rfl:u1=Value.ref e:=r1
 obtain rfl:u2=cv:=by
  cases c with
  |ref a=>cases hc;exact r2
  |ty n=>cases hc;exact r2
  |_=>cases hc
 obtain⟨vs,oe⟩:=I.hok.exc h1
 obtain⟨mA,hn,_⟩:=I.hok d _ h2
 obtain⟨od,hod,_⟩:=qR hn
 exact kia_one (Sv (d:=d) k) I.kIn ⟨vs,od,oe,rfl,rfl,hod⟩ hb (λ z=>nomatch z) λ tk=>⟨.bl b,H,I.tok tk,rfl,q⟩
theorem PS.nox{X:Cx}{st:Stmt}{t:TS}(h:PS X.nox st t):PS X st t:=λ pins s σ H D I hw=>
 wpAny_mono (h pins s σ H D (I.wish _) hw) (λ _ _ q=>q.unwish) λ _ _ z=>False.elim z
theorem AH:bootBuiltins ("ValueError" :Str)=some (.type "ValueError"):=by decide+kernel
def wD(st:Stmt)(j:Nat):Stmt:=match st with
 |.ClassDef _ _ _ body _ _ _ _ _ _ _=>body.getD j (.Pass ⟨0,0,0,0⟩)
 |_=>.Pass ⟨0,0,0,0⟩
structure rW(P:Program)(K:Frag)(mg:Str->Option Value)(qual:Str)(st:Stmt)(C f cc cda:Addr)(fd:FuncData):Prop where
 fn:∃(oc:Value) (od:Option Addr) (kV doc pm:Value) (an:Option Addr) (ct:Value) (osl:Array (Option Value)),fd=ksFn "__init__" qual (eT st) (dG st) (aW st) .none kV doc pm an (.ref cda) ct cc/\K.lookup f=some ⟨oc,od,.func fd,osl⟩
 code:PySem.W.codeIn K (.ref cda) qual=true
 file:∃(ccl:Value) (cdd:Option Addr) (vs:Array Value) (ccs:Array (Option Value)) (x:Str) (tf:Tok),K.lookup cda=some ⟨ccl,cdd,.fields vs,ccs⟩/\(vs[2]?:Option Value)=some (.str x tf)/\((P.main.file:Str)==x)=true
 cell:∃(cl:Value) (cld:Option Addr) (csl:Array (Option Value)),K.lookup cc=some ⟨cl,cld,.cell (some (.ref C)),csl⟩
 sup:mg "super" =none
 top:(P.main.scope.names.lookup ("super" :Str)).isSome=false
 all:oO K C=true
theorem wN{e C C':Addr}{d d':Option Addr}(h:cA e C d=cA e C' d'):C=C'/\d=d':=by
 have h1:(λ h:Heap=>∃vs,h.get? e=some (bM C d vs))=(λ h:Heap=>∃vs,h.get? e=some (bM C' d' vs)):=HO.ext.inj h
 have get:({objs:=Array.replicate (e+1) (bM C d #[])}:Heap).get? e=some (bM C d #[]):=by
  unfold Heap.get?
  rw[show({objs:=Array.replicate (e+1) (bM C d #[])}:Heap).objs[e]? =some (bM C d #[])from Qb]
  rfl
 have h2:∃vs,({objs:=Array.replicate (e+1) (bM C d #[])}:Heap).get? e=some (bM C' d' vs):=by
  have h3:=congrFun h1 ({objs:=Array.replicate (e+1) (bM C d #[])}:Heap)
  exact h3▸⟨#[],get⟩
 obtain⟨vs,z⟩:=h2
 rw[get]at z
 have z':=Option.some.inj z
 injection z' with a b
 injection a with a
 exact⟨a,b⟩
section
variable{X:Cx}
end
theorem Aw{ex:List Addr}{H H2:Hp}{p:Addr}{o:HO}(e:aG ex H H2)(h:H p=none):aG ex H (aD H2 p o):=by
 refine⟨λ b u hb q n=>?_,λ b ps hb q=>?_⟩
 ·rw[aU (fN q h)]
  exact e.old b u hb q n
 ·rw[aU (fN q h)]
  exact e.tab b ps hb q
theorem aG.fresh{H H2:Hp}{p:Addr}(e:aG [] H H2)(h:H2 p=none):H p=none:=by
 cases z:H p with
 |none=>rfl
 | some o=>
  by_cases zt:∃ps,o= .tbl ps
  ·obtain⟨ps,rfl⟩:=zt
   obtain⟨ps',z',_⟩:=e.tab p ps Qb z
   rw[h]at z'
   cases z'
  ·have:=e.old p o Qb z λ ps z2=>zt ⟨ps,z2⟩
   rw[h]at this
   cases this
end L2
namespace L2
open PySem PySem.Spec PyProof.Rows
structure Kd where
 nm:Str
 way:List Int
 bds:List Int
structure Cd where
 nm:Str
 kd:Str
 pl:Int
 bk:Bool
structure Wt where
 cd:Str
 ln:Int
 ot:Str
structure Pl where
 ls:List (Str×Int)
 ks:List Kd
structure Sd where
 bs:List Int
 cs:List Cd
 ws:List Wt
def Kd.d(k:Kd):PyData:=.tuple [.str k.nm,.tuple (k.way.map .int),.tuple (k.bds.map .int)]
def Cd.d(c:Cd):PyData:=.tuple [.str c.nm,.str c.kd,.int c.pl,.bool c.bk]
def Wt.d(w:Wt):PyData:=.tuple [.str w.cd,.int w.ln,.str w.ot]
def qS(l:Str×Int):PyData:=.tuple [.str l.1,.int l.2]
def Pl.d(p:Pl):PyData:=.tuple [.tuple (p.ls.map qS),.tuple (p.ks.map Kd.d)]
def Sd.d(s:Sd):PyData:=.tuple [.tuple (s.bs.map .int),.tuple (s.cs.map Cd.d),.tuple (s.ws.map Wt.d)]
def Pl.n(p:Pl):Int:=p.ls.length
def Pl.kd?(p:Pl)(x:Str):Option Kd:=p.ks.find? λ k=>k.nm==x
def Sd.cd?(s:Sd)(x:Str):Option Cd:=s.cs.find? λ c=>c.nm==x
def Pl.at(p:Pl)(k:Str)(j:Int):Int:=if j=0 then-1 else match p.kd? k with
 |some kd=>if(kd.way.length:Int)<j then p.n else kd.way.getD (j-1).toNat 0
 |none=>0
def Pl.lane(p:Pl)(c:Cd):Int:=p.at c.kd c.pl
def Sd.inL(s:Sd)(p:Pl)(l:Int):List Str:=(s.cs.filter λ c=>p.lane c==l).map (·.nm)
def Sd.many(s:Sd)(p:Pl)(l:Int)(k:Str):Nat:=(s.cs.filter λ c=>c.kd==k&&p.at k c.pl==l).length
structure jN(p:Pl):Prop where
 nl:p.ls.length<=900
 nk:p.ks.length<=900
 ln:∀l∈p.ls,l.1.length<=1000
 kw:∀k∈p.ks,k.way.length<=900/\k.bds.length=k.way.length/\k.nm.length<=1000/\∀i∈k.way,0<=i/\i<p.n
def jQ(p:Pl)(c:Cd):Prop:=c.nm.length<=1000/\∃k,p.kd? c.kd=some k/\0<=c.pl/\c.pl<=k.way.length+1
structure mU(p:Pl)(s:Sd):Prop where
 nb:s.bs.length=p.ls.length
 nc:s.cs.length<=900
 c:∀c∈s.cs,jQ p c
 nw:s.ws.length<=900
 w:∀w∈s.ws,(s.cd? w.cd).isSome=true/\(s.cd? w.ot).isSome=true/\w.cd.length<=1000/\w.ot.length<=1000
theorem wM{α:Type}{p:α->Bool}:∀(ls:List α) (i:Nat) (a:α),(∀j b,j<i->ls[j]? =some b->p b=false)->ls[i]? =some a->p a=true->ls.find? p=some a
 |[],_,_,_,hd,_=>by simp at hd
 |b::ls,0,a,_,hd,hp=>by
  have:b=a:=by simpa using hd
  rw[List.find?_cons,this,hp]
 |b::ls,i+1,a,h,hd,hp=>by
  rw[List.find?_cons,h 0 b Qa rfl]
  exact wM ls i a (λ j d hj hd=>h (j+1) d Qa (by simpa using hd)) (by simpa using hd) hp
theorem wL{α:Type}{p:α->Bool}:∀(ls:List α) (i:Nat),(∀j b,j<i->ls[j]? =some b->p b=false)->ls.length<=i->ls.find? p=none
 |[],_,_,_=>rfl
 |b::ls,i,h,hl=>by
  rw[List.find?_cons,h 0 b (by simp at hl;omega) rfl]
  exact wL ls (i-1) (λ j d hj hd=>h (j+1) d Qa (by simpa using hd)) (by simp at hl;omega)
section
variable{H:Hp}{v:V}{ex:List Addr}
theorem Kd.view{k:Kd}(h:aE ex H k.d v):∃a wa ba,v= .ref a/\H a=some (.tup [.str k.nm,.ref wa,.ref ba])/\H wa=some (.tup (k.way.map V.int))/\H ba=some (.tup (k.bds.map V.int)):=by
 obtain⟨a,us,rfl,_,ha,v1,r1,rfl,h1,v2,r2,rfl,h2,v3,r3,rfl,h3,rfl⟩:=h
 obtain rfl:v1= .str k.nm:=h1
 obtain⟨wa,ws,rfl,_,hw,hws⟩:=h2
 obtain⟨ba,bs,rfl,_,hb,hbs⟩:=h3
 obtain rfl:=aJ.ints_of hws
 obtain rfl:=aJ.ints_of hbs
 exact⟨a,wa,ba,rfl,ha,hw,hb⟩
theorem Cd.view{c:Cd}(h:aE ex H c.d v):∃a,v= .ref a/\H a=some (.tup [.str c.nm,.str c.kd,.int c.pl,.bl c.bk]):=by
 obtain⟨a,us,rfl,_,ha,v1,r1,rfl,h1,v2,r2,rfl,h2,v3,r3,rfl,h3,v4,r4,rfl,h4,rfl⟩:=h
 obtain rfl:v1= .str c.nm:=h1
 obtain rfl:v2= .str c.kd:=h2
 obtain rfl:v3= .int c.pl:=h3
 obtain rfl:v4= .bl c.bk:=h4
 exact⟨a,rfl,ha⟩
theorem Wt.view{w:Wt}(h:aE ex H w.d v):∃a,v= .ref a/\H a=some (.tup [.str w.cd,.int w.ln,.str w.ot]):=by
 obtain⟨a,us,rfl,_,ha,v1,r1,rfl,h1,v2,r2,rfl,h2,v3,r3,rfl,h3,rfl⟩:=h
 obtain rfl:v1= .str w.cd:=h1
 obtain rfl:v2= .int w.ln:=h2
 obtain rfl:v3= .str w.ot:=h3
 exact⟨a,rfl,ha⟩
theorem Pl.view{p:Pl}(h:aE ex H p.d v):∃a la ka lv kv,v= .ref a/\H a=some (.tup [.ref la,.ref ka])/\H la=some (.tup lv)/\aJ ex H (p.ls.map qS) lv/\H ka=some (.tup kv)/\aJ ex H (p.ks.map Kd.d) kv/\lv.length=p.ls.length/\kv.length=p.ks.length:=by
 obtain⟨a,us,rfl,_,ha,v1,r1,rfl,h1,v2,r2,rfl,h2,rfl⟩:=h
 obtain⟨la,lv,rfl,_,hl,hlv⟩:=h1
 obtain⟨ka,kv,rfl,_,hk,hkv⟩:=h2
 have e1:=hlv.length
 have e2:=hkv.length
 rw[List.length_map]at e1 e2
 exact⟨a,la,ka,lv,kv,rfl,ha,hl,hlv,hk,hkv,e1,e2⟩
theorem Sd.view{s:Sd}(h:aE ex H s.d v):∃a ba ca wa cv wv,v= .ref a/\H a=some (.tup [.ref ba,.ref ca,.ref wa])/\H ba=some (.tup (s.bs.map V.int))/\H ca=some (.tup cv)/\aJ ex H (s.cs.map Cd.d) cv/\H wa=some (.tup wv)/\aJ ex H (s.ws.map Wt.d) wv/\cv.length=s.cs.length/\wv.length=s.ws.length:=by
 obtain⟨a,us,rfl,_,ha,v1,r1,rfl,h1,v2,r2,rfl,h2,v3,r3,rfl,h3,rfl⟩:=h
 obtain⟨ba,bv,rfl,_,hb,hbv⟩:=h1
 obtain⟨ca,cv,rfl,_,hc,hcv⟩:=h2
 obtain⟨wa,wv,rfl,_,hw,hwv⟩:=h3
 obtain rfl:=aJ.ints_of hbv
 have e1:=hcv.length
 have e2:=hwv.length
 rw[List.length_map]at e1 e2
 exact⟨a,ba,ca,wa,cv,wv,rfl,ha,hb,hc,hcv,hw,hwv,e1,e2⟩
theorem aJ.nth{α:Type}{f:α->PyData}{xs:List α}{vs:List V}{i:Nat}{y:V}(h:aJ ex H (xs.map f) vs)(hy:vs[i]? =some y):∃x,xs[i]? =some x/\aE ex H (f x) y:=by
 have hl:=h.length
 rw[List.length_map]at hl
 have hi:i<xs.length:=by have:=(List.getElem?_eq_some_iff.mp hy).1;omega
 obtain⟨y',hy',hd⟩:=h.get (i:=i) (d:=f xs[i]) (by rw[List.getElem?_map,List.getElem?_eq_getElem hi];rfl)
 rw[hy]at hy'
 cases hy'
 exact⟨xs[i],List.getElem?_eq_getElem hi,hd⟩
theorem aJ.nth'{α:Type}{f:α->PyData}{xs:List α}{vs:List V}{i:Nat}{x:α}(h:aJ ex H (xs.map f) vs)(hx:xs[i]? =some x):∃y,vs[i]? =some y/\aE ex H (f x) y:=
 h.get (by rw[List.getElem?_map,hx];rfl)
end
theorem fO{p:Pl}{x:Str}{k:Kd}(h:p.kd? x=some k):k∈p.ks/\k.nm=x:=by
 have h1:=List.find?_some h
 exact⟨List.mem_of_find?_eq_some h,by simpa using h1⟩
theorem Xl{s:Sd}{x:Str}{c:Cd}(h:s.cd? x=some c):c∈s.cs/\c.nm=x:=by
 have h1:=List.find?_some h
 exact⟨List.mem_of_find?_eq_some h,by simpa using h1⟩
theorem oQ(p:Pl)(k:Str):p.at k 0= -1:=by unfold Pl.at;rw[if_pos rfl]
theorem oR{p:Pl}{x:Str}{k:Kd}{j:Int}(h:p.kd? x=some k)(hj:(k.way.length:Int)<j):p.at x j=p.n:=by
 unfold Pl.at
 rw[if_neg Qa,h]
 show(if(k.way.length:Int)<j then p.n else _)=_
 rw[if_pos hj]
theorem rO{p:Pl}{x:Str}{k:Kd}{j:Int}(h:p.kd? x=some k)(h1:1<=j)(h2:j<=k.way.length):∃w,k.way[(j-1).toNat]? =some w/\p.at x j=w:=by
 have hi:(j-1).toNat<k.way.length:=by omega
 refine⟨k.way[(j-1).toNat],List.getElem?_eq_getElem hi,?_⟩
 unfold Pl.at
 rw[if_neg Qa,h]
 show(if(k.way.length:Int)<j then p.n else _)=_
 rw[if_neg Qa,List.getD_eq_getElem?_getD,List.getElem?_eq_getElem hi]
 rfl
def eP(C:Addr)(fs:List (Str×V))(H:Hp)(E:XK):Prop:=∀e d H',aG [] H H'->H' e=some (cA e C (some d))->H' d=some (.xd fs)->E (.ref e) (some d) H'
theorem eP.up{C:Addr}{fs:List (Str×V)}{H H':Hp}{E:XK}(h:eP C fs H E)(e:aG [] H H'):eP C fs H' E:=λ ex d H2 e2=>h ex d H2 (e.trans e2)
theorem eP.on{C:Addr}{fs:List (Str×V)}{H:Hp}{E:XK}(h:eP C fs H E):eP C fs H (λ v d H'=>∀e C',v= .ref e->H' e=some (cA e C' d)->E (.ref e) d H'):=λ ex d H2 e2 h1 h2 e' C' z h3=>by
 cases z
 exact h ex d H2 e2 h1 h2
end L2
namespace L2
open PySem PySem.Spec PyProof.Rows PySem.SeqAt
theorem Hr(l:Addr)(items:Array Value)(n:Nat)(dd:Option Addr)(sl:Array (Option Value))(x:Value)(e:Value->Bool)(j:Nat)(hj:j<items.size)(hit:e items[j]=true)(hno:∀m (hm:m<items.size),m<j->e items[m]=false):
  Meets (Builtin.«tuple.index» ⟨[.ref l,x],[]⟩)
   (λ A R s=>s.heap.get? l=some {cls:=.type "tuple",dict:=dd,data:=.seq items n,slots:=sl}/\(∀y,y∈items->EqAt A.in1 s y x (e y))/\R (.ok (.ret (.int (j:Nat) s.toks))) {s with toks:=s.toks+1}):=
 .of_wp λ prog w A R s h=>by
  obtain⟨hp,g,d,tk,os⟩:=s;obtain⟨hl,he,h⟩:=h
  unfold Builtin.«tuple.index»
  simp only[Std.Legacy.Range.forIn_eq_forIn_range',Std.Legacy.Range.size]
  wp_walk using AutoSeq1.wpAny_loadPart' hl,wpAny_forIn_list _ (λ rest (b:Option PySem.Fin×Unit) s'=>∃i,i<=j/\b.1=none/\rest=List.range' i (items.size-i)/\s'=⟨hp,g,d,tk,os⟩) _
  case turn=>
   rintro x1 rest b s' ⟨i,hi,hb,hr,rfl⟩
   rw[show items.size-i=(items.size-(i+1))+1 from Qa,List.range'_succ]at hr
   injection hr with h1 h2
   subst h1 h2
   have hx:x1<items.size:=by omega
   rw[Array.getElem?_eq_getElem hx]
   refine wpAny_bind (he _ (Array.getElem_mem hx) prog w _ _ ?_)
   by_cases hij:x1=j
   ·subst hij
    rw[hit]
    wp_walk
    exact⟨_,rfl,h⟩
   ·rw[hno x1 hx Qa]
    wp_walk
    exact⟨x1+1,Qa,rfl,rfl,rfl⟩
  case fin=>
   rintro b s' ⟨i,hi,hb,hr,rfl⟩
   have:=congrArg List.length hr
   rw[List.length_nil,List.length_range']at this
   omega
  case h=>exact⟨0,Nat.zero_le _,rfl,Qb,rfl⟩
theorem sO{xs:List V}{us:List Value}(r:aO xs us){j:Nat}(h:j<us.length):∃x,xs[j]? =some x/\bA x us[j]:=by
 have hl:=r.length
 have hj:j<xs.length:=by omega
 obtain⟨u,hu,ru⟩:=r.get (List.getElem?_eq_getElem hj)
 rw[List.getElem?_eq_getElem h]at hu
 exact⟨xs[j],List.getElem?_eq_getElem hj,Option.some.inj hu▸ru⟩
theorem rE{xs:List V}{us:List Value}{y x:V}(r:aO xs us)(f:xs.all eS=true){j:Nat}(h:j<us.length)(hx:xs[j]? =some x):fR y us[j]=dZ x y:=by
 obtain⟨x',hx',rx⟩:=sO r h
 rw[hx]at hx'
 cases hx'
 exact wO rx (List.all_eq_true.mp f x (List.mem_of_getElem? hx))
def Dv(y:V)(xs:List V)(j:Nat):Prop:=(∃x,xs[j]? =some x/\dZ x y=true)/\∀m x,m<j->xs[m]? =some x->dZ x y=false
def Au(K:PySem.W.Frag)(tup:Bool):V->List V->Hp->VK->Prop:=λ x vs H Q=>∃(a:Addr) (xs:List V) (y:V) (j:Nat),x= .ref a/\vs=[y]/\(if tup=true then aM K H a xs else aN K H a xs)/\eS y=true/\xs.all eS=true/\Dv y xs j/\Q (.int (j:Nat)) H
section
variable{X:Cx}
theorem Rw:gZ X "list.index" (Au X.K false):=by
 intro pins s σ H x vs v us Q I rx rv h
 obtain⟨a,ys,z,j,rfl,rfl,hq,fz,fs,⟨⟨x,hx,ex⟩,hb⟩,q⟩:=h
 cases rx
 obtain⟨u,rfl,ru⟩:=rv.one
 obtain⟨its,r,pl,hl⟩:=I.list (show aN X.K H a ys from hq)
 obtain⟨⟨cls,dd,data,sl⟩,ho,hc,n,hd⟩:=pl.isList
 simp only at hc hd
 subst hc hd
 have hlen:=r.length
 have hj:j<its.length:=by have:=(List.getElem?_eq_some_iff.mp hx).1;omega
 have l63:=kP
 refine call_meets PySem.F.slot_list_index ⟨_,ho,rfl⟩ PySem.F.entry_list_index (PySem.F.args_list_index_2 _ _) (SeqAt.list_indexAt a its.toArray n dd sl u (fR z) j (by rw[List.size_toArray];omega) Qa ?_ ?_) ⟨ho,λ y hy=>qQ ru fz r fs y (by simpa using hy),⟨.int _,H,I.tok _,⟨_,rfl⟩,q⟩⟩
 ·show fR z its[j]=true
  rw[rE r fs hj hx]
  exact ex
 ·intro m hm hlt
  have hm':m<its.length:=by simpa using hm
  show fR z its[m]=false
  obtain⟨x',hx',_⟩:=sO r hm'
  rw[rE r fs hm' hx']
  exact hb m x' hlt hx'
theorem Rx:gZ X "tuple.index" (Au X.K true):=by
 intro pins s σ H x vs v us Q I rx rv h
 obtain⟨a,ys,z,j,rfl,rfl,hq,fz,fs,⟨⟨x,hx,ex⟩,hb⟩,q⟩:=h
 cases rx
 obtain⟨u,rfl,ru⟩:=rv.one
 obtain⟨its,r,pl,hl⟩:=I.tuple (show aM X.K H a ys from hq)
 obtain⟨⟨cls,dd,data,sl⟩,ho,hc,n,hd⟩:=pl
 simp only at hc hd
 subst hc hd
 have hlen:=r.length
 have hj:j<its.length:=by have:=(List.getElem?_eq_some_iff.mp hx).1;omega
 refine call_meets PySem.F.slot_tuple_index ⟨_,ho,rfl⟩ PySem.F.entry_tuple_index (PySem.F.args_tuple_index_2 _ _) (Hr a its.toArray n dd sl u (fR z) j (by rw[List.size_toArray];omega) ?_ ?_) ⟨ho,λ y hy=>qQ ru fz r fs y (by simpa using hy),⟨.int _,H,I.tok _,⟨_,rfl⟩,q⟩⟩
 ·show fR z its[j]=true
  rw[rE r fs hj hx]
  exact ex
 ·intro m hm hlt
  have hm':m<its.length:=by simpa using hm
  show fR z its[m]=false
  obtain⟨x',hx',_⟩:=sO r hm'
  rw[rE r fs hm' hx']
  exact hb m x' hlt hx'
theorem Ek{y:V}:∀{xs:List V} {us:List Value},aO xs us->xs.all eS=true->us.countP (fR y)=xs.countP λ x=>dZ x y
 |_,_,.nil,_=>rfl
 |x::xs,u::us,.cons r t,f=>by
  rw[List.all_cons,Bool.and_eq_true]at f
  rw[List.countP_cons,List.countP_cons,wO r f.1,Ek t f.2]
def Mv(K:PySem.W.Frag):V->List V->Hp->VK->Prop:=λ x vs H Q=>∃(a:Addr) (xs:List V) (y:V),x= .ref a/\vs=[y]/\aN K H a xs/\eS y=true/\xs.all eS=true/\Q (.int ((xs.countP λ x=>dZ x y:Nat))) H
theorem Bq:gZ X "list.count" (Mv X.K):=by
 intro pins s σ H x vs v us Q I rx rv h
 obtain⟨a,ys,z,rfl,rfl,hq,fz,fs,q⟩:=h
 cases rx
 obtain⟨u,rfl,ru⟩:=rv.one
 obtain⟨its,r,pl,hl⟩:=I.list hq
 obtain⟨⟨cls,dd,data,sl⟩,ho,hc,n,hd⟩:=pl.isList
 simp only at hc hd
 subst hc hd
 refine call_meets PySem.F.slot_list_count ⟨_,ho,rfl⟩ PySem.F.entry_list_count (PySem.F.args_list_count_2 _ _) (SeqAt.list_countAt a its.toArray n dd sl u (fR z)) ⟨ho,λ y hy=>qQ ru fz r fs y (by simpa using hy),⟨.int _,H,I.tok _,⟨_,rfl⟩,?_⟩⟩
 have e:(its.toArray.toList.countP (fR z))=ys.countP λ x=>dZ x z:=Ek r fs
 rw[e]
 exact q
end
end L2
namespace L2
open PySem PySem.Spec PyProof.Rows
section
variable{X:Cx}
def Ki(r:V->List V->Hp->VK->Prop)(to:TE)(t:TA):TE:=λ σ H Q=>to σ H λ x H1=>(∃p xs,x= .ref p/\H1 p=some (.tup xs))/\t σ H1 λ xs H2=>r x xs H2 Q
variable{o e:Expr}{es:List Expr}{to:TE}{t:TA}{name:Str}{apos cpos:Pos}{id:String}{r:V->List V->Hp->VK->Prop}
theorem Oh(pa:PlainAttrs "tuple")(slot:Slot "tuple" name id)(hty:typeOf (.builtin id)=pure (.type "method_descriptor"))(hm:gZ X id r)(ho:PE X o to)(ha:PA X (e::es) t)
  (hbase:attributeBase o name X.env (eval o X.env)=eval o X.env:=by rfl)
  (hfew:((backTo cpos (starEach (e::es) X.env)).all (λ x=>!x.1)&&(backToKw cpos (keywordEach [] X.env)).all (λ x=>x.1.isSome)
   &&decide ((e::es).length+([]:List Keyword).length+(if([]:List Keyword).isEmpty then 0 else 1)<30))=true:=by rfl)
  (hline:(apos.endLine==cpos.line)=true:=by rfl) (hs:starEach (e::es) X.env=(false,eval e X.env)::starEach es X.env:=by rfl) (hplain:(backTo cpos (starEach es X.env)).any (·.1)=false:=by rfl):
  PE X (.Call (.Attribute o name apos) (e::es) [] cpos) (Ki r to t):=by
 intro pins s σ H Q I h
 refine wpAny_Call_method_late hbase hfew hline rfl (aP (ho pins s σ H _ I h) λ v s1 ⟨x,H1,I1,r1,⟨p,xs,ex,hp⟩,q1⟩=>?_)
 subst ex
 cases r1
 obtain⟨_,its,_,⟨o1,z1,z2,_⟩,o2,z3,z4⟩:=I1.hok p _ hp
 refine⟨"tuple",id,pa,slot,hty,⟨_,z1,z2⟩,(λ a e=>by cases e;exact⟨_,z3,z4⟩),?_⟩
 have hA:=ha cpos pins s1 σ H1 _ I1 q1
 rw[hs]at hA⊢
 refine Calls.callWith_builtin (by show(false||(backTo cpos (starEach es X.env)).any (·.1))=false;rw[hplain]<;>rfl) (Calls.evalArgs_plain ?_)
 exact aP hA λ us s2 ⟨vs,H2,I2,r2,q2⟩=>hm pins s2 σ H2 (.ref p) vs (.ref p) us Q I2 rfl r2 q2
end
abbrev az:Str:= "abcdefghijklmnopqrstuvwxyz"
def inL(x:Str):Bool:= !(Builtin.Str.occurrences az x 0 az.length 1).isEmpty
def uF(x:Str):List Str:=x.cps.toList.map λ c=>⟨#[c]⟩
def nm(x:Str):Bool:=if("out" :Str)==x||("yard" :Str)==x then false else decide ((1:Int)<=(x.length:Int))&&(decide ((x.length:Int)<=8)&&(uF x).all inL)
def jV:Sp:=λ vs H Q _=>∃(z:Zn) (m:Int),vs=[.ref z.p,.int m]/\Cz z H/\0<m/\m<1073741824/\∀(i:Int) (H':Hp),0<=i->i<m->aX z H H'->Q (.int i) H'
def uA(K:PySem.W.Frag):Sp:=λ vs H Q _=>∃(a:Addr) (ns:List Int) (k:Int),vs=[.ref a,.int k]/\aN K H a (ns.map V.int)/\ns.length<=63/\0<=k/\k<=1000/\∀(p:Addr) (n:Int),H p=none->Q (.ref p) (aD H p (.lst [.int n]))
def pT:Sp:=λ vs H Q _=>∃z:Zn,vs=[.ref z.p]/\Cz z H/\∀(i:Int) (H':Hp),1<=i->i<=99->aX z H H'->Q (.int i) H'
def nL:Sp:=λ vs H Q _=>∃(z:Zn) (m:Int),vs=[.ref z.p,.int m]/\0<=m/\m<=52/\Cz z H/\∀(ns:List Str) (v:V) (H':Hp),(ns.length:Int)=m->ns.Nodup->(∀x∈ns,nm x=true)->aX z H H'->aE z.ex H' (.list (ns.map .str)) v->Q v H'
theorem line{n:Nat}(h:n<=1000):n<=sizeLine:=Nat.le_trans h gM
theorem AQ{α:Type}{xs:List α}{i:Int}(h0:0<=i)(h1:i<(xs.length:Int)):∃v,gC xs i=some v/\v∈xs:=by
 have hk:i.toNat<xs.length:=by omega
 exact⟨xs[i.toNat],eY h0 (List.getElem?_eq_getElem hk),List.getElem_mem hk⟩
theorem wE{α:Type}{xs:List α}{i:Int}(h0:0<=i)(h1:i<(xs.length:Int)):∃v,xs[i.toNat]? =some v/\v∈xs:=by
 have hk:i.toNat<xs.length:=by omega
 exact⟨xs[i.toNat],List.getElem?_eq_getElem hk,List.getElem_mem hk⟩
def azl:List Nat:=List.range' 97 26
theorem AM:("abcdefghijklmnopqrstuvwxyz" :Str)=tx azl:=by decide+kernel
theorem AS:∀c∈(("abcdefghijklm" :Str)).cps.toList,97<=c/\c<=109:=by decide+kernel
theorem Ex:∀c∈azl,97<=c/\c<=122:=by decide+kernel
theorem AN:∀k,k<26->(azl.drop k++azl.take k).Nodup:=by decide+kernel
theorem Da:∀c∈azl,inL (tx [c])=true:=by decide+kernel
theorem Bv{c:Nat}(h:97<=c/\c<=122):c∈azl:=by
 unfold azl
 rw[List.mem_range']
 exact⟨c-97,Qa,Qa⟩
theorem Ag(l:List Nat):uF (tx l)=l.map λ c=>tx [c]:=by
 unfold uF tx
 simp
theorem uG(l:List Nat):jW (tx l)=l.map λ c=>V.str (tx [c]):=by
 unfold jW tx
 simp
theorem Bf:("out" :Str)=tx [111,117,116]:=by decide+kernel
theorem yP:("yard" :Str)=tx [121,97,114,100]:=by decide+kernel
theorem Rt{A B:List Nat}{c:Nat}(hl:A.length+B.length<=7)(ha:∀x∈A,97<=x/\x<=109)(hb:∀x∈B,97<=x/\x<=109)(hc:97<=c/\c<=122):nm (tx (A++c::B))=true:=by
 unfold nm
 have n1:¬tx [111,117,116]=tx (A++c::B):=λ h=>by
  have h:=lQ h
  match A,ha,h with
  |[],_,h=>
   injection h with _ h
   have:=hb 117 (by rw[<-h];simp)
   omega
  |a::_,ha,h=>
   injection h with h _
   have:=ha a Qb
   omega
 have n2:¬tx [121,97,114,100]=tx (A++c::B):=λ h=>by
  have h:=lQ h
  match A,ha,h with
  |[],_,h=>
   injection h with _ h
   have:=hb 114 (by rw[<-h];simp)
   omega
  |a::_,ha,h=>
   injection h with h _
   have:=ha a Qb
   omega
 rw[Bf,yP,if_neg (by simp[n1,n2])]
 have e:(tx (A++c::B)).length=A.length+(B.length+1):=by rw[fM,List.length_append,List.length_cons]
 rw[e,decide_eq_true Qa,decide_eq_true Qa,Bool.true_and,Bool.true_and,Ag,List.all_eq_true]
 intro s hs
 obtain⟨x,hx,rfl⟩:=List.mem_map.mp hs
 refine Da x (Bv ?_)
 rcases List.mem_append.mp hx with h|h
 ·have:=ha x h;omega
 ·rcases List.mem_cons.mp h with rfl|h
  ·exact hc
  ·have:=hb x h;omega
def cR(A B S:List Nat):List Str:=S.map λ c=>tx (A++c::B)
theorem Bp{A B S:List Nat}(h:S.Nodup):(cR A B S).Nodup:=by
 unfold cR List.Nodup
 rw[List.pairwise_map]
 refine List.Pairwise.imp (fun{a b} hne e=>hne ?_) h
 have e2:=List.append_cancel_left (lQ e)
 injection e2
theorem sQ:("z" :Str)=tx [122]:=by decide+kernel
theorem Rs{A B:List Nat}{c:Nat}(hl:A.length+B.length<=6)(ha:∀x∈A,97<=x/\x<=109)(hb:∀x∈B,97<=x/\x<=109)(hc:97<=c/\c<=122):nm (tx (A++c::B)++("z" :Str))=true:=by
 rw[sQ,hZ]
 unfold nm
 have last:∀l:List Nat,l.getLast?≠some 122->¬tx l=tx (A++c::B++[122]):=λ l h z=>h (by rw[lQ z,List.getLast?_append];rfl)
 rw[Bf,yP,if_neg (by rw[Bool.or_eq_true,beq_iff_eq,beq_iff_eq];exact not_or.mpr ⟨last [111,117,116] Qc,last [121,97,114,100] Qc⟩)]
 have e:(tx (A++c::B++[122])).length=A.length+(B.length+2):=by rw[fM,List.length_append,List.length_append,List.length_cons,List.length_singleton];omega
 rw[e,decide_eq_true Qa,decide_eq_true Qa,Bool.true_and,Bool.true_and,Ag,List.all_eq_true]
 intro s hs
 obtain⟨x,hx,rfl⟩:=List.mem_map.mp hs
 refine Da x (Bv ?_)
 rcases List.mem_append.mp hx with h|h
 ·rcases List.mem_append.mp h with h|h
  ·have:=ha x h;omega
  ·rcases List.mem_cons.mp h with rfl|h
   ·exact hc
   ·have:=hb x h;omega
 ·have:=List.mem_singleton.mp h;omega
theorem Rr{A B S:List Nat}(h:S.Nodup):(cR A B S++(cR A B S).map λ x=>x++("z" :Str)).Nodup:=by
 have n1:=Bp (A:=A) (B:=B) h
 rw[List.nodup_append]
 refine⟨n1,?_,λ a ha b hb=>?_⟩
 ·unfold List.Nodup
  rw[List.pairwise_map]
  unfold cR
  rw[List.pairwise_map]
  refine List.Pairwise.imp (fun{a b} hne e=>hne ?_) h
  rw[sQ,hZ,hZ]at e
  have e2:=List.append_cancel_left (List.append_cancel_right (lQ e))
  injection e2
 ·obtain⟨x,hx,rfl⟩:=List.mem_map.mp hb
  obtain⟨u,_,rfl⟩:=List.mem_map.mp ha
  obtain⟨w,_,rfl⟩:=List.mem_map.mp hx
  rw[sQ,hZ]
  intro e
  have:=congrArg List.length (lQ e)
  simp at this
theorem nG{X:Cx}:lE X (λ _ _ _ _ _=>False):=⟨λ _ _ _ _ _ _ _ _ _ h=>h.elim,λ _ _ _ _ _ _ _ _ _ _ h=>h.elim⟩
end L2
namespace L2
open PySem PySem.Spec PyProof.Rows PySem.W
theorem zU{a b:TS}{D:gG}{σ:L2.St}{H:Hp}(h:∀R:L2.St->Hp->Prop,(∀σ' H',b D σ' H'->R σ' H')->a {D with nx:=R} σ H):eH a b D σ H:=h _ λ _ _ z=>z
theorem oB{α:Type}{l:List α}(h:l.length=1):∃a,l=[a]:=by
 match l,h with
 |[a],_=>exact⟨a,rfl⟩
def mT(u:V):Prop:=∃x,Ds u=some x/\x.length<=1000
theorem uI{x:Str}(h:x.length<=1000):mT (.str x):=⟨x,if_pos h,h⟩
def gK(C:Addr)(fs:List Str):Sp:=λ vs H Q _=>∃(e:Addr) (us:List V),vs= .ref e::us/\us.length=fs.length/\(∀u∈us,mT u)/\H e=some (cH e C none)/\∀d,H d=none->Q .non (aD (aD H d (.xd (fs.zip us))) e (cH e C (some d)))
theorem fits{a b:Str}{n m:Nat}(ha:a.length<=n)(hb:b.length<=m):(a++b).length<=n+m:=by rw[strLen_append];omega
theorem Mb{K:Frag}{S:SK}{σ:St}{C:Addr}{fs:List Str}{us:List V}{H2:Hp}(hl:us.length=fs.length)(h3:us.length<=1000)(hf:∀u∈us,mT u)(hrs:fU K C=true)
  (hS:∀ex d H',aG [] H2 H'->H' ex=some (cA ex C (some d))->H' d=some (.xd (fs.zip us))->S σ ex C (some d) H'):
  us.length<=1000/\∀ex,H2 ex=none->gK C fs (.ref ex::us) (aD H2 ex (cH ex C none)) (λ v H3=>v= .non/\∃e' C' d',(.ref ex:V)= .ref e'/\H3 e'=some (cH e' C' d')/\fU K C'=true/\S σ e' C' d' (aD H3 e' (cA e' C' d'))) E0:=by
 refine⟨h3,λ ex hex=>⟨ex,us,rfl,hl,hf,aR,λ d hd=>⟨rfl,ex,C,some d,rfl,aR,hrs,?_⟩⟩⟩
 have hne:d≠ex:=λ z=>by rw[z,aR]at hd;cases hd
 have hd2:H2 d=none:=by rw[aU hne]at hd;exact hd
 rw[sP]
 have hu:aD (aD (aD H2 ex (cH ex C none)) d (.xd (fs.zip us))) ex (cA ex C (some d))=aD (aD H2 d (.xd (fs.zip us))) ex (cA ex C (some d)):=by
  funext c
  by_cases h1:c=ex
  ·rw[h1,aR,aR]
  ·rw[aU h1,aU h1]
   by_cases h2:c=d
   ·rw[h2,aR,aR]
   ·rw[aU h2,aU h2,aU h1]
 rw[hu]
 exact hS ex d _ ((aG.new hd2 _).trans (aG.new (by rw[aU (Ne.symm hne)];exact hex) _)) aR (by rw[aU hne,aR])
theorem vB{K:Frag}{E:XK}{C:Addr}(fs:List Str)(us:List V){H H2:Hp}(q:eP C (fs.zip us) H E)(e:aG [] H H2)(hf:∀u∈us,mT u)(hrs:fU K C=true)(hl:us.length=fs.length:=by rfl)(hfs:fs.length<=1000:=by decide):
  us.length<=1000/\∀ex,H2 ex=none->gK C fs (.ref ex::us) (aD H2 ex (cH ex C none)) (λ v H3=>v= .non/\∃e' C' d',(.ref ex:V)= .ref e'/\H3 e'=some (cH e' C' d')/\fU K C'=true/\E (.ref e') d' (aD H3 e' (cA e' C' d'))) E0:=
 Mb (σ:=[]) (S:=λ _ e _ d H=>E (.ref e) d H) hl (hl▸hfs) hf hrs λ ex d H' e' h1 h2=>q ex d H' (e.trans e') h1 h2
theorem uJ{a:V}(ha:mT a):∀u∈[a],mT u:=λ u hu=>by rw[List.mem_singleton.mp hu];exact ha
end L2
namespace K14
open PySem PySem.Spec L2 PyProof.Rows PySem.W
def top(i:Nat):Stmt:=PySem.Challenge.pw_cardlanes_k14_without_waits.main.body.getD i (.Pass ⟨0,0,0,0⟩)
abbrev Ao:Stmt:=wD (top 2) 0
theorem Pw{P:Program}{w:World}{K:PySem.W.Frag}{mg:Str->Option Value}{base:Heap}{C f cc cda:Addr}{fd:FuncData}(F:rW P K mg "NoCard.__init__" Ao C f cc cda fd)(ha1:dO K C "card" =true):bE P w K mg base bP 2 f fd ["self","card"] (gK C ["card"]):=by
 obtain⟨oc,od,kV,doc,pm,an,ct,osl,rfl,lk⟩:=F.fn
 obtain⟨ccl,cdd,vs,ccs,x,tf,lcode,hvs,hfile⟩:=F.file
 obtain⟨cl,cld,csl,lc⟩:=F.cell
 refine wC lk F.code lc ⟨rfl,rfl,rfl,Qd,Qd,Qd,Qd⟩ (λ vs H Q E ⟨e,us,h,hl,_⟩=>by rw[h,List.length_cons,hl];rfl) λ A outer s s1 H vs Q E hr h I=>?_
 obtain⟨e,us,rfl,hl,hu,he,q⟩:=h
 obtain⟨v1,rfl⟩:=oB hl
 obtain⟨y1,h1,l1⟩:=hu v1 Qb
 refine PySem.ks_wpAt_execs_cons (PySem.ks_wpAt_mono (sY (D:={nx:=λ σ' H'=>σ'=[some (.ref e),some v1]/\H'=H,rt:=λ _ _=>False}) lk rfl rfl lcode hvs hfile lc F.sup F.top rfl rfl rfl F.all (aA (vI (kF cQ (kF (vJ (pv 1)) vF))) aI) I rfl he ?q rfl rfl rfl) (λ fl s2 hs=>?_) (λ _ _ (z:False)=>z.elim))
 case q=>exact⟨_,rfl,Nat.le_trans (fits (show Str.empty.length<=0 from Qd) (show _<=100 from Qd)) Qc,v1,rfl,y1,h1,_,rfl,Nat.le_trans (fits (fits (show Str.empty.length<=0 from Qd) (show _<=100 from Qd)) l1) Qc,Nat.le_trans (fits (fits (show Str.empty.length<=0 from Qd) (show _<=100 from Qd)) l1) Qc,rfl,he,rfl,rfl⟩
 cases fl with
 |ret u=>obtain⟨_,_,_,_,_,z⟩:=hs;exact z.elim
 |brk=>obtain⟨_,_,_,z⟩:=hs;exact z.elim
 |cont=>obtain⟨_,_,_,z⟩:=hs;exact z.elim
 |next=>
  obtain⟨σ2,H2,I2,rfl,rfl⟩:=hs
  refine PySem.wpAt_of_wpAny (aP ((aY (vC (pv 0) (pv 1))) [] s2 _ _ _ I2 ?_) λ _ _ z=>z)
  exact⟨v1,rfl,_,rfl,e,C,rfl,ha1,.inl ⟨he,λ d hd=>q d hd⟩⟩
abbrev An:Stmt:=wD (top 3) 0
theorem Pu{P:Program}{w:World}{K:PySem.W.Frag}{mg:Str->Option Value}{base:Heap}{C f cc cda:Addr}{fd:FuncData}(F:rW P K mg "NoKind.__init__" An C f cc cda fd)(ha1:dO K C "kind" =true):bE P w K mg base bP 2 f fd ["self","kind"] (gK C ["kind"]):=by
 obtain⟨oc,od,kV,doc,pm,an,ct,osl,rfl,lk⟩:=F.fn
 obtain⟨ccl,cdd,vs,ccs,x,tf,lcode,hvs,hfile⟩:=F.file
 obtain⟨cl,cld,csl,lc⟩:=F.cell
 refine wC lk F.code lc ⟨rfl,rfl,rfl,Qd,Qd,Qd,Qd⟩ (λ vs H Q E ⟨e,us,h,hl,_⟩=>by rw[h,List.length_cons,hl];rfl) λ A outer s s1 H vs Q E hr h I=>?_
 obtain⟨e,us,rfl,hl,hu,he,q⟩:=h
 obtain⟨v1,rfl⟩:=oB hl
 obtain⟨y1,h1,l1⟩:=hu v1 Qb
 refine PySem.ks_wpAt_execs_cons (PySem.ks_wpAt_mono (sY (D:={nx:=λ σ' H'=>σ'=[some (.ref e),some v1]/\H'=H,rt:=λ _ _=>False}) lk rfl rfl lcode hvs hfile lc F.sup F.top rfl rfl rfl F.all (aA (vI (kF cQ (kF (vJ (pv 1)) vF))) aI) I rfl he ?q rfl rfl rfl) (λ fl s2 hs=>?_) (λ _ _ (z:False)=>z.elim))
 case q=>exact⟨_,rfl,Nat.le_trans (fits (show Str.empty.length<=0 from Qd) (show _<=100 from Qd)) Qc,v1,rfl,y1,h1,_,rfl,Nat.le_trans (fits (fits (show Str.empty.length<=0 from Qd) (show _<=100 from Qd)) l1) Qc,Nat.le_trans (fits (fits (show Str.empty.length<=0 from Qd) (show _<=100 from Qd)) l1) Qc,rfl,he,rfl,rfl⟩
 cases fl with
 |ret u=>obtain⟨_,_,_,_,_,z⟩:=hs;exact z.elim
 |brk=>obtain⟨_,_,_,z⟩:=hs;exact z.elim
 |cont=>obtain⟨_,_,_,z⟩:=hs;exact z.elim
 |next=>
  obtain⟨σ2,H2,I2,rfl,rfl⟩:=hs
  refine PySem.wpAt_of_wpAny (aP ((aY (vC (pv 0) (pv 1))) [] s2 _ _ _ I2 ?_) λ _ _ z=>z)
  exact⟨v1,rfl,_,rfl,e,C,rfl,ha1,.inl ⟨he,λ d hd=>q d hd⟩⟩
abbrev Am:Stmt:=wD (top 5) 0
theorem Pt{P:Program}{w:World}{K:PySem.W.Frag}{mg:Str->Option Value}{base:Heap}{C f cc cda:Addr}{fd:FuncData}(F:rW P K mg "NoWait.__init__" Am C f cc cda fd)(ha1:dO K C "card" =true):bE P w K mg base bP 2 f fd ["self","card"] (gK C ["card"]):=by
 obtain⟨oc,od,kV,doc,pm,an,ct,osl,rfl,lk⟩:=F.fn
 obtain⟨ccl,cdd,vs,ccs,x,tf,lcode,hvs,hfile⟩:=F.file
 obtain⟨cl,cld,csl,lc⟩:=F.cell
 refine wC lk F.code lc ⟨rfl,rfl,rfl,Qd,Qd,Qd,Qd⟩ (λ vs H Q E ⟨e,us,h,hl,_⟩=>by rw[h,List.length_cons,hl];rfl) λ A outer s s1 H vs Q E hr h I=>?_
 obtain⟨e,us,rfl,hl,hu,he,q⟩:=h
 obtain⟨v1,rfl⟩:=oB hl
 obtain⟨y1,h1,l1⟩:=hu v1 Qb
 refine PySem.ks_wpAt_execs_cons (PySem.ks_wpAt_mono (sY (D:={nx:=λ σ' H'=>σ'=[some (.ref e),some v1]/\H'=H,rt:=λ _ _=>False}) lk rfl rfl lcode hvs hfile lc F.sup F.top rfl rfl rfl F.all (aA (vI (kF cQ (kF (vJ (pv 1)) (kF cQ vF)))) aI) I rfl he ?q rfl rfl rfl) (λ fl s2 hs=>?_) (λ _ _ (z:False)=>z.elim))
 case q=>exact⟨_,rfl,Nat.le_trans (fits (show Str.empty.length<=0 from Qd) (show _<=100 from Qd)) Qc,v1,rfl,y1,h1,_,rfl,Nat.le_trans (fits (fits (show Str.empty.length<=0 from Qd) (show _<=100 from Qd)) l1) Qc,_,rfl,Nat.le_trans (fits (fits (fits (show Str.empty.length<=0 from Qd) (show _<=100 from Qd)) l1) (show _<=100 from Qd)) Qc,Nat.le_trans (fits (fits (fits (show Str.empty.length<=0 from Qd) (show _<=100 from Qd)) l1) (show _<=100 from Qd)) Qc,rfl,he,rfl,rfl⟩
 cases fl with
 |ret u=>obtain⟨_,_,_,_,_,z⟩:=hs;exact z.elim
 |brk=>obtain⟨_,_,_,z⟩:=hs;exact z.elim
 |cont=>obtain⟨_,_,_,z⟩:=hs;exact z.elim
 |next=>
  obtain⟨σ2,H2,I2,rfl,rfl⟩:=hs
  refine PySem.wpAt_of_wpAny (aP ((aY (vC (pv 0) (pv 1))) [] s2 _ _ _ I2 ?_) λ _ _ z=>z)
  exact⟨v1,rfl,_,rfl,e,C,rfl,ha1,.inl ⟨he,λ d hd=>q d hd⟩⟩
def tY(CK:Addr):Sp:=λ vs H Q E=>∃(p:Pl) (v:V) (x:Str),vs=[v,.str x]/\aE [] H p.d v/\x.length<=1000/\
 (∀k u H',p.kd? x=some k->aG [] H H'->aE [] H' k.d u->Q u H')/\(p.kd? x=none->eP CK [("kind",.str x)] H E)
def tF(CK:Addr):Sp:=λ vs H Q E=>∃(p:Pl) (v:V) (x:Str),vs=[v,.str x]/\aE [] H p.d v/\x.length<=1000/\
 (∀k a H',p.kd? x=some k->aG [] H H'->H' a=some (.tup (k.way.map V.int))->Q (.ref a) H')/\(p.kd? x=none->eP CK [("kind",.str x)] H E)
def tT:Sp:=λ vs H Q _=>∃(p:Pl) (v:V) (x:Str) (j:Int) (k:Kd),vs=[v,.str x,.int j]/\aE [] H p.d v/\x.length<=1000/\p.kd? x=some k/\0<=j/\∀H',aG [] H H'->Q (.int (p.at x j)) H'
def nO(CC:Addr):Sp:=λ vs H Q E=>∃(s:Sd) (v:V) (x:Str),vs=[v,.str x]/\aE [] H s.d v/\x.length<=1000/\
 (∀c u H',s.cd? x=some c->aG [] H H'->aE [] H' c.d u->Q u H')/\(s.cd? x=none->eP CC [("card",.str x)] H E)
def pS(CC:Addr):Sp:=λ vs H Q E=>∃(p:Pl) (s:Sd) (v u:V) (x:Str),vs=[v,u,.str x]/\aE [] H p.d v/\aE [] H s.d u/\x.length<=1000/\jN p/\mU p s/\
 (∀c H',s.cd? x=some c->aG [] H H'->Q (.int (p.lane c)) H')/\(s.cd? x=none->eP CC [("card",.str x)] H E)
def tN(CC:Addr):Sp:=λ vs H Q E=>∃(p:Pl) (s:Sd) (v u:V) (x:Str),vs=[v,u,.str x]/\aE [] H p.d v/\aE [] H s.d u/\x.length<=1000/\jN p/\mU p s/\
 (∀c H',s.cd? x=some c->aG [] H H'->Q (.bl (decide (p.lane c=p.n))) H')/\(s.cd? x=none->eP CC [("card",.str x)] H E)
theorem jQ.kd{p:Pl}{c:Cd}(P:jN p)(h:jQ p c):c.kd.length<=1000:=by
 obtain⟨_,k,hk,_⟩:=h
 obtain⟨h1,h2⟩:=fO hk
 rw[<-h2]
 exact(P.kw k h1).2.2.1
structure rR(K:PySem.W.Frag)(mg:Str->Option Value):Prop where
 b_len:mg "len" =none
 g_YARD:∃u,mg "YARD" =some u/\bA (.int (-1)) u
section
variable{P:Program}{w:World}{K:PySem.W.Frag}{mg:Str->Option Value}{base:Heap}{CK CC:Addr}
abbrev uP:Stmt:=top 10
theorem sc_kind_of:bW ["plan","kind","told"] ["plan","kind"] (aW uP):=⟨rfl,rfl,rfl,Qd,rfl,Qd,Qd⟩
theorem Pr{f:Addr}{fd:FuncData}(F:bR K "kind_of" "kind_of" uP f fd)(xP:oY P w K mg base "NoKind" CK 2 ["self","kind"] (gK CK ["kind"]))(hrs:fU K CK=true):bE P w K mg base (fD P w) 4 f fd ["plan","kind"] (tY CK):=by
 refine F.okX sc_kind_of (λ vs H Q E h=>?_) (λ cdv A outer s H vs Q E hr h=>?_)
 ·obtain⟨p,v,x,rfl,_⟩:=h
  rfl
 obtain⟨p,v,x,rfl,hd,hx,q1,q2⟩:=h
 refine'⟨_,?hh,?rr⟩
 case hh=>exists aT ?_ ?_,PS.nox ?_,fW PassesOwn.never rfl ?_ ?_ ?_,gN ?_,aV bK (pv 0) aL (λ _ _=>rfl),bL sc_kind_of.nd (aQ 2) (Or.inl rfl) (Or.inl rfl),aY ?_,cG ?_ ?_ cF,bY eI ?_ (pv 1) (bO _),aV bK (pv 2) aL (λ _ _=>rfl),aY ?_,bI (pv 2),aY ?_,vD iT ?_,vH xP hr ?_ rfl ?_,aA (pv 1) aI,Qc
 obtain⟨a,la,ka,lv,kv,rfl,ha,hla,hls,hka,hks,el,ek⟩:=Pl.view hd
 refine⟨_,rfl,a,_,_,_,rfl,rfl,aM.of ha,rfl,ka,rfl,⟨kv,aM.of hka⟩,qZ (xs:=kv) (λ i σ H2=>∃(nn:Option V),σ=[some (V.ref a),some (V.str x),nn]/\aG [] H H2/\∀j k,j<i->p.ks[j]? =some k->(k.nm==x)=false) ⟨none,rfl,aG.refl,λ j d hj=>absurd hj (Nat.not_lt_zero j)⟩ (λ i σ H2 _ ⟨_,_,e,_⟩=>aM.of (e.tup Qb hka)) ?_ ?_⟩
 ·rintro i y σ H2 hy ⟨nn,rfl,e,hw⟩
  obtain⟨k,hk,hdy⟩:=hks.nth hy
  have hdy2:=aE.ext e hdy
  obtain⟨c,wa,ba,rfl,hc,_,_⟩:=Kd.view hdy2
  refine⟨_,rfl,c,_,_,.str k.nm,rfl,rfl,aM.of hc,xB (j:=0) rfl,_,rfl,rfl,_,rfl,?_⟩
  refine bU (λ cc=>?_) (λ cc=>?_)
  ·have cc':(k.nm==x)=true:=by simpa using cc
   exact⟨_,rfl,q1 k _ _ (wM p.ks i k hw hk cc') e hdy2⟩
  ·refine⟨_,rfl,e,λ j k' hj hk'=>?_⟩
   by_cases hji:j=i
   ·subst hji
    rw[hk]at hk'
    cases hk'
    simpa using cc
   ·exact hw j k' Qa hk'
 ·rintro σ H2 ⟨nn,rfl,e,hw⟩
  have hnone:=wL p.ks _ hw Qa
  exact⟨_,rfl,vB ["kind"] [.str x] (q2 hnone) e (uJ (uI hx)) hrs⟩
abbrev uL:Stmt:=top 9
theorem Lm:bW ["plan","kind"] ["plan","kind"] (aW uL):=⟨rfl,rfl,rfl,Qd,rfl,Qd,Qd⟩
theorem Ow{f:Addr}{fd:FuncData}(F:bR K "way_of" "way_of" uL f fd)(xZ:dQ P w K mg base "kind_of" 4 ["plan","kind"] (tY CK)):bE P w K mg base (fD P w) 5 f fd ["plan","kind"] (tF CK):=by
 refine F.okX Lm (λ vs H Q E h=>?_) (λ cdv A outer s H vs Q E hr h=>?_)
 ·obtain⟨p,v,x,rfl,_⟩:=h
  rfl
 obtain⟨p,v,x,rfl,hd,hx,q1,q2⟩:=h
 refine'⟨_,?hh,?rr⟩
 case hh=>exists aY ?_,bI ?_,aV bK ?_ aL (λ _ _=>rfl),fY iT xZ hr ?_ rfl ?_,aA (pv 0) ?_,aA (pv 1) aI,Qc
 refine⟨_,rfl,_,rfl,p,v,x,rfl,hd,hx,λ k u H' hk e hu=>?_,λ hn=>(q2 hn).on⟩
 obtain⟨c,wa,ba,rfl,hc,hwa,_⟩:=Kd.view hu
 exact⟨c,_,_,_,rfl,rfl,aM.of hc,rfl,q1 k wa H' hk e hwa⟩
abbrev uO:Stmt:=top 16
theorem sc_lane_at:bW ["plan","kind","place","way"] ["plan","kind","place"] (aW uO):=⟨rfl,rfl,rfl,Qd,rfl,Qd,Qd⟩
theorem Pq{f:Addr}{fd:FuncData}(F:bR K "lane_at" "lane_at" uO f fd)(T:rR K mg)(xW:dQ P w K mg base "way_of" 5 ["plan","kind"] (tF CK)):bE P w K mg base bP 6 f fd ["plan","kind","place"] tT:=by
 refine F.ok sc_lane_at (λ vs H Q E h=>?_) (λ cdv A outer s H vs Q E hr h=>?_)
 ·obtain⟨p,v,x,j,k,rfl,_⟩:=h
  rfl
 obtain⟨p,v,x,j,k,rfl,hd,hx,hk,hj,q⟩:=h
 refine'⟨_,?hh,?rr⟩
 case hh=>exists aT ?_ ?_,cG ?_ ?_ cF,bY eI (pv 2) aL (bO _),aY ?_,bI (kK T.g_YARD),aT ?_ ?_,bH sc_lane_at.nd (aQ 3) (Or.inl rfl) ?_,fY nG xW hr ?_ rfl ?_,aA (pv 0) ?_,aA (pv 1) aI,Qc,aT ?_ ?_,cG ?_ ?_ cF,bY Bi (pv 2) ?_ (bO _),bG cU rfl T.b_len PySem.boot_len ?_,aA (pv 3) aI,aY ?_,bI ?_,bG cU rfl T.b_len PySem.boot_len ?_,aA ?_ aI,aV bK (pv 0) aL (λ _ _=>rfl),aY ?_,bI ?_,aV bK (pv 3) ?_ (λ _ _=>rfl),bJ Bg (pv 2) aL
 refine⟨_,rfl,rfl,_,rfl,?_⟩
 refine bU (λ cc=>?_) (λ cc=>?_)
 ·have:j=0:=by simpa using cc
  subst this
  have q':=q H aG.refl
  rw[oQ]at q'
  exact q'
 have hj0:j≠0:=by simpa using cc
 refine⟨_,rfl,_,rfl,p,v,x,rfl,hd,hx,λ k' a H1 hk' e1 ha=>?_,λ hn=>by rw[hk]at hn;cases hn⟩
 rw[hk]at hk'
 cases hk'
 refine⟨_,rfl,_,rfl,a,_,rfl,.inr (aM.of ha),_,_,rfl,rfl,_,rfl,?_⟩
 rw[List.length_map]
 refine bU (λ cc=>?_) (λ cc=>?_)
 ·have hlt:(k.way.length:Int)<j:=by simpa using cc
  obtain⟨b,la,ka,lv,kv,rfl,hb,hla,hls,hka,hks,el,ek⟩:=Pl.view (aE.ext e1 hd)
  refine⟨_,rfl,b,_,_,_,rfl,rfl,aM.of hb,rfl,la,lv,rfl,.inr (aM.of hla),?_⟩
  have q':=q H1 e1
  rw[oR hk hlt]at q'
  rw[el]
  exact q'
 ·have hle:j<=(k.way.length:Int):=by
   have:¬(k.way.length:Int)<j:=by simpa using cc
   omega
  obtain⟨l,hl,el⟩:=rO hk Qa hle
  refine⟨_,rfl,_,rfl,_,_,rfl,rfl,a,_,_,.int l,rfl,rfl,aM.of ha,eY Qa (by rw[List.getElem?_map,hl];rfl),?_⟩
  have q':=q H1 e1
  rw[el]at q'
  exact q'
abbrev uS:Stmt:=top 14
theorem sc_card_of:bW ["stand","card","told"] ["stand","card"] (aW uS):=⟨rfl,rfl,rfl,Qd,rfl,Qd,Qd⟩
theorem Pz{f:Addr}{fd:FuncData}(F:bR K "card_of" "card_of" uS f fd)(xQ:oY P w K mg base "NoCard" CC 2 ["self","card"] (gK CC ["card"]))(hrs:fU K CC=true):bE P w K mg base (fD P w) 4 f fd ["stand","card"] (nO CC):=by
 refine F.okX sc_card_of (λ vs H Q E h=>?_) (λ cdv A outer s H vs Q E hr h=>?_)
 ·obtain⟨p,v,x,rfl,_⟩:=h
  rfl
 obtain⟨sd,v,x,rfl,hd,hx,q1,q2⟩:=h
 refine'⟨_,?hh,?rr⟩
 case hh=>exists aT ?_ ?_,PS.nox ?_,fW PassesOwn.never rfl ?_ ?_ ?_,gN ?_,aV bK (pv 0) aL (λ _ _=>rfl),bL sc_card_of.nd (aQ 2) (Or.inl rfl) (Or.inl rfl),aY ?_,cG ?_ ?_ cF,bY eI ?_ (pv 1) (bO _),aV bK (pv 2) aL (λ _ _=>rfl),aY ?_,bI (pv 2),aY ?_,vD iT ?_,vH xQ hr ?_ rfl ?_,aA (pv 1) aI,Qc
 obtain⟨a,ba,ca,wa,cv,wv,rfl,ha,hba,hca,hcs,hwa,hws,ec,ew⟩:=Sd.view hd
 refine⟨_,rfl,a,_,_,_,rfl,rfl,aM.of ha,rfl,ca,rfl,⟨cv,aM.of hca⟩,qZ (xs:=cv) (λ i σ H2=>∃(nn:Option V),σ=[some (V.ref a),some (V.str x),nn]/\aG [] H H2/\∀j k,j<i->sd.cs[j]? =some k->(k.nm==x)=false) ⟨none,rfl,aG.refl,λ j d hj=>absurd hj (Nat.not_lt_zero j)⟩ (λ i σ H2 _ ⟨_,_,e,_⟩=>aM.of (e.tup Qb hca)) ?_ ?_⟩
 ·rintro i y σ H2 hy ⟨nn,rfl,e,hw⟩
  obtain⟨k,hk,hdy⟩:=hcs.nth hy
  have hdy2:=aE.ext e hdy
  obtain⟨c,rfl,hc⟩:=Cd.view hdy2
  refine⟨_,rfl,c,_,_,.str k.nm,rfl,rfl,aM.of hc,xB (j:=0) rfl,_,rfl,rfl,_,rfl,?_⟩
  refine bU (λ cc=>?_) (λ cc=>?_)
  ·have cc':(k.nm==x)=true:=by simpa using cc
   exact⟨_,rfl,q1 k _ _ (wM sd.cs i k hw hk cc') e hdy2⟩
  ·refine⟨_,rfl,e,λ j k' hj hk'=>?_⟩
   by_cases hji:j=i
   ·subst hji
    rw[hk]at hk'
    cases hk'
    simpa using cc
   ·exact hw j k' Qa hk'
 ·rintro σ H2 ⟨nn,rfl,e,hw⟩
  have hnone:=wL sd.cs _ hw Qa
  exact⟨_,rfl,vB ["card"] [.str x] (q2 hnone) e (uJ (uI hx)) hrs⟩
abbrev uN:Stmt:=top 15
theorem sc_lane_of:bW ["plan","stand","card","name","kind","place","blocked"] ["plan","stand","card"] (aW uN):=⟨rfl,rfl,rfl,Qd,rfl,Qd,Qd⟩
theorem Pp{f:Addr}{fd:FuncData}(F:bR K "lane_of" "lane_of" uN f fd)(gH:dQ P w K mg base "card_of" 4 ["stand","card"] (nO CC))(xY:bF P w K mg base "lane_at" 6 ["plan","kind","place"] tT):bE P w K mg base (fD P w) 7 f fd ["plan","stand","card"] (pS CC):=by
 refine F.okX sc_lane_of (λ vs H Q E h=>?_) (λ cdv A outer s H vs Q E hr h=>?_)
 ·obtain⟨p,sd,v,u,x,rfl,_⟩:=h
  rfl
 obtain⟨p,sd,v,u,x,rfl,hp,hs,hx,Po,So,q1,q2⟩:=h
 refine'⟨_,?hh,?rr⟩
 case hh=>exists aT ?_ ?_,lY ?_ ?_,fY iT gH hr ?_ rfl ?_,aA (pv 1) ?_,aA (pv 2) aI,Qc,mB rfl ?_,dL ?_ ?_,bL sc_lane_of.nd (aQ 3) (Or.inl rfl) (Or.inl rfl),dL ?_ ?_,bL sc_lane_of.nd (aQ 4) (Or.inl rfl) (Or.inl rfl),dL ?_ ?_,bL sc_lane_of.nd (aQ 5) (Or.inl rfl) (Or.inl rfl),dL ?_ lZ,bL sc_lane_of.nd (aQ 6) (Or.inl rfl) (Or.inl rfl),aY ?_,bI ?_,bD xY hr ?_ rfl ?_,aA (pv 0) ?_,aA (pv 4) ?_,aA (pv 5) aI,Qc
 refine⟨_,rfl,_,rfl,sd,u,x,rfl,hs,hx,λ c cu H1 hc e1 hcu=>?_,λ hn=>(q2 hn).on⟩
 obtain⟨a,rfl,ha⟩:=Cd.view hcu
 have Co:=So.c c (Xl hc).1
 obtain⟨_,k,hk,p0,p1⟩:=id Co
 refine⟨_,_,rfl,aM.of ha,rfl,_,_,rfl,_,_,rfl,_,_,rfl,_,_,rfl,rfl,?_⟩
 exact⟨_,rfl,_,rfl,_,rfl,p,v,c.kd,c.pl,k,rfl,aE.ext e1 hp,jQ.kd Po Co,hk,p0,λ H2 e2=>q1 c H2 hc (e1.trans e2)⟩
abbrev uQ:Stmt:=top 17
theorem Lo:bW ["plan","stand","card"] ["plan","stand","card"] (aW uQ):=⟨rfl,rfl,rfl,Qd,rfl,Qd,Qd⟩
theorem Ps{f:Addr}{fd:FuncData}(F:bR K "is_out" "is_out" uQ f fd)(T:rR K mg)(nA:dQ P w K mg base "lane_of" 7 ["plan","stand","card"] (pS CC)):bE P w K mg base (fD P w) 8 f fd ["plan","stand","card"] (tN CC):=by
 refine F.okX Lo (λ vs H Q E h=>?_) (λ cdv A outer s H vs Q E hr h=>?_)
 ·obtain⟨p,sd,v,u,x,rfl,_⟩:=h
  rfl
 obtain⟨p,sd,v,u,x,rfl,hp,hs,hx,Po,So,q1,q2⟩:=h
 refine'⟨_,?hh,?rr⟩
 case hh=>exists aY ?_,bI ?_,iF eI ?_ ?_ (bO _),fY iT nA hr ?_ rfl ?_,aA (pv 0) ?_,aA (pv 1) ?_,aA (pv 2) aI,Qc,bG cU rfl T.b_len PySem.boot_len ?_,aA ?_ aI,aV bK (pv 0) aL (λ _ _=>rfl)
 refine⟨_,rfl,_,rfl,_,rfl,p,sd,v,u,x,rfl,hp,hs,hx,Po,So,λ c H1 hc e1=>?_,λ hn=>(q2 hn).on⟩
 obtain⟨b,la,ka,lv,kv,rfl,hb,hla,hls,hka,hks,el,ek⟩:=Pl.view (aE.ext e1 hp)
 refine⟨_,rfl,b,_,_,_,rfl,rfl,aM.of hb,rfl,la,lv,rfl,.inr (aM.of hla),rfl,?_⟩
 have q':=q1 c H1 hc e1
 rw[el]
 have e:decide (V.int (p.lane c)=V.int ((p.ls.length:Nat):Int))=decide (p.lane c=p.n):=by
  unfold Pl.n
  simp
 rw[e]
 exact q'
end
section
variable{P:Program}{w:World}{K:PySem.W.Frag}{mg:Str->Option Value}{base:Heap}{CK CC:Addr}
theorem Hx{α:Type}{xs:List α}{i:Nat}{x:α}(h:xs[i]? =some x):xs.take (i+1)=xs.take i++[x]:=by
 rw[List.take_add_one,h];rfl
end
end K14
namespace L2
open PySem PySem.Spec PyProof.Rows PySem.W
inductive rT where
 |noCard
 |out
 |blocked
 |waits (o:Str)
 |full (l:Str) (b:Int)
 |kindFull (l k:Str) (b:Int)
 |inYard
structure Fc where
 NC:Addr
 Ou:Addr
 Bl:Addr
 Wa:Addr
 Fu:Addr
 KF:Addr
 IY:Addr
def rT.cls(c:Fc):rT->Addr
 |.noCard=>c.NC
 |.out=>c.Ou
 |.blocked=>c.Bl
 |.waits _=>c.Wa
 |.full _ _=>c.Fu
 |.kindFull _ _ _=>c.KF
 |.inYard=>c.IY
def rT.fs(x:Str):rT->List (Str×V)
 |.waits o=>[("card",.str x),("other",.str o)]
 |.full l b=>[("lane",.str l),("bound",.int b)]
 |.kindFull l k b=>[("lane",.str l),("kind",.str k),("bound",.int b)]
 |_=>[("card",.str x)]
def Sd.out(s:Sd)(p:Pl)(x:Str):Bool:=match s.cd? x with
 |some c=>decide (p.lane c=p.n)
 |none=>false
def Pl.kb(p:Pl)(x:Str)(l:Int):Int:=match p.kd? x with
 |some k=>k.bds.getD (k.way.findIdx (· ==l)) 0
 |none=>0
end L2
namespace K14
open PySem PySem.Spec L2 PyProof.Rows PySem.W
def tO:Sp:=λ vs H Q _=>∃(p:Pl) (v:V) (l:Int),vs=[v,.int l]/\aE [] H p.d v/\Q (.bl (decide (0<=l)&&decide (l<=p.n))) H
def tZ:Sp:=λ vs H Q _=>∃(p:Pl) (s:Sd) (v u wu:V) (w:Wt) (c:Cd) (o:Cd),vs=[v,u,wu]/\aE [] H p.d v/\aE [] H s.d u/\aE [] H w.d wu/\jN p/\mU p s/\s.cd? w.cd=some c/\s.cd? w.ot=some o/\w.cd.length<=1000/\w.ot.length<=1000/\
 ∀H',aG [] H H'->Q (.bl (decide (p.lane c<w.ln)||decide (p.lane o=p.n))) H'
section
variable{P:Program}{w:World}{K:PySem.W.Frag}{mg:Str->Option Value}{base:Heap}{CK CC:Addr}{k:Fc}
abbrev uM:Stmt:=top 18
theorem Ln:bW ["plan","lane"] ["plan","lane"] (aW uM):=⟨rfl,rfl,rfl,Qd,rfl,Qd,Qd⟩
theorem Pc{f:Addr}{fd:FuncData}(F:bR K "may_wait_at" "may_wait_at" uM f fd)(T:rR K mg):bE P w K mg base bP 1 f fd ["plan","lane"] tO:=by
 refine F.ok Ln (λ vs H Q E h=>?_) (λ cdv A outer s H vs Q E hr h=>?_)
 ·obtain⟨p,v,l,rfl,_⟩:=h
  rfl
 obtain⟨p,v,l,rfl,hp,q⟩:=h
 refine'⟨_,?hh,?rr⟩
 case hh=>exists aY ?_,bI ?_,Of qB qB aL (pv 1) ?_,bG cU rfl T.b_len PySem.boot_len ?_,aA ?_ aI,aV bK (pv 0) aL (λ _ _=>rfl)
 obtain⟨b,la,ka,lv,kv,rfl,hb,hla,hls,hka,hks,el,ek⟩:=Pl.view hp
 refine⟨_,rfl,_,_,rfl,rfl,_,rfl,?_⟩
 refine bU (λ cc=>?_) (λ cc=>?_)
 ·refine⟨_,rfl,b,_,_,_,rfl,rfl,aM.of hb,rfl,la,lv,rfl,.inr (aM.of hla),_,_,rfl,rfl,?_⟩
  rw[cc,Bool.true_and]at q
  rw[el]
  exact q
 ·rw[Bool.eq_false_iff.mpr cc,Bool.false_and]at q
  exact q
abbrev uR:Stmt:=top 19
theorem sc_holds:bW ["plan","stand","wait","card","lane","other"] ["plan","stand","wait"] (aW uR):=⟨rfl,rfl,rfl,Qd,rfl,Qd,Qd⟩
theorem Px{f:Addr}{fd:FuncData}(F:bR K "holds" "holds" uR f fd)(nA:dQ P w K mg base "lane_of" 7 ["plan","stand","card"] (pS CC))(yA:dQ P w K mg base "is_out" 8 ["plan","stand","card"] (tN CC)):bE P w K mg base bP 9 f fd ["plan","stand","wait"] tZ:=by
 refine F.ok sc_holds (λ vs H Q E h=>?_) (λ cdv A outer s H vs Q E hr h=>?_)
 ·obtain⟨p,sd,v,u,wu,wt,c,o,rfl,_⟩:=h
  rfl
 obtain⟨p,sd,v,u,wu,wt,c,o,rfl,hp,hs,hw,Po,So,hc,ho,l1,l2,q⟩:=h
 refine'⟨_,?hh,?rr⟩
 case hh=>exists aT ?_ ?_,lY (pv 2) ?_,mB rfl ?_,dL ?_ ?_,bL sc_holds.nd (aQ 3) (Or.inl rfl) (Or.inl rfl),dL ?_ ?_,bL sc_holds.nd (aQ 4) (Or.inl rfl) (Or.inl rfl),dL ?_ lZ,bL sc_holds.nd (aQ 5) (Or.inl rfl) (Or.inl rfl),aY ?_,bI ?_,Oa ?_ ?_,iF oA ?_ (pv 4) (bO _),fY nG nA hr ?_ rfl ?_,aA (pv 0) ?_,aA (pv 1) ?_,aA (pv 3) aI,Qc,vG ?_,fY nG yA hr ?_ rfl ?_,aA (pv 0) ?_,aA (pv 1) ?_,aA (pv 5) aI,Qc
 obtain⟨a,rfl,ha⟩:=Wt.view hw
 refine⟨_,rfl,_,_,rfl,aM.of ha,rfl,_,_,rfl,_,_,rfl,_,_,rfl,rfl,?_⟩
 refine⟨_,rfl,_,rfl,_,rfl,p,sd,v,u,wt.cd,rfl,hp,hs,l1,Po,So,λ c' H1 hc' e1=>?_,λ hn=>by rw[hc]at hn;cases hn⟩
 rw[hc]at hc'
 cases hc'
 refine⟨_,rfl,_,_,rfl,rfl,_,rfl,?_⟩
 refine bU (λ cc=>?_) (λ cc=>?_)
 ·have q':=q H1 e1
  rw[cc,Bool.true_or]at q'
  exact q'
 ·refine⟨_,rfl,_,rfl,_,rfl,p,sd,v,u,wt.ot,rfl,aE.ext e1 hp,aE.ext e1 hs,l2,Po,So,λ o' H2 ho' e2=>?_,λ hn=>by rw[ho]at hn;cases hn⟩
  rw[ho]at ho'
  cases ho'
  have q':=q H2 (e1.trans e2)
  rw[Bool.eq_false_iff.mpr cc,Bool.false_or]at q'
  exact q'
end
end K14
namespace L2
open PySem PySem.Spec PyProof.Rows
def qV(Fin:Shared->Prop):GenEnd:=λ _ _ r s₁=>r= .ok .next/\Fin s₁
def qU(Ok:Value->Shared->(Shared->Prop)->Prop):Protocol:=λ _ _ v s₁ kap=>Ok v s₁ λ s₂=>kap (.send .none) s₂
def rX(Xg:Cx)(pa:List (Addr×Obj))(σg:St)(D:Addr)(fp:List Addr):Value->Shared->(Shared->Prop)->Prop:=λ v s₁ C=>∃x acc H,bA x v/\aB Xg pa σg H s₁/\H D=some (.lst acc)/\acc.length<sizeLine/\
 ∀s₂,aB Xg pa σg (aD H D (.lst (acc++[x]))) s₂->(∀b∈fp,∀o,s₁.heap.get? b=some o->s₂.heap.get? b=some o)->C s₂
section
variable{Xg:Cx}{A:Around}{elt tg iter:Expr}{ifs:List Expr}{scope:Scope}{pos:Pos}{it:Addr}{J:It}{fp:List Addr}{tn:Nat->Heap->Prop}{g:TG}{tt:TT}{te:TE}{k:Nat}{σg:St}{D:Addr}{pa:List (Addr×Obj)}
theorem Li(hA:Xg.A=A.over (.compLoop (.GeneratorExp elt [⟨tg,iter,ifs,0⟩] scope pos) 0 (.ref it) .none Xg.env) [])(hxe:Xg.xe=λ _ _=>False)(hco:Xg.env.scope.isCoroutine=false)(hc:Xg.calm=true)
  (hg:PG Xg tg g) (gk:lJ k g) (ht:lH Xg ifs tt) (he:PE Xg elt te) (T:iO Xg.prog Xg.w Xg.K tg J fp it tn) (hk:k<=σg.length) (hown:∀(j:Nat) (v:V),σg[j]? =some (some v)->k<=j)
  (fpok:∀H':Hp,(∀b∈fp,H' b=none)->∀b∈fp,dW Xg pa H' b) (W:Nat->Nat->List V->Hp->Prop) (Qt:List V->Hp->Prop)
  (turn:∀i m xs H,W i m xs H->(J.stop i H/\Qt xs H)\/(J.go i H/\∀x H',J.yld i H x H'->g x σg H' λ σ2 H2=>tt σ2 H2 λ b H3=>if b=true then te σ2 H3 λ v H4=>H4 D=some (.lst xs)/\xs.length<sizeLine/\∃m',m'<m/\W (i+1) m' (xs++[v]) (aD H4 D (.lst (xs++[v])))else∃m',m'<m/\W (i+1) m' xs H3)):
  ∀ (m n:Nat),m<n->∀(i:Nat) (xs:List V) (H:Hp) (s s₀:Shared),W i m xs H->aB Xg pa σg H s->tn i s.heap->(∀b∈fp,H b=none)->
   Seg (model Xg.prog Xg.w) A (qV λ s'=>∃H',aB Xg pa σg H' s'/\∃xs,Qt xs H') (qU (rX Xg pa σg D fp)) n s₀
    (.compLoop (.GeneratorExp elt [⟨tg,iter,ifs,0⟩] scope pos) 0 (.ref it) .none Xg.env) ((model Xg.prog Xg.w).den (.compLoop (.GeneratorExp elt [⟨tg,iter,ifs,0⟩] scope pos) 0 (.ref it) .none Xg.env)) [] s:=by
 intro m
 induction m using Nat.strongRecOn with
 | _ m ih=>
  intro n hmn i xs H s s₀ w I st hfr
  show Seg _ A _ _ _ s₀ _ ((compTurn (.GeneratorExp elt [⟨tg,iter,ifs,0⟩] scope pos) 0 (.ref it) .none Xg.env).onRaise (leaving Xg.env)) [] s
  rw[compTurn_gen,Sem.onRaise_eq_wrap]
  refine seg_bind_wrap (wpAny_standAt ?_)
  rcases turn i m xs H w with⟨stop,q⟩|⟨go,step⟩
  ·have d:=T.done Xg rfl rfl rfl hc i pa s σg H (λ _ _=>False) I (fpok H hfr) st stop
   rw[hA]at d
   refine seg_bind_wrap (wpAny_mono d (λ r s4 ⟨hr,I5⟩=>?_) λ _ _ z=>z.elim)
   subst hr
   exact seg_end (.ok .next) ⟨rfl,H,I5,xs,q⟩
  ·have d:=T.item Xg rfl rfl rfl hc i pa s σg H (λ _ _=>False) I (fpok H hfr) st go
   rw[hA]at d
   refine seg_bind_wrap (wpAny_mono d (λ r s4 ⟨u,hr,h4⟩=>?_) λ _ _ z=>z.elim)
   subst hr
   refine seg_bind_wrap (wpAny_mono h4 (λ _ s5 ⟨x,H5,I5,r5,y5,st5,fr5⟩=>?_) λ _ _ z=>z.elim)
   have I5':=I5.pinned (fpok H5 fr5) (T.obj _ _ st5)
   have d2:=hg _ s5 σg H5 x u _ I5' r5 (gk _ _ _ _ hk (step x H5 y5))
   rw[hA,hxe]at d2
   refine seg_bind_wrap (wpAny_mono d2 (λ _ s6 ⟨σ6,H6,I6,q6,l6,a6⟩=>?_) λ _ _ z=>z.elim)
   have back:∀{H':Hp} {s':Shared},aB Xg (pa++kG fp s5.heap) σ6 H' s'->aB Xg pa σg H' s'/\tn (i+1) s'.heap/\∀b∈fp,H' b=none:=fun{H' s'} I'=>by
    refine⟨I'.unpinned.weak l6.symm λ j v e=>by rw[a6 j (hown j v e)];exact e,T.keep _ _ _ st5 λ b hb o e=>(I'.pin (b,o) (List.mem_append_right _ (List.mem_append_right _ (mE hb e)))).1,λ b hb=>?_⟩
    obtain⟨o,e,d⟩:=T.obj _ _ st5 b hb
    exact(I'.pin (b,o) (List.mem_append_right _ (List.mem_append_right _ (mE hb e)))).2.1
   have d3:=ht _ s6 σ6 H6 _ I6 q6
   rw[hA,hxe]at d3
   refine seg_bind_wrap (wpAny_mono d3 (λ ok s7 ⟨H7,I7,q7⟩=>?_) λ _ _ z=>z.elim)
   cases ok with
   |false=>
    obtain⟨m',hm,w7⟩:=q7
    obtain⟨J1,J2,J3⟩:=back I7
    simp only[Bool.false_eq_true,if_false]
    exact seg_again rfl (ih m' hm n Qa (i+1) xs H7 s7 s₀ w7 J1 J2 J3)
   |true=>
    simp only[if_true]
    have hy:∀v,yieldOut Xg.env v=yieldValue v:=λ v=>by simp only[yieldOut,hco,Bool.false_eq_true,if_false]
    simp only[hy]
    rw[Sem.bind_eq_wrap',Sem.bind_eq_wrap',Sem.wrap_wrap,Sem.wrap_wrap]
    have d4:=he _ s7 σ6 H7 _ I7 q7
    rw[hA,hxe]at d4
    refine seg_wrap (wpAny_mono d4 (λ y s8 ⟨v,H8,I8,r8,hD,hl,m',hm,w8⟩=>?_) λ _ _ z=>z.elim)
    obtain⟨J1,J2,J3⟩:=back I8
    obtain⟨n',rfl⟩:∃n',n=n'+1:=⟨n-1,Qa⟩
    refine seg_at (seg_yield rfl rfl rfl ⟨v,xs,H8,r8,J1,hD,hl,λ s₂ K2 k2=>?_⟩)
    refine seg_again rfl (ih m' hm n' Qa (i+1) (xs++[v]) (aD H8 D (.lst (xs++[v]))) _ _ w8 K2 (T.keep _ _ _ J2 k2) λ b hb=>?_)
    rw[aU (λ z=>by rw[<-z,J3 b hb]at hD;cases hD)]
    exact J3 b hb
end
section
variable{Xg:Cx}{A:Around}{a:Addr}{gi:Nat}{D:Addr}{σg:St}{pa:List (Addr×Obj)}{fp:List Addr}
theorem Vt{Fin:Shared->Prop}(hh:A.handled=none)(hroom:A.depth<recursionLimit)(hgen:∀H s,aB Xg pa σg H s->s.heap.IsGen a gi/\gi<s.gens.size)(hDf:∀b∈fp,b≠D)
  (hfin:∀s h' gq,Fin s->fB s.gens gq->(∀b o,s.heap.get? b=some o->h'.get? b=some o)->Fin {s with heap:=h',gens:=gq}) (hfo:∀s,Fin s->AllBare s.gens):
  ∀(n:Nat) (s:Shared) (gs:GenState) (H:Hp),aB Xg pa σg H s->s.gens[gi]? =some gs->gs.Goes (model Xg.prog Xg.w) A.in1.in1 (qV Fin) (qU (rX Xg pa σg D fp)) n (.send .none) (s.setGen gi .running)->
   codeAny (model Xg.prog Xg.w) A (.builtin "list.extend.loop" ⟨[.ref D,.ref a,.ref D],[]⟩) (λ r s'=>r= .ok (.ret (.ref D))/\Fin s') s:=by
 have fin:∀(s₁:Shared) (h':Heap),Fin s₁->(∀b o,s₁.heap.get? b=some o->h'.get? b=some o)->Fin {s₁ with heap:=h',gens:=s₁.gens.setIfInBounds gi .finished}:=λ s₁ h' hp hk=>hfin s₁ h' _ hp (qW (hfo _ hp) rfl) hk
 intro n
 induction n with
 |zero=>
  intro s gs H I hgs hgo
  obtain⟨hg,_⟩:=hgen H s I
  refine codeAny_builtin F.entry_extend_loop ?_
  rw[Around.under_plainId F.plain_extend_loop _]
  show wpAny _ A.in1 (pyNext (.ref a)>>=_) _ _ s
  refine wpAny_bind (wpAny_pyNext_genexpQ (A:=A.in1) (P:=λ _ _ s₁=>Fin s₁) hh I.nolimit hroom hg hgs hgo (λ v s₁ gs' hbr hv=>?_) (λ s₁ hp h' hk=>wpAny_pure ⟨rfl,fin s₁ h' hp hk⟩))
  obtain⟨x,acc,H1,rx,I1,hD,hl,C⟩:=hv
  obtain⟨z,its,nn,r,hlen,e⟩:=I1.lstM hD
  have I3:=I1.lset (its':=its++[v]) (f:=(·.push v)) (t':=s₁.toks) hD e Qb (r.append (.cons rx .nil)) (by rw[List.length_append,List.length_singleton];omega)
  exact(C _ I3 λ b hb o hbo=>(Heap.get?_update_other _ _ (Ne.symm (hDf b hb))).trans hbo).elim
 |succ n ih=>
  intro s gs H I hgs hgo
  obtain⟨hg,_⟩:=hgen H s I
  refine codeAny_builtin F.entry_extend_loop ?_
  rw[Around.under_plainId F.plain_extend_loop _]
  show wpAny _ A.in1 (pyNext (.ref a)>>=_) _ _ s
  refine wpAny_bind (wpAny_pyNext_genexpQ (A:=A.in1) (P:=λ _ _ s₁=>Fin s₁) hh I.nolimit hroom hg hgs hgo (λ v s₁ gs' hbr hv=>?_) (λ s₁ hp h' hk=>wpAny_pure ⟨rfl,fin s₁ h' hp hk⟩))
  obtain⟨x,acc,H1,rx,I1,hD,hl,C⟩:=hv
  have g1:fB s₁.gens (s₁.gens.setIfInBounds gi gs'):=qW I1.bare.1 hbr
  have I2:=I1.setGens g1
  obtain⟨z,its,nn,r,hlen,e⟩:=I2.lstM hD
  have lt:=(hgen H1 _ I1).2
  have g2:(s₁.gens.setIfInBounds gi gs')[gi]? =some gs':=by simp[lt]
  show wpAny _ A.in1 (updateSeq D (·.push v)>>=_) _ _ _
  refine wpAny_bind (wpAny_updateSeq e rfl ?_ (by rw[List.size_toArray];omega) (by show(its.toArray.push v).size<=sizeLine+1;rw[Array.size_push,List.size_toArray];omega))
  have I3:=I2.lset (its':=its++[v]) (f:=(·.push v)) (t':=s₁.toks) hD e Qb (r.append (.cons rx .nil)) (by rw[List.length_append,List.length_singleton];omega)
  refine wpAny_pure ⟨plainId_quiet F.plain_extend_loop _,ih _ gs' _ I3 g2 ?_⟩
  have g3:fB (s₁.gens.setIfInBounds gi gs') ((s₁.gens.setIfInBounds gi gs').setIfInBounds gi .running):=qW g1.1 rfl
  exact C _ (I3.setGens g3) λ b hb o hbo=>(Heap.get?_update_other _ _ (Ne.symm (hDf b hb))).trans hbo
end
section
variable{Xg:Cx}{A:Around}{a:Addr}{gi:Nat}{σg:St}{pa:List (Addr×Obj)}{fp:List Addr}{E:Qe}
theorem Dk{s:Shared}(hg:s.heap.IsGen a gi):s.TypeIs (.ref a) "generator" :=by
 obtain⟨o,_,_,ho,hc,_⟩:=hg
 exact⟨o,ho,hc⟩
theorem Xj{s:Shared}{H:Hp}{gs:GenState}{Fin:Hp->List V->Prop}{Q:List Value->Shared->Prop}(n:Nat)(hh:A.handled=none)(hroom:A.depth<recursionLimit)(hgen:∀H s,aB Xg pa σg H s->s.heap.IsGen a gi/\gi<s.gens.size)
  (hlt:∀b∈fp,b<s.heap.objs.size) (I:aB Xg pa σg H s) (hgs:s.gens[gi]? =some gs)
  (hgo:∀s3:Shared,aB Xg pa σg (aD H s.heap.objs.size (.lst [])) s3->(∀b o,s.heap.get? b=some o->s3.heap.get? b=some o)->s3.gens=s.gens->
   gs.Goes (model Xg.prog Xg.w) A.in1.in1 (qV λ s'=>∃H',aB Xg pa σg H' s'/\∃acc,H' s.heap.objs.size=some (.lst acc)/\Fin H' acc) (qU (rX Xg pa σg s.heap.objs.size fp)) n (.send .none) (s3.setGen gi .running))
  (hQ:∀H' s' acc its,aB Xg pa σg H' s'->aO acc its->acc.length<=sizeLine->Fin H' acc->Q its s'):
  wpAny (model Xg.prog Xg.w) A (collect (.ref a)) Q E s:=by
 obtain⟨hg,_⟩:=hgen H s I
 have haD:s.heap.objs.size≠a:=λ z=>by
  obtain⟨o,_,_,ho,_⟩:=hg
  have:=Heap.lt_size ho
  rw[z]at this
  exact Nat.lt_irrefl _ this
 unfold collect
 refine wpAny_bind (wpAny_runValue (codeAny_builtin F.entry_proto_collect ?_))
 rw[Around.under_plainId F.plain_proto_collect _]
 show wpAny _ A.in1 (newList []>>=λ l=>again (.builtin "list.__iadd__" ⟨[l,.ref a],[]⟩)) _ _ s
 refine wpAny_bind (wpAny_newObj_type ?_)
 refine wpAny_pure ⟨plainId_quiet F.plain_list_iadd _,codeAny_builtin F.entry_list_iadd ?_⟩
 rw[Around.under_plainId F.plain_list_iadd _]
 have I1:aB Xg pa σg (aD H s.heap.objs.size (.lst [])) {s with heap:=s.heap.push {cls:=.type "list",data:=.seq ([]:List Value).toArray}}:=
  I.laid (t':=s.toks) (λ b u e=>Heap.get?_push_of_some _ e) (Nat.le_refl _) ⟨Nat.zero_le _,[],0,.nil,Heap.get?_push_size _ rfl⟩
 have hT1:=Dk (hgen _ _ I1).1
 show wpAny _ A.in1 (Builtin.List.listExtendWith (.ref s.heap.objs.size) (.ref a) (.ref s.heap.objs.size)) _ _ _
 unfold Builtin.List.listExtendWith
 refine wpAny_bind (wpAny_typeOf hT1 ?_)
 have h1:Builtin.List.listSameRef (.ref s.heap.objs.size) (.ref a)=false:=by simp[Builtin.List.listSameRef,haD]
 have h2:(Value.type "generator" ==Value.type "list")=false:=by decide
 have h3:(Value.type "generator" ==Value.type "tuple")=false:=by decide
 simp only[h1,h2,h3,Bool.or_false,Bool.false_eq_true,if_false]
 refine wpAny_bind (wpAny_pyIter_gen (hgen _ _ I1).1 ?_)
 refine wpAny_bind (wpAny_holding ?_)
 unfold Builtin.List.listLengthHint
 refine wpAny_bind (wpAny_specialOf hT1 F.gen_no_len ?_)
 show wpAny _ A.in1 (specialOf (Value.ref a) (Str.ofString "__length_hint__")>>=_) _ _ _
 refine wpAny_bind (wpAny_specialOf hT1 F.gen_no_hint ?_)
 refine wpAny_pure ?_
 show wpAny _ A.in1 (rule "list.extend.makes-room" >>=λ _=>Builtin.List.listTouch (.ref s.heap.objs.size)>>=λ _=>
  again (.builtin "list.extend.loop" ⟨[.ref s.heap.objs.size,.ref a,.ref s.heap.objs.size],[]⟩)) _ _ _
 refine wpAny_bind (wpAny_rule ?_)
 have hS1:(s.heap.push {cls:=.type "list",data:=.seq ([]:List Value).toArray}).get? s.heap.objs.size=some {cls:=.type "list",data:=.seq ([]:List Value).toArray}:=Heap.get?_push_size _ rfl
 refine wpAny_bind ?_
 show wpAny _ A.in1 (updateSeq s.heap.objs.size (·.push .none)>>=λ _=>updateSeq s.heap.objs.size (·.pop)) _ _ _
 refine wpAny_bind (wpAny_updateSeq hS1 rfl ?_)
 have I2:=I1.lset (l:=s.heap.objs.size) (its':=[.none]) (f:=(·.push Value.none)) (t':=s.toks) (ys:=[.non]) aR hS1 rfl (.cons rfl .nil) (by show 1<=sizeLine;decide)
 obtain⟨_,its2,n2,r2,_,hS2⟩:=I2.lstM aR
 have hS2':=Heap.get?_update_self (Obj.mapSeq (·.push Value.none)) hS1 rfl
 refine wpAny_updateSeq hS2' rfl ?_
 have I3:=I2.lset (l:=s.heap.objs.size) (its':=[]) (f:=(·.pop)) (t':=s.toks) (ys:=[]) aR hS2' (by rfl) .nil (Nat.zero_le _)
 rw[sP,sP]at I3
 have keep:∀b o,s.heap.get? b=some o->(((s.heap.push {cls:=.type "list",data:=.seq ([]:List Value).toArray}).update s.heap.objs.size (Obj.mapSeq (·.push Value.none))).update s.heap.objs.size (Obj.mapSeq (·.pop))).get? b=some o:=λ b o e=>by
  have hne:s.heap.objs.size≠b:=λ z=>by have:=Heap.lt_size e;rw[z]at this;exact Nat.lt_irrefl _ this
  exact(Heap.get?_update_other _ _ hne).trans ((Heap.get?_update_other _ _ hne).trans (Heap.get?_push_of_some _ e))
 refine wpAny_pure ⟨plainId_quiet F.plain_extend_loop _,codeAny_mono (Vt (D:=s.heap.objs.size) (fp:=fp) (Fin:=λ s'=>∃H',aB Xg pa σg H' s'/\∃acc,H' s.heap.objs.size=some (.lst acc)/\Fin H' acc) hh hroom hgen (λ b hb z=>by have:=hlt b hb;rw[z]at this;exact Nat.lt_irrefl _ this) ?_ ?_ n _ gs _ I3 hgs (hgo _ I3 keep rfl)) ?_⟩
 ·rintro s' h' gq ⟨H',I',acc,hD,q⟩ hg' hk
  exact⟨H',(I'.kept (t':=s'.toks) hk).setGens hg',acc,hD,q⟩
 ·rintro s' ⟨H',I',_⟩
  exact I'.bare.1
 ·rintro r s' ⟨rfl,H',I',acc,hD,q⟩
  obtain⟨z,its,nn,rv,hl,e⟩:=I'.lstM hD
  show wpAny _ A (load s.heap.objs.size>>=_) _ _ s'
  refine wpAny_bind (wpAny_load e ?_)
  refine wpAny_pure ?_
  have e2:its.toArray.toList=its:=by simp
  show Q its.toArray.toList s'
  rw[e2]
  exact hQ H' s' acc its I' rv z q
theorem Xr{s:Shared}{H:Hp}{gs:GenState}{Fin:Hp->List V->Prop}{Q:Qe}(n:Nat)(hh:A.handled=none)(hroom:A.depth<recursionLimit)(hgen:∀H s,aB Xg pa σg H s->s.heap.IsGen a gi/\gi<s.gens.size)
  (hlt:∀b∈fp,b<s.heap.objs.size) (I:aB Xg pa σg H s) (hgs:s.gens[gi]? =some gs)
  (hgo:∀s3:Shared,aB Xg pa σg (aD H s.heap.objs.size (.lst [])) s3->(∀b o,s.heap.get? b=some o->s3.heap.get? b=some o)->s3.gens=s.gens->
   gs.Goes (model Xg.prog Xg.w) A.in1.in1.in1.in1 (qV λ s'=>∃H',aB Xg pa σg H' s'/\∃acc,H' s.heap.objs.size=some (.lst acc)/\Fin H' acc) (qU (rX Xg pa σg s.heap.objs.size fp)) n (.send .none) (s3.setGen gi .running))
  (hQ:∀H' s' acc its,aB Xg pa σg H' s'->aO acc its->acc.length<=sizeLine->Fin H' acc->Q (.ref s'.heap.objs.size) {s' with heap:=s'.heap.push {cls:=.type "tuple",data:=.seq its.toArray}}):
  wpAny (model Xg.prog Xg.w) A (call (.type "tuple") [.ref a]) Q E s:=by
 obtain⟨hg,_⟩:=hgen H s I
 have hTI:=Dk hg
 refine callType_codes (Q₁:=λ obj s₁=>s₁.TypeIs obj "tuple"/\Q obj s₁) F.called_tuple (F.typeCall_tuple_1 _) F.entry_object_init ?new λ obj s₁ h₁=>
  ⟨h₁.1,F.args_object_init_2 obj _,object_init_meets F.called_tuple.init.lookup F.called_tuple.made Qc _ _ A.in1 _ s₁ ⟨h₁.1,rfl,h₁.2⟩⟩
 case new=>
 refine codeAny_of_tree ?_
 show wpAny _ A.in1.in1 (do checkBuiltinCall "tuple.__new__" ⟨[.type "tuple",.ref a],[]⟩;again (.builtin "tuple.__new__" ⟨[.type "tuple",.ref a],[]⟩)) _ _ s
 refine wpAny_bind (wpAny_of_eq (F.newCall_tuple_1 _) (wpAny_pure ⟨plainId_quiet F.plain_tuple_new _,codeAny_builtin F.entry_tuple_new ?_⟩))
 rw[Around.under_plainId F.plain_tuple_new _]
 have hsub:=sub_tuple_self
 have hinit:=init_tuple_lookup
 have hmh:=madeHere_tuple
 wp_walk using wpAny_typeOf hTI,Xj (A:=A.in1.in1) n hh hroom hgen hlt I hgs hgo
 intro H' s' acc its I' rv z q
 show wpAny _ _ (Builtin.Tuple.tupleExact its.toArray>>=λ v=>ret v) _ _ _
 unfold Builtin.Tuple.tupleExact
 refine wpAny_bind (wpAny_newObj_type ?_ (by show its.toArray.size<=sizeLine;rw[List.size_toArray,<-rv.length];exact z))
 refine wpAny_pure ?_
 exact⟨⟨_,Heap.get?_push_size _ rfl,rfl⟩,hQ H' s' acc its I' rv z q⟩
end
abbrev Cx.up(X:Cx):Cx:={X with A:=X.A.in1.in1}
theorem aB.up{X:Cx}{pins:List (Addr×Obj)}{σ:St}{H:Hp}{s:Shared}(I:aB X pins σ H s):aB X.up pins σ H s:=
 ⟨⟨I.ok.mod,I.ok.kind,I.ok.glob,I.ok.blt,I.ok.above,I.ok.inj,I.ok.has,I.ok.cab,I.ok.hd,I.ok.frames,I.ok.stk,I.ok.exf,I.ok.bs,I.ok.bsz,I.ok.noex,I.ok.exfs,I.ok.funs,I.ok.frf⟩,I.os,I.bare,I.base,I.loc,I.cell,I.free,I.freeC,I.pin,I.hok,I.len⟩
def Fh(J:It)(g:TG)(tt:TT)(te:TE)(σc:St)(Q:VK)(D:Addr)(H1:Hp):Prop:=∃W:Nat->Nat->List V->Hp->Prop,(∃m,W 0 m [] (aD H1 D (.lst [])))/\∀i m xs H,W i m xs H->
 (J.stop i H/\H D=some (.lst xs)/\∀q,H q=none->Q (.ref q) (aD H q (.tup xs)))\/
 (J.go i H/\∀x H',J.yld i H x H'->g x σc H' λ σ2 H2=>tt σ2 H2 λ b H3=>if b=true then te σ2 H3 λ v H4=>H4 D=some (.lst xs)/\xs.length<sizeLine/\∃m',m'<m/\W (i+1) m' (xs++[v]) (aD H4 D (.lst (xs++[v])))else∃m',m'<m/\W (i+1) m' xs H3)
def Ib(P:Addr)(k:Nat)(js:List Nat)(wi:TI)(g:TG)(tt:TT)(te:TE):TE:=λ σ H Q=>wi σ H λ J H1=>(∃ps,rS H1 P ps)/\∀ps',rS (aD H1 P (.tbl ps')) P ps'->∀D,(aD H1 P (.tbl ps')) D=none->Fh J g tt te (cS k js σ) Q D (aD H1 P (.tbl ps'))
section
variable{X:Cx}
theorem Nz{elt tg iter:Expr}{ifs:List Expr}{scope:Scope}{p pos gpos:Pos}{Nc:List Str}{kk k:Nat}{js:List Nat}{wi:TI}{g:TG}{tt:TT}{te:TE}{c P:Addr}(hr:bT kk X.A)(hc:X.calm=true)(hcode:X.env.code= .ref c)(hd:PySem.W.CodeHd X.base c P)(hbm:iR X.mg X.base)
  (hgl:Gl X "tuple") (hm:X.mg "tuple" =none) (S:Fp X.env scope)
  (hjs:(Nc.drop k).map some=js.map (X.N[·]?)) (hfr:∀x∈Nc.drop k,scope.names.lookup x=some .free) (hk:k<=Nc.length) (hi:PI X tg iter wi)
  (hg:∀C code it s H ex,PG (gT X.up scope Nc C code (.GeneratorExp elt [⟨tg,iter,ifs,0⟩] scope gpos) it s H ex) tg g) (gk:lJ k g) (ht:∀C code it s H ex,lH (gT X.up scope Nc C code (.GeneratorExp elt [⟨tg,iter,ifs,0⟩] scope gpos) it s H ex) ifs tt)
  (he:∀C code it s H ex,PE (gT X.up scope Nc C code (.GeneratorExp elt [⟨tg,iter,ifs,0⟩] scope gpos) it s H ex) elt te)
  (hs:∀x,genFold iter X.env x=pure x:=by intro _;rfl):
  PE X (.Call (.Name "tuple" p) [.GeneratorExp elt [⟨tg,iter,ifs,0⟩] scope gpos] [] pos) (Ib P k js wi g tt te):=by
 intro pins s σ H Q I h
 refine wpAny_Call_Name_kw (kQ I hgl hm eX ?_ Qc Qc)
 refine PyProof.Rows.callWith_type1 (Q:=EP X pins σ Q) (Calls.spliced_cons (wpAny_GeneratorExp_make S.co (wR λ y hy e=>I.ok.has y.1 (S.free y hy e)) S.cell S.zero S.kind hr.depth ?_ hs)) rfl rfl
 refine aP (hi pins s σ H _ I h) λ v s1 h1=>aP h1 λ itv s2 h2=>?_
 obtain⟨it,fp,tn,J,H2,e,I2,T,st2,f2,⟨ps,tb⟩,rest⟩:=h2
 subst e
 refine⟨I2.nolimit,Vj I2 hcode hd tb λ code s3 more I3 tr g3 o3 z3 x3=>?_⟩
 obtain⟨bm,ob,b1,b2,b3,b4,b5,b6⟩:=hbm
 refine wpAny_builtinsFor (globals:=X.env.globals) (by rw[I3.ok.glob];exact I3.mod.glob.keeps I3.bk) b1 b2 (I3.bk _ _ b3) b4 b5 b6 ?_
 intro h4 hn4 hs4
 have neP:∀b∈fp,b≠P:=λ b hb z=>by
  have:=(f2 b hb).1
  rw[z,tb.1]at this
  cases this
 have f3:∀b∈fp,dW X pins (aD H2 P (.tbl (ps++more))) b:=λ b hb=>⟨by rw[aU (neP b hb)];exact(f2 b hb).1,(f2 b hb).2⟩
 have st3:tn 0 s3.heap:=T.keep _ _ _ st2 λ b hb o e=>x3 b o (neP b hb) e
 have lt3:∀b∈fp,b<s3.heap.objs.size:=λ b hb=>by
  obtain⟨o,e,_⟩:=T.obj 0 _ st3 b hb
  exact Heap.lt_size e
 have keep4:∀b o,s3.heap.get? b=some o->h4.get? b=some o:=λ b o e=>hs4.extBut b o (Nat.ne_of_lt (Heap.lt_size e)) (Heap.get?_push_of_some _ e)
 have sz4:h4.objs.size=s3.heap.objs.size+1:=by rw[hs4.1,Heap.size_push]
 generalize eG:s3.gens.push (.fresh (.compStart (.GeneratorExp elt [⟨tg,iter,ifs,0⟩] scope gpos) 0 (.ref it) .none (genEnv scope (eV X.env scope.names) s3.heap.objs.size code builtinsNs X.env)))=gens5
 have gok5:fB s3.gens gens5:=by
  rw[<-eG]
  exact⟨I3.bare.1.push rfl,Qb⟩
 have I3':aB X pins σ (aD H2 P (.tbl (ps++more))) {s3 with gens:=gens5}:=I3.setGens gok5
 generalize eO:({cls:=.type "generator",data:=.fields #[.int s3.gens.size 0,.str "<genexpr>" (s3.toks+1),.str (X.env.qual++ "<genexpr>") (s3.toks+1+1)]}:Obj)=gobj
 have keep5:∀b o,h4.get? b=some o->(h4.push gobj).get? b=some o:=λ b o e=>Heap.get?_push_of_some _ e
 have I5:aB (gT X.up scope Nc s3.heap.objs.size code (.GeneratorExp elt [⟨tg,iter,ifs,0⟩] scope gpos) it {s3 with gens:=gens5} (aD H2 P (.tbl (ps++more))) fp) [] (cS k js σ) (aD H2 P (.tbl (ps++more)))
   {s3 with gens:=gens5,toks:=s3.toks+1+1+1,heap:=h4.push gobj}:=
  To (X:=X.up) (s:={s3 with gens:=gens5}) (s4:={s3 with gens:=gens5,toks:=s3.toks+1+1+1,heap:=h4.push gobj}) I3'.up hc S hjs hfr hk f3 lt3 (Nat.le_refl _) (hn4.push _) (λ b o e=>keep5 b o (keep4 b o e)) rfl ⟨gok5.1,Nat.le_refl _⟩
 have aC:h4.objs.size≠s3.heap.objs.size:=by omega
 have aS:s3.heap.objs.size<=h4.objs.size:=by omega
 have aF:h4.objs.size∉cC X.stack:=λ z=>by
  rcases List.mem_cons.mp (I3.stkSub _ z)with z|z
  ·have l:=I3.lt
   rw[<-z]at l
   exact absurd (Nat.lt_of_lt_of_le l aS) (Nat.lt_irrefl _)
  ·exact I3.nofs aS z
 have aH:(aD H2 P (.tbl (ps++more))) h4.objs.size=none:=I3.hok.fresh aS
 have I6:aB (gT X.up scope Nc s3.heap.objs.size code (.GeneratorExp elt [⟨tg,iter,ifs,0⟩] scope gpos) it {s3 with gens:=gens5} (aD H2 P (.tbl (ps++more))) fp) [(h4.objs.size,gobj)] (cS k js σ) (aD H2 P (.tbl (ps++more)))
   {s3 with gens:=gens5,toks:=s3.toks+1+1+1,heap:=h4.push gobj}:=I5.pins_of λ q hq=>by
  have e:q=(h4.objs.size,gobj):=by simpa using hq
  subst e
  refine⟨Heap.get?_push_size _ (by rw[<-eO];rfl),aH,aC,aF,λ v z=>?_⟩
  rw[<-eO]at z
  cases z
 have afp:∀b∈fp,h4.objs.size≠b:=λ b hb z=>by have:=lt3 b hb;rw[<-z]at this;exact absurd (Nat.lt_of_lt_of_le this aS) (Nat.lt_irrefl _)
 have frz:∀y∈scope.names,y.2= .free->∃c,X.env.cells.lookup y.1=some c:=λ y hy e=>I2.ok.has y.1 (S.free y hy e)
 have fpok:∀H':Hp,(∀b∈fp,H' b=none)->∀b∈fp,dW (gT X.up scope Nc s3.heap.objs.size code (.GeneratorExp elt [⟨tg,iter,ifs,0⟩] scope gpos) it {s3 with gens:=gens5} (aD H2 P (.tbl (ps++more))) fp) [(h4.objs.size,gobj)] H' b:=λ H' hn b hb=>by
  refine⟨hn b hb,Nat.ne_of_lt (lt3 b hb),λ z=>?_,.inl hb,λ x c e=>(f2 b hb).2.2.2.2.1 x c (eL frz e),λ q hq=>?_⟩
  ·rcases List.mem_cons.mp (I2.stkSub b z)with z|z
   ·exact(f2 b hb).2.1 z
   ·exact(f2 b hb).2.2.1 z
  ·have e:q=(h4.objs.size,gobj):=by simpa using hq
   subst e
   exact afp b hb
 have lenS:k<=(cS k js σ).length:=by rw[rG];omega
 have own:∀(j:Nat) (v:V),(cS k js σ)[j]? =some (some v)->k<=j:=λ j v e=>by
  obtain⟨t,j',rfl,_⟩:=rF e
  omega
 have hh:X.A.handled=none:=I.ok.hd hc
 have hIsGen:∀H' s',aB (gT X.up scope Nc s3.heap.objs.size code (.GeneratorExp elt [⟨tg,iter,ifs,0⟩] scope gpos) it {s3 with gens:=gens5} (aD H2 P (.tbl (ps++more))) fp) [(h4.objs.size,gobj)] (cS k js σ) H' s'->s'.heap.IsGen h4.objs.size s3.gens.size/\s3.gens.size<s'.gens.size:=λ H' s' I'=>by
  obtain⟨p1,_⟩:=I'.pin (h4.objs.size,gobj) Qb
  have g5lt:s3.gens.size<gens5.size:=by rw[<-eG];simp
  exact⟨⟨gobj,_,_,p1,by rw[<-eO],by rw[<-eO],by rw[<-eO]⟩,Nat.lt_of_lt_of_le g5lt I'.bare.2⟩
 have sz5:(h4.push gobj).objs.size=h4.objs.size+1:=Heap.size_push ..
 have ltD:∀b∈fp,b<(h4.push gobj).objs.size:=λ b hb=>Nat.lt_of_lt_of_le (lt3 b hb) (by rw[sz5];omega)
 obtain⟨W,⟨m0,w0⟩,turn⟩:=rest (ps++more) ⟨aR,tr⟩ (h4.push gobj).objs.size (I6.hok.fresh (Nat.le_refl _))
 have seg:=Li (D:=(h4.push gobj).objs.size) (Xg:=gT X.up scope Nc s3.heap.objs.size code (.GeneratorExp elt [⟨tg,iter,ifs,0⟩] scope gpos) it {s3 with gens:=gens5} (aD H2 P (.tbl (ps++more))) fp) (A:=X.A.in1.in1.in1.in1) rfl rfl S.co rfl (hg _ _ _ _ _ _) gk (ht _ _ _ _ _ _) (he _ _ _ _ _ _) T lenS own fpok W (λ acc H'=>H' (h4.push gobj).objs.size=some (.lst acc)/\∀q,H' q=none->Q (.ref q) (aD H' q (.tup acc))) turn
 refine Calls.spliced_nil (Xr (Xg:=gT X.up scope Nc s3.heap.objs.size code (.GeneratorExp elt [⟨tg,iter,ifs,0⟩] scope gpos) it {s3 with gens:=gens5} (aD H2 P (.tbl (ps++more))) fp) (pa:=[(h4.objs.size,gobj)]) (σg:=cS k js σ) (gi:=s3.gens.size) (Fin:=λ H' acc=>∀q,H' q=none->Q (.ref q) (aD H' q (.tup acc))) (fp:=fp) (gs:=.fresh (.compStart (.GeneratorExp elt [⟨tg,iter,ifs,0⟩] scope gpos) 0 (.ref it) .none (genEnv scope (eV X.env scope.names) s3.heap.objs.size code builtinsNs X.env))) (m0+1) hh hr.depth hIsGen (λ b hb=>?_) I6 ?_ (λ s6 J6 k6 g6=>⟨rfl,?_⟩) ?_)
 ·exact ltD b hb
 ·rw[<-eG]
  exact Array.getElem?_push_size ..
 ·
  have gset:fB s6.gens (s6.gens.setIfInBounds s3.gens.size .running):=qW J6.bare.1 rfl
  have I7:=J6.setGens (g':=s6.gens.setIfInBounds s3.gens.size .running) gset
  have st6:tn 0 s6.heap:=T.keep _ _ _ st3 λ b _ o e=>k6 b o (keep5 b o (keep4 b o e))
  have nD:∀b∈fp,b≠(h4.push gobj).objs.size:=λ b hb=>Nat.ne_of_lt (ltD b hb)
  have loop:=seg m0 (m0+1) (Nat.lt_succ_self _) 0 _ _ _ (s6.setGen s3.gens.size .running) w0 I7 st6 λ b hb=>by rw[aU (nD b hb)];exact(f3 b hb).1
  show Seg _ X.A.in1.in1.in1.in1 _ _ _ _ _ ((compStart (.GeneratorExp elt [⟨tg,iter,ifs,0⟩] scope gpos) 0 (.ref it) .none (genEnv scope (eV X.env scope.names) s3.heap.objs.size code builtinsNs X.env)).onRaise (leaving _)) [] _
  unfold compStart
  rw[Sem.onRaise_eq_wrap]
  show Seg _ X.A.in1.in1.in1.in1 _ _ _ _ _ ((ask>>=_).wrap _ _ _ _) [] _
  refine seg_bind_wrap (wpAny_askSetting ?_)
  have self:∀(A':Around) (Q':Qe) (E':Qe) (s':Shared),tn 0 s'.heap->Q' (.ref it) s'->wpAny (model X.prog X.w) A' (pyIter (.ref it)) Q' E' s':=λ A' Q' E' s' st q=>T.self A' 0 s' Q' E' st q
  split
  ·exact seg_again rfl loop
  ·first
    |exact seg_bind_wrap (wpAny_rule (seg_bind_wrap (wpAny_standAt (seg_bind_wrap (self _ _ _ _ st6 (seg_again rfl loop))))))
    |(refine seg_bind_wrap (wpAny_rule ?_);show Seg _ X.A.in1.in1.in1.in1 _ _ _ _ _ ((standAt iter.pos>>=_).wrap _ _ _ _) [] _;exact seg_bind_wrap (wpAny_standAt (seg_bind_wrap (self _ _ _ _ st6 (seg_again rfl loop)))))
 ·rintro H' s' acc its I' rv z q
  have hu:Un (cC X.stack) fp (aD H2 P (.tbl (ps++more))) H' s3.heap s'.heap:=I'.base
  have I8:aB X pins σ H' s':=I3'.call' I'.os hu I'.hok I'.bare λ b hb=>⟨(f3 b hb).2.2.2.1,(f3 b hb).2.1,(f3 b hb).2.2.2.2.1,(f3 b hb).2.2.2.2.2⟩
  exact⟨.ref s'.heap.objs.size,_,I8.laid (t':=s'.toks) (o:=.tup acc) (λ b o e=>Heap.get?_push_of_some _ e) (Nat.le_refl _) ⟨z,its,rv,IsTup.new _ _,_,Heap.get?_push_size _ rfl,rfl⟩,rfl,q _ (I8.hok.fresh (Nat.le_refl _))⟩
end
theorem Hs{J:It}{ok:Hp->Prop}{ys:List V}{g:TG}{tt:TT}{te:TE}{σc:St}{H:Hp}{Q:VK}{D:Addr}(Y:lD J ok ys)(Pv:Nat->List V->Hp->Prop)(h0:Pv 0 [] (aD H D (.lst [])))(hok:∀i xs H,Pv i xs H->ok H)
  (hD:∀i xs H,Pv i xs H->H D=some (.lst xs))
  (step:∀i x xs H,ys[i]? =some x->i<ys.length->Pv i xs H->g x σc H λ σ2 H2=>tt σ2 H2 λ b H3=>if b=true then te σ2 H3 λ v H4=>H4 D=some (.lst xs)/\xs.length<sizeLine/\Nx ys.length i (Pv (i+1) (xs++[v]) (aD H4 D (.lst (xs++[v]))))else Nx ys.length i (Pv (i+1) xs H3))
  (fin:∀xs H,Pv ys.length xs H->∀p,H p=none->Q (.ref p) (aD H p (.tup xs))):Fh J g tt te σc Q D H:=by
 refine⟨λ i m xs H=>m=ys.length-i/\i<=ys.length/\Pv i xs H,⟨ys.length,Qb,Nat.zero_le _,h0⟩,?_⟩
 rintro i m xs H ⟨rfl,hi,p⟩
 have o:=hok i xs H p
 by_cases hlt:i<ys.length
 ·refine .inr ⟨Y.go i H o hlt,λ x H' y=>?_⟩
  obtain⟨e,hx⟩:=Y.yld i H x H' o hlt y
  subst e
  exact step i x xs _ hx hlt p
 ·have e:i=ys.length:=by omega
  subst e
  exact .inl ⟨Y.stop H o,hD _ _ _ p,fin xs H p⟩
def Sd.put(s:Sd)(c:Cd):Sd:={s with cs:=s.cs.map λ d=>if(d.nm==c.nm)=true then c else d}
theorem jO.okX{P:Program}{w:World}{K:PySem.W.Frag}{mg:Str->Option Value}{base:Heap}{x qual:Str}{st:Stmt}{f:Addr}{fd:FuncData}{c:Addr}{N ps:List Str}{k:Nat}{sp:Sp}(F:jO K x qual st f fd c)(S:bW N ps (aW st))(len:∀vs H Q E,sp vs H Q E->vs.length=ps.length)
  (hbody:∀(A:Around) (outer:List Env) (s:Shared) (H:Hp) (vs:List V) (Q:VK) (E:XK),bT k (A.deeper (envOfC qual (aW st) s.heap.objs.size f (.ref c)))->sp vs H Q E->
   ∃t,dH (gB (fD P w) P w K mg base N qual (aW st) f (.ref c) A outer s H E) (dG st) t/\t {nx:=λ _ H'=>Q .non H',rt:=Q} (start N vs) H):bE P w K mg base (fD P w) (k+1) f fd ps sp:=by
 obtain⟨oc,od,kV,doc,pm,an,ct,osl,rfl,lk,hcd⟩:=F.ex
 exact rA lk hcd S len hbody
end L2
namespace K14
open PySem PySem.Spec L2 PyProof.Rows PySem.W
def Sd.less(s:Sd)(x y:Str):List Wt:=s.ws.filter λ t=>t.cd !=x||t.ot !=y
def tR(CC CW:Addr)(ts:List Addr):Sp:=λ vs H Q E=>∃(s:Sd) (u:V) (x y:Str),vs=[u,.str x,.str y]/\aE [] H s.d u/\x.length<=1000/\y.length<=1000/\s.ws.length<=900/\Tb ts H/\
 (s.cd? x=none->eP CC [("card",.str x)] H E)/\(∀c,s.cd? x=some c->s.cd? y=none->eP CC [("card",.str y)] H E)/\
 (∀c o,s.cd? x=some c->s.cd? y=some o->(Sd.less s x y).length=s.ws.length->eP CW [("card",.str x)] H E)/\
 (∀c o r H',s.cd? x=some c->s.cd? y=some o->(Sd.less s x y).length≠s.ws.length->aG [] H H'->aE [] H' (Sd.d {s with ws:=Sd.less s x y}) r->Q r H')
structure Ff(K:PySem.W.Frag)(mg:Str->Option Value):Prop where
 b_tuple:mg "tuple" =none
 b_len:mg "len" =none
section
variable{P:Program}{w:World}{K:PySem.W.Frag}{mg:Str->Option Value}{base:Heap}{CC CW:Addr}{ts:List Addr}
abbrev fT:Stmt:=top 22
theorem sc_without_waits:bW ["stand","card","other","bounds","cards","waits","left"] ["stand","card","other"] (aW fT):=⟨rfl,rfl,rfl,Qd,rfl,Qd,Qd⟩
theorem Ot{f c0 tP:Addr}{fd:FuncData}(F:jO K "without_waits" "without_waits" fT f fd c0)(T:Ff K mg)(hcd:PySem.W.CodeHd base c0 tP)(hbm:iR mg base)(hts:tP∈ts)(hte:∀t∈ts,t∉([]:List Addr))(xO:oY P w K mg base "NoWait" CW 2 ["self","card"] (gK CW ["card"]))(r1:fU K CW=true)(gH:dQ P w K mg base "card_of" 4 ["stand","card"] (nO CC)):bE P w K mg base (fD P w) 5 f fd ["stand","card","other"] (tR CC CW ts):=by
 refine F.okX sc_without_waits (λ vs H Q E h=>?_) (λ A outer s H vs Q E hr h=>?_)
 ·obtain⟨sd,u,x,y,rfl,_⟩:=h
  rfl
 obtain⟨sd,u,x,y,rfl,hs,hx,hy,hn,tb,q1,q2,q3,q4⟩:=h
 refine'⟨_,?hh,?rr⟩
 case hh=>exists aT ?_ ?_,iZ ?_,fY iT gH hr ?_ rfl ?_,aA (pv 0) ?_,aA (pv 1) aI,Qc,aT ?_ ?_,iZ ?_,fY iT gH hr ?_ rfl ?_,aA (pv 0) ?_,aA (pv 2) aI,Qc,aT ?_ ?_,lY (pv 0) ?_,mB rfl ?_,dL ?_ ?_,bL sc_without_waits.nd (aQ 3) (Or.inl rfl) (Or.inl rfl),dL ?_ ?_,bL sc_without_waits.nd (aQ 4) (Or.inl rfl) (Or.inl rfl),dL ?_ lZ,bL sc_without_waits.nd (aQ 5) (Or.inl rfl) (Or.inl rfl),aT ?_ ?_,bH sc_without_waits.nd (aQ 6) (Or.inl rfl) ?_,Nz hr rfl rfl hcd hbm rfl T.b_tuple ?_ (eU ["wait","card","other"] 1 [1,2]) ?_ ?_ ?_ ?_ ?_ ?_ ?_,(by exact⟨rfl,rfl,Qd,rfl,(show∀y:Str×NameKind,y∈_->y.2=NameKind.free->(aW fT).names.lookup y.1=some .cell\/(aW fT).names.lookup y.1=some .free from Qd)⟩),Qd,Qc,gN (pv 5),6,bL ?_ (aQ 0) (Or.inl rfl) (Or.inr rfl),(by exact(show(["wait","card","other"]:List Str).Nodup from Qd)),fH Qc,6,jZ ?_,PW.pt ?_,lW ?_ ?_,bY kL ?_ (pv 1) (bO _),aV ?_ (pv 0) aL (λ _ _=>rfl),(by exact(show cW _ (fV K)from bK)),lV ?_,bY kL ?_ (pv 2) (bO _),aV ?_ (pv 0) aL (λ _ _=>rfl),(by exact(show cW _ (fV K)from bK)),6,(pv 0),aT ?_ ?_,cG ?_ ?_ cF,bY eI ?_ ?_ (bO _),bG cU rfl T.b_len PySem.boot_len ?_,aA (pv 6) aI,bG cU rfl T.b_len PySem.boot_len ?_,aA (pv 5) aI,aY ?_,vD iT ?_,vH xO hr ?_ rfl ?_,aA (pv 1) aI,Qc,aY ?_,bI ?_,dS ?_,aA (pv 3) ?_,aA (pv 4) ?_,aA (pv 6) aI
 refine⟨_,rfl,_,rfl,sd,u,x,rfl,hs,hx,λ c cu H1 hc e1 _=>?_,λ hn=>(q1 hn).on⟩
 refine⟨_,rfl,_,rfl,sd,u,y,rfl,aE.ext e1 hs,hy,λ o ou H2 ho e2 _=>?_,λ hn=>((q2 c hc hn).up e1).on⟩
 have e12:=e1.trans e2
 have q3':=q3 c o hc ho
 have q4':=λ r H'=>q4 c o r H' hc ho
 clear q1 q2 q3 q4
 have hs2:=aE.ext e12 hs
 obtain⟨ps,hps⟩:=(e12.tb tb hte) tP hts
 obtain⟨a,us,rfl,_,ha,v1,r1',rfl,h1,v2,r2,rfl,h2,v3,r3,rfl,h3,rfl⟩:=hs2
 obtain⟨wa,wv,rfl,_,hwa,hws⟩:=h3
 have ew:=hws.length
 rw[List.length_map]at ew
 refine⟨_,rfl,_,_,rfl,aM.of ha,rfl,_,_,rfl,_,_,rfl,_,_,rfl,rfl,?_⟩
 refine⟨_,rfl,wa,rfl,⟨wv,aM.of hwa⟩,⟨ps,hps⟩,λ ps' tb' D hD=>?_⟩
 have e0:aG [] H2 (aD H2 tP (.tbl ps')):=aG.tbl hps.1 tb'.2
 have hD0:H2 D=none:=e0.free Qb hD
 have hws':=aJ.more hD0 hws
 refine Hs (lN (ys:=wv)) (λ i xs H3=>aG [] H2 H3/\H3 D=some (.lst xs)/\aJ [D] H3 (((sd.ws.take i).filter λ t=>t.cd !=x||t.ot !=y).map Wt.d) xs) ⟨Aw e0 hD0,aR,rfl⟩ (λ _ _ _ h=>aM.of (h.1.tup Qb hwa)) (λ _ _ _ h=>h.2.1) ?_ ?_
 ·rintro i z xs H3 hz hi ⟨e,hDx,hxs⟩
  obtain⟨t,ht,hdz⟩:=hws'.nth hz
  have e':aG [D] H2 H3:=e.mono Qb
  have hdz2:=aE.ext e' hdz
  obtain⟨b,rfl,hb⟩:=Wt.view hdz2
  have tk:=Hx ht
  have small:xs.length<sizeLine:=by
   have:=hxs.length
   rw[List.length_map]at this
   refine cM (Nat.le_trans (Nat.le_of_eq this) (Nat.le_trans (List.length_filter_le _ _) ?_))
   rw[List.length_take]
   omega
  have yes:(t.cd !=x||t.ot !=y)=true->H3 D=some (.lst xs)/\xs.length<sizeLine/\Nx wv.length i (aG [] H2 (aD H3 D (.lst (xs++[.ref b])))/\(aD H3 D (.lst (xs++[.ref b]))) D=some (.lst (xs++[.ref b]))/\aJ [D] (aD H3 D (.lst (xs++[.ref b]))) (((sd.ws.take (i+1)).filter λ t=>t.cd !=x||t.ot !=y).map Wt.d) (xs++[.ref b])):=λ hy=>by
   refine⟨hDx,small,nx hi ⟨Aw e hD0,aR,?_⟩⟩
   rw[tk,List.filter_append,List.map_append]
   refine aJ.ext (aG.put Qb _) (aJ.append hxs ?_)
   rw[List.filter_cons_of_pos (by simpa using hy)]
   exact⟨_,_,rfl,hdz2,rfl⟩
  refine⟨_,rfl,b,_,_,.str t.cd,rfl,rfl,aM.of hb,rfl,_,rfl,rfl,_,rfl,?_⟩
  refine bU (λ cc=>?_) (λ cc=>?_)
  ·have c1:(t.cd !=x)=true:=by simpa using cc
   exact mK ⟨_,rfl,yes (by rw[c1];rfl)⟩
  ·have c1:(t.cd !=x)=false:=by simpa using cc
   refine⟨_,rfl,b,_,_,.str t.ot,rfl,rfl,aM.of hb,rfl,_,rfl,rfl,_,rfl,?_⟩
   refine bU (λ c3=>?_) (λ c3=>?_)
   ·have c2:(t.ot !=y)=true:=by simpa using c3
    exact⟨_,rfl,yes (by rw[c1,c2];rfl)⟩
   ·have c2:(t.ot !=y)=false:=by simpa using c3
    refine nx hi ⟨e,hDx,?_⟩
    rw[tk,List.filter_append,List.map_append,List.filter_cons_of_neg (by rw[c1,c2];decide)]
    simpa using hxs
 ·rintro xs H3 ⟨e,hDx,hxs⟩ t ht
  rw[ew,List.take_length]at hxs
  have hxs0:=aJ.less (ex':=[]) Qb hxs
  have hxl:xs.length=(Sd.less sd x y).length:=by rw[hxs0.length,List.length_map];rfl
  have e3:aG [] H3 (aD H3 t (.tup xs)):=aG.new ht _
  generalize hH4:aD H3 t (.tup xs)=H4 at e3⊢
  have ht4:H4 t=some (.tup xs):=by rw[<-hH4];exact aR
  have hx4:=aJ.ext e3 hxs0
  have e24:=e.trans e3
  have e14:=e12.trans e24
  refine⟨_,rfl,t,_,rfl,.inr (aM.of ht4),_,rfl,wa,_,rfl,.inr (aM.of (e24.tup Qb hwa)),rfl,_,rfl,?_⟩
  refine bU (λ cc=>?_) (λ cc=>?_)
  ·have cc':xs.length=wv.length:=by
    have:(xs.length:Int)=(wv.length:Int):=by simpa using cc
    omega
   exact⟨_,rfl,vB ["card"] [.str x] (q3' Qa) e14 (uJ (uI hx)) r1⟩
  ·have cc':¬xs.length=wv.length:=by
    have:¬(xs.length:Int)=(wv.length:Int):=by simpa using cc
    omega
   refine⟨_,rfl,_,rfl,_,rfl,by show 3<=sizeLine;decide,λ t2 ht2=>?_⟩
   have e5:aG [] H4 (aD H4 t2 (.tup [v1,v2,.ref t])):=aG.new ht2 _
   have e25:=e24.trans e5
   refine q4' _ _ Qa (e12.trans e25) ⟨t2,_,rfl,Qb,aR,v1,_,rfl,aE.ext e25 h1,v2,_,rfl,aE.ext e25 h2,.ref t,_,rfl,⟨t,xs,rfl,Qb,e5.tup Qb ht4,aJ.ext e5 hx4⟩,rfl⟩
end
end K14
namespace L2
open PySem PySem.Spec PyProof.Rows
theorem zY:∀{us:List Value} {ys:List Str},StrsAre us ys->aO (ys.map V.str) us
 |_,_,.nil=>.nil
 |_,_,.cons y t r=>.cons ⟨t,rfl⟩ (zY r)
def Me(K:PySem.W.Frag):List V->Hp->VK->Prop:=λ vs H Q=>∃(a:Addr) (ys:List Str),vs=[.ref a]/\aN K H a (ys.map V.str)/\ys.length<64/\∀p zs,H p=none->zs.Perm ys->sortedS zs=true->Q (.ref p) (aD H p (.lst (zs.map V.str)))
theorem Xu{X:Cx}:dA X (.builtin "sorted") (Me X.K):=by
 intro pins s σ H vs us Q I rv h
 obtain⟨a,ys,rfl,hq,h64,q⟩:=h
 obtain⟨u,rfl,ru⟩:=rv.one
 obtain rfl:u= .ref a:=ru
 obtain⟨its,r,pl,hl⟩:=I.list hq
 have hlen:=r.length
 rw[List.length_map]at hlen
 refine sorted_strs pl.isList (strs_of r) Qa λ out ss' a1 a2 a3=>?_
 obtain⟨e,he⟩:=sortedAll_at s.heap its out
 have hl2:=a2.length_eq
 refine⟨.ref (s.heap.objs.size+1),_,I.laid (t':=s.toks) (o:=.lst (ss'.map V.str)) (λ b o q=>sortedAll_old q) (Nat.le_succ _) ⟨?_,out.toList,e,zY a1,by simpa using he⟩,rfl,q _ ss' (I.hok.fresh (Nat.le_succ _)) a2 a3⟩
 rw[List.length_map]
 exact Nat.le_of_lt (cM Qa)
structure eB(k:Nat)(A:Around):Prop where
 dp:A.depth+3*k+5<recursionLimit
 un:A.units+16*k+200<cLine
theorem bT.zero{k:Nat}{A:Around}(r:bT k A):eB k A:=⟨r.dp,r.un⟩
theorem bT.mark{k:Nat}{A:Around}{v:Option Value}(r:bT k A):eB k (A.mark v):=⟨r.dp,r.un⟩
theorem eB.mono{j k:Nat}{A:Around}(r:eB k A)(h:j<=k):eB j A:=⟨by have:=r.dp;omega,by have:=r.un;omega⟩
theorem eB.deeper{k:Nat}{A:Around}(r:eB (k+1) A)(env:Env):eB k (A.deeper env):=
 ⟨by have:=r.dp;show A.depth+1+3*k+5<_;omega,by have:=r.un;show A.units+3+16*k+200<_;omega⟩
theorem eB.depth{k:Nat}{A:Around}(r:eB k A):A.depth<recursionLimit:=by have:=r.dp;omega
theorem eB.units{k:Nat}{A:Around}(r:eB k A):A.units+64<cLine:=by have:=r.un;omega
structure pB(P:Program)(w:World)(K:PySem.W.Frag)(mg:Str->Option Value)(base:Heap)(CX:dI)(k:Nat)(f:Addr)(fd:FuncData)(ps:List Str)(sp:Sp):Prop where
 len:∀vs H Q E,sp vs H Q E->vs.length=ps.length
 run:∀(A:Around) (outer:List Env) (s:Shared) (H:Hp) (args:Args) (us:List Value) (vs:List V) (Q:VK) (E:XK),eB k A->fS P w K mg base A outer s H->BindsTo s fd args (ps.zip us)->aO vs us->sp vs H Q E->
  codeAny (model P w) A (.call (.ref f) args) (CR CX outer P w H s Q E) s
abbrev mM(CX:dI)(P:Program)(w:World)(K:PySem.W.Frag)(mg:Str->Option Value)(base:Heap)(N:List Str)(qual:Str)(scope:Scope)(f:Addr)(cd:Value)(A:Around)(outer:List Env)(s:Shared)(H:Hp)(E:XK):Cx:={gB CX P w K mg base N qual scope f cd A outer s H E with calm:=false}
theorem Tm{CX:dI}{P:Program}{w:World}{K:PySem.W.Frag}{mg:Str->Option Value}{base:Heap}{N ps:List Str}{qual:Str}{scope:Scope}{f:Addr}{cd:Value}{A:Around}{outer:List Env}{s s1:Shared}{H:Hp}{E:XK}{us:List Value}{vs:List V}
  (S:bW N ps scope) (e0:fS P w K mg base A outer s H) (hl:vs.length=ps.length) (r:aO vs us)
  (x:InCallC s s.heap.objs.size (bindL (envOfC qual scope s.heap.objs.size f cd).kindOf (ps.zip us) λ _=>none) (cellsFrom (s.heap.objs.size+1) scope.names []) (bindC (envOfC qual scope s.heap.objs.size f cd).kindOf (ps.zip us) λ _=>none) s1):
  aB (mM CX P w K mg base N qual scope f cd A outer s H E) [] (start N vs) H s1:=by
 have hpl:ps.length<=N.length:=by have:=congrArg List.length S.pre;rw[List.length_take]at this;omega
 obtain⟨h1,tk,rfl,hk⟩:=x.done
 have noA:∀b:Addr,b∉(mM CX P w K mg base N qual scope f cd A outer s H E).ex:=λ b z=>absurd (show b∈([]:List Addr)from z) Qb
 refine⟨⟨e0.mod,S.kind,rfl,rfl,Nat.le_refl _,λ y z c h1 h2=>?_,λ y hy=>?_,λ y c _ h=>?_,(λ z=>by cases z),Around.frames_deeper e0.frames,.inr ⟨rfl,rfl⟩,λ b z=>absurd z (noA b),e0.bs,e0.bsz,λ b _ _=>noA b,λ b z=>absurd z (noA b),e0.funs,e0.frf⟩,
  rfl,⟨e0.bare,Nat.le_refl _⟩,Un.kept hk,⟨_,x.toInCall.ns,λ i y v h1 h2 h3=>?_⟩,λ y c h=>⟨_,x.cell y c h⟩,e0.hok.fresh (Nat.le_refl _),λ y c h=>?_,λ p hp=>absurd (show p∈([]:List (Addr×Obj))from hp) Qb,e0.hok.kept hk,?_⟩
 ·exact name_of_addr x.apart (PySem.mem_of_lookup h1) (PySem.mem_of_lookup h2)
 ·have hy:scope.names.lookup y=some .cell\/scope.names.lookup y=some .free:=hy
  rcases hy with hy|hy
  ·exact rJ hy
  ·exact absurd rfl (S.nofree _ (PySem.mem_of_lookup hy))
 ·exact Nat.le_of_lt (x.above y c (PySem.mem_of_lookup h))
 ·have hi:i<vs.length:=by
   unfold start at h2
   by_cases hi:i<vs.length
   ·exact hi
   ·rw[List.getElem?_append_right (by simpa using hi)]at h2
    rw[List.getElem?_replicate]at h2
    split at h2<;>cases h2
  have ha:vs[i]? =some v:=by
   unfold start at h2
   rw[List.getElem?_append_left (by simpa using hi),List.getElem?_map]at h2
   cases e:vs[i]? with
   |none=>rw[e]at h2;cases h2
   |some a=>rw[e]at h2;cases h2;rfl
  obtain⟨u,hu,rv⟩:=r.get ha
  have hp:ps[i]? =some y:=by
   rw[<-S.pre,List.getElem?_take_of_lt Qa];exact h1
  have ndP:ps.Nodup:=by rw[<-S.pre];exact S.nd.sublist (List.take_sublist _ _)
  refine⟨u,rv,?_⟩
  rcases S.par y (List.mem_of_getElem? hp)with k|k
  ·exact .inl ⟨k,wS ndP hp hu k⟩
  ·obtain⟨c,e⟩:=rJ (n:=s.heap.objs.size+1) k
   refine .inr ⟨.inl k,c,e,?_⟩
   have q:=x.cell y c e
   rw[wT ndP hp hu (by show scope.names.lookup y≠_;rw[k];decide)]at q
   exact q
 ·exact e0.hok.fresh (Nat.le_of_lt (x.above y c (PySem.mem_of_lookup h)))
 ·unfold start
  show _=N.length
  rw[List.length_append,List.length_map,List.length_replicate]
  omega
theorem Vp{CX:dI}{P:Program}{w:World}{K:PySem.W.Frag}{mg:Str->Option Value}{base:Heap}{k:Nat}{f:Addr}{name qual:Str}{params:Arguments}{body:List Stmt}{scope:Scope}{dV kV doc pm cdv ct oc:Value}{an od:Option Addr}
  {osl:Array (Option Value)} {N ps:List Str} {sp:Sp} (lk:K.lookup f=some ⟨oc,od,.func (PySem.W.fnOf name qual params body scope dV kV doc pm an cdv ct),osl⟩) (hcd:PySem.W.codeIn K cdv qual=true) (S:bW N ps scope)
  (len:∀vs H Q E,sp vs H Q E->vs.length=ps.length)
  (hbody:∀(A:Around) (outer:List Env) (s:Shared) (H:Hp) (vs:List V) (Q:VK) (E:XK),eB k (A.deeper (envOfC qual scope s.heap.objs.size f cdv))->sp vs H Q E->
   ∃t,dH (mM CX P w K mg base N qual scope f cdv A outer s H E) body t/\t {nx:=λ _ H'=>Q .non H',rt:=Q} (start N vs) H):
  pB P w K mg base CX (k+1) f (PySem.W.fnOf name qual params body scope dV kV doc pm an cdv ct) ps sp:=by
 refine⟨len,λ A outer s H args us vs Q E hr e0 hb r hsp=>?_⟩
 have hl:=len _ _ _ _ hsp
 have KX:K.In s.heap:=e0.mod.kin.keeps λ b o e=>(e0.bs b o e).1
 have lim:s.heap.NoLimit:=e0.mod.nolimit.keeps λ b o e=>(e0.bs b o e).1
 have hkind:∀y∈ps.zip us,scope.names.lookup y.1=some .local\/(scope.names.lookup y.1=some .cell/\((cellsFrom (s.heap.objs.size+1) scope.names []).lookup y.1).isSome=true):=λ ⟨n,v⟩ hy=>by
  rcases S.par n (List.of_mem_zip hy).1 with q|q
  ·exact .inl q
  ·exact .inr ⟨q,PySem.W.cellsFrom_some _ _ _ (.inl q)⟩
 refine codeAny_call_function hr.depth (KX _ _ lk) rfl S.co S.gen rfl (PySem.W.codeRec_of KX hcd) (hb _ _ _ _ ?_)
 refine wpAny_newFunctionEnv_cells S.kind hkind λ env he s1 x=>?_
 subst he
 refine⟨lim.keeps x.toInCall.keep,codeAny_func ?_⟩
 obtain⟨t,ht,hq⟩:=hbody A outer s H vs Q E (hr.deeper _) hsp
 have I:aB (mM CX P w K mg base N qual scope f cdv A outer s H E) [] (start N vs) H s1:=Tm S e0 hl r x
 refine wpAny_mono (ht [] s1 (start N vs) H _ I hq) (λ fl s' hs=>?_) λ e s' hs=>hs
 have fin:∀{σ':St} {H':Hp} {v:V} {u:Value},aB (mM CX P w K mg base N qual scope f cdv A outer s H E) [] σ' H' s'->bA v u->Q v H'->CE outer P w H s Q u s':=
  fun{σ' H' v u} J rv q=>⟨v,H',J.os,J.bare,J.base,J.hok,rv,q⟩
 cases fl with
 |ret u=>
  obtain⟨v,σ',H',J,rv,q⟩:=hs
  exact fin J rv q
 |next=>
  obtain⟨σ',H',J,q⟩:=hs
  exact fin (v:=V.non) (u:=Value.none) J rfl q
 |brk=>
  obtain⟨_,_,_,q⟩:=hs
  exact False.elim q
 |cont=>
  obtain⟨_,_,_,q⟩:=hs
  exact False.elim q
section
variable{P:Program}{w:World}{K:PySem.W.Frag}{mg:Str->Option Value}{base:Heap}
theorem bR.okH{x qual:Str}{st:Stmt}{f:Addr}{fd:FuncData}{N ps:List Str}{k:Nat}{sp:Sp}(F:bR K x qual st f fd)(S:bW N ps (aW st))(len:∀vs H Q E,sp vs H Q E->vs.length=ps.length)
  (hbody:∀(cdv:Value) (A:Around) (outer:List Env) (s:Shared) (H:Hp) (vs:List V) (Q:VK) (E:XK),eB k (A.deeper (envOfC qual (aW st) s.heap.objs.size f cdv))->sp vs H Q E->
   ∃t,dH (mM bP P w K mg base N qual (aW st) f cdv A outer s H E).nox (dG st) t/\t {nx:=λ _ H'=>Q .non H',rt:=Q} (start N vs) H):pB P w K mg base bP (k+1) f fd ps sp:=by
 obtain⟨oc,od,kV,doc,pm,an,cdv,ct,osl,rfl,lk,hcd⟩:=F.ex
 refine Vp lk hcd S len λ A outer s H vs Q E hr hsp=>?_
 obtain⟨t,h,q⟩:=hbody cdv A outer s H vs Q E hr hsp
 exact⟨t,h.nox,q⟩
def sJ(P:Program)(w:World)(K:PySem.W.Frag)(mg:Str->Option Value)(base:Heap)(x:Str)(k:Nat)(ps:List Str)(sp:Sp):Prop:=
 ∃f fd,pB P w K mg base bP k f fd ps sp/\mg x=some (.ref f)/\PySem.W.keepIn K (.ref f)=true/\hU K fd ps []
variable{X:Cx}{x:Str}{k j:Nat}{ps:List Str}{sp:Sp}{e:Expr}{es:List Expr}{p pos:Pos}{t:TA}
theorem Oe(C:sJ X.prog X.w X.K X.mg X.base x k ps sp)(hr:eB j X.A)(ha:PA X (e::es) t)(hg:Gl X x:=by rfl)(hj:k<=j:=by decide)(hdb:(x==("__debug__" :Str))=false:=by decide)
  (he:starEach (e::es) X.env=(false,eval e X.env)::starEach es X.env:=by rfl) (hpl:(backTo pos (starEach es X.env)).any (·.1)=false:=by rfl):
  PE X (.Call (.Name x p) (e::es) [] pos) (sW sp [] E0 t):=by
 obtain⟨f,fd,F,hm,hk,hb⟩:=C
 intro pins s σ H Q I h
 refine wpAny_Call_Name_kw (mF I hg hm ?_ hdb)
 refine PySem.W.callWith_K (h₀:=X.base) I.ok.mod.kin hk (aP (ha pos pins s σ H _ I h) λ us s1 ⟨vs,H1,I1,r,q⟩=>⟨I1.kIn,?_⟩) he hpl
 have q':sp vs H1 Q E0:=by have q0:sp (vs++[]) H1 Q E0:=q;rw[List.append_nil]at q0;exact q0
 have hl:us.length=ps.length:=by rw[<-r.length];exact F.len _ _ _ _ q'
 have hb':=hb s1 us I1.kIn (by simpa using hl)
 rw[List.append_nil]at hb'
 refine wpAny_call (codeAny_mono (F.run X.A X.stack s1 H1 ⟨us,[]⟩ us vs Q E0 (hr.mono hj) I1.env0 hb' r q') λ r s' hq=>?_)
 cases r with
 |error ev=>exact False.elim hq
 |ok fl=>
  cases fl with
  |ret u=>exact I1.after hq
  |next=>exact False.elim hq
  |brk=>exact False.elim hq
  |cont=>exact False.elim hq
end
section
variable{prog:Program}{w:World}{A:Around}{E:Qe}{s:Shared}{z TI TO i j:Addr}{fp gp:List Addr}{n m k:Nat}{P R:Nat->Value->Prop}{St Su:Nat->Heap->Prop}{a b:Value}
theorem Fw{Q:Option Value->Shared->Prop}(Z:ZA z TI TO i j fp gp)(D:Draws prog w A.in1 i fp n P St)(G:Draws prog w A.in1 j gp m R Su)(hz:IsZip s.heap z TI TO .none)(hI:IsPair s.heap TI (.ref i) (.ref j))(hO:IsPair s.heap TO a b)(hk:k<n)(h1:St k s.heap)(hm:k=m)(h2:Su k s.heap)
  (hQ:∀h' tk,(∀c o,c∉[z,TO,i,j]->s.heap.get? c=some o->h'.get? c=some o)->Q none {s with heap:=h',toks:=tk}):wpAny (model prog w) A (pyNext (.ref z)) Q E s:=by
 have nd:=Z.nd
 simp only[List.nodup_cons,List.mem_cons,List.not_mem_nil,or_false,not_or,List.nodup_nil,and_true,not_false_eq_true]at nd
 obtain⟨⟨nzI,nzO,nzi,nzj⟩,⟨nIO,nIi,nIj⟩,⟨nOi,nOj⟩,nij⟩:=nd
 have hT:s.TypeIs (.ref z) "zip" :=⟨_,hz,rfl⟩
 obtain⟨hp,g,d,t0,os⟩:=s
 unfold pyNext
 refine wpAny_bind (wpAny_attempt (wpAny_callSpecial?_slot (name:=Str.ofString "__next__") hT F.slot_zip_next (wpAny_call_entry F.slot_zip_next hT F.entry_zip_next ?_ (F.args_zip_next_1 _))))
 show wpAny _ _ (field (.ref z) 2>>=_) _ _ _
 refine wpAny_bind (wpAny_field hz rfl (x:=.bool false) rfl ?_)
 show wpAny _ _ (field (.ref z) 3>>=_) _ _ _
 refine wpAny_bind (wpAny_field hz rfl (x:=.ref TI) rfl (wpAny_bind (wpAny_seqItems hI rfl ?_)))
 show wpAny _ _ (Builtin.SmallTypes.ownedTupleIsFree (.ref z)>>=_) _ _ _
 refine wpAny_bind ?_
 unfold Builtin.SmallTypes.ownedTupleIsFree
 refine wpAny_bind (wpAny_field hz rfl (x:=.none) rfl (wpAny_pure ?_))
 simp only[if_true]
 refine wpAny_bind (wpAny_rule (wpAny_bind (wpAny_field hz rfl (x:=.ref TO) rfl (wpAny_bind (wpAny_setField_rec hz Qb λ hA zA sA=>wpAny_bind ?_)))))
 replace zA:IsZip hA z TI TO .ellipsis:=zA
 replace sA:Heap.SameBut z hp hA:=sA
 simp only[List.zipIdx_cons,List.zipIdx_nil,List.forIn_cons,List.forIn_nil]
 refine wpAny_bind (wpAny_bind (wpAny_onRaise ?_))
 show wpAny _ _ (Builtin.SmallTypes.nextOf (.ref i)>>=_) _ _ _
 have h1A:St k hA:=D.frame _ _ _ h1 λ b hb o q=>(sA.2 b (Z.f b hb).1).trans q
 refine wpAny_bind (D.item k ⟨hA,g,d,t0,os⟩ _ _ hk h1A λ x hB tB px h1B sB=>wpAny_pure ?_)
 replace sB:Heap.SameBut i hA hB:=sB
 have OB:IsPair hB TO a b:=(sB.2 _ nOi).trans ((sA.2 _ (Ne.symm nzO)).trans hO)
 refine wpAny_bind (wpAny_seqItems OB rfl (wpAny_bind (wpAny_updateSeq_pair (s:=⟨hB,g,d,tB,os⟩) OB λ hC OC sC=>wpAny_bind (wpAny_letGo (wpAny_pure ?_)))))
 replace sC:Heap.SameBut TO hB hC:=sC
 refine wpAny_bind (wpAny_bind (wpAny_onRaise ?_))
 show wpAny _ _ (Builtin.SmallTypes.nextOf (.ref j)>>=_) _ _ _
 have h2C:Su k hC:=G.frame _ _ _ h2 λ b hb o q=>(sC.2 b (Z.g b hb).2.1).trans ((sB.2 b (Z.g b hb).2.2.1).trans ((sA.2 b (Z.g b hb).1).trans q))
 rw[hm]at h2C
 refine wpAny_bind (G.done ⟨hC,g,d,tB,os⟩ _ _ h2C λ hD e sD ⟨oe,he,hce⟩=>?_)
 have zD:IsZip hD z TI TO .ellipsis:=sD _ _ nzj ((sC.2 _ nzO).trans ((sB.2 _ nzi).trans zA))
 have nez:e≠z:=λ x=>by subst x;rw[zD]at he;cases he;simp at hce
 refine wpAny_setField_rec zD Qb λ hE _ sE=>?_
 replace sE:Heap.SameBut z hD hE:=sE
 refine wpAny_bind (wpAny_isInstance (T:= "StopIteration") (b:=true) ⟨oe,(sE.2 _ nez).trans he,hce⟩ isSubtype_stop (wpAny_pure (hQ _ tB λ c o hc q=>?_)))
 simp only[List.mem_cons,List.not_mem_nil,or_false,not_or]at hc
 exact(sE.2 _ hc.1).trans (sD _ _ hc.2.2.2 ((sC.2 _ hc.2.1).trans ((sB.2 _ hc.2.2.1).trans ((sA.2 _ hc.1).trans q))))
end
theorem qY{X:Cx}{pins:List (Addr×Obj)}{σ:St}{H:Hp}{s:Shared}{a b:Addr}{xs:List V}(I:aB X pins σ H s)(hf:dW X pins H b)(hq:aN X.K H a xs):a≠b:=by
 intro e
 subst e
 obtain⟨f0,_,_,f3,_,_⟩:=hf
 rcases hq with(h|⟨o,h⟩)|⟨o,_,_,hk,_⟩
 ·rw[f0]at h;cases h
 ·rw[f0]at h;cases h
 ·have hb:=I.ok.mod.kin _ _ hk
  rcases f3 with z|z
  ·exact I.ok.noex _ _ hb z
  ·exact absurd (Nat.lt_of_lt_of_le (Heap.lt_size (I.ok.bs _ _ hb).1) z) (Nat.lt_irrefl _)
section
variable{prog:Program}{w:World}{A:Around}{E:Qe}{s:Shared}
end
section
variable{X:Cx}{elts:List Expr}{q:Nat}{tpos:Pos}
end
section
variable{prog:Program}{w:World}{A:Around}{E:Qe}{s:Shared}
abbrev pO(l:Addr):Obj:={cls:=.type "list_iterator",data:=.fields #[.ref l,.int 0 0]}
abbrev lM(h:Heap)(l:Addr):Heap:=h.push (pO l)
abbrev nE(h:Heap)(l c:Addr):Heap:=(lM h l).push (pO c)
abbrev nB(h:Heap)(l c:Addr):Heap:=(nE h l c).push (iV (.ref h.objs.size) (.ref (lM h l).objs.size))
abbrev pF(h:Heap)(l c:Addr):Heap:=(nB h l c).push (iV .none .none)
abbrev iS(h:Heap)(l c:Addr):Heap:=(pF h l c).push (pE (.ref (nE h l c).objs.size) (.ref (nB h l c).objs.size))
theorem Rp(l c:Addr)(xs ys:Array Value):Meets (Builtin.«zip.__new__» ⟨[.type "zip",.ref l,.ref c],[]⟩) (λ _ R s=>(s.heap.IsList l xs/\s.heap.IsList c ys)/\R (.ok (.ret (.ref (pF s.heap l c).objs.size))) {s with heap:=iS s.heap l c}):=
 .of_wp λ prog w A R s h=>by
  obtain⟨hp,g,d,tk,os⟩:=s;obtain⟨⟨hl1,hl2⟩,h⟩:=h
  have hsub:=sub_zip
  have hL1:Heap.IsList (Shared.heap ⟨hp,g,d,tk,os⟩) l xs:=hl1
  have hL2:Heap.IsList (Shared.heap ⟨lM hp l,g,d,tk,os⟩) c ys:=hl2.at λ o e=>Heap.get?_push_of_some _ e
  wp_walk using wpAny_pyIter_list hL1,wpAny_pyIter_list hL2
  exact⟨_,rfl,h⟩
theorem Xp{l c:Addr}{xs ys:Array Value}{Q:Qe}(h1:s.heap.IsList l xs)(h2:s.heap.IsList c ys)
  (h:∀h',IsZip h' (s.heap.objs.size+4) (s.heap.objs.size+2) (s.heap.objs.size+3) .none->IsPair h' (s.heap.objs.size+2) (.ref s.heap.objs.size) (.ref (s.heap.objs.size+1))->IsPair h' (s.heap.objs.size+3) .none .none->
   h'.IsListIter s.heap.objs.size l 0->h'.IsListIter (s.heap.objs.size+1) c 0->(∀b o,s.heap.get? b=some o->h'.get? b=some o)->Q (.ref (s.heap.objs.size+4)) {s with heap:=h'}):wpAny (model prog w) A (call (.type "zip") [.ref l,.ref c]) Q E s:=by
 refine callType_new F.called_zip Qc (F.typeCall_zip_2 _ _) (F.newCall_zip_2 _ _) (λ obj=>F.args_object_init_3 obj _ _) F.entry_zip_new (Rp l c xs ys) ⟨⟨h1,h2⟩,?_⟩
 have z1:(lM s.heap l).objs.size=s.heap.objs.size+1:=Heap.size_push ..
 have z2:(nE s.heap l c).objs.size=s.heap.objs.size+2:=(Heap.size_push ..).trans (congrArg (· +1) z1)
 have z3:(nB s.heap l c).objs.size=s.heap.objs.size+3:=(Heap.size_push ..).trans (congrArg (· +1) z2)
 have z4:(pF s.heap l c).objs.size=s.heap.objs.size+4:=(Heap.size_push ..).trans (congrArg (· +1) z3)
 have up:∀{hh:Heap} {o o':Obj} {b:Addr},hh.get? b=some o->(hh.push o').get? b=some o:=λ e=>Heap.get?_push_of_some _ e
 have p1:(iS s.heap l c).get? s.heap.objs.size=some (pO l):=up (up (up (up (Heap.get?_push_size _ rfl))))
 have p2:(iS s.heap l c).get? (lM s.heap l).objs.size=some (pO c):=up (up (up (Heap.get?_push_size _ rfl)))
 have p3:(iS s.heap l c).get? (nE s.heap l c).objs.size=some (iV (.ref s.heap.objs.size) (.ref (lM s.heap l).objs.size)):=up (up (Heap.get?_push_size _ rfl))
 have p4:(iS s.heap l c).get? (nB s.heap l c).objs.size=some (iV .none .none):=up (Heap.get?_push_size _ rfl)
 have p5:(iS s.heap l c).get? (pF s.heap l c).objs.size=some (pE (.ref (nE s.heap l c).objs.size) (.ref (nB s.heap l c).objs.size)):=Heap.get?_push_size _ rfl
 have pp:=λ b o (e:s.heap.get? b=some o)=>show(iS s.heap l c).get? b=some o from up (up (up (up (up e))))
 show _/\_
 generalize iS s.heap l c=hh at p1 p2 p3 p4 p5 pp⊢
 rw[z1]at p2 p3
 rw[z2]at p3 p5
 rw[z3]at p4 p5
 rw[z4]at p5⊢
 exact⟨⟨_,p5,rfl⟩,h _ p5 p3 p4 ⟨_,p1,rfl,rfl⟩ ⟨_,p2,rfl,rfl⟩ pp⟩
end
def xR(K:PySem.W.Frag)(a c:Addr):It:=
  ⟨λ k H=>∃xs ys x y,aN K H a xs∧aN K H c ys∧xs[k]? =some x∧ys[k]? =some y,
   λ k H v H'=>∃T x y,v= .ref T∧H T=none∧H'=aD H T (.tup [x,y])∧(∀xs,aN K H a xs→xs[k]? =some x)∧(∀ys,aN K H c ys→ys[k]? =some y),
   λ k H=>∃xs ys,aN K H a xs∧aN K H c ys∧(xs.length=k∨(k<xs.length∧ys.length=k))⟩
theorem Hl{P:Program}{w:World}{K:PySem.W.Frag}{elts:List Expr}{q}{pos:Pos}(a c z TI TO i j:Addr)(nd:[z,TI,TO,i,j].Nodup):
  iO P w K (.Tuple elts q pos) (xR K a c) [z,TI,TO,i,j] z (λ k h=>IsZip h z TI TO .none/\IsPair h TI (.ref i) (.ref j)/\(∃u v,IsPair h TO u v)/\h.IsListIter i a k/\h.IsListIter j c k) where
 mem:=by simp
 obj:=λ k h st b hb=>by
  obtain⟨h1,h2,⟨u,v,h3⟩,⟨o4,h4,_,d4⟩,⟨o5,h5,_,d5⟩⟩:=st
  simp only[List.mem_cons,List.not_mem_nil,or_false]at hb
  rcases hb with rfl|rfl|rfl|rfl|rfl
  ·exact⟨_,h1,λ v z=>by cases z⟩
  ·exact⟨_,h2,λ v z=>by cases z⟩
  ·exact⟨_,h3,λ v z=>by cases z⟩
  ·exact⟨_,h4,λ v z=>by rw[d4]at z;cases z⟩
  ·exact⟨_,h5,λ v z=>by rw[d5]at z;cases z⟩
 keep:=λ k h h' st kk=>by
  obtain⟨h1,h2,⟨u,v,h3⟩,h4,h5⟩:=st
  exact⟨kk _ Qb _ h1,kk _ Qb _ h2,⟨u,v,kk _ Qb _ h3⟩,h4.at λ o e=>kk i Qb o e,h5.at λ o e=>kk j Qb o e⟩
 item:=by
  intro X hP hw hK hc k pins s σ H E I hf st hg
  subst hP hw hK
  obtain⟨xs,ys,x,y,hq1,hq2,hx,hy⟩:=hg
  obtain⟨h1,h2,⟨u,v,h3⟩,h4,h5⟩:=st
  obtain⟨its1,rv1,p1,_⟩:=I.list hq1
  obtain⟨its2,rv2,p2,_⟩:=I.list hq2
  obtain⟨u1,hu1,ru1⟩:=rv1.get hx
  obtain⟨u2,hu2,ru2⟩:=rv2.get hy
  have na:∀b∈[z,TI,TO,i,j],a≠b:=λ b hb=>qY I (hf b hb) hq1
  have nc:∀b∈[z,TI,TO,i,j],c≠b:=λ b hb=>qY I (hf b hb) hq2
  have nd':=nd
  simp only[List.nodup_cons,List.mem_cons,List.not_mem_nil,or_false,not_or,List.nodup_nil,and_true,not_false_eq_true]at nd'
  obtain⟨⟨nzI,nzO,nzi,nzj⟩,⟨nIO,nIi,nIj⟩,⟨nOi,nOj⟩,nij⟩:=nd'
  have Z:ZA z TI TO i j [i,a] [j,c]:=⟨nd,λ b hb=>by
   rcases List.mem_cons.mp hb with rfl|hb
   ·exact⟨Ne.symm nzi,Ne.symm nOi,nij,Ne.symm nIi⟩
   ·rw[show b=a by simpa using hb];exact⟨na z Qb,na TO Qb,na j Qb,na TI Qb⟩,λ b hb=>by
   rcases List.mem_cons.mp hb with rfl|hb
   ·exact⟨Ne.symm nzj,Ne.symm nOj,Ne.symm nij,Ne.symm nIj⟩
   ·rw[show b=c by simpa using hb];exact⟨nc z Qb,nc TO Qb,nc i Qb,nc TI Qb⟩⟩
  have D1:=Draws.list (prog:=X.prog) (w:=X.w) (A:=X.A.in1) (I.ok.hd hc) i a (na i Qb) its1.toArray
  have D2:=Draws.list (prog:=X.prog) (w:=X.w) (A:=X.A.in1) (I.ok.hd hc) j c (nc j Qb) its2.toArray
  refine Av Z D1 D2 h1 h2 h3 ⟨h4,p1.isList⟩ ⟨h5,p2.isList⟩ (by rw[List.size_toArray];exact(List.getElem?_eq_some_iff.mp hu1).1) (by rw[List.size_toArray];exact(List.getElem?_eq_some_iff.mp hu2).1) λ v1 v2 h' tk e1 e2 a1 a2 a3 a4 a5 a6 a7=>?_
  have e1':its1[k]? =some v1:=by simpa using e1
  have e2':its2[k]? =some v2:=by simpa using e2
  rw[hu1]at e1'
  rw[hu2]at e2'
  cases e1'
  cases e2'
  refine⟨_,rfl,wpAny_letOwnedTupleGo_zip (s:={s with heap:=h',toks:=tk}) a1 λ h3' b1 sb=>?_⟩
  replace sb:Heap.SameBut z h' h3':=sb
  have lt:∀b∈[z,TI,TO,i,j],b<s.heap.objs.size:=λ b hb=>by
   obtain⟨_,q4,_⟩:=id h4
   obtain⟨_,q5,_⟩:=id h5
   simp only[List.mem_cons,List.not_mem_nil,or_false]at hb
   rcases hb with rfl|rfl|rfl|rfl|rfl
   ·exact Heap.lt_size h1
   ·exact Heap.lt_size h2
   ·exact Heap.lt_size h3
   ·exact Heap.lt_size q4
   ·exact Heap.lt_size q5
  have stn:IsZip h3' z TI TO .none/\IsPair h3' TI (.ref i) (.ref j)/\(∃u v,IsPair h3' TO u v)/\h3'.IsListIter i a (k+1)/\h3'.IsListIter j c (k+1):=
   ⟨b1,(sb.2 _ (Ne.symm nzI)).trans a2,⟨_,_,(sb.2 _ (Ne.symm nzO)).trans a3⟩,a4.1.at λ o e=>(sb.2 i (Ne.symm nzi)).trans e,a5.1.at λ o e=>(sb.2 j (Ne.symm nzj)).trans e⟩
  have J:aB X pins σ (aD H s.heap.objs.size (.tup [x,y])) {s with heap:=h3',toks:=tk}:=by
   refine I.turnedNew (fp:=[z,TI,TO,i,j]) (its:=[u1,u2]) hf (λ b o hb q=>(sb.2 b (λ e=>hb (by simp[e]))).trans (a7 b o (λ e=>hb (by simp only[List.mem_cons,List.not_mem_nil,or_false]at e⊢;rcases e with e|e|e|e<;>simp[e])) q)) (λ b hb=>?_) (Nat.le_refl _) ⟨⟨_,(sb.2 _ (Nat.ne_of_gt (lt z Qb))).trans a6,rfl,0,rfl⟩,_,(sb.2 _ (Nat.ne_of_gt (lt z Qb))).trans a6,rfl⟩ (.cons ru1 (.cons ru2 .nil)) (by show 2<=sizeLine;decide)
   obtain⟨t1,t2,⟨_,_,t3⟩,⟨_,t4,_⟩,⟨_,t5,_⟩⟩:=id stn
   simp only[List.mem_cons,List.not_mem_nil,or_false]at hb
   rcases hb with rfl|rfl|rfl|rfl|rfl
   ·exact⟨_,t1⟩
   ·exact⟨_,t2⟩
   ·exact⟨_,t3⟩
   ·exact⟨_,t4⟩
   ·exact⟨_,t5⟩
  refine⟨.ref s.heap.objs.size,aD H s.heap.objs.size (.tup [x,y]),J,rfl,⟨_,x,y,rfl,I.hok.fresh (Nat.le_refl _),rfl,λ zs hz=>by rw[I.list_inj hz hq1];exact hx,λ zs hz=>by rw[I.list_inj hz hq2];exact hy⟩,stn,λ b hb=>?_⟩
  rw[aU (Nat.ne_of_lt (lt b hb))]
  exact(hf b hb).1
 done:=by
  intro X hP hw hK hc k pins s σ H E I hf st hg
  subst hP hw hK
  obtain⟨xs,ys,hq1,hq2,hl⟩:=hg
  obtain⟨h1,h2,⟨u,v,h3⟩,h4,h5⟩:=st
  obtain⟨its1,rv1,p1,_⟩:=I.list hq1
  have na:∀b∈[z,TI,TO,i,j],a≠b:=λ b hb=>qY I (hf b hb) hq1
  have nd':=nd
  simp only[List.nodup_cons,List.mem_cons,List.not_mem_nil,or_false,not_or,List.nodup_nil,and_true,not_false_eq_true]at nd'
  obtain⟨⟨nzI,nzO,nzi,nzj⟩,⟨nIO,nIi,nIj⟩,⟨nOi,nOj⟩,nij⟩:=nd'
  obtain⟨its2,rv2,p2,_⟩:=I.list hq2
  have nc:∀b∈[z,TI,TO,i,j],c≠b:=λ b hb=>qY I (hf b hb) hq2
  have Z:ZA z TI TO i j [i,a] [j,c]:=⟨nd,λ b hb=>by
   rcases List.mem_cons.mp hb with rfl|hb
   ·exact⟨Ne.symm nzi,Ne.symm nOi,nij,Ne.symm nIi⟩
   ·rw[show b=a by simpa using hb];exact⟨na z Qb,na TO Qb,na j Qb,na TI Qb⟩,λ b hb=>by
   rcases List.mem_cons.mp hb with rfl|hb
   ·exact⟨Ne.symm nzj,Ne.symm nOj,Ne.symm nij,Ne.symm nIj⟩
   ·rw[show b=c by simpa using hb];exact⟨nc z Qb,nc TO Qb,nc i Qb,nc TI Qb⟩⟩
  have D1:=Draws.list (prog:=X.prog) (w:=X.w) (A:=X.A.in1) (I.ok.hd hc) i a (na i Qb) its1.toArray
  have D2:=Draws.list (prog:=X.prog) (w:=X.w) (A:=X.A.in1) (I.ok.hd hc) j c (nc j Qb) its2.toArray
  have stepped:∀(h':Heap) (tk:Nat),(∀c o,c∉[z,TO,i,j]->s.heap.get? c=some o->h'.get? c=some o)->aB X pins σ H {s with heap:=h',toks:=tk}:=by
   intro h' tk kk
   refine I.step (g':=s.gens) (d':=s.drawn) (t':=tk) (ch:=[z,TO,i,j]) (λ b hb=>?_) (λ b o _ _ hb q _=>kk b o hb q) (λ b o _ _ hb q _=>⟨o.slots,kk b o hb q⟩) (λ _ _ _ _ n=>n) (λ b o hb q=>⟨o,kk b o hb q⟩) (λ _ _ e=>e) (λ _ _ _ e=>e) (λ b ps e=>⟨#[],by rw[e];simp⟩) (λ m hn=>?_) (λ b u q=>?_) ⟨I.bare.1,Nat.le_refl _⟩
   ·have hb':b∈[z,TI,TO,i,j]:=by simp only[List.mem_cons,List.not_mem_nil,or_false]at hb⊢;rcases hb with e|e|e|e<;>simp[e]
    obtain⟨f0,f1,f2,f3,f4,f5⟩:=hf b hb'
    exact⟨f3,f1,f4,f5⟩
   ·obtain⟨o,es,ep,ho,r⟩:=hn
    refine⟨o,es,ep,kk _ o (λ hb=>?_) ho,r⟩
    have hb':X.env.locals∈[z,TI,TO,i,j]:=by simp only[List.mem_cons,List.not_mem_nil,or_false]at hb⊢;rcases hb with e|e|e|e<;>simp[e]
    exact(hf _ hb').2.1 rfl
   ·refine(I.hok b u q).stay (λ c' v' hc' y=>kk c' v' (λ hb=>?_) y) (λ _ y=>y) λ _ _ y=>y
    have hb':c'∈[z,TI,TO,i,j]:=by simp only[List.mem_cons,List.not_mem_nil,or_false]at hb⊢;rcases hb with e|e|e|e<;>simp[e]
    have:=(hf _ hb').1
    rcases hc' with e|e
    ·rw[e]at this;rw[this]at q;cases q
    ·rw[this]at e;cases e
  rcases hl with hl|⟨hl,hl2⟩
  ·have hk:its1.toArray.size=k:=by rw[List.size_toArray,<-rv1.length];exact hl
   exact yN Z D1 h1 h2 ⟨by rw[hk];exact h4,p1.isList⟩ λ h' kk=>⟨rfl,stepped h' s.toks kk⟩
  ·have hk:k<its1.toArray.size:=by rw[List.size_toArray,<-rv1.length];exact hl
   have hk2:k=its2.toArray.size:=by rw[List.size_toArray,<-rv2.length];exact hl2.symm
   exact Fw Z D1 D2 h1 h2 h3 hk ⟨h4,p1.isList⟩ hk2 ⟨h5,p2.isList⟩ λ h' tk kk=>⟨rfl,stepped h' tk kk⟩
 self:=λ _ _ _ _ _ st h=>wpAny_pyIter_zip st.1 h
section
variable{X:Cx}{elts:List Expr}{q:Nat}{tpos:Pos}
def Dc(K:PySem.W.Frag)(ta:TA):TI:=λ σ H R=>ta σ H λ vs H1=>∃a c,vs=[.ref a,.ref c]/\(∃xs,aN K H1 a xs)/\(∃ys,aN K H1 c ys)/\R (xR K a c) H1
theorem Np{l m:Expr}{ta:TA}{p pos:Pos}(hg:Gl X "zip")(hm:X.mg "zip" =none)(ha:PA X [l,m] ta)(hs:starEach [l,m] X.env=(false,eval l X.env)::starEach [m] X.env:=by rfl)(hs2:(backTo pos (starEach [m] X.env)).any (·.1)=false:=by rfl):PI X (.Tuple elts q tpos) (.Call (.Name "zip" p) [l,m] [] pos) (Dc X.K ta):=by
 intro pins s σ H R I h
 refine Call_ (kQ I hg hm Ep (PyProof.Rows.callWith_type1 (aP (ha pos pins s σ H _ I h) λ us s1 ⟨vs,H1,I1,r1,q1⟩=>?_) hs hs2))
 obtain⟨a,c,e,⟨xs,hq1⟩,⟨ys,hq2⟩,qq⟩:=q1
 subst e
 cases r1 with
 | cons r rr=>
  cases rr with
  | cons r' rr'=>
   cases rr'
   cases r
   cases r'
   obtain⟨its1,rv1,p1,_⟩:=I1.list hq1
   obtain⟨its2,rv2,p2,_⟩:=I1.list hq2
   refine Xp (s:=s1) (show s1.heap.IsList a its1.toArray from p1.isList) (show s1.heap.IsList c its2.toArray from p2.isList) λ h' h1 h2 h3 h4 h5 kp=>wpAny_pyIter_zip (s:={s1 with heap:=h'}) h1 ?_
   refine⟨s1.heap.objs.size+4,[s1.heap.objs.size+4,s1.heap.objs.size+2,s1.heap.objs.size+3,s1.heap.objs.size,s1.heap.objs.size+1],_,_,H1,rfl,I1.kept (t':=s1.toks) kp,Hl a c _ _ _ _ _ (by simp<;>omega),⟨h1,h2,⟨_,_,h3⟩,h4,h5⟩,λ b hb=>?_,qq⟩
   have:s1.heap.objs.size<=b:=by
    simp only[List.mem_cons,List.not_mem_nil,or_false]at hb
    rcases hb with rfl|rfl|rfl|rfl|rfl<;>omega
   exact I1.fpOk this (I1.hok.fresh this)
end
end L2
namespace L2
open PySem PySem.SetTable
theorem Ei:∀(m:Nat) (l:List Nat),(∀j<m,j∈l)->m<=l.length
 |0,_,_=>Nat.zero_le _
 |m+1,l,h=>by
  have hm:=h m (Nat.lt_succ_self m)
  have:=Ei m (l.erase m) λ j hj=>(List.mem_erase_of_ne (Nat.ne_of_lt hj)).mpr (h j (Nat.lt_succ_of_lt hj))
  rw[List.length_erase_of_mem hm]at this
  have:=List.length_pos_of_mem hm
  omega
theorem Hv(m:Nat)(l:List Nat)(h:l.length<m):∃j<m,j∉l:=by
 refine Classical.byContradiction λ hc=>?_
 have:=Ei m l λ j hj=>Classical.byContradiction λ hn=>hc ⟨j,hj,hn⟩
 omega
def fI(mask:Nat):Prop:=mask=7\/mask=31\/mask=127\/mask=511
def oE(m i:Nat):Nat:=(i*5+1)%m
def iW(f:Nat->Nat):Nat->Nat->Nat
 |0,i=>i
 |k+1,i=>iW f k (f i)
theorem pN(f:Nat->Nat):∀a b i,iW f (a+b) i=iW f b (iW f a i)
 |0,b,i=>by rw[Nat.zero_add];rfl
 |a+1,b,i=>by rw[Nat.succ_add];exact pN f a b (f i)
def sR(m:Nat):Nat->Nat->List Nat
 |0,_=>[]
 |k+1,i=>i::sR m k (oE m i)
theorem vR{m:Nat}:∀{k i j:Nat},j∈sR m k i->∃b<k,iW (oE m) b i=j
 |0,_,_,h=>nomatch h
 | k+1,i,j,h=>by
  rcases List.mem_cons.mp h with e|h
  ·exact⟨0,Nat.succ_pos _,e.symm⟩
  ·obtain⟨b,hb,e⟩:=vR h
   exact⟨b+1,Nat.succ_lt_succ hb,e⟩
def Dg(m:Nat):Bool:=((List.range m).all λ j=>(sR m m 0).contains j)&&iW (oE m) m 0==0
theorem Vg{mask:Nat}(h:fI mask):Dg (mask+1)=true:=by
 rcases h with rfl|rfl|rfl|rfl<;>decide+kernel
theorem Ht{mask:Nat}(h:fI mask){i j:Nat}(hi:i<mask+1)(hj:j<mask+1):∃k<mask+1,iW (oE (mask+1)) k i=j:=by
 have hg:=Vg h
 generalize mask+1=m at*
 unfold Dg at hg
 rw[Bool.and_eq_true,List.all_eq_true]at hg
 obtain⟨hall,hz⟩:=hg
 have hz:=eq_of_beq hz
 obtain⟨a,ha,ea⟩:=vR (List.contains_iff_mem.mp (hall i (List.mem_range.mpr hi)))
 obtain⟨b,hb,eb⟩:=vR (List.contains_iff_mem.mp (hall j (List.mem_range.mpr hj)))
 by_cases hab:a<=b
 ·refine⟨b-a,Qa,?_⟩
  rw[<-ea,<-pN,show a+(b-a)=b from Qa,eb]
 ·refine⟨m-a+b,Qa,?_⟩
  rw[<-ea,<-pN,show a+(m-a+b)=m+b from Qa,pN,hz,eb]
def dX(mask:Nat):Nat->Nat×Nat->Nat×Nat
 |0,x=>x
 |k+1,x=>dX mask k (leap mask x.1 x.2)
theorem Ci(mask:Nat):∀a b x,dX mask (a+b) x=dX mask b (dX mask a x)
 |0,b,x=>by rw[Nat.zero_add];rfl
 |a+1,b,x=>by rw[Nat.succ_add];exact Ci mask a b _
theorem Cf(mask:Nat):∀k x,(dX mask k x).2=x.2/32^k
 |0,x=>by simp[dX]
 |k+1,x=>by
  show(dX mask k (leap mask x.1 x.2)).2=_
  rw[Cf mask k]
  show x.2/32/32^k=_
  rw[Nat.div_div_eq_div_mul,Nat.pow_succ,Nat.mul_comm 32]
theorem Cg(mask:Nat):∀k x,x.1<mask+1->(dX mask k x).1<mask+1
 |0,x,h=>h
 |k+1,x,h=>Cg mask k _ (Nat.mod_lt _ (Nat.succ_pos _))
theorem Ch(mask:Nat):∀k i,dX mask k (i,0)=(iW (oE (mask+1)) k i,0)
 |0,i=>rfl
 |k+1,i=>by
  show dX mask k ((i*5+1+0/32)%(mask+1),0/32)=_
  rw[Nat.zero_div,Nat.add_zero]
  exact Ch mask k _
theorem Es(h:Int):bits h<2^64:=by
 unfold bits
 have h1:=Int.emod_nonneg h (show(2^64:Int)≠0 from Qc)
 have h2:=Int.emod_lt_of_pos h (show(0:Int)<2^64 from Qc)
 omega
theorem Ce{mask:Nat}(hs:fI mask){i p j:Nat}(hi:i<mask+1)(hp:p<2^64)(hj:j<mask+1):∃k<mask+14,(dX mask k (i,p)).1=j:=by
 obtain⟨k,hk,e⟩:=Ht hs (Cg mask 13 (i,p) hi) hj
 refine⟨13+k,Qa,?_⟩
 rw[Ci]
 have hz:(dX mask 13 (i,p)).2=0:=by
  rw[Cf]
  exact Nat.div_eq_of_lt (Nat.lt_of_lt_of_le hp Qc)
 rw[show dX mask 13 (i,p)=((dX mask 13 (i,p)).1,0)from Prod.ext rfl hz,Ch]
 exact e
def bB(t:SetTable):Nat->Probe->Probe
 |0,p=>p
 |k+1,p=>bB t k (t.advance p)
theorem jK(t:SetTable):∀a b p,bB t (a+b) p=bB t b (bB t a p)
 |0,b,p=>by rw[Nat.zero_add];rfl
 |a+1,b,p=>by rw[Nat.succ_add];exact jK t a b _
theorem AX(t:SetTable)(p:Probe):(t.advance p).dummy=p.dummy:=by
 unfold advance;split<;>rfl
def pD(t:SetTable)(p:Probe):Prop:=p.j=p.i/\p.more=runEnd t.mask p.i-p.i
theorem Lv(mask i:Nat):runEnd mask i-i<=9:=by unfold runEnd;split<;>omega
theorem vA(t:SetTable):∀(k:Nat) (p:Probe),p.more=k->∃p',bB t (k+1) p=p'/\pD t p'/\(p'.i,p'.perturb)=leap t.mask p.i p.perturb
 |0,p,h=>by
  refine⟨_,rfl,?_⟩
  show pD t (t.advance p)/\((t.advance p).i,(t.advance p).perturb)=_
  unfold advance
  rw[if_neg Qa]
  exact⟨⟨rfl,rfl⟩,rfl⟩
 |k+1,p,h=>by
  have e:t.advance p={p with j:=p.j+1,more:=p.more-1}:=by unfold advance;rw[if_pos Qa]
  obtain⟨p',e1,a1,l1⟩:=vA t k (t.advance p) (by rw[e];show p.more-1=k;omega)
  refine⟨p',e1,a1,?_⟩
  rw[l1,e]
theorem zR(t:SetTable):∀(r:Nat) (p:Probe),pD t p->∃c,c<=10*r/\pD t (bB t c p)/\((bB t c p).i,(bB t c p).perturb)=dX t.mask r (p.i,p.perturb)
 |0,p,h=>⟨0,Nat.le_refl _,h,rfl⟩
 |r+1,p,h=>by
  obtain⟨p',e1,a1,l1⟩:=vA t _ p rfl
  obtain⟨c,hc,a2,l2⟩:=zR t r p' a1
  have hm:p.more<=9:=by rw[h.2];exact Lv _ _
  refine⟨p.more+1+c,Qa,?_⟩
  rw[jK,e1]
  refine⟨a2,l2.trans ?_⟩
  rw[l1];rfl
theorem Ku{t:SetTable}(hd:t.dummies= #[]){j:Nat}(h:j∉t.place.toList):t.slot j= .empty:=by
 unfold slot
 dsimp only
 rw[if_neg,if_neg]
 ·unfold has;rw[hd];simp
 ·intro e
  have e:=eq_of_beq e
  exact h (by rw[Array.mem_toList_iff];exact Array.mem_of_getElem? e)
theorem Ks{t:SetTable}(hd:t.dummies= #[]){j:Nat}:t.slot j≠ .dummy:=by
 unfold slot
 dsimp only
 split
 ·exact λ e=>nomatch e
 ·rw[if_neg]
  ·exact λ e=>nomatch e
  ·unfold has;rw[hd];simp
theorem Ad{t:SetTable}{j i:Nat}(h:t.slot j= .live i):i<t.place.size:=by
 unfold slot at h
 dsimp only at h
 split at h
 ·rename_i e
  injection h with h
  subst h
  have e:=eq_of_beq e
  exact(Array.getElem?_eq_some_iff.mp e).1
 ·split at h<;>exact nomatch h
def lF(t:SetTable)(p:Probe)(k:Nat):Prop:=p.dummy=none/\t.slot (bB t k p).j= .empty
theorem Ko{t:SetTable}(hs:fI t.mask)(hd:t.dummies= #[])(hp:t.place.size<=t.mask)(h:Int):∃k<10*turns t.mask,lF t (t.probeStart h) k:=by
 obtain⟨j,hj,hn⟩:=Hv (t.mask+1) t.place.toList (by rw[Array.length_toList];omega)
 obtain⟨r,hr,e⟩:=Ce hs (i:=bits h%(t.mask+1)) (p:=bits h) (j:=j) (Nat.mod_lt _ (Nat.succ_pos _)) (Es h) hj
 obtain⟨c,hc,a,l⟩:=zR t r (t.probeStart h) ⟨rfl,rfl⟩
 refine⟨c,by unfold turns;omega,rfl,?_⟩
 have:(bB t c (t.probeStart h)).j=j:=by
  rw[a.1]
  exact(congrArg Prod.fst l).trans e
 rw[this]
 exact Ku hd hn
theorem lF.next{t:SetTable}{p:Probe}{k:Nat}(e:lF t p (k+1)):lF t (t.advance p) k:=⟨(AX t p).trans e.1,e.2⟩
theorem Do{mask:Nat}(owner:Array (Option Nat)){j:Nat}(hn:owner.getD j (some 0)=none):
  ∀(k fuel i p:Nat),k<fuel->(dX mask k (i,p)).1=j->∃j',layClean.free mask owner fuel i p=some j'/\owner.getD j' (some 0)=none
 |k,0,i,p,hk,_=>absurd hk (Nat.not_lt_zero _)
 | k,fuel+1,i,p,hk,e=>by
  unfold layClean.free
  cases hf:(List.range (runEnd mask i+1-i)).find? λ k=>(owner.getD (i+k) (some 0)).isNone with
  |some k'=>
   refine⟨i+k',rfl,?_⟩
   have:=List.find?_some hf
   simpa using this
  | none=>
   dsimp only
   cases k with
   |zero=>
    have e:i=j:=e
    subst e
    have h1:=List.find?_eq_none.mp hf 0 (List.mem_range.mpr (by unfold runEnd;split<;>omega))
    rw[Nat.add_zero,hn]at h1
    exact absurd rfl h1
   |succ k=>exact Do owner hn k fuel _ _ (Nat.lt_of_succ_lt_succ hk) e
theorem Ej{f g:Nat->Bool}{j:Nat}(hf:f j=false)(hg:g j=true)(ho:∀i,i≠j->g i=f i):∀m,(List.range m).countP g=(List.range m).countP f+if j<m then 1 else 0
 |0=>rfl
 | m+1=>by
  rw[List.range_succ,List.countP_append,List.countP_append,Ej hf hg ho m,List.countP_singleton,List.countP_singleton]
  by_cases e:m=j
  ·subst e
   rw[hf,hg];simp
  ·rw[ho m e]
   by_cases hlt:j<m
   ·have h2:j<m+1:=Nat.lt_succ_of_lt hlt
    simp only[hlt,h2,if_true]
    omega
   ·have h2:¬j<m+1:=by omega
    simp only[hlt,h2,if_false]
    omega
structure gE(mask:Nat)(owner:Array (Option Nat))(k:Nat):Prop where
 size:owner.size=mask+1
 cnt:(List.range (mask+1)).countP (λ j=>(owner.getD j none).isSome)=k
 small:∀j v,owner.getD j none=some v->v<k
theorem Di{owner:Array (Option Nat)}{j:Nat}(h:owner.getD j (some 0)=none):j<owner.size/\owner.getD j none=none:=by
 unfold Array.getD at h⊢
 split at h
 ·rename_i hlt
  rw[dif_pos hlt]
  exact⟨hlt,h⟩
 ·exact nomatch h
theorem Dj{owner:Array (Option Nat)}{j:Nat}(hlt:j<owner.size)(h:owner.getD j none=none):owner.getD j (some 0)=none:=by
 unfold Array.getD at h⊢
 rw[dif_pos hlt]at h⊢
 exact h
theorem gE.put{mask:Nat}{owner:Array (Option Nat)}{k j:Nat}(o:gE mask owner k)(h:owner.getD j (some 0)=none):gE mask (owner.setIfInBounds j (some k)) (k+1):=by
 obtain⟨hlt,hn⟩:=Di h
 have hself:(owner.setIfInBounds j (some k)).getD j none=some k:=by
  unfold Array.getD
  rw[dif_pos (by rw[Array.size_setIfInBounds];exact hlt)]
  simp
 have hoth:∀i,i≠j->(owner.setIfInBounds j (some k)).getD i none=owner.getD i none:=λ i hi=>by
  unfold Array.getD
  by_cases hl:i<owner.size
  ·rw[dif_pos (by rw[Array.size_setIfInBounds];exact hl),dif_pos hl]
   exact Array.getElem_setIfInBounds_ne hl (Ne.symm hi)
  ·rw[dif_neg (by rw[Array.size_setIfInBounds];exact hl),dif_neg hl]
 refine⟨by rw[Array.size_setIfInBounds,o.size],?_,λ i v e=>?_⟩
 ·rw[Ej (f:=λ i=>(owner.getD i none).isSome) (j:=j) (by rw[hn];rfl) (by rw[hself];rfl) (λ i hi=>by rw[hoth i hi]),o.cnt,if_pos (by rw[<-o.size];exact hlt)]
 ·by_cases hi:i=j
  ·subst hi
   rw[hself]at e
   injection e with e
   omega
  ·rw[hoth i hi]at e
   exact Nat.lt_succ_of_lt (o.small i v e)
theorem gE.free{mask:Nat}(hs:fI mask){owner:Array (Option Nat)}{k:Nat}(o:gE mask owner k)(hk:k<=mask)(h:Int):
  ∃j',layClean.free mask owner (turns mask) (bits h%(mask+1)) (bits h)=some j'/\owner.getD j' (some 0)=none:=by
 have:∃j<mask+1,owner.getD j none=none:=by
  refine Classical.byContradiction λ hc=>?_
  have:(List.range (mask+1)).countP (λ j=>(owner.getD j none).isSome)=(List.range (mask+1)).length:=List.countP_eq_length.mpr λ j hj=>by
   cases q:owner.getD j none with
   |some v=>rfl
   |none=>exact absurd ⟨j,List.mem_range.mp hj,q⟩ hc
  rw[o.cnt,List.length_range]at this
  omega
 obtain⟨j,hj,hn⟩:=this
 obtain⟨r,hr,e⟩:=Ce hs (i:=bits h%(mask+1)) (p:=bits h) (j:=j) (Nat.mod_lt _ (Nat.succ_pos _)) (Es h) hj
 exact Do owner (Dj (by rw[o.size];exact hj) hn) r _ _ _ (by unfold turns;omega) e
def vU(mask:Nat)(acc:Option (Array (Option Nat)×Nat))(h:Int):Option (Array (Option Nat)×Nat):=do
 let(owner,k)<-acc
 let j<-layClean.free mask owner (turns mask) (bits h%(mask+1)) (bits h)
 pure (owner.setIfInBounds j (some k),k+1)
theorem Ck{mask:Nat}(hs:fI mask):∀(l:List Int) (owner:Array (Option Nat)) (k:Nat),gE mask owner k->k+l.length<=mask+1->
  ∃owner',l.foldl (vU mask) (some (owner,k))=some (owner',k+l.length)/\gE mask owner' (k+l.length)
 |[],owner,k,o,_=>⟨owner,rfl,o⟩
 |h::r,owner,k,o,hl=>by
  rw[List.length_cons]at hl
  obtain⟨j,e,hn⟩:=o.free hs Qa h
  obtain⟨owner',e2,o2⟩:=Ck hs r _ (k+1) (o.put hn) Qa
  rw[List.length_cons,show k+(r.length+1)=k+1+r.length from Qa]
  refine⟨owner',?_,o2⟩
  rw[List.foldl_cons,<-e2]
  congr 1
  show Option.bind (layClean.free mask owner (turns mask) (bits h%(mask+1)) (bits h)) (λ j=>some (owner.setIfInBounds j (some k),k+1))=_
  rw[e];rfl
theorem Be(mask:Nat):gE mask (Array.replicate (mask+1) none) 0:=by
 have hg:∀j,(Array.replicate (mask+1) (none:Option Nat)).getD j none=none:=λ j=>by
  unfold Array.getD;split<;>simp
 refine⟨Qb,?_,λ j v e=>?_⟩
 ·rw[List.countP_eq_zero]
  intro j _
  rw[hg];simp
 ·rw[hg]at e;exact nomatch e
theorem Cl(mask:Nat)(hashes:Array Int):layClean mask hashes=(hashes.toList.foldl (vU mask) (some (Array.replicate (mask+1) none,0))).map (·.1):=by
 unfold layClean
 rw[<-Array.foldl_toList]
 rfl
theorem Sr{mask:Nat}(hs:fI mask)(hashes:Array Int)(hn:hashes.size<=mask)(finger moves:Nat)(led plain:Bool):
  ∃t order,SetTable.laid mask finger moves led plain hashes=some (t,order)/\t.mask=mask/\t.place.size=hashes.size/\t.dummies= #[]/\t.led=led/\t.plain=plain/\
   order.size=hashes.size/\∀i∈order.toList,i<hashes.size:=by
 obtain⟨owner,e,o⟩:=Ck hs hashes.toList _ 0 (Be mask) (by rw[Array.length_toList];omega)
 rw[Nat.zero_add,Array.length_toList]at o
 have hlen:((List.range (mask+1)).filterMap λ j=>(owner.getD j none).map (j,·)).length=hashes.size:=by
  rw[<-o.cnt]
  generalize List.range (mask+1)=l
  induction l with
  |nil=>rfl
  |cons j r ih=>
   rw[List.filterMap_cons,List.countP_cons]
   cases q:owner.getD j none with
   |none=>simpa using ih
   |some v=>simpa using ih
 refine⟨{mask,place:=(((List.range (mask+1)).filterMap λ j=>(owner.getD j none).map (j,·)).map (·.1)).toArray,dummies:= #[],finger,led,moves,plain},
  (((List.range (mask+1)).filterMap λ j=>(owner.getD j none).map (j,·)).map (·.2)).toArray,?_,rfl,?_,rfl,rfl,rfl,?_,?_⟩
 ·unfold SetTable.laid
  rw[Cl,e]
  rfl
 ·simpa using hlen
 ·simpa using hlen
 ·intro i hi
  rw[List.toList_toArray]at hi
  obtain⟨x,hx,rfl⟩:=List.mem_map.mp hi
  obtain⟨j,_,e⟩:=List.mem_filterMap.mp hx
  obtain⟨v,e1,e2⟩:=Option.map_eq_some_iff.mp e
  subst e2
  exact o.small j v e1
theorem Hu{mask n:Nat}(hs:fI mask)(h1:n*5<mask*3)(h2:(n+1)*5≥mask*3)(h3:n<200):fI (sizeAbove (grown (n+1))-1)/\(n+1)*5<(sizeAbove (grown (n+1))-1)*3/\sizeAbove (grown (n+1))<=512:=by
 rcases hs with rfl|rfl|rfl|rfl
 ·obtain rfl:n=4:=by omega
  have:sizeAbove (grown 5)=32:=by decide+kernel
  rw[this];exact⟨.inr (.inl rfl),Qa,Qa⟩
 ·obtain rfl:n=18:=by omega
  have:sizeAbove (grown 19)=128:=by decide+kernel
  rw[this];exact⟨.inr (.inr (.inl rfl)),Qa,Qa⟩
 ·obtain rfl:n=76:=by omega
  have:sizeAbove (grown 77)=512:=by decide+kernel
  rw[this];exact⟨.inr (.inr (.inr rfl)),Qa,Qa⟩
 ·omega
end L2
namespace L2
open PySem PyProof.Rows
def BS(prog:Program)(w:World)(A:Around)(s:Shared)(κ:SortKind)(a₀:Array Keyed):Prop:=
 ∀(E:Qe) (p q:Keyed) (Q:Bool->Shared->Prop),p∈a₀->q∈a₀->(∀b,Q b s)->wpAny (model prog w) A (keyLt' κ p.1 q.1) Q E s
structure cJ(κ:SortKind)(a₀:Array Keyed)(st:SortSt):Prop where
 perm:(arrOf st).Perm a₀
 kind:kindOf st=κ
 failed:failedOf st=none
theorem cJ.size{κ:SortKind}{a₀:Array Keyed}{st:SortSt}(h:cJ κ a₀ st):(arrOf st).size=a₀.size:=h.perm.size_eq
theorem cJ.set{κ:SortKind}{a₀:Array Keyed}{st:SortSt}(h:cJ κ a₀ st){xs:Array Keyed}(hp:xs.Perm (arrOf st)):cJ κ a₀ (setArr st xs):=⟨hp.trans h.perm,h.kind,h.failed⟩
theorem cJ.at{κ:SortKind}{a₀:Array Keyed}{st:SortSt}(h:cJ κ a₀ st){i:Nat}(hi:i<a₀.size):∃p,(arrOf st)[i]? =some p/\p∈a₀:=by
 have hi':i<(arrOf st).size:=h.size▸hi
 exact⟨(arrOf st)[i],Array.getElem?_eq_getElem hi',h.perm.mem_iff.mp (Array.getElem_mem hi')⟩
def oI:Bool->Keyed->Array Keyed->Nat->Nat->Nat->StateT SortSt Sem (Option Nat):=sortPriv%PySem.Builtin.gallop
def Ev(left:Bool)(key:Keyed)(arr:Array Keyed)(base i:Nat):StateT SortSt Sem (Option Bool):=
 elem' arr (base+i)>>=λ mid=>if left=true then lt' mid key else lt' key mid>>=λ told=>pure (told.map (!·))
section
variable{prog:Program}{w:World}{A:Around}{E:Qe}{s:Shared}{a₀:Array Keyed}{κ:SortKind}
end
abbrev dJ(st:SortSt)(g:Nat):SortSt:=SortSt.mk' (kindOf st) (arrOf st) (pendingOf st) g (failedOf st)
def Br:Array Keyed->Array Keyed->StateT SortSt Sem (Array Keyed):=sortPriv%PySem.Builtin.mergeLo
def Bs:Array Keyed->Array Keyed->StateT SortSt Sem (Array Keyed):=sortPriv%PySem.Builtin.mergeHi
section
variable{prog:Program}{w:World}{A:Around}{E:Qe}{s:Shared}{a₀:Array Keyed}{κ:SortKind}
theorem dB{st:SortSt}{arr:Array Keyed}{i:Nat}{Q:Keyed->SortSt->Prop}(hi:i<arr.size)(h:∀p,arr[i]? =some p->p∈arr->Q p st):wpS (model prog w) A E s (elem' arr i) Q st:=by
 rw[elem'_eq,Array.getElem?_eq_getElem hi]
 exact wpS_pure (h _ (Array.getElem?_eq_getElem hi) (Array.getElem_mem hi))
def cE(a b out:Array Keyed)(ia ib:Nat):Prop:=out.toList.Perm (a.toList.take ia++b.toList.take ib)
theorem cE.addB{a b out:Array Keyed}{ia ib k:Nat}{y:List Keyed}(h:cE a b out ia ib)(e:b.toList.take (ib+k)=b.toList.take ib++y):(out.toList++y).Perm (a.toList.take ia++b.toList.take (ib+k)):=by
 rw[e,<-List.append_assoc]
 exact List.Perm.append_right _ h
theorem cE.addA{a b out:Array Keyed}{ia ib k:Nat}{y:List Keyed}(h:cE a b out ia ib)(e:a.toList.take (ia+k)=a.toList.take ia++y):(out.toList++y).Perm (a.toList.take (ia+k)++b.toList.take ib):=by
 rw[e,List.append_assoc]
 refine(List.Perm.append_right _ h).trans ?_
 rw[List.append_assoc]
 exact List.Perm.append_left _ List.perm_append_comm
theorem sS{a:Array Keyed}{i:Nat}{x:Keyed}(e:a[i]? =some x):a.toList.take (i+1)=a.toList.take i++[x]:=by
 rw[List.take_add_one]
 have:a.toList[i]? =some x:=by rw[Array.getElem?_toList];exact e
 rw[this]
 rfl
theorem sT(a:Array Keyed)(i k:Nat):a.toList.take (i+k)=a.toList.take i++(a.extract i (i+k)).toList:=by
 rw[Array.toList_extract,List.take_add,List.extract_eq_drop_take]
 congr 1
 rw[Nat.add_sub_cancel_left]
theorem cE.pushB{a b out:Array Keyed}{ia ib:Nat}{x:Keyed}(h:cE a b out ia ib)(e:b[ib]? =some x):cE a b (out.push x) ia (ib+1):=by
 unfold cE
 rw[Array.toList_push]
 exact h.addB (sS e)
theorem cE.pushA{a b out:Array Keyed}{ia ib:Nat}{x:Keyed}(h:cE a b out ia ib)(e:a[ia]? =some x):cE a b (out.push x) (ia+1) ib:=by
 unfold cE
 rw[Array.toList_push]
 exact h.addA (sS e)
theorem cE.extB{a b out:Array Keyed}{ia ib:Nat}(k:Nat)(h:cE a b out ia ib):cE a b (out++b.extract ib (ib+k)) ia (ib+k):=by
 unfold cE
 rw[Array.toList_append]
 exact h.addB (sT b ib k)
theorem cE.extA{a b out:Array Keyed}{ia ib:Nat}(k:Nat)(h:cE a b out ia ib):cE a b (out++a.extract ia (ia+k)) (ia+k) ib:=by
 unfold cE
 rw[Array.toList_append]
 exact h.addA (sT a ia k)
theorem cE.all{a b out:Array Keyed}(h:cE a b out a.size b.size):out.Perm (a++b):=by
 unfold cE at h
 rw[List.take_of_length_le Qb,List.take_of_length_le Qb]at h
 rw[Array.perm_iff_toList_perm,Array.toList_append]
 exact h
theorem cE.done{a b out:Array Keyed}{ia ib:Nat}(h:cE a b out ia ib)(ha:ia<=a.size)(hb:ib<=b.size):(out++a.extract ia a.size++b.extract ib b.size).Perm (a++b):=by
 have h1:=h.extA (a.size-ia)
 rw[Nat.add_sub_cancel' ha]at h1
 have h2:=h1.extB (b.size-ib)
 rw[Nat.add_sub_cancel' hb]at h2
 exact h2.all
theorem cE.last{a b out:Array Keyed}{ia ib:Nat}(h:cE a b out ia ib)(ha:ia<=a.size)(hb:ib<=b.size):(out++b.extract ib b.size++a.extract ia a.size).Perm (a++b):=by
 have h1:=h.extB (b.size-ib)
 rw[Nat.add_sub_cancel' hb]at h1
 have h2:=h1.extA (a.size-ia)
 rw[Nat.add_sub_cancel' ha]at h2
 exact h2.all
end
section
variable{prog:Program}{w:World}{A:Around}{E:Qe}{s:Shared}{a₀:Array Keyed}{κ:SortKind}
def cO(a b out:Array Keyed)(na nb:Nat):Prop:=out.toList.Perm (a.toList.drop na++b.toList.drop nb)
theorem cO.addA{a b out:Array Keyed}{na nb m:Nat}{y z:List Keyed}(h:cO a b out na nb)(e:a.toList.drop m=y++a.toList.drop na)(hz:z.Perm y):(out.toList++z).Perm (a.toList.drop m++b.toList.drop nb):=by
 rw[e,List.append_assoc]
 exact List.perm_append_comm.trans (hz.append h)
theorem cO.addB{a b out:Array Keyed}{na nb m:Nat}{y z:List Keyed}(h:cO a b out na nb)(e:b.toList.drop m=y++b.toList.drop nb)(hz:z.Perm y):(out.toList++z).Perm (a.toList.drop na++b.toList.drop m):=by
 rw[e]
 refine List.perm_append_comm.trans ((hz.append h).trans ?_)
 rw[<-List.append_assoc,<-List.append_assoc]
 exact List.Perm.append_right _ List.perm_append_comm
theorem wP{a:Array Keyed}{n:Nat}{x:Keyed}(h1:1<=n)(e:a[n-1]? =some x):a.toList.drop (n-1)=[x]++a.toList.drop n:=by
 have h2:a.toList[n-1]? =some x:=by rw[Array.getElem?_toList];exact e
 obtain⟨hl,hx⟩:=List.getElem?_eq_some_iff.mp h2
 rw[List.drop_eq_getElem_cons hl,hx,Nat.sub_add_cancel h1]
 rfl
theorem wQ(a:Array Keyed){m n:Nat}(h:m<=n):a.toList.drop m=(a.extract m n).toList++a.toList.drop n:=by
 rw[Array.toList_extract,List.extract_eq_drop_take]
 conv=>lhs;rw[<-List.take_append_drop (n-m) (a.toList.drop m),List.drop_drop,Nat.add_sub_cancel' h]
theorem cO.pushA{a b out:Array Keyed}{na nb:Nat}{x:Keyed}(h:cO a b out na nb)(h1:1<=na)(e:a[na-1]? =some x):cO a b (out.push x) (na-1) nb:=by
 unfold cO
 rw[Array.toList_push]
 exact h.addA (wP h1 e) (List.Perm.refl _)
theorem cO.pushB{a b out:Array Keyed}{na nb:Nat}{x:Keyed}(h:cO a b out na nb)(h1:1<=nb)(e:b[nb-1]? =some x):cO a b (out.push x) na (nb-1):=by
 unfold cO
 rw[Array.toList_push]
 exact h.addB (wP h1 e) (List.Perm.refl _)
theorem cO.extA{a b out:Array Keyed}{na nb:Nat}(m:Nat)(h:cO a b out na nb)(hm:m<=na):cO a b (out++(a.extract m na).reverse) m nb:=by
 unfold cO
 rw[Array.toList_append,Array.toList_reverse]
 exact h.addA (wQ a hm) (List.reverse_perm _)
theorem cO.extB{a b out:Array Keyed}{na nb:Nat}(m:Nat)(h:cO a b out na nb)(hm:m<=nb):cO a b (out++(b.extract m nb).reverse) na m:=by
 unfold cO
 rw[Array.toList_append,Array.toList_reverse]
 exact h.addB (wQ b hm) (List.reverse_perm _)
theorem Dz(a:Array Keyed)(n:Nat):(a.extract 0 n).toList++a.toList.drop n=a.toList:=by
 have:=wQ a (Nat.zero_le n)
 rw[List.drop_zero]at this
 exact this.symm
theorem cO.done{a b out:Array Keyed}{na nb:Nat}(h:cO a b out na nb):(a.extract 0 na++b.extract 0 nb++out.reverse).Perm (a++b):=by
 rw[Array.perm_iff_toList_perm,Array.toList_append,Array.toList_append,Array.toList_append,Array.toList_reverse]
 refine(List.Perm.append_left _ ((List.reverse_perm _).trans h)).trans ?_
 conv=>rhs;rw[<-Dz a na,<-Dz b nb]
 simp only[List.append_assoc]
 refine List.Perm.append_left _ ?_
 rw[<-List.append_assoc,<-List.append_assoc]
 exact List.Perm.append_right _ List.perm_append_comm
theorem cO.first{a b out:Array Keyed}{na nb:Nat}(h:cO a b out na nb):(b.extract 0 nb++a.extract 0 na++out.reverse).Perm (a++b):=by
 refine Array.Perm.trans ?_ h.done
 rw[Array.perm_iff_toList_perm,Array.toList_append,Array.toList_append,Array.toList_append,Array.toList_append]
 exact List.Perm.append_right _ List.perm_append_comm
end
abbrev Ah(st:SortSt)(p:Array (Nat×Nat×Nat)):SortSt:=SortSt.mk' (kindOf st) (arrOf st) p (gallopOf st) (failedOf st)
theorem wH{sa:Nat}:∀(l:List Keyed) (n:Nat) (arr:Array Keyed),sa+n+l.length<=arr.size->((l.zipIdx n).foldl (λ (a:Array Keyed) (x:Keyed×Nat)=>a.setIfInBounds (sa+x.2) x.1) arr).toList=arr.toList.take (sa+n)++l++arr.toList.drop (sa+n+l.length)
 |[],n,arr,_=>by simp
 | x::l,n,arr,h=>by
  rw[List.zipIdx_cons,List.foldl_cons]
  have hl:sa+n+(l.length+1)<=arr.size:=h
  have h1:sa+n<arr.toList.length:=by rw[Array.length_toList];omega
  rw[wH l (n+1) (arr.setIfInBounds (sa+n) x) (by rw[Array.size_setIfInBounds];omega)]
  rw[Array.toList_setIfInBounds]
  have e1:(arr.toList.set (sa+n) x).take (sa+(n+1))=arr.toList.take (sa+n)++[x]:=by
   rw[show sa+(n+1)=(sa+n)+1 from Qa,List.take_add_one,List.take_set_of_le (Nat.le_refl _),List.getElem?_set_self h1]
   rfl
  have e2:(arr.toList.set (sa+n) x).drop (sa+(n+1)+l.length)=arr.toList.drop (sa+n+(l.length+1)):=by
   rw[List.drop_set_of_lt Qa]
   congr 1
   omega
  rw[e1,e2]
  simp
theorem Gj{arr m:Array Keyed}{sa k:Nat}(hs:sa+k<=arr.size)(hm:m.Perm (arr.extract sa (sa+k))):(m.toList.zipIdx.foldl (λ (a:Array Keyed) (x:Keyed×Nat)=>a.setIfInBounds (sa+x.2) x.1) arr).Perm arr:=by
 have hl:m.toList.length=k:=by
  have:=hm.size_eq
  rw[Array.length_toList,this,Array.size_extract]
  omega
 rw[Array.perm_iff_toList_perm,wH m.toList 0 arr Qa]
 have e:arr.toList=arr.toList.take sa++(arr.extract sa (sa+k)).toList++arr.toList.drop (sa+k):=by
  rw[<-sT,List.take_append_drop]
 conv=>rhs;rw[e]
 rw[hl,Nat.add_zero]
 exact List.Perm.append_right _ (List.Perm.append_left _ (Array.perm_iff_toList_perm.mp hm))
section
variable{prog:Program}{w:World}{A:Around}{E:Qe}{s:Shared}{a₀:Array Keyed}{κ:SortKind}
theorem Gn{st st':SortSt}{Q:PUnit->SortSt->Prop}(h:Q ⟨⟩ st'):wpS (model prog w) A E s (set st':StateT SortSt Sem PUnit) Q st:=by
 unfold wpS
 rw[StateT.run_set]
 exact wpAny_pure ⟨rfl,h⟩
theorem rD{arr:Array Keyed}{i j:Nat}{p:Keyed}(h:p∈arr.extract i j):p∈arr:=by
 rw[<-Array.mem_toList_iff,Array.toList_extract]at h
 rw[<-Array.mem_toList_iff]
 rw[List.extract_eq_drop_take]at h
 exact List.mem_of_mem_drop (List.mem_of_mem_take h)
end
def dE(κ:SortKind)(a₀:Array Keyed)(p:Array (Nat×Nat×Nat))(st:SortSt):Prop:=cJ κ a₀ st/\pendingOf st=p
section
variable{prog:Program}{w:World}{A:Around}{E:Qe}{s:Shared}{a₀:Array Keyed}{κ:SortKind}{pd:Array (Nat×Nat×Nat)}
theorem dE.set{st:SortSt}(h:dE κ a₀ pd st){xs:Array Keyed}(hp:xs.Perm (arrOf st)):dE κ a₀ pd (setArr st xs):=⟨h.1.set hp,h.2⟩
end
def dU:Nat->List (Nat×Nat×Nat)->Nat->Prop
 |lo,[],hi=>lo=hi
 |lo,x::r,hi=>x.1=lo/\1<=x.2.1/\dU (lo+x.2.1) r hi
theorem dU.le:∀{p:List (Nat×Nat×Nat)} {lo hi:Nat},dU lo p hi->lo<=hi
 |[],_,_,h=>Nat.le_of_eq h
 |x::r,lo,hi,⟨_,h1,h2⟩=>by have:=dU.le h2;omega
theorem dU.two:∀{p:List (Nat×Nat×Nat)} {lo hi i:Nat} {x y:Nat×Nat×Nat},dU lo p hi->p[i]? =some x->p[i+1]? =some y->y.1=x.1+x.2.1/\1<=x.2.1/\1<=y.2.1/\y.1+y.2.1<=hi/\dU lo ((p.set i (x.1,x.2.1+y.2.1,x.2.2)).eraseIdx (i+1)) hi
 |[],_,_,_,_,_,_,h,_=>by simp at h
 |[u],_,_,0,_,_,_,_,h=>by simp at h
 |u::v::r,lo,hi,0,x,y,⟨h1,h2,h3,h4,h5⟩,e1,e2=>by
  obtain rfl:u=x:=by simpa using e1
  obtain rfl:v=y:=by simpa using e2
  refine⟨Qa,h2,h4,by have:=h5.le;omega,?_⟩
  show u.1=lo/\1<=u.2.1+v.2.1/\dU (lo+(u.2.1+v.2.1)) r hi
  exact⟨h1,Qa,by rw[<-Nat.add_assoc];exact h5⟩
 |u::r,lo,hi,i+1,x,y,⟨h1,h2,h3⟩,e1,e2=>by
  obtain⟨a,b,c,d,e⟩:=dU.two (i:=i) h3 (by simpa using e1) (by simpa using e2)
  exact⟨a,b,c,d,h1,h2,e⟩
theorem dU.push:∀{p:List (Nat×Nat×Nat)} {lo hi n k:Nat},dU lo p hi->1<=n->dU lo (p++[(hi,n,k)]) (hi+n)
 |[],_,_,_,_,h,h1=>by cases h;exact⟨rfl,h1,rfl⟩
 |_::_,_,_,_,_,⟨a,b,c⟩,h1=>⟨a,b,dU.push c h1⟩
theorem dU.modify{f:Nat×Nat×Nat->Nat×Nat×Nat}(hf:∀x,(f x).1=x.1/\(f x).2.1=x.2.1):∀{p:List (Nat×Nat×Nat)} {lo hi i:Nat},dU lo p hi->dU lo (p.modify i f) hi
 |[],_,_,i,h=>by cases i<;>exact h
 |x::r,lo,hi,0,⟨a,b,c⟩=>by
  rw[List.modify_zero_cons]
  exact⟨(hf x).1.trans a,by rw[(hf x).2];exact b,by rw[(hf x).2];exact c⟩
 |x::r,lo,hi,i+1,⟨a,b,c⟩=>by
  rw[List.modify_succ_cons]
  exact⟨a,b,dU.modify hf c⟩
theorem Tk{p:Prop}[Decidable p]{a:Nat}:(if p then a-1 else a)<=a:=by split<;>omega
section
variable{prog:Program}{w:World}{A:Around}{E:Qe}{s:Shared}{a₀:Array Keyed}{κ:SortKind}
end
structure SOrd where
 blt:Keyed->Keyed->Bool
 irrefl:∀a,blt a a=false
 trans:∀a b c,blt a b=true->blt b c=true->blt a c=true
 weak:∀a b c,blt a c=true->blt a b=true\/blt b c=true
namespace SOrd
variable{O:SOrd}{a b c:Keyed}
def le(O:SOrd)(a b:Keyed):Prop:=O.blt b a=false
theorem le_refl(a:Keyed):O.le a a:=O.irrefl a
theorem le_of_lt(h:O.blt a b=true):O.le a b:=by
 unfold le
 cases q:O.blt b a with
 |false=>rfl
 |true=>
  have:=O.trans a b a h q
  rw[O.irrefl]at this
  exact nomatch this
theorem le_trans(h1:O.le a b)(h2:O.le b c):O.le a c:=by
 unfold le at*
 cases q:O.blt c a with
 |false=>rfl
 |true=>
  rcases O.weak c b a q with z|z
  ·rw[h2]at z;exact nomatch z
  ·rw[h1]at z;exact nomatch z
theorem lt_le(h1:O.blt a b=true)(h2:O.le b c):O.blt a c=true:=by
 rcases O.weak a c b h1 with z|z
 ·exact z
 ·unfold le at h2;rw[h2]at z;exact nomatch z
end SOrd
def aK(xs:Array Keyed)(i:Nat):Keyed:=(xs[i]?).getD (.none,.none)
theorem dN{xs ys:Array Keyed}{i j:Nat}(h:xs[i]? =ys[j]?):aK xs i=aK ys j:=by unfold aK;rw[h]
def aZ(O:SOrd)(xs:Array Keyed)(lo hi:Nat):Prop:=∀i j,lo<=i->i<=j->j<hi->O.le (aK xs i) (aK xs j)
section
variable{prog:Program}{w:World}{A:Around}{E:Qe}{s:Shared}{a₀:Array Keyed}{κ:SortKind}{pd:Array (Nat×Nat×Nat)}{O:SOrd}
def dF(prog:Program)(w:World)(A:Around)(s:Shared)(κ:SortKind)(a₀:Array Keyed)(O:SOrd):Prop:=
 ∀(E:Qe) (p q:Keyed) (Q:Bool->Shared->Prop),p∈a₀->q∈a₀->Q (O.blt p q) s->wpAny (model prog w) A (keyLt' κ p.1 q.1) Q E s
theorem dF.cmp(C:dF prog w A s κ a₀ O):BS prog w A s κ a₀:=λ E p q Q hp hq h=>C E p q Q hp hq (h _)
theorem nI(C:dF prog w A s κ a₀ O){st:SortSt}(hk:kindOf st=κ){p q:Keyed}(hp:p∈a₀)(hq:q∈a₀){Q:Option Bool->SortSt->Prop}(h:Q (some (O.blt p q)) st):wpS (model prog w) A E s (lt' p q) Q st:=by
 rw[lt'_eq]
 refine wpS_bind (wpS_get ?_)
 rw[hk]
 exact wpS_bind (wpS_lift (wpAny_attempt (C _ p q _ hp hq ⟨rfl,wpS_pure h⟩)))
theorem jR(C:dF prog w A s κ a₀ O){st:SortSt}(B:cJ κ a₀ st){i j:Nat}(hi:i<a₀.size)(hj:j<a₀.size){Q:Option Bool->SortSt->Prop}(h:Q (some (O.blt (aK (arrOf st) i) (aK (arrOf st) j))) st):wpS (model prog w) A E s (ltAt' i j) Q st:=by
 obtain⟨p,ep,hp⟩:=B.at hi
 obtain⟨q,eq,hq⟩:=B.at hj
 have e1:aK (arrOf st) i=p:=by unfold aK;rw[ep];rfl
 have e2:aK (arrOf st) j=q:=by unfold aK;rw[eq];rfl
 rw[e1,e2]at h
 rw[ltAt'_eq]
 refine wpS_bind (wpS_get ?_)
 change wpS (model prog w) A E s (elem' (arrOf st) i>>=λ x=>elem' (arrOf st) j>>=λ y=>lt' x y) Q st
 rw[elem'_eq,elem'_eq,ep,eq]
 exact wpS_bind (wpS_pure (wpS_bind (wpS_pure (nI C B.kind hp hq h))))
theorem Gw(C:dF prog w A s κ a₀ O){st:SortSt}(B:dE κ a₀ pd st){lo n ok:Nat}(hn:lo+n<=a₀.size)(hok:ok<=n)(hs:aZ O (arrOf st) lo (lo+ok)){Q:Bool->SortSt->Prop}
  (h:∀st',dE κ a₀ pd st'->aZ O (arrOf st') lo (lo+n)->(∀i,i<lo\/lo+n<=i->(arrOf st')[i]? =(arrOf st)[i]?)->Q true st'):wpS (model prog w) A E s (binarySort' lo n ok) Q st:=by
 rw[binarySort'_eq]
 refine wpS_bind (wpS_mono (wpS_forRange (I:=λ k c st'=>c=(none,())/\dE κ a₀ pd st'/\aZ O (arrOf st') lo (lo+min k n)/\∀i,i<lo\/lo+n<=i->(arrOf st')[i]? =(arrOf st)[i]?)
  (Q:=λ c st'=>c=(none,())/\dE κ a₀ pd st'/\aZ O (arrOf st') lo (lo+n)/\∀i,i<lo\/lo+n<=i->(arrOf st')[i]? =(arrOf st)[i]?) ?_ ?_ ⟨rfl,B,λ i j a b c=>?_,λ _ _=>rfl⟩) ?_)
 ·rintro k c st1 k1 kn ⟨rfl,B1,a1,o1⟩
  rw[Nat.min_eq_left (Nat.le_of_lt kn)]at a1
  have hk:lo+k<a₀.size:=by omega
  try dsimp only
  refine wpS_bind (wpS_mono (wpS_forRange (I:=λ x c st2=>st2=st1/\∃l r,c=(none,l,r)/\l<=r/\r<=k/\r-l<=k-x/\(∀i,i<l->O.le (aK (arrOf st1) (lo+i)) (aK (arrOf st1) (lo+k)))/\∀i,r<=i->i<k->O.blt (aK (arrOf st1) (lo+k)) (aK (arrOf st1) (lo+i))=true)
   (Q:=λ c st2=>st2=st1/\∃l r,c=(none,l,r)/\l<=k/\(∀i,i<l->O.le (aK (arrOf st1) (lo+i)) (aK (arrOf st1) (lo+k)))/\∀i,l<=i->i<k->O.blt (aK (arrOf st1) (lo+k)) (aK (arrOf st1) (lo+i))=true) ?_ ?_
   ⟨rfl,0,k,rfl,Nat.zero_le _,Nat.le_refl _,Nat.le_refl _,λ i z=>absurd z (Nat.not_lt_zero _),λ i z1 z2=>absurd z2 Qa⟩) ?_)
  ·rintro x c st2 _ xk ⟨rfl,l,r,rfl,lr,rk,m,below,above⟩
   try dsimp only
   by_cases d:l≥r
   ·rw[if_pos d]
    obtain rfl:l=r:=by omega
    exact wpS_pure ⟨rfl,l,l,rfl,rk,below,above⟩
   ·rw[if_neg d]
    refine wpS_bind (jR C B1.1 hk Qa ?_)
    cases q:O.blt (aK (arrOf st2) (lo+k)) (aK (arrOf st2) (lo+(l+r)/2))with
    |true=>exact wpS_pure ⟨rfl,l,(l+r)/2,rfl,Qa,Qa,Qa,below,λ i z1 z2=>SOrd.lt_le q (a1 _ _ Qa Qa Qa)⟩
    |false=>exact wpS_pure ⟨rfl,(l+r)/2+1,r,rfl,Qa,Qa,Qa,λ i z=>SOrd.le_trans (a1 _ _ Qa Qa Qa) q,above⟩
  ·rintro c st2 ⟨rfl,l,r,rfl,lr,rk,m,below,above⟩
   obtain rfl:l=r:=by omega
   exact⟨rfl,l,l,rfl,rk,below,above⟩
  ·rintro c st2 ⟨rfl,l,r,rfl,lk,below,above⟩
   have hks:lo+k<(arrOf st2).size:=by rw[B1.1.size];exact hk
   have g:=getElem?_bubble hks (k-l) Qa
   have e0:lo+k-(lo+l)=k-l:=by omega
   refine wpS_bind ?_
   rw[moveDown'_eq,e0]
   refine wpS_modify (wpS_pure ⟨rfl,B1.set (bubble_perm _ _ _),λ i j z1 z2 z3=>?_,λ i z=>?_⟩)
   ·rw [Nat.min_eq_left Qa]at z3
    have gi:=g i
    have gj:=g j
    rw[show lo+k-(k-l)=lo+l from Qa]at gi gj
    show O.le (aK (bubble (arrOf st2) (lo+k) (k-l)) i) (aK (bubble (arrOf st2) (lo+k) (k-l)) j)
    have bl:∀i,lo<=i->i<lo+l->O.le (aK (arrOf st2) i) (aK (arrOf st2) (lo+k)):=λ i y1 y2=>by
     have:=below (i-lo) Qa
     rwa[show lo+(i-lo)=i from Qa]at this
    have ab:∀i,lo+l<=i->i<lo+k->O.blt (aK (arrOf st2) (lo+k)) (aK (arrOf st2) i)=true:=λ i y1 y2=>by
     have:=above (i-lo) Qa Qa
     rwa[show lo+(i-lo)=i from Qa]at this
    by_cases i1:i=lo+l
    ·rw[if_pos i1]at gi
     rw[dN gi]
     by_cases j1:j=lo+l
     ·rw[if_pos j1]at gj
      rw[dN gj]
      exact SOrd.le_refl _
     ·rw[if_neg j1,if_pos ⟨Qa,Qa⟩]at gj
      rw[dN gj]
      exact SOrd.le_of_lt (ab _ Qa Qa)
    ·by_cases i2:lo+l<i
     ·rw[if_neg i1,if_pos ⟨i2,Qa⟩]at gi
      rw[if_neg Qa,if_pos ⟨Qa,Qa⟩]at gj
      rw[dN gi,dN gj]
      exact a1 _ _ Qa Qa Qa
     ·rw[if_neg i1,if_neg Qa]at gi
      rw[dN gi]
      by_cases j1:j=lo+l
      ·rw[if_pos j1]at gj
       rw[dN gj]
       exact bl _ Qa Qa
      ·by_cases j2:lo+l<j
       ·rw[if_neg j1,if_pos ⟨j2,Qa⟩]at gj
        rw[dN gj]
        exact a1 _ _ Qa Qa Qa
       ·rw[if_neg j1,if_neg Qa]at gj
        rw[dN gj]
        exact a1 _ _ Qa Qa Qa
   ·have gi:=g i
    rw[if_neg Qa,if_neg Qa]at gi
    exact gi.trans (o1 i z)
 ·rintro c st1 ⟨rfl,B1,a1,o1⟩
  rw[show min (max (max ok 1) n) n=n from Qa]at a1
  exact⟨rfl,B1,a1,o1⟩
 ·by_cases z:ok=0
  ·obtain rfl:i=j:=by omega
   exact SOrd.le_refl _
  ·exact hs i j a b Qa
 ·rintro c st1 ⟨rfl,B1,a1,o1⟩
  exact wpS_pure (h st1 B1 a1 o1)
end
def eE(O:SOrd)(xs:Array Keyed)(lo hi:Nat):Prop:=∀i j,lo<=i->i<=j->j<hi->O.le (aK xs j) (aK xs i)
def rZ(O:SOrd)(xs:Array Keyed)(lo hi:Nat):Prop:=∀i j,lo<=i->i<hi->lo<=j->j<hi->O.le (aK xs i) (aK xs j)
theorem eE.sim{O:SOrd}{xs ys:Array Keyed}{lo hi:Nat}(d:eE O xs lo hi)(e:∀k,lo<=k->k<hi->O.le (aK ys k) (aK xs k)/\O.le (aK xs k) (aK ys k)):eE O ys lo hi:=λ i j a b c=>
 SOrd.le_trans (SOrd.le_trans (e j Qa c).1 (d i j a b c)) (e i a Qa).2
theorem vQ{O:SOrd}{xs:Array Keyed}{a b:Nat}(hb:b<=xs.size)(e:rZ O xs a b)(k:Nat):O.le (aK (mirror xs a b ((b-a)/2)) k) (aK xs k)/\O.le (aK xs k) (aK (mirror xs a b ((b-a)/2)) k):=by
 have g:=getElem?_mirror_all (i:=a) hb k
 by_cases h:a<=k/\k<b
 ·rw[if_pos h]at g
  rw[dN g]
  exact⟨e _ _ Qa Qa h.1 h.2,e _ _ h.1 h.2 Qa Qa⟩
 ·rw[if_neg h]at g
  rw[dN g]
  exact⟨SOrd.le_refl _,SOrd.le_refl _⟩
theorem Ry{O:SOrd}{xs:Array Keyed}{a b:Nat}(hb:b<=xs.size)(d:eE O xs a b):aZ O (mirror xs a b ((b-a)/2)) a b:=λ i j p q r=>by
 have gi:=getElem?_mirror_all (i:=a) hb i
 have gj:=getElem?_mirror_all (i:=a) hb j
 rw[if_pos ⟨p,Qa⟩]at gi
 rw[if_pos ⟨Qa,r⟩]at gj
 rw[dN gi,dN gj]
 exact d _ _ Qa Qa Qa
theorem aZ.snoc{O:SOrd}{xs:Array Keyed}{lo n:Nat}(h:aZ O xs lo (lo+n))(h1:1<=n)(e:O.le (aK xs (lo+n-1)) (aK xs (lo+n))):aZ O xs lo (lo+(n+1)):=λ i j a b c=>by
 by_cases q:j<lo+n
 ·exact h i j a b q
 ·obtain rfl:j=lo+n:=by omega
  by_cases z:i=lo+n
  ·rw[z];exact SOrd.le_refl _
  ·exact SOrd.le_trans (h i (lo+n-1) a Qa Qa) e
theorem eE.snoc{O:SOrd}{xs:Array Keyed}{lo n:Nat}(h:eE O xs lo (lo+n))(h1:1<=n)(e:O.le (aK xs (lo+n)) (aK xs (lo+n-1))):eE O xs lo (lo+(n+1)):=λ i j a b c=>by
 by_cases q:j<lo+n
 ·exact h i j a b q
 ·obtain rfl:j=lo+n:=by omega
  by_cases z:i=lo+n
  ·rw[z];exact SOrd.le_refl _
  ·exact SOrd.le_trans e (h i (lo+n-1) a Qa Qa)
section
variable{prog:Program}{w:World}{A:Around}{E:Qe}{s:Shared}{a₀:Array Keyed}{κ:SortKind}{pd:Array (Nat×Nat×Nat)}{O:SOrd}
theorem nH{st:SortSt}{i j:Nat}{Q:Unit->SortSt->Prop}(B:dE κ a₀ pd st)(h:∀st',dE κ a₀ pd st'->arrOf st'=mirror (arrOf st) i j ((j-i)/2)->Q () st'):wpS (model prog w) A E s (reverseSlice' i j) Q st:=wpS_reverse (h _ (B.set (mirror_perm _ _ _ _)) rfl)
def fE(lo n:Nat)(xs ys:Array Keyed):Prop:=∀i,i<lo\/lo+n<=i->ys[i]? =xs[i]?
theorem fE.mirror{lo n a b:Nat}{xs ys:Array Keyed}(h:fE lo n xs ys)(ha:lo<=a)(hb:b<=lo+n)(hs:b<=ys.size):fE lo n xs (mirror ys a b ((b-a)/2)):=λ i z=>by
 have g:=getElem?_mirror_all (i:=a) hs i
 rw[if_neg Qa]at g
 exact g.trans (h i z)
theorem Gv(C:dF prog w A s κ a₀ O){st:SortSt}(B:dE κ a₀ pd st){lo nrem:Nat}(h1:1<=nrem)(hn:lo+nrem<=a₀.size){Q:Option Nat->SortSt->Prop}
  (h:∀n st',dE κ a₀ pd st'->1<=n->n<=nrem->aZ O (arrOf st') lo (lo+n)->fE lo nrem (arrOf st) (arrOf st')->Q (some n) st'):wpS (model prog w) A E s (countRun' lo nrem) Q st:=by
 rw[countRun'_eq]
 have asc1:∀xs,aZ O xs lo (lo+1):=λ xs i j a b c=>by
  obtain rfl:i=j:=by omega
  exact SOrd.le_refl _
 have last:∀(n:Nat) (st1:SortSt),dE κ a₀ pd st1->1<=n->n<=nrem->aZ O (arrOf st1) lo (lo+n)->fE lo nrem (arrOf st) (arrOf st1)->
   ∀(P:Option (Option Nat)×Nat->SortSt->Prop),(∀m st2,dE κ a₀ pd st2->1<=m->m<=nrem->aZ O (arrOf st2) lo (lo+m)->fE lo nrem (arrOf st) (arrOf st2)->(m<nrem->O.blt (aK (arrOf st2) (lo+m)) (aK (arrOf st2) (lo+m-1))=true)->P (none,m) st2)->
   ∀(f:Nat->Option (Option Nat)×Nat->StateT SortSt Sem (ForInStep (Option (Option Nat)×Nat))),
   (∀i m st2 (R:ForInStep (Option (Option Nat)×Nat)->SortSt->Prop),dE κ a₀ pd st2->1<=m->m<nrem->(O.blt (aK (arrOf st2) (lo+m)) (aK (arrOf st2) (lo+m-1))=true->R (.done (none,m)) st2)->(O.blt (aK (arrOf st2) (lo+m)) (aK (arrOf st2) (lo+m-1))=false->R (.yield (none,m+1)) st2)->wpS (model prog w) A E s (f i (none,m)) R st2)->
   wpS (model prog w) A E s (forIn [n:nrem] (none,n) f) P st1:=by
  intro n st1 B1 n1 n2 a1 o1 P hP f hf
  refine wpS_forRange (I:=λ i c st2=>c=(none,i)/\1<=i/\i<=nrem/\dE κ a₀ pd st2/\aZ O (arrOf st2) lo (lo+i)/\fE lo nrem (arrOf st) (arrOf st2)) ?_ ?_ ⟨rfl,n1,n2,B1,a1,o1⟩
  ·rintro i c st2 _ hi ⟨rfl,i1,i2,B2,a2,o2⟩
   refine hf i i st2 _ B2 i1 hi (λ q=>hP i st2 B2 i1 (Nat.le_of_lt hi) a2 o2 λ _=>q) λ q=>⟨rfl,Qa,Qa,B2,a2.snoc i1 q,o2⟩
  ·rintro c st2 ⟨rfl,i1,i2,B2,a2,o2⟩
   exact hP _ st2 B2 i1 i2 a2 o2 λ z=>absurd z Qa
 refine wpS_bind (last 1 st B (Nat.le_refl _) h1 (asc1 _) (λ _ _=>rfl) _ (λ n st1 B1 n1 n2 a1 o1 sm=>?_) _ λ i m st2 R B2 m1 m2 hd hy=>?_)
 rotate_left
 ·try dsimp only
  refine wpS_bind (jR C B2.1 Qa Qa ?_)
  cases q:O.blt (aK (arrOf st2) (lo+m)) (aK (arrOf st2) (lo+m-1))with
  |false=>exact wpS_pure (hy q)
  |true=>exact wpS_pure (hd q)
 try dsimp only
 by_cases c1:(n==nrem)=true
 ·rw[if_pos c1]
  exact wpS_pure (h _ _ B1 n1 n2 a1 o1)
 rw[if_neg c1]
 simp only[beq_iff_eq]at c1
 have nn:n+1<=nrem:=by omega
 have sm:=sm Qa
 have sz1:(arrOf st1).size=a₀.size:=B1.1.size
 by_cases c2:n>1
 rw[if_pos c2]
 refine wpS_bind (jR C B1.1 Qa Qa ?_)
 cases rose:O.blt (aK (arrOf st1) lo) (aK (arrOf st1) (lo+n-1))with
 |true=>exact wpS_pure (h _ _ B1 n1 n2 a1 o1)
 |false=>?_
 simp only[Bool.false_eq_true,if_false]
 refine wpS_bind (nH B1 λ st2 B2 e2=>?_)
 have ev:rZ O (arrOf st1) lo (lo+n):=λ i j x1 x2 x3 x4=>SOrd.le_trans (SOrd.le_trans (a1 i (lo+n-1) x1 Qa Qa) rose) (a1 lo j (Nat.le_refl _) x3 x4)
 have me:=vQ (xs:=arrOf st1) (a:=lo) (b:=lo+n) Qa ev
 have d2:eE O (arrOf st2) lo (lo+(n+1)):=by
  rw[e2]
  have d:eE O (arrOf st1) lo (lo+(n+1)):=eE.snoc (λ i j x1 x2 x3=>ev j i Qa x3 x1 Qa) n1 (SOrd.le_of_lt sm)
  exact d.sim λ k _ _=>me k
 have o2:fE lo nrem (arrOf st) (arrOf st2):=by
  rw[e2]
  exact o1.mirror (Nat.le_refl _) Qa Qa
 rotate_left
 rw[if_neg c2]
 obtain rfl:n=1:=by omega
 obtain⟨st2,est⟩:∃st2,st2=st1:=⟨_,rfl⟩
 rw[<-est]
 have B2:dE κ a₀ pd st2:=by rw[est];exact B1
 have d2:eE O (arrOf st2) lo (lo+(1+1)):=by
  rw[est]
  exact eE.snoc (λ i j x1 x2 x3=>(show i=j from Qa)▸SOrd.le_refl _) (Nat.le_refl _) (SOrd.le_of_lt sm)
 have o2:fE lo nrem (arrOf st) (arrOf st2):=by rw[est];exact o1
 all_goals
  refine wpS_bind (wpS_lift (wpAny_rule ⟨rfl,?_⟩))
  try dsimp only
  refine wpS_bind (wpS_mono (wpS_forRange (I:=λ i c st3=>∃q,c=(none,i,q)/\1<=i/\i<=nrem/\q+1<=i/\dE κ a₀ pd st3/\eE O (arrOf st3) lo (lo+i)/\rZ O (arrOf st3) (lo+i-(q+1)) (lo+i)/\fE lo nrem (arrOf st) (arrOf st3))
   (Q:=λ c st3=>∃m q,c=(none,m,q)/\1<=m/\m<=nrem/\q+1<=m/\dE κ a₀ pd st3/\eE O (arrOf st3) lo (lo+m)/\rZ O (arrOf st3) (lo+m-(q+1)) (lo+m)/\fE lo nrem (arrOf st) (arrOf st3)) ?_ ?_ ⟨0,rfl,Qa,Qa,Qa,B2,d2,?_,o2⟩) ?_)
  ·rintro i c st3 _ hi ⟨q,rfl,i1,i2,q1,B3,d3,e3,o3⟩
   have sz3:(arrOf st3).size=a₀.size:=B3.1.size
   try dsimp only
   refine wpS_bind (jR C B3.1 Qa Qa ?_)
   cases s1:O.blt (aK (arrOf st3) (lo+i)) (aK (arrOf st3) (lo+i-1))with
   | true=>
    have d4:=d3.snoc i1 (SOrd.le_of_lt s1)
    simp only[if_true]
    by_cases c4:q>0
    ·rw[if_pos c4]
     refine wpS_bind (nH B3 λ st4 B4 e4=>wpS_pure ⟨0,rfl,Qa,Qa,Qa,B4,?_,λ a b x1 x2 x3 x4=>?_,?_⟩)
     ·rw[e4]
      exact d4.sim λ k _ _=>vQ Qa e3 k
     ·obtain rfl:a=b:=by omega
      exact SOrd.le_refl _
     ·rw[e4]
      exact o3.mirror Qa Qa Qa
    ·rw[if_neg c4]
     exact wpS_pure ⟨0,rfl,Qa,Qa,Qa,B3,d4,λ a b x1 x2 x3 x4=>by
      have:a=b:=by omega
      rw[this];exact SOrd.le_refl _,o3⟩
   | false=>
    simp only[Bool.false_eq_true,if_false]
    refine wpS_bind (jR C B3.1 Qa Qa ?_)
    cases s2:O.blt (aK (arrOf st3) (lo+i-1)) (aK (arrOf st3) (lo+i))with
    |true=>exact wpS_pure ⟨i,q,rfl,i1,i2,q1,B3,d3,e3,o3⟩
    | false=>
     refine wpS_pure ⟨q+1,rfl,Qa,Qa,Qa,B3,d3.snoc i1 s2,λ a b x1 x2 x3 x4=>?_,o3⟩
     have up:∀k,lo+i-(q+1)<=k->k<lo+i->O.le (aK (arrOf st3) k) (aK (arrOf st3) (lo+i))/\O.le (aK (arrOf st3) (lo+i)) (aK (arrOf st3) k):=λ k y1 y2=>
      ⟨SOrd.le_trans (e3 k (lo+i-1) y1 y2 Qa Qa) s1,SOrd.le_trans s2 (e3 (lo+i-1) k Qa Qa y1 y2)⟩
     by_cases za:a=lo+i
     ·by_cases zb:b=lo+i
      ·rw[za,zb];exact SOrd.le_refl _
      ·rw[za];exact(up b Qa Qa).2
     ·by_cases zb:b=lo+i
      ·rw[zb];exact(up a Qa Qa).1
      ·exact e3 a b Qa Qa Qa Qa
  ·rintro c st3 ⟨q,rfl,i1,i2,q1,B3,d3,e3,o3⟩
   exact⟨_,q,rfl,i1,i2,q1,B3,d3,e3,o3⟩
  ·intro a b x1 x2 x3 x4
   have:a=b:=by omega
   rw[this];exact SOrd.le_refl _
  rintro c st3 ⟨m,q,rfl,m1,m2,q1,B3,d3,e3,o3⟩
  have sz3:(arrOf st3).size=a₀.size:=B3.1.size
  try dsimp only
  have fin:∀st5,dE κ a₀ pd st5->eE O (arrOf st5) lo (lo+m)->fE lo nrem (arrOf st) (arrOf st5)->∀st6,dE κ a₀ pd st6->arrOf st6=mirror (arrOf st5) lo (lo+m) ((lo+m-lo)/2)->aZ O (arrOf st6) lo (lo+m)/\fE lo nrem (arrOf st) (arrOf st6):=λ st5 B5 d5 o5 st6 B6 e6=>by
   have sz5:(arrOf st5).size=a₀.size:=B5.1.size
   rw[e6]
   exact⟨Ry Qa d5,o5.mirror (Nat.le_refl _) Qa Qa⟩
  by_cases c3:q>0
  ·rw[if_pos c3]
   refine wpS_bind (nH B3 λ st5 B5 e5=>?_)
   have d5:eE O (arrOf st5) lo (lo+m):=by
    rw[e5]
    exact d3.sim λ k _ _=>vQ Qa e3 k
   have o5:fE lo nrem (arrOf st) (arrOf st5):=by
    rw[e5]
    exact o3.mirror Qa Qa Qa
   refine wpS_bind (nH B5 λ st6 B6 e6=>?_)
   obtain⟨a6,o6⟩:=fin st5 B5 d5 o5 st6 B6 e6
   refine wpS_bind (last m st6 B6 m1 m2 a6 o6 _ (λ n' st7 B7 x1 x2 a7 o7 _=>wpS_pure (h _ _ B7 x1 x2 a7 o7)) _ λ i' m' st7 R B7 y1 y2 hd hy=>?_)
   try dsimp only
   refine wpS_bind (jR C B7.1 Qa Qa ?_)
   cases q':O.blt (aK (arrOf st7) (lo+m')) (aK (arrOf st7) (lo+m'-1))with
   |false=>exact wpS_pure (hy q')
   |true=>exact wpS_pure (hd q')
  ·rw[if_neg c3]
   refine wpS_bind (nH B3 λ st6 B6 e6=>?_)
   obtain⟨a6,o6⟩:=fin st3 B3 d3 o3 st6 B6 e6
   refine wpS_bind (last m st6 B6 m1 m2 a6 o6 _ (λ n' st7 B7 x1 x2 a7 o7 _=>wpS_pure (h _ _ B7 x1 x2 a7 o7)) _ λ i' m' st7 R B7 y1 y2 hd hy=>?_)
   try dsimp only
   refine wpS_bind (jR C B7.1 Qa Qa ?_)
   cases q':O.blt (aK (arrOf st7) (lo+m')) (aK (arrOf st7) (lo+m'-1))with
   |false=>exact wpS_pure (hy q')
   |true=>exact wpS_pure (hd q')
end
theorem SOrd.le_lt{O:SOrd}{a b c:Keyed}(h1:O.le a b)(h2:O.blt b c=true):O.blt a c=true:=by
 rcases O.weak b a c h2 with z|z
 ·unfold SOrd.le at h1;rw[h1]at z;exact nomatch z
 ·exact z
def bQ(O:SOrd)(left:Bool)(key x:Keyed):Bool:=if left=true then O.blt x key else !O.blt key x
theorem AL{O:SOrd}{left:Bool}{key x y:Keyed}(h:O.le x y)(b:bQ O left key y=true):bQ O left key x=true:=by
 unfold bQ at*
 cases left
 ·simp only[Bool.false_eq_true,if_false,Bool.not_eq_true']at*
  exact SOrd.le_trans h b
 ·simp only[if_true]at*
  exact SOrd.le_lt h b
theorem wV{O:SOrd}{left:Bool}{key x:Keyed}(b:bQ O left key x=true):O.le x key:=by
 unfold bQ at b
 cases left
 ·simp only[Bool.false_eq_true,if_false,Bool.not_eq_true']at b
  exact b
 ·simp only[if_true]at b
  exact SOrd.le_of_lt b
theorem wW{O:SOrd}{left:Bool}{key x:Keyed}(b:bQ O left key x=false):O.le key x:=by
 unfold bQ at b
 cases left
 ·simp only[Bool.false_eq_true,if_false,Bool.not_eq_false']at b
  exact SOrd.le_of_lt b
 ·simp only[if_true]at b
  exact b
section
variable{prog:Program}{w:World}{A:Around}{E:Qe}{s:Shared}{a₀:Array Keyed}{κ:SortKind}{O:SOrd}
theorem nJ(C:dF prog w A s κ a₀ O){st:SortSt}(hk:kindOf st=κ){left:Bool}{key:Keyed}{arr:Array Keyed}{base i n:Nat}(hkey:key∈a₀)(harr:∀p,p∈arr->p∈a₀)(hb:base+n<=arr.size)(hi:i<n){Q:Option Bool->SortSt->Prop}(h:Q (some (bQ O left key (aK arr (base+i)))) st):
  wpS (model prog w) A E s (Ev left key arr base i) Q st:=by
 have hlt:base+i<arr.size:=by omega
 have ek:aK arr (base+i)=arr[base+i]:=by unfold aK;rw[Array.getElem?_eq_getElem hlt];rfl
 rw[ek]at h
 unfold Ev
 rw[elem'_eq,Array.getElem?_eq_getElem hlt]
 refine wpS_bind (wpS_pure ?_)
 have hm:=harr _ (Array.getElem_mem hlt)
 unfold bQ at h
 cases left
 ·simp only[Bool.false_eq_true,if_false]at h⊢
  exact wpS_bind (nI C hk hkey hm (wpS_pure h))
 ·simp only[if_true]at h⊢
  exact nI C hk hm hkey h
theorem sK(C:dF prog w A s κ a₀ O){st:SortSt}(hk:kindOf st=κ){left:Bool}{key:Keyed}{arr:Array Keyed}{base n hint:Nat}(hkey:key∈a₀)(harr:∀p,p∈arr->p∈a₀)(hb:base+n<=arr.size)(hh:hint<n)(hs:aZ O arr base (base+n)){Q:Option Nat->SortSt->Prop}
  (h:∀k,k<=n->(∀i,i<k->bQ O left key (aK arr (base+i))=true)->(∀i,k<=i->i<n->bQ O left key (aK arr (base+i))=false)->Q (some k) st):
  wpS (model prog w) A E s (oI left key arr base n hint) Q st:=by
 have mono:∀i j,i<=j->j<n->bQ O left key (aK arr (base+j))=true->bQ O left key (aK arr (base+i))=true:=λ i j ij jn b=>
  AL (hs (base+i) (base+j) Qa Qa Qa) b
 have monf:∀i j,i<=j->j<n->bQ O left key (aK arr (base+i))=false->bQ O left key (aK arr (base+j))=false:=λ i j ij jn b=>by
  cases q:bQ O left key (aK arr (base+j))with
  |false=>rfl
  |true=>rw[mono i j ij jn q]at b;exact nomatch b
 unfold oI
 refine wpS_bind (nJ C hk hkey harr hb hh ?_)
 dsimp only
 cases b0:bQ O left key (aK arr (base+hint))
 ·simp only[Bool.false_eq_true,if_false]
  refine wpS_bind (wpS_mono (wpS_forRange (I:=λ x c st'=>st=st'/\∃l o,c=(none,l,o)/\x+1<=o/\l<o/\l<=hint/\bQ O left key (aK arr (base+(hint-l)))=false) (Q:=λ c st'=>st=st'/\∃l o,c=(none,l,o)/\l<o/\l<=hint/\bQ O left key (aK arr (base+(hint-l)))=false/\(o≥hint+1\/bQ O left key (aK arr (base+(hint-o)))=true)) ?_ ?_ ⟨rfl,0,1,rfl,Qa,Qa,Qa,b0⟩) ?_)
  ·rintro i c st' _ hi ⟨rfl,l,o,rfl,ho,lo,lh,bl⟩
   dsimp only
   by_cases hc:o≥hint+1
   ·rw[if_pos hc]
    exact wpS_pure ⟨rfl,l,o,rfl,lo,lh,bl,.inl hc⟩
   ·rw[if_neg hc]
    refine wpS_bind (nJ C hk hkey harr hb Qa ?_)
    cases b1:bQ O left key (aK arr (base+(hint-o)))
    ·exact wpS_pure ⟨rfl,_,_,rfl,Qa,Qa,Qa,b1⟩
    ·exact wpS_pure ⟨rfl,_,_,rfl,lo,lh,bl,.inr b1⟩
  ·rintro c st' ⟨rfl,l,o,rfl,ho,lo,lh,bl⟩
   exact⟨rfl,l,o,rfl,lo,lh,bl,.inl Qa⟩
  ·rintro c st' ⟨rfl,l,o,rfl,lo,lh,bl,ho⟩
   dsimp only
   have i1:∀i,i<hint+1-min o (hint+1)->bQ O left key (aK arr (base+i))=true:=λ i hi=>by
    rcases ho with ho|ho
    ·omega
    ·exact mono i (hint-o) Qa Qa ho
   have i2:∀i,hint-l<=i->i<n->bQ O left key (aK arr (base+i))=false:=λ i h1 h2=>monf (hint-l) i h1 h2 bl
   refine wpS_bind (wpS_mono (wpS_forRange (I:=λ x c st'=>st=st'/\∃lo hi,c=(none,lo,hi)/\lo<=hi/\hi<=n/\hi-lo<=n-x/\(∀i,i<lo->bQ O left key (aK arr (base+i))=true)/\∀i,hi<=i->i<n->bQ O left key (aK arr (base+i))=false)
    (Q:=λ c st'=>st=st'/\∃lo hi,c=(none,lo,hi)/\hi<=n/\(∀i,i<hi->bQ O left key (aK arr (base+i))=true)/\∀i,hi<=i->i<n->bQ O left key (aK arr (base+i))=false) ?_ ?_ ⟨rfl,_,_,rfl,Qa,Qa,Qa,i1,i2⟩) ?_)
   ·rintro i c st' _ hi2 ⟨rfl,lo,hi,rfl,lh',hhi,ms,j1,j2⟩
    dsimp only
    by_cases hc:lo≥hi
    ·rw[if_pos hc]
     obtain rfl:lo=hi:=by omega
     exact wpS_pure ⟨rfl,lo,lo,rfl,hhi,j1,j2⟩
    ·rw[if_neg hc]
     refine wpS_bind (nJ C hk hkey harr hb Qa ?_)
     cases b1:bQ O left key (aK arr (base+(lo+(hi-lo)/2)))
     ·exact wpS_pure ⟨rfl,_,_,rfl,Qa,Qa,Qa,j1,λ i h1 h2=>monf _ i h1 h2 b1⟩
     ·exact wpS_pure ⟨rfl,_,_,rfl,Qa,Qa,Qa,λ i h1=>mono i _ Qa Qa b1,j2⟩
   ·rintro c st' ⟨rfl,lo,hi,rfl,lh',hhi,ms,j1,j2⟩
    obtain rfl:lo=hi:=by omega
    exact⟨rfl,lo,lo,rfl,hhi,j1,j2⟩
   ·rintro c st' ⟨rfl,lo,hi,rfl,hhi,j1,j2⟩
    exact wpS_pure (h hi hhi j1 j2)
 ·simp only[if_true]
  refine wpS_bind (wpS_mono (wpS_forRange (I:=λ x c st'=>st=st'/\∃l o,c=(none,l,o)/\x+1<=o/\l<o/\hint+l<n/\bQ O left key (aK arr (base+(hint+l)))=true) (Q:=λ c st'=>st=st'/\∃l o,c=(none,l,o)/\l<o/\hint+l<n/\bQ O left key (aK arr (base+(hint+l)))=true/\(o≥n-hint\/bQ O left key (aK arr (base+(hint+o)))=false)) ?_ ?_ ⟨rfl,0,1,rfl,Qa,Qa,Qa,b0⟩) ?_)
  ·rintro i c st' _ hi ⟨rfl,l,o,rfl,ho,lo,lh,bl⟩
   dsimp only
   by_cases hc:o≥n-hint
   ·rw[if_pos hc]
    exact wpS_pure ⟨rfl,l,o,rfl,lo,lh,bl,.inl hc⟩
   ·rw[if_neg hc]
    refine wpS_bind (nJ C hk hkey harr hb Qa ?_)
    cases b1:bQ O left key (aK arr (base+(hint+o)))
    ·exact wpS_pure ⟨rfl,_,_,rfl,lo,lh,bl,.inr b1⟩
    ·exact wpS_pure ⟨rfl,_,_,rfl,Qa,Qa,Qa,b1⟩
  ·rintro c st' ⟨rfl,l,o,rfl,ho,lo,lh,bl⟩
   exact⟨rfl,l,o,rfl,lo,lh,bl,.inl Qa⟩
  ·rintro c st' ⟨rfl,l,o,rfl,lo,lh,bl,ho⟩
   dsimp only
   have i1:∀i,i<hint+l+1->bQ O left key (aK arr (base+i))=true:=λ i hi=>mono i (hint+l) Qa Qa bl
   have i2:∀i,hint+min o (n-hint)<=i->i<n->bQ O left key (aK arr (base+i))=false:=λ i h1 h2=>by
    rcases ho with ho|ho
    ·omega
    ·by_cases z:o<=n-hint
     ·exact monf (hint+o) i Qa h2 ho
     ·omega
   refine wpS_bind (wpS_mono (wpS_forRange (I:=λ x c st'=>st=st'/\∃lo hi,c=(none,lo,hi)/\lo<=hi/\hi<=n/\hi-lo<=n-x/\(∀i,i<lo->bQ O left key (aK arr (base+i))=true)/\∀i,hi<=i->i<n->bQ O left key (aK arr (base+i))=false)
    (Q:=λ c st'=>st=st'/\∃lo hi,c=(none,lo,hi)/\hi<=n/\(∀i,i<hi->bQ O left key (aK arr (base+i))=true)/\∀i,hi<=i->i<n->bQ O left key (aK arr (base+i))=false) ?_ ?_ ⟨rfl,_,_,rfl,Qa,Qa,Qa,i1,i2⟩) ?_)
   ·rintro i c st' _ hi2 ⟨rfl,lo,hi,rfl,lh',hhi,ms,j1,j2⟩
    dsimp only
    by_cases hc:lo≥hi
    ·rw[if_pos hc]
     obtain rfl:lo=hi:=by omega
     exact wpS_pure ⟨rfl,lo,lo,rfl,hhi,j1,j2⟩
    ·rw[if_neg hc]
     refine wpS_bind (nJ C hk hkey harr hb Qa ?_)
     cases b1:bQ O left key (aK arr (base+(lo+(hi-lo)/2)))
     ·exact wpS_pure ⟨rfl,_,_,rfl,Qa,Qa,Qa,j1,λ i h1 h2=>monf _ i h1 h2 b1⟩
     ·exact wpS_pure ⟨rfl,_,_,rfl,Qa,Qa,Qa,λ i h1=>mono i _ Qa Qa b1,j2⟩
   ·rintro c st' ⟨rfl,lo,hi,rfl,lh',hhi,ms,j1,j2⟩
    obtain rfl:lo=hi:=by omega
    exact⟨rfl,lo,lo,rfl,hhi,j1,j2⟩
   ·rintro c st' ⟨rfl,lo,hi,rfl,hhi,j1,j2⟩
    exact wpS_pure (h hi hhi j1 j2)
theorem eJ{arr:Array Keyed}{i:Nat}{x:Keyed}(h:arr[i]? =some x):aK arr i=x:=by unfold aK;rw[h];rfl
theorem lA{arr:Array Keyed}{i j:Nat}{x:Keyed}(h:x∈(arr.extract i j).toList):∃k,i<=k/\k<j/\arr[k]? =some x:=by
 rw[Array.mem_toList_iff,Array.mem_iff_getElem?]at h
 obtain⟨m,hm⟩:=h
 rw[Array.getElem?_extract]at hm
 split at hm
 ·exact⟨i+m,Qa,Qa,hm⟩
 ·exact nomatch hm
theorem Ec{arr:Array Keyed}{i:Nat}{x:Keyed}(h:x∈arr.toList.drop i):∃k,i<=k/\k<arr.size/\arr[k]? =some x:=by
 obtain⟨m,hm⟩:=List.mem_iff_getElem?.mp h
 rw[List.getElem?_drop,Array.getElem?_toList]at hm
 exact⟨i+m,Qa,(Array.getElem?_eq_some_iff.mp hm).1,hm⟩
theorem sU{arr:Array Keyed}{i:Nat}{x:Keyed}(h:x∈arr.toList.take i):∃k,k<i/\k<arr.size/\arr[k]? =some x:=by
 obtain⟨m,hm⟩:=List.mem_iff_getElem?.mp h
 rw[List.getElem?_take]at hm
 split at hm
 ·rw[Array.getElem?_toList]at hm
  exact⟨m,Qa,(Array.getElem?_eq_some_iff.mp hm).1,hm⟩
 ·exact nomatch hm
theorem yV(C:dF prog w A s κ a₀ O){st:SortSt}(hk:kindOf st=κ){left:Bool}{key:Keyed}{arr:Array Keyed}{base n hint:Nat}(hkey:key∈a₀)(harr:∀p,p∈arr->p∈a₀)(hb:base+n<=arr.size)(hh:hint<n)(hs:aZ O arr base (base+n)){Q:Option Nat->SortSt->Prop}
  (h:∀k,k<=n->(∀x∈(arr.extract base (base+k)).toList,O.le x key)->(∀x∈(arr.extract (base+k) (base+n)).toList,O.le key x)->Q (some k) st):
  wpS (model prog w) A E s (oI left key arr base n hint) Q st:=
 sK C hk hkey harr hb hh hs λ k hk j1 j2=>h k hk
  (λ x hx=>by
   obtain⟨m,h1,h2,e⟩:=lA hx
   have:=j1 (m-base) Qa
   rw[show base+(m-base)=m from Qa,eJ e]at this
   exact wV this)
  (λ x hx=>by
   obtain⟨m,h1,h2,e⟩:=lA hx
   have:=j2 (m-base) Qa Qa
   rw[show base+(m-base)=m from Qa,eJ e]at this
   exact wW this)
end
def fK(O:SOrd)(a b out:Array Keyed):Prop:=out.Perm (a++b)/\out.toList.Pairwise O.le
theorem AR{O:SOrd}{a:Array Keyed}(h:aZ O a 0 a.size):a.toList.Pairwise O.le:=by
 rw[List.pairwise_iff_getElem]
 intro i j hi hj hij
 simp only[Array.length_toList]at hi hj
 have:=h i j (Nat.zero_le _) (Nat.le_of_lt hij) hj
 unfold aK at this
 rw[Array.getElem?_eq_getElem hi,Array.getElem?_eq_getElem hj]at this
 simpa using this
theorem gA{O:SOrd}{a:Array Keyed}{i:Nat}{x z:Keyed}(h:aZ O a 0 a.size)(e:a[i]? =some x)(hz:z∈a.toList.drop i):O.le x z:=by
 obtain⟨k,h1,h2,e2⟩:=Ec hz
 have:=h i k (Nat.zero_le _) h1 h2
 rw[eJ e,eJ e2]at this
 exact this
theorem jG{α:Type}{l:List α}{i j:Nat}{x:α}(h:i<=j)(hx:x∈l.drop j):x∈l.drop i:=by
 obtain⟨k,rfl⟩:=Nat.exists_eq_add_of_le h
 rw[<-List.drop_drop]at hx
 exact List.mem_of_mem_drop hx
structure cK(O:SOrd)(a b out:Array Keyed)(ia ib:Nat):Prop where
 v:cE a b out ia ib
 s:out.toList.Pairwise O.le
 ua:∀x∈out.toList,∀y∈a.toList.drop ia,O.le x y
 ub:∀x∈out.toList,∀y∈b.toList.drop ib,O.le x y
section
variable{O:SOrd}{a b out:Array Keyed}{ia ib:Nat}
theorem pX{a:Array Keyed}{i:Nat}{x y:Keyed}(h:a[i]? =some x)(h2:a[i]? =some y):y=x:=Option.some.inj (h2.symm.trans h)
theorem xA{a:Array Keyed}{i j:Nat}{x:Keyed}(h:a[j]? =some x)(hij:i<=j):x∈a.toList.drop i:=by
 rw[List.mem_iff_getElem?]
 exact⟨j-i,by rw[List.getElem?_drop,show i+(j-i)=j from Qa,Array.getElem?_toList];exact h⟩
theorem gW{a:Array Keyed}{i j:Nat}{x:Keyed}(h:x∈(a.extract i j).toList):x∈a.toList.drop i:=by
 obtain⟨k,h1,_,e⟩:=lA h
 exact xA e h1
theorem fQ(sa:aZ O a 0 a.size)(i j:Nat):(a.extract i j).toList.Pairwise O.le:=by
 rw[Array.toList_extract,List.extract_eq_drop_take]
 exact((AR sa).sublist (List.drop_sublist _ _)).sublist (List.take_sublist _ _)
theorem Dw(sa:aZ O a 0 a.size){i j:Nat}{x z:Keyed}(hx:x∈(a.extract i j).toList)(hz:z∈a.toList.drop j):O.le x z:=by
 obtain⟨k,h1,h2,e⟩:=lA hx
 exact gA sa e (jG (Nat.le_of_lt h2) hz)
theorem cK.start(sb:aZ O b 0 b.size){p0:Keyed}(e0:b[0]? =some p0)(hF:∀x∈a.toList,O.le p0 x):cK O a b #[p0] 0 1 where
 v:=by
  unfold cE
  rw[show 1=0+1 from rfl,sS e0]
  exact List.Perm.refl _
 s:=List.pairwise_singleton _ _
 ua:=λ x hx y hy=>by
  have:x=p0:=by simpa using hx
  rw[this]
  exact hF y (List.mem_of_mem_drop hy)
 ub:=λ x hx y hy=>by
  have:x=p0:=by simpa using hx
  rw[this]
  exact gA sb e0 (jG (Nat.zero_le _) hy)
theorem cK.pushA(h:cK O a b out ia ib)(sa:aZ O a 0 a.size){x y:Keyed}(e:a[ia]? =some x)(e':a[ia]? =some y)(hb:∀z∈b.toList.drop ib,O.le x z):cK O a b (out.push y) (ia+1) ib:=by
 obtain rfl:=pX e e'
 refine⟨h.v.pushA e,?_,λ u hu z hz=>?_,λ u hu z hz=>?_⟩
 ·rw[Array.toList_push,List.pairwise_append]
  exact⟨h.s,List.pairwise_singleton _ _,λ u hu z hz=>by rw[List.mem_singleton.mp hz];exact h.ua u hu _ (xA e (Nat.le_refl _))⟩
 ·rw[Array.toList_push,List.mem_append,List.mem_singleton]at hu
  rcases hu with hu|rfl
  ·exact h.ua u hu z (jG (Nat.le_succ _) hz)
  ·exact gA sa e (jG (Nat.le_succ _) hz)
 ·rw[Array.toList_push,List.mem_append,List.mem_singleton]at hu
  rcases hu with hu|rfl
  ·exact h.ub u hu z hz
  ·exact hb z hz
theorem cK.pushB(h:cK O a b out ia ib)(sb:aZ O b 0 b.size){x y:Keyed}(e:b[ib]? =some x)(e':b[ib]? =some y)(ha:∀z∈a.toList.drop ia,O.le x z):cK O a b (out.push y) ia (ib+1):=by
 obtain rfl:=pX e e'
 refine⟨h.v.pushB e,?_,λ u hu z hz=>?_,λ u hu z hz=>?_⟩
 ·rw[Array.toList_push,List.pairwise_append]
  exact⟨h.s,List.pairwise_singleton _ _,λ u hu z hz=>by rw[List.mem_singleton.mp hz];exact h.ub u hu _ (xA e (Nat.le_refl _))⟩
 ·rw[Array.toList_push,List.mem_append,List.mem_singleton]at hu
  rcases hu with hu|rfl
  ·exact h.ua u hu z hz
  ·exact ha z hz
 ·rw[Array.toList_push,List.mem_append,List.mem_singleton]at hu
  rcases hu with hu|rfl
  ·exact h.ub u hu z (jG (Nat.le_succ _) hz)
  ·exact gA sb e (jG (Nat.le_succ _) hz)
theorem cK.extA(k:Nat)(h:cK O a b out ia ib)(sa:aZ O a 0 a.size)(hb:∀x∈(a.extract ia (ia+k)).toList,∀z∈b.toList.drop ib,O.le x z):cK O a b (out++a.extract ia (ia+k)) (ia+k) ib:=by
 refine⟨h.v.extA k,?_,λ u hu z hz=>?_,λ u hu z hz=>?_⟩
 ·rw[Array.toList_append,List.pairwise_append]
  exact⟨h.s,fQ sa _ _,λ u hu z hz=>h.ua u hu z (gW hz)⟩
 ·rw[Array.toList_append,List.mem_append]at hu
  rcases hu with hu|hu
  ·exact h.ua u hu z (jG (Nat.le_add_right _ _) hz)
  ·exact Dw sa hu hz
 ·rw[Array.toList_append,List.mem_append]at hu
  rcases hu with hu|hu
  ·exact h.ub u hu z hz
  ·exact hb u hu z hz
theorem cK.extB(k:Nat)(h:cK O a b out ia ib)(sb:aZ O b 0 b.size)(ha:∀x∈(b.extract ib (ib+k)).toList,∀z∈a.toList.drop ia,O.le x z):cK O a b (out++b.extract ib (ib+k)) ia (ib+k):=by
 refine⟨h.v.extB k,?_,λ u hu z hz=>?_,λ u hu z hz=>?_⟩
 ·rw[Array.toList_append,List.pairwise_append]
  exact⟨h.s,fQ sb _ _,λ u hu z hz=>h.ub u hu z (gW hz)⟩
 ·rw[Array.toList_append,List.mem_append]at hu
  rcases hu with hu|hu
  ·exact h.ua u hu z hz
  ·exact ha u hu z hz
 ·rw[Array.toList_append,List.mem_append]at hu
  rcases hu with hu|hu
  ·exact h.ub u hu z (jG (Nat.le_add_right _ _) hz)
  ·exact Dw sb hu hz
theorem Vu(a:Array Keyed)(i:Nat):(a.extract i a.size).toList=a.toList.drop i:=by
 rw[Array.toList_extract,List.extract_eq_drop_take,List.take_of_length_le Qb]
theorem cK.done(h:cK O a b out ia ib)(ha:ia<=a.size)(hb:ib<=b.size)(he:ia=a.size\/ib=b.size)(sa:aZ O a 0 a.size)(sb:aZ O b 0 b.size):fK O a b (out++a.extract ia a.size++b.extract ib b.size):=by
 refine⟨h.v.done ha hb,?_⟩
 have e:∀x∈a.toList.drop ia,∀z∈b.toList.drop ib,O.le x z:=λ x hx z hz=>by
  rcases he with rfl|rfl
  ·rw[List.drop_of_length_le Qb]at hx;exact nomatch hx
  ·rw[List.drop_of_length_le Qb]at hz;exact nomatch hz
 rw[Array.toList_append,Array.toList_append,List.pairwise_append,List.pairwise_append]
 refine⟨⟨h.s,fQ sa _ _,λ u hu z hz=>h.ua u hu z (gW hz)⟩,fQ sb _ _,λ u hu z hz=>?_⟩
 rw[List.mem_append]at hu
 rcases hu with hu|hu
 ·exact h.ub u hu z (gW hz)
 ·exact e u (gW hu) z (gW hz)
theorem cK.last(h:cK O a b out ia ib)(ha:ia+1=a.size)(hb:ib<=b.size)(hL:∀y∈b.toList,O.le y (aK a (a.size-1)))(sa:aZ O a 0 a.size)(sb:aZ O b 0 b.size):fK O a b (out++b.extract ib b.size++a.extract ia a.size):=by
 refine⟨h.v.last Qa hb,?_⟩
 have e:∀x∈a.toList.drop ia,∀z∈b.toList.drop ib,O.le z x:=λ x hx z hz=>by
  obtain⟨k,h1,h2,e⟩:=Ec hx
  have:=hL z (List.mem_of_mem_drop hz)
  rw[show a.size-1=k from Qa,eJ e]at this
  exact this
 rw[Array.toList_append,Array.toList_append,List.pairwise_append,List.pairwise_append]
 refine⟨⟨h.s,fQ sb _ _,λ u hu z hz=>h.ub u hu z (gW hz)⟩,fQ sa _ _,λ u hu z hz=>?_⟩
 rw[List.mem_append]at hu
 rcases hu with hu|hu
 ·exact h.ua u hu z (gW hz)
 ·exact e z (gW hz) u (gW hu)
end
section
variable{prog:Program}{w:World}{A:Around}{E:Qe}{s:Shared}{a₀:Array Keyed}{κ:SortKind}{O:SOrd}
theorem yU(C:dF prog w A s κ a₀ O){st:SortSt}(hk:kindOf st=κ){left:Bool}{key:Keyed}{arr:Array Keyed}{base n hint:Nat}(hkey:key∈a₀)(harr:∀p,p∈arr->p∈a₀)(hb:base+n=arr.size)(hh:hint<n)(hs:aZ O arr 0 arr.size){Q:Option Nat->SortSt->Prop}
  (h:∀k,k<=n->(∀x∈(arr.extract base (base+k)).toList,O.le x key)->(∀x∈arr.toList.drop (base+k),O.le key x)->Q (some k) st):
  wpS (model prog w) A E s (oI left key arr base n hint) Q st:=
 yV C hk hkey harr (Nat.le_of_eq hb) hh (λ i j h1 h2 h3=>hs i j (Nat.zero_le _) h2 Qa) λ k hk j1 j2=>h k hk j1 λ x hx=>j2 x (by rw[hb,Vu];exact hx)
theorem yT{M:Model}{β X:Type}{c:Prop}[Decidable c]{f:Unit->X->StateT SortSt Sem β}{m m':X}{Q:β->SortSt->Prop}{st:SortSt}(h:∀m,wpS M A E s (f () m) Q st):wpS M A E s (if c then f () m else f () m') Q st:=by
 split<;>exact h _
theorem yS{M:Model}{β X Y:Type}{c d:Prop}[Decidable c][Decidable d]{f:Unit->X->Y->StateT SortSt Sem β}{n n':X}{o o':Y}{r:StateT SortSt Sem β}{Q:β->SortSt->Prop}{st:SortSt}(P:X->Y->Prop)(h1:c->d->wpS M A E s r Q st)(h2:c->¬d->P n' o')(h3:¬c->P n o)(h:∀n o,P n o->wpS M A E s (f () n o) Q st):wpS M A E s (if c then(if d then r else f () n' o')else f () n o) Q st:=by
 split
 ·split
  ·exact h1 ‹_› ‹_›
  ·exact h _ _ (h2 ‹_› ‹_›)
 ·exact h _ _ (h3 ‹_›)
theorem yR{M:Model}{β X Y:Type}{c d e:Prop}[Decidable c][Decidable d][Decidable e]{f:Unit->X->Y->StateT SortSt Sem β}{n n':X}{o o':Y}{r r':StateT SortSt Sem β}{Q:β->SortSt->Prop}{st:SortSt}(P:X->Y->Prop)(h1:c->d->wpS M A E s r Q st)(h1':c->¬d->e->wpS M A E s r' Q st)(h2:c->¬d->¬e->P n' o')(h3:¬c->P n o)(h:∀n o,P n o->wpS M A E s (f () n o) Q st):wpS M A E s (if c then(if d then r else if e then r' else f () n' o')else f () n o) Q st:=by
 split
 ·split
  ·exact h1 ‹_› ‹_›
  ·split
   ·exact h1' ‹_› ‹_› ‹_›
   ·exact h _ _ (h2 ‹_› ‹_› ‹_›)
 ·exact h _ _ (h3 ‹_›)
abbrev BH(O:SOrd)(a b:Array Keyed)(st:SortSt)(i:Nat)(c:Option (Array Keyed)×Array Keyed×Nat×Nat×Nat)(st':SortSt):Prop:=∃out ia ib mg g,c=(none,out,ia,ib,mg)/\st'=dJ st g/\cK O a b out ia ib/\ia+1<a.size/\ib<b.size/\i+1<=ia+ib
abbrev BE(O:SOrd)(a b:Array Keyed)(st:SortSt)(c:Option (Array Keyed)×Array Keyed×Nat×Nat×Nat)(st':SortSt):Prop:=∃r out ia ib mg g,c=(some r,out,ia,ib,mg)/\st'=dJ st g/\fK O a b r
abbrev BG(O:SOrd)(a b:Array Keyed)(st:SortSt)(i:Nat)(g:Nat)(j:Nat)(c:Option (Array Keyed)×Array Keyed×Nat×Nat×Nat×Nat)(st':SortSt):Prop:=∃out ia ib ac bc,c=(none,out,ia,ib,ac,bc)/\st'=dJ st g/\cK O a b out ia ib/\ia+1<a.size/\ib<b.size/\i+1+j<=ia+ib
abbrev BD(O:SOrd)(a b:Array Keyed)(st:SortSt)(i:Nat)(g:Nat)(c:Option (Array Keyed)×Array Keyed×Nat×Nat×Nat×Nat)(st':SortSt):Prop:=st'=dJ st g/\((∃r out ia ib ac bc,c=(some r,out,ia,ib,ac,bc)/\fK O a b r)\/∃out ia ib ac bc,c=(none,out,ia,ib,ac,bc)/\cK O a b out ia ib/\ia+1<a.size/\ib<b.size/\i+1<=ia+ib)
abbrev BF(O:SOrd)(a b:Array Keyed)(st:SortSt)(i:Nat)(j:Nat)(c:Option (Array Keyed)×Array Keyed×Nat×Nat×Nat×Nat×Nat)(st':SortSt):Prop:=∃out ia ib mg ac bc g,c=(none,out,ia,ib,mg,ac,bc)/\st'=dJ st g/\cK O a b out ia ib/\ia+1<a.size/\ib<b.size/\i+1+j<=ia+ib
abbrev BC(O:SOrd)(a b:Array Keyed)(st:SortSt)(i:Nat)(c:Option (Array Keyed)×Array Keyed×Nat×Nat×Nat×Nat×Nat)(st':SortSt):Prop:=∃g,st'=dJ st g/\((∃r out ia ib mg ac bc,c=(some r,out,ia,ib,mg,ac,bc)/\fK O a b r)\/∃out ia ib mg ac bc,c=(none,out,ia,ib,mg,ac,bc)/\cK O a b out ia ib/\ia+1<a.size/\ib<b.size/\i+2<=ia+ib)
theorem Gp(C:dF prog w A s κ a₀ O){st:SortSt}(hk:kindOf st=κ){a b:Array Keyed}(ha:∀p,p∈a->p∈a₀)(hb:∀p,p∈b->p∈a₀)(na:1<=a.size)(nb:1<=b.size)(sa:aZ O a 0 a.size)(sb:aZ O b 0 b.size)(hF:∀x∈a.toList,O.le (aK b 0) x)(hL:∀y∈b.toList,O.le y (aK a (a.size-1))){Q:Array Keyed->SortSt->Prop}(h:∀out g,fK O a b out->Q out (dJ st g)):
  wpS (model prog w) A E s (Br a b) Q st:=by
 unfold Br
 have hkg:∀g,kindOf (dJ st g)=κ:=λ _=>hk
 refine wpS_bind (wpS_lift (wpAny_rule ⟨rfl,?_⟩))
 try dsimp-zeta-zetaHave only
 refine wpS_bind (dB nb λ p0 e0 _=>?_)
 have v0:cK O a b #[p0] 0 1:=cK.start sb e0 (λ x hx=>eJ e0▸hF x hx)
 by_cases c1:(1==b.size)=true
 ·rw[if_pos c1]
  exact wpS_pure (h _ (gallopOf st) (v0.done Qa nb (.inr (eq_of_beq c1)) sa sb))
 rw[if_neg c1]
 by_cases c2:(0+1==a.size)=true
 ·rw[if_pos c2]
  exact wpS_pure (h _ (gallopOf st) (v0.last (eq_of_beq c2) nb hL sa sb))
 rw[if_neg c2]
 simp only[beq_iff_eq]at c1 c2
 refine wpS_bind (wpS_get ?_)
 refine wpS_bind (wpS_mono (wpS_forRange (I:=BH O a b st)
  (Q:=BE O a b st) ?_ ?_ ⟨_,0,1,_,gallopOf st,rfl,rfl,v0,Qa,Qa,Qa⟩) ?_)
 ·rintro i c st' _ hi ⟨out,ia,ib,mg,g,rfl,rfl,v,la,lb,hp⟩
  try dsimp-zeta-zetaHave only
  refine wpS_bind (wpS_mono (wpS_forRange (I:=BG O a b st i g)
   (Q:=BD O a b st i g) ?_ ?_ ⟨_,_,_,_,_,rfl,rfl,v,la,lb,Qa⟩) ?_)
  ·skip
   rintro j c st' _ _ ⟨out,ia,ib,ac,bc,rfl,rfl,v,la,lb,hp⟩
   try dsimp only
   refine wpS_bind (dB lb λ p ep hpm=>?_)
   refine wpS_bind (dB Qa λ q eq hqm=>?_)
   refine wpS_bind (nI C (hkg _) (hb p hpm) (ha q hqm) ?_)
   try dsimp only
   cases bw:O.blt p q
   ·simp only[Bool.false_eq_true,if_false]
    refine wpS_bind (dB Qa λ q' eq' _=>?_)
    have v2:=v.pushA sa eq eq' (λ z hz=>SOrd.le_trans bw (gA sb ep hz))
    by_cases d1:(ia+1+1==a.size)=true
    ·rw[if_pos d1]
     simp only[beq_iff_eq]at d1
     exact wpS_pure ⟨rfl,.inl ⟨_,_,_,_,_,_,rfl,v2.last Qa Qa hL sa sb⟩⟩
    ·rw[if_neg d1]
     simp only[beq_iff_eq]at d1
     split
     ·exact wpS_pure ⟨rfl,.inr ⟨_,_,_,_,_,rfl,v2,Qa,Qa,Qa⟩⟩
     ·exact wpS_pure ⟨_,_,_,_,_,rfl,rfl,v2,Qa,Qa,Qa⟩
   ·simp only[if_true]
    refine wpS_bind (dB lb λ q' eq' _=>?_)
    have v2:=v.pushB sb ep eq' (λ z hz=>SOrd.le_trans (SOrd.le_of_lt bw) (gA sa eq hz))
    by_cases d1:(ib+1==b.size)=true
    ·rw[if_pos d1]
     simp only[beq_iff_eq]at d1
     exact wpS_pure ⟨rfl,.inl ⟨_,_,_,_,_,_,rfl,v2.done Qa Qa Qa sa sb⟩⟩
    ·rw[if_neg d1]
     simp only[beq_iff_eq]at d1
     split
     ·exact wpS_pure ⟨rfl,.inr ⟨_,_,_,_,_,rfl,v2,Qa,Qa,Qa⟩⟩
     ·exact wpS_pure ⟨_,_,_,_,_,rfl,rfl,v2,Qa,Qa,Qa⟩
  ·rintro c st' ⟨out,ia,ib,ac,bc,rfl,rfl,v,la,lb,hp⟩
   exact⟨rfl,.inr ⟨_,_,_,_,_,rfl,v,la,lb,Qa⟩⟩
  ·skip
   rintro c st' ⟨rfl,⟨r,out,ia,ib,ac,bc,rfl,hr⟩|⟨out,ia,ib,ac,bc,rfl,v,la,lb,hp⟩⟩
   ·exact wpS_pure ⟨_,_,_,_,_,_,rfl,rfl,hr⟩
   try dsimp-zeta-zetaHave only
   refine wpS_bind (wpS_lift (wpAny_rule ⟨rfl,?_⟩))
   try dsimp-zeta-zetaHave only
   refine wpS_bind (wpS_mono (wpS_forRange (I:=BF O a b st i)
    (Q:=BC O a b st i) ?_ ?_ ⟨_,_,_,_,_,_,g,rfl,rfl,v,la,lb,Qa⟩) ?_)
   ·rintro j c st' _ _ ⟨out,ia,ib,mg,ac,bc,g,rfl,rfl,v,la,lb,hp⟩
    extract_lets _ out1 _ ia1 _ ib1 _ mg1 _ ac1 bc1 jb jp
    refine yT (f:=jp) λ m=>?_
    refine wpS_bind (wpS_modify ?_)
    refine wpS_bind (dB (i:=ib) lb λ q1 eq1 hq1=>?_)
    refine wpS_bind (yU (base:=ia) (n:=a.size-ia) (hint:=0) C (hkg _) (hb q1 hq1) ha Qa Qa sa λ k1 hk1 G1 G2=>?_)
    dsimp-zeta-zetaHave only
    extract_lets ack jp2
    refine yR (f:=jp2) (λ o ix=>cK O a b o ix ib/\ix+1<a.size/\ia<=ix/\∀x∈a.toList.drop ix,O.le q1 x) (λ c d=>?_) (λ c d e=>?_) (λ c d e=>?_) (λ c=>?_) ?_
    ·exact wpS_pure ⟨_,rfl,.inl ⟨_,_,_,_,_,_,_,rfl,(v.extA k1 sa (λ x hx z hz=>SOrd.le_trans (G1 x hx) (gA sb eq1 hz))).last (eq_of_beq d) Qa hL sa sb⟩⟩
    ·exact wpS_pure ⟨_,rfl,.inl ⟨_,_,_,_,_,_,_,rfl,(v.extA k1 sa (λ x hx z hz=>SOrd.le_trans (G1 x hx) (gA sb eq1 hz))).done Qa Qa (.inl (eq_of_beq e)) sa sb⟩⟩
    ·have d:¬ia+k1+1=a.size:=λ h=>d (beq_iff_eq.mpr h)
     have e:¬ia+k1=a.size:=λ h=>e (beq_iff_eq.mpr h)
     exact⟨v.extA k1 sa (λ x hx z hz=>SOrd.le_trans (G1 x hx) (gA sb eq1 hz)),(by omega:ia+k1+1<a.size),Nat.le_add_right _ _,G2⟩
    ·have c:¬k1>0:=c
     rw[show ia+k1=ia from Qa]at G2
     exact⟨v,la,Nat.le_refl _,G2⟩
    rintro o1 ix ⟨v1,l1,z1,F1⟩
    refine wpS_bind (dB (i:=ib) lb λ q2 eq2 _=>?_)
    have v2:=v1.pushB sb eq1 eq2 F1
    extract_lets o2
    split
    ·rename_i d1
     exact wpS_pure ⟨_,rfl,.inl ⟨_,_,_,_,_,_,_,rfl,v2.done Qa Qa (.inr (eq_of_beq d1)) sa sb⟩⟩
    rename_i d1
    have d1:¬ib+1=b.size:=λ h=>d1 (beq_iff_eq.mpr h)
    refine wpS_bind (dB (i:=ix) Qa λ q3 eq3 hq3=>?_)
    refine wpS_bind (yU (base:=ib+1) (n:=b.size-(ib+1)) (hint:=0) C (hkg _) (ha q3 hq3) hb Qa Qa sb λ k2 hk2 G3 G4=>?_)
    dsimp-zeta-zetaHave only
    extract_lets bck jp3
    refine yS (f:=jp3) (λ o iy=>cK O a b o ix iy/\iy<b.size/\ib+1<=iy/\∀x∈b.toList.drop iy,O.le q3 x) (λ c d=>?_) (λ c d=>?_) (λ c=>?_) ?_
    ·exact wpS_pure ⟨_,rfl,.inl ⟨_,_,_,_,_,_,_,rfl,(v2.extB k2 sb (λ x hx z hz=>SOrd.le_trans (G3 x hx) (gA sa eq3 hz))).done Qa Qa (.inr (eq_of_beq d)) sa sb⟩⟩
    ·have d:¬ib+1+k2=b.size:=λ h=>d (beq_iff_eq.mpr h)
     exact⟨v2.extB k2 sb (λ x hx z hz=>SOrd.le_trans (G3 x hx) (gA sa eq3 hz)),(by omega:ib+1+k2<b.size),Nat.le_add_right _ _,G4⟩
    ·have c:¬k2>0:=c
     rw[show ib+1+k2=ib+1 from Qa]at G4
     exact⟨v2,(by omega:ib+1<b.size),Nat.le_refl _,G4⟩
    rintro o3 iy ⟨v3,l3,z3,F3⟩
    refine wpS_bind (dB (i:=ix) Qa λ q4 eq4 _=>?_)
    have v4:=v3.pushA sa eq3 eq4 F3
    extract_lets o4
    split
    ·rename_i f1
     exact wpS_pure ⟨_,rfl,.inl ⟨_,_,_,_,_,_,_,rfl,v4.last (eq_of_beq f1) Qa hL sa sb⟩⟩
    rename_i f1
    have f1:¬ix+1+1=a.size:=λ h=>f1 (beq_iff_eq.mpr h)
    have B:ix+1+1<a.size/\i+2<=ix+1+iy/\i+1+(j+1)<=ix+1+iy:=by omega
    split
    ·exact wpS_pure ⟨_,rfl,.inr ⟨_,_,_,_,_,_,rfl,v4,B.1,l3,B.2.1⟩⟩
    ·exact wpS_pure ⟨_,_,_,_,_,_,_,rfl,rfl,v4,B.1,l3,B.2.2⟩
   ·rintro c st' ⟨out,ia,ib,mg,ac,bc,g,rfl,rfl,v,la,lb,hp⟩
    exact absurd hp Qa
   ·skip
    rintro c st' ⟨g,rfl,⟨r,out,ia,ib,mg,ac,bc,rfl,hr⟩|⟨out,ia,ib,mg,ac,bc,rfl,v,la,lb,hp⟩⟩
    ·exact wpS_pure ⟨_,_,_,_,_,_,rfl,rfl,hr⟩
    ·exact wpS_bind (wpS_modify (wpS_pure ⟨_,_,_,_,_,rfl,rfl,v,la,lb,Qa⟩))
 ·rintro c st' ⟨out,ia,ib,mg,g,rfl,rfl,v,la,lb,hp⟩
  exact absurd hp Qa
 ·rintro c st' ⟨r,out,ia,ib,mg,g,rfl,rfl,hr⟩
  exact wpS_pure (h r g hr)
end
theorem gI{O:SOrd}{a:Array Keyed}{i:Nat}{x z:Keyed}(h:aZ O a 0 a.size)(e:a[i-1]? =some x)(hz:z∈a.toList.take i):O.le z x:=by
 obtain⟨k,h1,h2,e2⟩:=sU hz
 have hl:i-1<a.size:=(Array.getElem?_eq_some_iff.mp e).1
 have:=h k (i-1) (Nat.zero_le _) Qa hl
 rw[eJ e,eJ e2]at this
 exact this
theorem jT{α:Type}{l:List α}{i j:Nat}{x:α}(h:i<=j)(hx:x∈l.take i):x∈l.take j:=by
 rw[<-Nat.min_eq_left h,<-List.take_take]at hx
 exact List.mem_of_mem_take hx
structure cL(O:SOrd)(a b out:Array Keyed)(na nb:Nat):Prop where
 v:cO a b out na nb
 s:out.toList.Pairwise (λ x y=>O.le y x)
 ua:∀x∈out.toList,∀y∈a.toList.take na,O.le y x
 ub:∀x∈out.toList,∀y∈b.toList.take nb,O.le y x
section
variable{O:SOrd}{a b out:Array Keyed}{na nb:Nat}
theorem wZ{a:Array Keyed}{i j:Nat}{x:Keyed}(h:a[j]? =some x)(hij:j<i):x∈a.toList.take i:=by
 rw[List.mem_iff_getElem?]
 exact⟨j,by rw[List.getElem?_take,if_pos hij,Array.getElem?_toList];exact h⟩
theorem gU{a:Array Keyed}{i j:Nat}{x:Keyed}(h:x∈(a.extract i j).toList):x∈a.toList.take j:=by
 obtain⟨k,_,h1,e⟩:=lA h
 exact wZ e h1
theorem Dx(sa:aZ O a 0 a.size){i j:Nat}{x z:Keyed}(hx:x∈(a.extract i j).toList)(hz:z∈a.toList.take i):O.le z x:=by
 obtain⟨k,h1,h2,e⟩:=lA hx
 obtain⟨m,g1,g2,e2⟩:=sU hz
 have:=sa m k (Nat.zero_le _) Qa (Array.getElem?_eq_some_iff.mp e).1
 rw[eJ e,eJ e2]at this
 exact this
theorem cL.start(sa:aZ O a 0 a.size)(h1:1<=a.size){p0:Keyed}(e0:a[a.size-1]? =some p0)(hL:∀y∈b.toList,O.le y p0):cL O a b #[p0] (a.size-1) b.size where
 v:=by
  unfold cO
  rw[wP h1 e0,List.drop_of_length_le Qb,List.drop_of_length_le Qb]
  exact List.Perm.refl _
 s:=List.pairwise_singleton _ _
 ua:=λ x hx y hy=>by
  have:x=p0:=by simpa using hx
  rw[this]
  exact gI sa e0 (jT Qa hy)
 ub:=λ x hx y hy=>by
  have:x=p0:=by simpa using hx
  rw[this]
  exact hL y (List.mem_of_mem_take hy)
theorem cL.pushA(h:cL O a b out na nb)(h1:1<=na)(sa:aZ O a 0 a.size){x y:Keyed}(e:a[na-1]? =some x)(e':a[na-1]? =some y)(hb:∀z∈b.toList.take nb,O.le z x):cL O a b (out.push y) (na-1) nb:=by
 obtain rfl:=pX e e'
 refine⟨h.v.pushA h1 e,?_,λ u hu z hz=>?_,λ u hu z hz=>?_⟩
 ·rw[Array.toList_push,List.pairwise_append]
  exact⟨h.s,List.pairwise_singleton _ _,λ u hu z hz=>by rw[List.mem_singleton.mp hz];exact h.ua u hu _ (wZ e Qa)⟩
 ·rw[Array.toList_push,List.mem_append,List.mem_singleton]at hu
  rcases hu with hu|rfl
  ·exact h.ua u hu z (jT (Nat.sub_le _ _) hz)
  ·exact gI sa e (jT (Nat.sub_le _ _) hz)
 ·rw[Array.toList_push,List.mem_append,List.mem_singleton]at hu
  rcases hu with hu|rfl
  ·exact h.ub u hu z hz
  ·exact hb z hz
theorem cL.pushB(h:cL O a b out na nb)(h1:1<=nb)(sb:aZ O b 0 b.size){x y:Keyed}(e:b[nb-1]? =some x)(e':b[nb-1]? =some y)(ha:∀z∈a.toList.take na,O.le z x):cL O a b (out.push y) na (nb-1):=by
 obtain rfl:=pX e e'
 refine⟨h.v.pushB h1 e,?_,λ u hu z hz=>?_,λ u hu z hz=>?_⟩
 ·rw[Array.toList_push,List.pairwise_append]
  exact⟨h.s,List.pairwise_singleton _ _,λ u hu z hz=>by rw[List.mem_singleton.mp hz];exact h.ub u hu _ (wZ e Qa)⟩
 ·rw[Array.toList_push,List.mem_append,List.mem_singleton]at hu
  rcases hu with hu|rfl
  ·exact h.ua u hu z hz
  ·exact ha z hz
 ·rw[Array.toList_push,List.mem_append,List.mem_singleton]at hu
  rcases hu with hu|rfl
  ·exact h.ub u hu z (jT (Nat.sub_le _ _) hz)
  ·exact gI sb e (jT (Nat.sub_le _ _) hz)
theorem Aq{l:List Keyed}(h:l.Pairwise O.le):l.reverse.Pairwise (λ x y=>O.le y x):=List.pairwise_reverse.mpr h
theorem cL.extA(m:Nat)(h:cL O a b out na nb)(hm:m<=na)(sa:aZ O a 0 a.size)(hb:∀x∈(a.extract m na).toList,∀z∈b.toList.take nb,O.le z x):cL O a b (out++(a.extract m na).reverse) m nb:=by
 refine⟨h.v.extA m hm,?_,λ u hu z hz=>?_,λ u hu z hz=>?_⟩
 ·rw[Array.toList_append,Array.toList_reverse,List.pairwise_append]
  exact⟨h.s,Aq (fQ sa _ _),λ u hu z hz=>h.ua u hu z (gU (List.mem_reverse.mp hz))⟩
 ·rw[Array.toList_append,Array.toList_reverse,List.mem_append,List.mem_reverse]at hu
  rcases hu with hu|hu
  ·exact h.ua u hu z (jT hm hz)
  ·exact Dx sa hu hz
 ·rw[Array.toList_append,Array.toList_reverse,List.mem_append,List.mem_reverse]at hu
  rcases hu with hu|hu
  ·exact h.ub u hu z hz
  ·exact hb u hu z hz
theorem cL.extB(m:Nat)(h:cL O a b out na nb)(hm:m<=nb)(sb:aZ O b 0 b.size)(ha:∀x∈(b.extract m nb).toList,∀z∈a.toList.take na,O.le z x):cL O a b (out++(b.extract m nb).reverse) na m:=by
 refine⟨h.v.extB m hm,?_,λ u hu z hz=>?_,λ u hu z hz=>?_⟩
 ·rw[Array.toList_append,Array.toList_reverse,List.pairwise_append]
  exact⟨h.s,Aq (fQ sb _ _),λ u hu z hz=>h.ub u hu z (gU (List.mem_reverse.mp hz))⟩
 ·rw[Array.toList_append,Array.toList_reverse,List.mem_append,List.mem_reverse]at hu
  rcases hu with hu|hu
  ·exact h.ua u hu z hz
  ·exact ha u hu z hz
 ·rw[Array.toList_append,Array.toList_reverse,List.mem_append,List.mem_reverse]at hu
  rcases hu with hu|hu
  ·exact h.ub u hu z (jT hm hz)
  ·exact Dx sb hu hz
theorem cL.done(h:cL O a b out na nb)(he:na=0\/nb=0)(sa:aZ O a 0 a.size)(sb:aZ O b 0 b.size):fK O a b (a.extract 0 na++b.extract 0 nb++out.reverse):=by
 refine⟨h.v.done,?_⟩
 have e:∀x∈a.toList.take na,∀z∈b.toList.take nb,O.le x z:=λ x hx z hz=>by
  rcases he with rfl|rfl
  ·exact nomatch hx
  ·exact nomatch hz
 rw[Array.toList_append,Array.toList_append,Array.toList_reverse,List.pairwise_append,List.pairwise_append]
 refine⟨⟨fQ sa _ _,fQ sb _ _,λ u hu z hz=>e u (gU hu) z (gU hz)⟩,List.pairwise_reverse.mpr h.s,λ u hu z hz=>?_⟩
 rw[List.mem_reverse]at hz
 rw[List.mem_append]at hu
 rcases hu with hu|hu
 ·exact h.ua z hz u (gU hu)
 ·exact h.ub z hz u (gU hu)
theorem cL.first(h:cL O a b out na nb)(h1:nb=1)(hF:∀x∈a.toList,O.le (aK b 0) x)(sa:aZ O a 0 a.size)(sb:aZ O b 0 b.size):fK O a b (b.extract 0 nb++a.extract 0 na++out.reverse):=by
 refine⟨h.v.first,?_⟩
 have e:∀x∈a.toList.take na,∀z∈b.toList.take nb,O.le z x:=λ x hx z hz=>by
  obtain⟨k,g1,g2,e⟩:=sU hz
  have:=hF x (List.mem_of_mem_take hx)
  rw[show 0=k from Qa,eJ e]at this
  exact this
 rw[Array.toList_append,Array.toList_append,Array.toList_reverse,List.pairwise_append,List.pairwise_append]
 refine⟨⟨fQ sb _ _,fQ sa _ _,λ u hu z hz=>e z (gU hz) u (gU hu)⟩,List.pairwise_reverse.mpr h.s,λ u hu z hz=>?_⟩
 rw[List.mem_reverse]at hz
 rw[List.mem_append]at hu
 rcases hu with hu|hu
 ·exact h.ub z hz u (gU hu)
 ·exact h.ua z hz u (gU hu)
end
section
variable{prog:Program}{w:World}{A:Around}{E:Qe}{s:Shared}{a₀:Array Keyed}{κ:SortKind}{O:SOrd}
theorem Vr(a:Array Keyed)(i:Nat):(a.extract 0 i).toList=a.toList.take i:=by
 rw[Array.toList_extract,List.extract_eq_drop_take,List.drop_zero,Nat.sub_zero]
theorem yW(C:dF prog w A s κ a₀ O){st:SortSt}(hk:kindOf st=κ){left:Bool}{key:Keyed}{arr:Array Keyed}{n hint:Nat}(hkey:key∈a₀)(harr:∀p,p∈arr->p∈a₀)(hb:n<=arr.size)(hh:hint<n)(hs:aZ O arr 0 arr.size){Q:Option Nat->SortSt->Prop}
  (h:∀k,k<=n->(∀x∈arr.toList.take k,O.le x key)->(∀x∈(arr.extract k n).toList,O.le key x)->Q (some k) st):
  wpS (model prog w) A E s (oI left key arr 0 n hint) Q st:=
 yV C hk hkey harr Qa hh (λ i j h1 h2 h3=>hs i j (Nat.zero_le _) h2 Qa) λ k hk j1 j2=>h k hk (λ x hx=>j1 x (by rw[Nat.zero_add,Vr];exact hx)) (λ x hx=>j2 x (by rw[Nat.zero_add,Nat.zero_add];exact hx))
abbrev BO(O:SOrd)(a b:Array Keyed)(st:SortSt)(i:Nat)(c:Option (Array Keyed)×Nat×Nat×Array Keyed×Nat)(st':SortSt):Prop:=∃na nb out mg g,c=(none,na,nb,out,mg)/\st'=dJ st g/\cL O a b out na nb/\1<=na/\2<=nb/\na<=a.size/\nb<=b.size/\i+na+nb+1<=a.size+b.size
abbrev BL(O:SOrd)(a b:Array Keyed)(st:SortSt)(c:Option (Array Keyed)×Nat×Nat×Array Keyed×Nat)(st':SortSt):Prop:=∃r na nb out mg g,c=(some r,na,nb,out,mg)/\st'=dJ st g/\fK O a b r
abbrev BN(O:SOrd)(a b:Array Keyed)(st:SortSt)(i:Nat)(g:Nat)(j:Nat)(c:Option (Array Keyed)×Nat×Nat×Array Keyed×Nat×Nat)(st':SortSt):Prop:=∃na nb out ac bc,c=(none,na,nb,out,ac,bc)/\st'=dJ st g/\cL O a b out na nb/\1<=na/\2<=nb/\na<=a.size/\nb<=b.size/\i+j+na+nb+1<=a.size+b.size
abbrev BK(O:SOrd)(a b:Array Keyed)(st:SortSt)(i:Nat)(g:Nat)(c:Option (Array Keyed)×Nat×Nat×Array Keyed×Nat×Nat)(st':SortSt):Prop:=st'=dJ st g/\((∃r na nb out ac bc,c=(some r,na,nb,out,ac,bc)/\fK O a b r)\/∃na nb out ac bc,c=(none,na,nb,out,ac,bc)/\cL O a b out na nb/\1<=na/\2<=nb/\na<=a.size/\nb<=b.size/\i+na+nb+1<=a.size+b.size)
abbrev BM(O:SOrd)(a b:Array Keyed)(st:SortSt)(i:Nat)(j:Nat)(c:Option (Array Keyed)×Nat×Nat×Array Keyed×Nat×Nat×Nat)(st':SortSt):Prop:=∃na nb out mg ac bc g,c=(none,na,nb,out,mg,ac,bc)/\st'=dJ st g/\cL O a b out na nb/\1<=na/\2<=nb/\na<=a.size/\nb<=b.size/\i+j+na+nb+1<=a.size+b.size
abbrev BJ(O:SOrd)(a b:Array Keyed)(st:SortSt)(i:Nat)(c:Option (Array Keyed)×Nat×Nat×Array Keyed×Nat×Nat×Nat)(st':SortSt):Prop:=∃g,st'=dJ st g/\((∃r na nb out mg ac bc,c=(some r,na,nb,out,mg,ac,bc)/\fK O a b r)\/∃na nb out mg ac bc,c=(none,na,nb,out,mg,ac,bc)/\cL O a b out na nb/\1<=na/\2<=nb/\na<=a.size/\nb<=b.size/\i+na+nb+2<=a.size+b.size)
theorem Gq(C:dF prog w A s κ a₀ O){st:SortSt}(hk:kindOf st=κ){a b:Array Keyed}(ha:∀p,p∈a->p∈a₀)(hb:∀p,p∈b->p∈a₀)(na1:1<=a.size)(nb1:1<=b.size)(sa:aZ O a 0 a.size)(sb:aZ O b 0 b.size)(hF:∀x∈a.toList,O.le (aK b 0) x)(hL:∀y∈b.toList,O.le y (aK a (a.size-1))){Q:Array Keyed->SortSt->Prop}(h:∀out g,fK O a b out->Q out (dJ st g)):
  wpS (model prog w) A E s (Bs a b) Q st:=by
 unfold Bs
 have hkg:∀g,kindOf (dJ st g)=κ:=λ _=>hk
 refine wpS_bind (wpS_lift (wpAny_rule ⟨rfl,?_⟩))
 try dsimp-zeta-zetaHave only
 refine wpS_bind (dB Qa λ p0 e0 _=>?_)
 have v0:cL O a b #[p0] (a.size-1) b.size:=cL.start sa na1 e0 (λ y hy=>eJ e0▸hL y hy)
 by_cases c1:(a.size-1==0)=true
 ·rw[if_pos c1]
  exact wpS_pure (h _ (gallopOf st) (v0.done (.inl (eq_of_beq c1)) sa sb))
 rw[if_neg c1]
 by_cases c2:(b.size==1)=true
 ·rw[if_pos c2]
  exact wpS_pure (h _ (gallopOf st) (v0.first (eq_of_beq c2) hF sa sb))
 rw[if_neg c2]
 simp only[beq_iff_eq]at c1 c2
 refine wpS_bind (wpS_get ?_)
 refine wpS_bind (wpS_mono (wpS_forRange (I:=BO O a b st)
  (Q:=BL O a b st) ?_ ?_ ⟨_,_,_,_,gallopOf st,rfl,rfl,v0,Qa,Qa,Qa,Qa,Qa⟩) ?_)
 ·rintro i c st' _ hi ⟨na,nb,out,mg,g,rfl,rfl,v,la,lb,za,zb,hp⟩
  try dsimp-zeta-zetaHave only
  refine wpS_bind (wpS_mono (wpS_forRange (I:=BN O a b st i g)
   (Q:=BK O a b st i g) ?_ ?_ ⟨_,_,_,_,_,rfl,rfl,v,la,lb,za,zb,Qa⟩) ?_)
  ·rintro j c st' _ _ ⟨na,nb,out,ac,bc,rfl,rfl,v,la,lb,za,zb,hp⟩
   try dsimp only
   refine wpS_bind (dB Qa λ p ep hpm=>?_)
   refine wpS_bind (dB Qa λ q eq hqm=>?_)
   refine wpS_bind (nI C (hkg _) (hb p hpm) (ha q hqm) ?_)
   try dsimp only
   cases bw:O.blt p q
   ·simp only[Bool.false_eq_true,if_false]
    refine wpS_bind (dB Qa λ q' eq' _=>?_)
    have v2:=v.pushB Qa sb ep eq' (λ z hz=>SOrd.le_trans (gI sa eq hz) bw)
    by_cases d1:(nb-1==1)=true
    ·rw[if_pos d1]
     simp only[beq_iff_eq]at d1
     exact wpS_pure ⟨rfl,.inl ⟨_,_,_,_,_,_,rfl,v2.first Qa hF sa sb⟩⟩
    ·rw[if_neg d1]
     simp only[beq_iff_eq]at d1
     split
     ·exact wpS_pure ⟨rfl,.inr ⟨_,_,_,_,_,rfl,v2,Qa,Qa,Qa,Qa,Qa⟩⟩
     ·exact wpS_pure ⟨_,_,_,_,_,rfl,rfl,v2,Qa,Qa,Qa,Qa,Qa⟩
   ·simp only[if_true]
    refine wpS_bind (dB Qa λ q' eq' _=>?_)
    have v2:=v.pushA Qa sa eq eq' (λ z hz=>SOrd.le_trans (gI sb ep hz) (SOrd.le_of_lt bw))
    by_cases d1:(na-1==0)=true
    ·rw[if_pos d1]
     simp only[beq_iff_eq]at d1
     exact wpS_pure ⟨rfl,.inl ⟨_,_,_,_,_,_,rfl,v2.done Qa sa sb⟩⟩
    ·rw[if_neg d1]
     simp only[beq_iff_eq]at d1
     split
     ·exact wpS_pure ⟨rfl,.inr ⟨_,_,_,_,_,rfl,v2,Qa,Qa,Qa,Qa,Qa⟩⟩
     ·exact wpS_pure ⟨_,_,_,_,_,rfl,rfl,v2,Qa,Qa,Qa,Qa,Qa⟩
  ·rintro c st' ⟨na,nb,out,ac,bc,rfl,rfl,v,la,lb,za,zb,hp⟩
   exact⟨rfl,.inr ⟨_,_,_,_,_,rfl,v,la,lb,za,zb,Qa⟩⟩
  ·rintro c st' ⟨rfl,⟨r,na,nb,out,ac,bc,rfl,hr⟩|⟨na,nb,out,ac,bc,rfl,v,la,lb,za,zb,hp⟩⟩
   ·exact wpS_pure ⟨_,_,_,_,_,_,rfl,rfl,hr⟩
   try dsimp-zeta-zetaHave only
   refine wpS_bind (wpS_lift (wpAny_rule ⟨rfl,?_⟩))
   try dsimp-zeta-zetaHave only
   refine wpS_bind (wpS_mono (wpS_forRange (I:=BM O a b st i)
    (Q:=BJ O a b st i) ?_ ?_ ⟨_,_,_,_,_,_,g,rfl,rfl,v,la,lb,za,zb,Qa⟩) ?_)
   ·rintro j c st' _ _ ⟨na,nb,out,mg,ac,bc,g,rfl,rfl,v,la,lb,za,zb,hp⟩
    extract_lets _ na1 _ nb1 _ out1 _ mg1 _ ac1 bc1 nm1 jp
    refine yT (f:=jp) λ m=>?_
    refine wpS_bind (wpS_modify ?_)
    refine wpS_bind (dB (i:=nb-1) Qa λ q1 eq1 hq1=>?_)
    refine wpS_bind (yW (n:=na) (hint:=na-1) C (hkg _) (hb q1 hq1) ha Qa Qa sa λ k1 hk1 G1 G2=>?_)
    dsimp-zeta-zetaHave only
    extract_lets k ack jp2
    refine yS (f:=jp2) (λ ix o=>cL O a b o ix nb/\1<=ix/\ix<=na/\∀x∈a.toList.take ix,O.le x q1) (λ c d=>?_) (λ c d=>?_) (λ c=>?_) ?_
    ·exact wpS_pure ⟨_,rfl,.inl ⟨_,_,_,_,_,_,_,rfl,(v.extA k1 hk1 sa (λ x hx z hz=>SOrd.le_trans (gI sb eq1 hz) (G2 x hx))).done (.inl (eq_of_beq d)) sa sb⟩⟩
    ·have d:¬k1=0:=λ h=>d (beq_iff_eq.mpr h)
     exact⟨v.extA k1 hk1 sa (λ x hx z hz=>SOrd.le_trans (gI sb eq1 hz) (G2 x hx)),Qa,hk1,G1⟩
    ·have c:¬na-k1>0:=c
     rw[show k1=na from Qa]at G1
     exact⟨v,la,Nat.le_refl _,G1⟩
    rintro ix o1 ⟨v1,l1,z1,F1⟩
    refine wpS_bind (dB (i:=nb-1) Qa λ q2 eq2 _=>?_)
    have v2:=v1.pushB Qa sb eq1 eq2 F1
    extract_lets o2
    split
    ·rename_i d1
     exact wpS_pure ⟨_,rfl,.inl ⟨_,_,_,_,_,_,_,rfl,v2.first (eq_of_beq d1) hF sa sb⟩⟩
    rename_i d1
    have d1:¬nb-1=1:=λ h=>d1 (beq_iff_eq.mpr h)
    refine wpS_bind (dB (i:=ix-1) Qa λ q3 eq3 hq3=>?_)
    refine wpS_bind (yW (n:=nb-1) (hint:=nb-1-1) C (hkg _) (ha q3 hq3) hb Qa Qa sb λ k2 hk2 G3 G4=>?_)
    dsimp-zeta-zetaHave only
    extract_lets k' bck jp3
    refine yR (f:=jp3) (λ iy o=>cL O a b o ix iy/\2<=iy/\iy<=nb-1/\∀x∈b.toList.take iy,O.le x q3) (λ c d=>?_) (λ c d e=>?_) (λ c d e=>?_) (λ c=>?_) ?_
    ·exact wpS_pure ⟨_,rfl,.inl ⟨_,_,_,_,_,_,_,rfl,(v2.extB k2 hk2 sb (λ x hx z hz=>SOrd.le_trans (gI sa eq3 hz) (G4 x hx))).first (eq_of_beq d) hF sa sb⟩⟩
    ·exact wpS_pure ⟨_,rfl,.inl ⟨_,_,_,_,_,_,_,rfl,(v2.extB k2 hk2 sb (λ x hx z hz=>SOrd.le_trans (gI sa eq3 hz) (G4 x hx))).done (.inr (eq_of_beq e)) sa sb⟩⟩
    ·have d:¬k2=1:=λ h=>d (beq_iff_eq.mpr h)
     have e:¬k2=0:=λ h=>e (beq_iff_eq.mpr h)
     exact⟨v2.extB k2 hk2 sb (λ x hx z hz=>SOrd.le_trans (gI sa eq3 hz) (G4 x hx)),Qa,hk2,G3⟩
    ·have c:¬nb-1-k2>0:=c
     rw[show k2=nb-1 from Qa]at G3
     exact⟨v2,(by omega:2<=nb-1),Nat.le_refl _,G3⟩
    rintro iy o3 ⟨v3,l3,z3,F3⟩
    refine wpS_bind (dB (i:=ix-1) Qa λ q4 eq4 _=>?_)
    have v4:=v3.pushA Qa sa eq3 eq4 F3
    extract_lets o4
    split
    ·rename_i f1
     exact wpS_pure ⟨_,rfl,.inl ⟨_,_,_,_,_,_,_,rfl,v4.done (.inl (eq_of_beq f1)) sa sb⟩⟩
    rename_i f1
    have f1:¬ix-1=0:=λ h=>f1 (beq_iff_eq.mpr h)
    have B:1<=ix-1/\ix-1<=a.size/\iy<=b.size/\i+(ix-1)+iy+2<=a.size+b.size/\i+j+1+(ix-1)+iy+1<=a.size+b.size:=by omega
    split
    ·exact wpS_pure ⟨_,rfl,.inr ⟨_,_,_,_,_,_,rfl,v4,B.1,l3,B.2.1,B.2.2.1,B.2.2.2.1⟩⟩
    ·exact wpS_pure ⟨_,_,_,_,_,_,_,rfl,rfl,v4,B.1,l3,B.2.1,B.2.2.1,B.2.2.2.2⟩
   ·rintro c st' ⟨na,nb,out,mg,ac,bc,g,rfl,rfl,v,la,lb,za,zb,hp⟩
    exact absurd hp Qa
   ·rintro c st' ⟨g,rfl,⟨r,na,nb,out,mg,ac,bc,rfl,hr⟩|⟨na,nb,out,mg,ac,bc,rfl,v,la,lb,za,zb,hp⟩⟩
    ·exact wpS_pure ⟨_,_,_,_,_,_,rfl,rfl,hr⟩
    ·exact wpS_bind (wpS_modify (wpS_pure ⟨na,nb,out,_,_,rfl,rfl,v,la,lb,za,zb,Qa⟩))
 ·rintro c st' ⟨na,nb,out,mg,g,rfl,rfl,v,la,lb,za,zb,hp⟩
  exact absurd hp Qa
 ·rintro c st' ⟨r,na,nb,out,mg,g,rfl,rfl,hr⟩
  exact wpS_pure (h r g hr)
end
theorem Gk{arr m:Array Keyed}{sa:Nat}(hs:sa+m.size<=arr.size)(i:Nat):(m.toList.zipIdx.foldl (λ (a:Array Keyed) (x:Keyed×Nat)=>a.setIfInBounds (sa+x.2) x.1) arr)[i]? =if i<sa then arr[i]? else if i<sa+m.size then m[i-sa]? else arr[i]?:=by
 have hl:m.toList.length=m.size:=Array.length_toList
 have e:=wH m.toList 0 arr (sa:=sa) Qa
 rw[hl,Nat.add_zero]at e
 rw[<-Array.getElem?_toList,e]
 have h1:sa<=arr.toList.length:=by rw[Array.length_toList];omega
 have ht:(arr.toList.take sa).length=sa:=by rw[List.length_take];omega
 by_cases c1:i<sa
 ·rw[if_pos c1,List.append_assoc,List.getElem?_append_left (by rw[ht];exact c1),List.getElem?_take,if_pos c1,Array.getElem?_toList]
 ·rw[if_neg c1]
  by_cases c2:i<sa+m.size
  ·rw[if_pos c2,List.append_assoc,List.getElem?_append_right (by rw[ht];omega),ht,List.getElem?_append_left (by rw[hl];omega),Array.getElem?_toList]
  ·rw[if_neg c2,List.getElem?_append_right (by rw[List.length_append,ht,hl];omega),List.length_append,ht,hl,List.getElem?_drop,show sa+m.size+(i-(sa+m.size))=i from Qa,Array.getElem?_toList]
theorem Ez{O:SOrd}{xs:Array Keyed}{lo m hi:Nat}(h1:aZ O xs lo m)(h2:aZ O xs m hi)(hm:lo<m)(e:O.le (aK xs (m-1)) (aK xs m)):aZ O xs lo hi:=λ i j a b c=>by
 by_cases q:j<m
 ·exact h1 i j a b q
 ·by_cases z:i<m
  ·exact SOrd.le_trans (h1 i (m-1) a Qa Qa) (SOrd.le_trans e (h2 m j (Nat.le_refl _) Qa c))
  ·exact h2 i j Qa b c
theorem Dy{O:SOrd}{arr:Array Keyed}{lo hi i j:Nat}(h:aZ O arr lo hi)(h1:lo<=i)(h2:j<=hi)(h3:j<=arr.size):aZ O (arr.extract i j) 0 (arr.extract i j).size:=λ u v _ b c=>by
 have hz:(arr.extract i j).size=j-i:=by rw[Array.size_extract];omega
 rw[hz]at c
 have g:∀k,k<j-i->aK (arr.extract i j) k=aK arr (i+k):=λ k hk=>by
  unfold aK
  rw[Array.getElem?_extract,if_pos Qa]
 rw[g u Qa,g v c]
 exact h _ _ Qa Qa Qa
theorem qO{arr:Array Keyed}{i j:Nat}{x:Keyed}(h:x∈(arr.extract i j).toList):∃k,i<=k/\k<j/\aK arr k=x:=by
 obtain⟨k,h1,h2,e⟩:=lA h
 exact⟨k,h1,h2,eJ e⟩
theorem Nb{O:SOrd}{m:Array Keyed}(h:m.toList.Pairwise O.le){i j:Nat}(hij:i<=j)(hj:j<m.size):O.le (aK m i) (aK m j):=by
 by_cases z:i=j
 ·rw[z];exact SOrd.le_refl _
 ·have:=List.pairwise_iff_getElem.mp h i j (by simp;omega) (by simp;omega) Qa
  unfold aK
  rw[Array.getElem?_eq_getElem Qa,Array.getElem?_eq_getElem hj]
  simpa using this
section
variable{prog:Program}{w:World}{A:Around}{E:Qe}{s:Shared}{a₀:Array Keyed}{κ:SortKind}{O:SOrd}
theorem Gs(C:dF prog w A s κ a₀ O){st:SortSt}(B:cJ κ a₀ st){i sa na pw sb nb pw2:Nat}(e1:(pendingOf st)[i]? =some (sa,na,pw))(e2:(pendingOf st)[i+1]? =some (sb,nb,pw2))(hsb:sb=sa+na)(h1:1<=na)(h2:1<=nb)(hz:sb+nb<=a₀.size)
  (aa:aZ O (arrOf st) sa sb) (ab:aZ O (arrOf st) sb (sb+nb)) {Q:Bool->SortSt->Prop} (h:∀st',cJ κ a₀ st'->pendingOf st'=((pendingOf st).setIfInBounds i (sa,na+nb,pw)).eraseIdxIfInBounds (i+1)->aZ O (arrOf st') sa (sb+nb)->(∀j,j<sa\/sb+nb<=j->(arrOf st')[j]? =(arrOf st)[j]?)->Q true st'):wpS (model prog w) A E s (mergeAt' i) Q st:=by
 have hsz:=B.size
 have hin:∀p,p∈arrOf st->p∈a₀:=λ p hp=>B.perm.mem_iff.mp hp
 unfold mergeAt'
 refine wpS_bind (wpS_get ?_)
 rw[e1,e2]
 try dsimp only
 refine wpS_bind (Gn ?_)
 obtain⟨st1,es⟩:∃st1,st1=Ah st (((pendingOf st).setIfInBounds i (sa,na+nb,pw)).eraseIdxIfInBounds (i+1)):=⟨_,rfl⟩
 have B1:cJ κ a₀ st1:=by rw[es];exact⟨B.perm,B.kind,B.failed⟩
 have ep1:pendingOf st1=((pendingOf st).setIfInBounds i (sa,na+nb,pw)).eraseIdxIfInBounds (i+1):=by rw[es]
 have ea1:arrOf st1=arrOf st:=by rw[es]
 change wpS (model prog w) A E s _ Q (Ah st (((pendingOf st).setIfInBounds i (sa,na+nb,pw)).eraseIdxIfInBounds (i+1)))
 rw[<-es]
 refine wpS_bind (dB (arr:=arrOf st) Qa λ p ep hp=>?_)
 refine wpS_bind (sK (base:=sa) (n:=na) (hint:=0) C B1.kind (hin p hp) hin Qa Qa (by rw[<-hsb];exact aa) λ k hk j1 j2=>?_)
 have kp:aK (arrOf st) sb=p:=eJ ep
 have g1:∀t,sa<=t->t<sa+k->O.le (aK (arrOf st) t) (aK (arrOf st) sb):=λ t x1 x2=>by
  rw[kp]
  have:=j1 (t-sa) Qa
  rw[show sa+(t-sa)=t from Qa]at this
  exact wV this
 have g2:∀t,sa+k<=t->t<sb->O.le (aK (arrOf st) sb) (aK (arrOf st) t):=λ t x1 x2=>by
  rw[kp]
  have:=j2 (t-sa) Qa Qa
  rw[show sa+(t-sa)=t from Qa]at this
  exact wW this
 try dsimp only
 by_cases c1:(na-k==0)=true
 ·rw[if_pos c1]
  simp only[beq_iff_eq]at c1
  refine wpS_pure (h _ B1 ep1 ?_ λ j _=>by rw[ea1])
  rw[ea1]
  exact Ez aa ab Qa (g1 _ Qa Qa)
 rw[if_neg c1]
 simp only[beq_iff_eq]at c1
 refine wpS_bind (dB (arr:=arrOf st) Qa λ q eq hq=>?_)
 have kq:aK (arrOf st) (sb-1)=q:=by
  rw[show sb-1=sa+k+(na-k)-1 from Qa]
  exact eJ eq
 refine wpS_bind (sK (base:=sb) (n:=nb) (hint:=nb-1) C B1.kind (hin q hq) hin Qa Qa ab λ m hm j3 j4=>?_)
 have g3:∀t,sb<=t->t<sb+m->O.le (aK (arrOf st) t) (aK (arrOf st) (sb-1)):=λ t x1 x2=>by
  rw[kq]
  have:=j3 (t-sb) Qa
  rw[show sb+(t-sb)=t from Qa]at this
  exact wV this
 have g4:∀t,sb+m<=t->t<sb+nb->O.le (aK (arrOf st) (sb-1)) (aK (arrOf st) t):=λ t x1 x2=>by
  rw[kq]
  have:=j4 (t-sb) Qa Qa
  rw[show sb+(t-sb)=t from Qa]at this
  exact wW this
 try dsimp only
 by_cases c2:(m==0)=true
 ·rw[if_pos c2]
  simp only[beq_iff_eq]at c2
  refine wpS_pure (h _ B1 ep1 ?_ λ j _=>by rw[ea1])
  rw[ea1]
  exact Ez aa ab Qa (g4 _ Qa Qa)
 rw[if_neg c2]
 simp only[beq_iff_eq]at c2
 have zx:((arrOf st).extract (sa+k) sb).size=na-k:=by rw[Array.size_extract];omega
 have zy:((arrOf st).extract sb (sb+m)).size=m:=by rw[Array.size_extract];omega
 have ax:aZ O ((arrOf st).extract (sa+k) sb) 0 ((arrOf st).extract (sa+k) sb).size:=Dy aa Qa (Nat.le_refl _) Qa
 have ay:aZ O ((arrOf st).extract sb (sb+m)) 0 ((arrOf st).extract sb (sb+m)).size:=Dy ab (Nat.le_refl _) Qa Qa
 have ky:aK ((arrOf st).extract sb (sb+m)) 0=aK (arrOf st) sb:=by
  unfold aK
  rw[Array.getElem?_extract,if_pos Qa,Nat.add_zero]
 have kx:aK ((arrOf st).extract (sa+k) sb) (((arrOf st).extract (sa+k) sb).size-1)=aK (arrOf st) (sb-1):=by
  rw[zx]
  unfold aK
  rw[Array.getElem?_extract,if_pos Qa,show sa+k+(na-k-1)=sb-1 from Qa]
 have hF:∀x∈((arrOf st).extract (sa+k) sb).toList,O.le (aK ((arrOf st).extract sb (sb+m)) 0) x:=λ x hx=>by
  rw[ky]
  obtain⟨t,t1,t2,rfl⟩:=qO hx
  exact g2 t t1 t2
 have hL:∀y∈((arrOf st).extract sb (sb+m)).toList,O.le y (aK ((arrOf st).extract (sa+k) sb) (((arrOf st).extract (sa+k) sb).size-1)):=λ y hy=>by
  rw[kx]
  obtain⟨t,t1,t2,rfl⟩:=qO hy
  exact g3 t t1 t2
 have fin:∀(out:Array Keyed) (g:Nat),fK O ((arrOf st).extract (sa+k) sb) ((arrOf st).extract sb (sb+m)) out->wpS (model prog w) A E s (do
   modify λ s=>setArr s (out.toList.zipIdx.foldl (λ a (x:Keyed×Nat)=>a.setIfInBounds (sa+k+x.2) x.1) (arrOf s))
   let s'<-get
   return(failedOf s').isNone) Q (dJ st1 g):=by
  intro out g ⟨ho,hpw⟩
  have src:∀x∈out.toList,∃t,sa+k<=t/\t<sb+m/\aK (arrOf st) t=x:=λ x hx=>by
   have:=(Array.perm_iff_toList_perm.mp ho).mem_iff.mp hx
   rw[Array.toList_append,List.mem_append]at this
   rcases this with h|h
   ·obtain⟨t,t1,t2,e⟩:=qO h
    exact⟨t,t1,Qa,e⟩
   ·obtain⟨t,t1,t2,e⟩:=qO h
    exact⟨t,Qa,t2,e⟩
  have zo:out.size=na-k+m:=by
   have:=ho.size_eq
   rw[Array.size_append,zx,zy]at this
   exact this
  have he:(arrOf st).extract (sa+k) sb++(arrOf st).extract sb (sb+m)=(arrOf st).extract (sa+k) (sa+k+(na-k+m)):=by
   rw[Array.extract_append_extract]
   congr 1<;>omega
  rw[he]at ho
  have wp:(out.toList.zipIdx.foldl (λ a (x:Keyed×Nat)=>a.setIfInBounds (sa+k+x.2) x.1) (arrOf st1)).Perm (arrOf st1):=Gj (sa:=sa+k) (k:=na-k+m) (by rw[ea1];omega) (by rw[ea1];exact ho)
  have wg:=Gk (arr:=arrOf st) (m:=out) (sa:=sa+k) Qa
  rw[<-ea1]at wg
  refine wpS_bind (wpS_modify (wpS_bind (wpS_get ?_)))
  have B2:cJ κ a₀ (setArr (dJ st1 g) (out.toList.zipIdx.foldl (λ a (x:Keyed×Nat)=>a.setIfInBounds (sa+k+x.2) x.1) (arrOf st1))):=⟨wp.trans B1.perm,B1.kind,B1.failed⟩
  have hf:(failedOf st1).isNone=true:=by rw[B1.failed];rfl
  show wpS _ _ _ _ (pure (failedOf st1).isNone) _ _
  rw[hf]
  refine wpS_pure (h _ B2 ep1 ?_ λ j hj=>?_)
  ·show aZ O (out.toList.zipIdx.foldl (λ a (x:Keyed×Nat)=>a.setIfInBounds (sa+k+x.2) x.1) (arrOf st1)) sa (sb+nb)
   generalize out.toList.zipIdx.foldl (λ a (x:Keyed×Nat)=>a.setIfInBounds (sa+k+x.2) x.1) (arrOf st1)=arr' at wg
   rw[ea1]at wg
   have out_at:∀t,sa+k<=t->t<sb+m->aK arr' t=aK out (t-(sa+k))/\aK out (t-(sa+k))∈out.toList:=λ t t1 t2=>by
    have w:=wg t
    rw[if_neg Qa,if_pos Qa]at w
    refine⟨dN w,?_⟩
    unfold aK
    rw[Array.getElem?_eq_getElem Qa]
    exact Array.mem_toList_iff.mpr (Array.getElem_mem _)
   have old_at:∀t,t<sa+k\/sb+m<=t->aK arr' t=aK (arrOf st) t:=λ t ht=>by
    have w:=wg t
    rcases ht with ht|ht
    ·rw[if_pos ht]at w;exact dN w
    ·rw[if_neg Qa,if_neg Qa]at w;exact dN w
   have ft:∀u t,sa<=u->u<sa+k->sa+k<=t->t<sb+nb->O.le (aK (arrOf st) u) (aK (arrOf st) t):=λ u t u1 u2 t1 t2=>by
    by_cases z:t<sb
    ·exact aa u t u1 Qa z
    ·exact SOrd.le_trans (g1 u u1 u2) (ab sb t (Nat.le_refl _) Qa t2)
   have tt:∀u t,sa+k<=u->u<sb+m->sb+m<=t->t<sb+nb->O.le (aK (arrOf st) u) (aK (arrOf st) t):=λ u t u1 u2 t1 t2=>by
    by_cases z:u<sb
    ·exact SOrd.le_trans (aa u (sb-1) Qa Qa Qa) (g4 t t1 t2)
    ·exact ab u t Qa Qa t2
   intro i j a b c
   by_cases i1:i<sa+k
   ·rw[old_at i (.inl i1)]
    by_cases j1:j<sa+k
    ·rw[old_at j (.inl j1)]
     exact aa i j a b Qa
    ·by_cases j2:j<sb+m
     ·obtain⟨e,hm⟩:=out_at j Qa j2
      rw[e]
      obtain⟨t,t1,t2,et⟩:=src _ hm
      rw[<-et]
      exact ft i t a i1 t1 Qa
     ·rw[old_at j (.inr Qa)]
      exact ft i j a i1 Qa c
   ·by_cases i2:i<sb+m
    ·obtain⟨e,hm⟩:=out_at i Qa i2
     rw[e]
     by_cases j2:j<sb+m
     ·obtain⟨e2,_⟩:=out_at j Qa j2
      rw[e2]
      exact Nb hpw Qa Qa
     ·rw[old_at j (.inr Qa)]
      obtain⟨t,t1,t2,et⟩:=src _ hm
      rw[<-et]
      exact tt t j t1 t2 Qa c
    ·rw[old_at i (.inr Qa),old_at j (.inr Qa)]
     exact ab i j Qa b c
  ·have w:=wg j
   rw[<-ea1]
   rcases hj with hj|hj
   ·rw[if_pos Qa]at w;exact w
   ·rw[if_neg Qa,if_neg Qa]at w;exact w
 by_cases c3:na-k<=m
 ·rw[if_pos c3]
  exact wpS_bind (Gp C B1.kind (λ p hp=>hin p (rD hp)) (λ p hp=>hin p (rD hp)) Qa Qa ax ay hF hL fin)
 ·rw[if_neg c3]
  exact wpS_bind (Gq C B1.kind (λ p hp=>hin p (rD hp)) (λ p hp=>hin p (rD hp)) Qa Qa ax ay hF hL fin)
end
def Fl(lo hi:Nat)(xs ys:Array Keyed):Prop:=∀i,lo<=i->i<hi->ys[i]? =xs[i]?
theorem Ey{O:SOrd}{xs ys:Array Keyed}{lo hi a b:Nat}(s:Fl lo hi xs ys)(h:aZ O xs a b)(h1:lo<=a)(h2:b<=hi):aZ O ys a b:=λ i j x y z=>by
 rw[dN (s i Qa Qa),dN (s j Qa Qa)]
 exact h i j x y z
def bN(O:SOrd)(xs:Array Keyed):Nat->List (Nat×Nat×Nat)->Nat->Prop
 |lo,[],hi=>lo=hi
 |lo,x::r,hi=>x.1=lo/\1<=x.2.1/\aZ O xs lo (lo+x.2.1)/\bN O xs (lo+x.2.1) r hi
section
variable{O:SOrd}{xs ys:Array Keyed}
theorem bN.le:∀{p:List (Nat×Nat×Nat)} {lo hi:Nat},bN O xs lo p hi->lo+p.length<=hi
 |[],_,_,h=>Nat.le_of_eq h
 |x::r,lo,hi,⟨_,h1,_,h2⟩=>by have:=bN.le h2;rw[List.length_cons];omega
theorem bN.congr:∀{p:List (Nat×Nat×Nat)} {lo hi:Nat},bN O xs lo p hi->Fl lo hi xs ys->bN O ys lo p hi
 |[],_,_,h,_=>h
 |x::r,lo,hi,⟨h0,h1,h2,h3⟩,s=>by
  have:=h3.le
  exact⟨h0,h1,Ey s h2 (Nat.le_refl _) Qa,bN.congr h3 λ i a b=>s i Qa b⟩
theorem bN.two:∀{p:List (Nat×Nat×Nat)} {lo hi i:Nat} {x y:Nat×Nat×Nat},bN O xs lo p hi->p[i]? =some x->p[i+1]? =some y->
  lo<=x.1/\y.1=x.1+x.2.1/\1<=x.2.1/\1<=y.2.1/\y.1+y.2.1<=hi/\aZ O xs x.1 y.1/\aZ O xs y.1 (y.1+y.2.1)/\
  ∀ys,(∀j,j<x.1\/y.1+y.2.1<=j->ys[j]? =xs[j]?)->aZ O ys x.1 (y.1+y.2.1)->bN O ys lo ((p.set i (x.1,x.2.1+y.2.1,x.2.2)).eraseIdx (i+1)) hi
 |[],_,_,_,_,_,_,h,_=>by simp at h
 |[u],_,_,0,_,_,_,_,h=>by simp at h
 | u::v::r,lo,hi,0,x,y,⟨h1,h2,ha,h3,h4,hb,h5⟩,e1,e2=>by
  obtain rfl:u=x:=by simpa using e1
  obtain rfl:v=y:=by simpa using e2
  refine⟨Qa,Qa,h2,h4,by have:=h5.le;omega,by rw[h1,h3];exact ha,by rw[h3];exact hb,λ ys s a=>?_⟩
  show u.1=lo/\1<=u.2.1+v.2.1/\aZ O ys lo (lo+(u.2.1+v.2.1))/\bN O ys (lo+(u.2.1+v.2.1)) r hi
  refine⟨h1,Qa,?_,?_⟩
  ·rw[h1,h3,Nat.add_assoc]at a
   exact a
  ·rw[<-Nat.add_assoc]
   exact h5.congr λ j a _=>s j (.inr Qa)
 |u::r,lo,hi,i+1,x,y,⟨h1,h2,ha,h3⟩,e1,e2=>by
  obtain⟨z,a,b,c,d,f,g,e⟩:=bN.two (i:=i) h3 (by simpa using e1) (by simpa using e2)
  refine⟨Qa,a,b,c,d,f,g,λ ys s as=>?_⟩
  exact⟨h1,h2,Ey (hi:=lo+u.2.1) (λ j _ q=>s j (.inl Qa)) ha (Nat.le_refl _) (Nat.le_refl _),e ys s as⟩
theorem bN.push:∀{p:List (Nat×Nat×Nat)} {lo hi n k:Nat},bN O xs lo p hi->1<=n->aZ O xs hi (hi+n)->bN O xs lo (p++[(hi,n,k)]) (hi+n)
 |[],_,_,_,_,h,h1,a=>by cases h;exact⟨rfl,h1,a,rfl⟩
 |_::_,_,_,_,_,⟨a,b,c,d⟩,h1,h2=>⟨a,b,c,bN.push d h1 h2⟩
theorem bN.modify{f:Nat×Nat×Nat->Nat×Nat×Nat}(hf:∀x,(f x).1=x.1/\(f x).2.1=x.2.1):∀{p:List (Nat×Nat×Nat)} {lo hi i:Nat},bN O xs lo p hi->bN O xs lo (p.modify i f) hi
 |[],_,_,i,h=>by cases i<;>exact h
 |x::r,lo,hi,0,⟨a,b,c,d⟩=>by
  rw[List.modify_zero_cons]
  exact⟨(hf x).1.trans a,by rw[(hf x).2];exact b,by rw[(hf x).2];exact c,by rw[(hf x).2];exact d⟩
 |x::r,lo,hi,i+1,⟨a,b,c,d⟩=>by
  rw[List.modify_succ_cons]
  exact⟨a,b,c,bN.modify hf d⟩
end
theorem bN.modifyL{O:SOrd}{xs:Array Keyed}{f:Nat×Nat×Nat->Nat×Nat×Nat}(hf:∀x,(f x).1=x.1/\(f x).2.1=x.2.1):∀{p q:List (Nat×Nat×Nat)} {lo hi i:Nat},bN O xs lo (p++q) hi->bN O xs lo (p.modify i f++q) hi
 |[],_,_,_,i,h=>by cases i<;>exact h
 |x::r,q,lo,hi,0,⟨a,b,c,d⟩=>by
  rw[List.modify_zero_cons]
  exact⟨(hf x).1.trans a,by rw[(hf x).2];exact b,by rw[(hf x).2];exact c,by rw[(hf x).2];exact d⟩
 |x::r,q,lo,hi,i+1,⟨a,b,c,d⟩=>by
  rw[List.modify_succ_cons]
  exact⟨a,b,c,bN.modifyL hf d⟩
theorem Ld{α:Type}{p q:List α}{i:Nat}{x:α}(h:i+1<p.length):((p++q).set i x).eraseIdx (i+1)=(p.set i x).eraseIdx (i+1)++q:=by
 rw[List.set_append_left _ _ Qa,List.eraseIdx_append_of_lt_length (by rw[List.length_set];exact h)]
section
variable{prog:Program}{w:World}{A:Around}{E:Qe}{s:Shared}{a₀:Array Keyed}{κ:SortKind}{O:SOrd}
theorem yQ(C:dF prog w A s κ a₀ O){st:SortSt}(B:cJ κ a₀ st){hi i:Nat}{q:List (Nat×Nat×Nat)}(R:bN O (arrOf st) 0 ((pendingOf st).toList++q) hi)(hz:hi<=a₀.size)(hi2:i+1<(pendingOf st).size){Q:Bool->SortSt->Prop}
  (h:∀st',cJ κ a₀ st'->bN O (arrOf st') 0 ((pendingOf st').toList++q) hi->(pendingOf st').size+1=(pendingOf st).size->Q true st'):wpS (model prog w) A E s (mergeAt' i) Q st:=by
 obtain⟨⟨sa,na,pw⟩,e1⟩:∃x,(pendingOf st)[i]? =some x:=⟨_,Array.getElem?_eq_getElem Qa⟩
 obtain⟨⟨sb,nb,pw2⟩,e2⟩:∃x,(pendingOf st)[i+1]? =some x:=⟨_,Array.getElem?_eq_getElem hi2⟩
 have hl:(pendingOf st).toList.length=(pendingOf st).size:=Array.length_toList
 obtain⟨_,a,b,c,d,f,g,e⟩:=R.two (i:=i) (by rw[List.getElem?_append_left Qa,Array.getElem?_toList];exact e1) (by rw[List.getElem?_append_left Qa,Array.getElem?_toList];exact e2)
 refine Gs C B e1 e2 a b c (Nat.le_trans d hz) f g λ st' B' ep as ss=>h st' B' ?_ ?_
 ·rw[ep]
  have:(((pendingOf st).setIfInBounds i (sa,na+nb,pw)).eraseIdxIfInBounds (i+1)).toList=((pendingOf st).toList.set i (sa,na+nb,pw)).eraseIdx (i+1):=by
   simp
  rw[this,<-Ld Qa]
  exact e _ ss as
 ·rw[ep]
  have:(((pendingOf st).setIfInBounds i (sa,na+nb,pw)).eraseIdxIfInBounds (i+1)).toList.length+1=(pendingOf st).size:=by
   simp only[Array.toList_eraseIdxIfInBounds,Array.toList_setIfInBounds]
   rw[List.length_eraseIdx_of_lt (by rw[List.length_set,Array.length_toList];exact hi2),List.length_set,Array.length_toList]
   omega
  rw[Array.length_toList]at this
  exact this
theorem Gr(C:dF prog w A s κ a₀ O){st:SortSt}(B:cJ κ a₀ st){hi i:Nat}{q:List (Nat×Nat×Nat)}(R:bN O (arrOf st) 0 ((pendingOf st).toList++q) hi)(hz:hi<=a₀.size)(hi2:i+1<(pendingOf st).size){Q:Bool->SortSt->Prop}
  (h:∀st',cJ κ a₀ st'->bN O (arrOf st') 0 ((pendingOf st').toList++q) hi->Q true st'):wpS (model prog w) A E s (mergeAt' i) Q st:=yQ C B R hz hi2 λ st' b r _=>h st' b r
theorem Gu(C:dF prog w A s κ a₀ O){st:SortSt}(B:cJ κ a₀ st){hi i:Nat}(R:bN O (arrOf st) 0 (pendingOf st).toList hi)(hz:hi<=a₀.size)(hi2:i+1<(pendingOf st).size){Q:Bool->SortSt->Prop}
  (h:∀st',cJ κ a₀ st'->bN O (arrOf st') 0 (pendingOf st').toList hi->(pendingOf st').size+1=(pendingOf st).size->Q true st'):wpS (model prog w) A E s (mergeAt' i) Q st:=
 yQ (q:=[]) C B (by rw[List.append_nil];exact R) hz hi2 λ st' b r e=>h st' b (by rw[List.append_nil]at r;exact r) e
theorem Gm(C:dF prog w A s κ a₀ O){st:SortSt}(B:cJ κ a₀ st)(e0:pendingOf st= #[]){Q:Unit->SortSt->Prop}(h:∀st',cJ κ a₀ st'->aZ O (arrOf st') 0 a₀.size->Q () st'):wpS (model prog w) A E s sortRuns' Q st:=by
 rw[sortRuns'_eq]
 refine wpS_bind (wpS_get ?_)
 try dsimp only
 have hsz:=B.size
 rw[hsz]
 generalize minRun' a₀.size a₀.size 0=mr
 refine wpS_bind (wpS_mono (wpS_forRange (I:=λ i c st'=>∃lo,c=(none,lo)/\i<=lo/\lo<=a₀.size/\cJ κ a₀ st'/\bN O (arrOf st') 0 (pendingOf st').toList lo) (Q:=λ c st'=>c=(none,a₀.size)/\cJ κ a₀ st'/\bN O (arrOf st') 0 (pendingOf st').toList a₀.size) ?_ ?_ ⟨0,rfl,Qa,Qa,B,by rw[e0];rfl⟩) ?_)
 ·rintro i c st' _ hi ⟨lo,rfl,hil,hlo,B,R⟩
  try dsimp only
  by_cases c1:lo≥a₀.size
  ·rw[if_pos c1]
   obtain rfl:lo=a₀.size:=by omega
   exact wpS_pure ⟨rfl,B,R⟩
  rw[if_neg c1]
  refine wpS_bind (Gv C ⟨B,rfl⟩ Qa Qa λ n st1 B1 n1 n2 a1 o1=>?_)
  try dsimp only
  obtain⟨B1,ep1⟩:=B1
  have R1:bN O (arrOf st1) 0 (pendingOf st1).toList lo:=by rw[ep1];exact R.congr λ j _ q=>o1 j (.inl q)
  by_cases c2:n<mr
  rw[if_pos c2]
  refine wpS_bind (wpS_lift (wpAny_rule ⟨rfl,?_⟩))
  try dsimp only
  refine wpS_bind (Gw C ⟨B1,rfl⟩ Qa Qa a1 λ st2 B2 a2 o2=>?_)
  obtain⟨B2,ep2⟩:=B2
  have R2:bN O (arrOf st2) 0 (pendingOf st2).toList lo:=by rw[ep2];exact R1.congr λ j _ q=>o2 j (.inl q)
  have hm1:1<=min (a₀.size-lo) mr:=by omega
  simp only[Bool.not_true,Bool.false_eq_true,if_false]
  obtain⟨m,em⟩:∃m,m=min (a₀.size-lo) mr:=⟨_,rfl⟩
  rw[<-em]at hm1 a2⊢
  have hm2:lo+m<=a₀.size:=by omega
  rotate_left
  rw[if_neg c2]
  obtain⟨st2,es2⟩:∃st2,st2=st1:=⟨_,rfl⟩
  rw[<-es2]at B1 R1 a1⊢
  have B2:=B1
  have R2:=R1
  have a2:=a1
  have hm1:=n1
  obtain⟨m,em⟩:∃m,m=n:=⟨_,rfl⟩
  rw[<-em]at hm1 a2⊢
  have hm2:lo+m<=a₀.size:=by omega
  all_goals
   refine wpS_bind (wpS_get ?_)
   try dsimp only
   cases hbk:(pendingOf st2).back? with
   |none=>
    try dsimp only
    refine wpS_bind (wpS_modify (wpS_pure ⟨_,rfl,Qa,Qa,⟨B2.perm,B2.kind,B2.failed⟩,?_⟩))
    show bN O (arrOf st2) 0 ((pendingOf st2).push (lo,m,0)).toList (lo+m)
    rw[Array.toList_push]
    exact R2.push hm1 a2
   | some x=>
    obtain⟨s1,k1,z1⟩:=x
    try dsimp only
    refine wpS_bind (wpS_mono (wpS_forRange (I:=λ _ c st'=>c=(none,())/\cJ κ a₀ st'/\bN O (arrOf st') 0 ((pendingOf st').toList++[(lo,m,0)]) (lo+m)) (Q:=λ c st'=>c=(none,())/\cJ κ a₀ st'/\bN O (arrOf st') 0 ((pendingOf st').toList++[(lo,m,0)]) (lo+m)) ?_ (λ _ _ z=>z) ⟨rfl,B2,R2.push hm1 a2⟩) ?_)
    ·rintro j c st4 _ _ ⟨rfl,B4,R4⟩
     refine wpS_bind (wpS_get ?_)
     by_cases d:(pendingOf st4).size>1
     ·rw[if_pos d]
      obtain⟨⟨u1,u2,u3⟩,eu⟩:∃x,(pendingOf st4)[(pendingOf st4).size-2]? =some x:=⟨_,Array.getElem?_eq_getElem Qa⟩
      rw[eu]
      try dsimp only
      split
      ·exact wpS_pure ⟨rfl,B4,R4⟩
      ·refine wpS_bind (Gr C B4 R4 Qa Qa λ st5 B5 R5=>?_)
       exact wpS_pure ⟨rfl,B5,R5⟩
     ·rw[if_neg d]
      exact wpS_pure ⟨rfl,B4,R4⟩
    ·rintro c st4 ⟨rfl,B4,R4⟩
     try dsimp only
     refine wpS_bind (wpS_modify (wpS_bind (wpS_modify (wpS_pure ⟨_,rfl,Qa,Qa,⟨B4.perm,B4.kind,B4.failed⟩,?_⟩))))
     show bN O (arrOf st4) 0 (((pendingOf st4).modify _ _).push (lo,m,0)).toList (lo+m)
     rw[Array.toList_push,Array.toList_modify]
     refine bN.modifyL ?_ R4
     exact λ _=>⟨rfl,rfl⟩
 ·rintro c st' ⟨lo,rfl,hil,hlo,B,R⟩
  obtain rfl:lo=a₀.size:=by omega
  exact⟨rfl,B,R⟩
 ·rintro c st' ⟨rfl,B,R⟩
  try dsimp only
  have z0:=R.le
  rw[Array.length_toList]at z0
  refine wpS_bind (wpS_mono (wpS_forRange (I:=λ i c st'=>c=(none,())/\cJ κ a₀ st'/\bN O (arrOf st') 0 (pendingOf st').toList a₀.size/\((pendingOf st').size+i<=a₀.size\/(pendingOf st').size<=1)) (Q:=λ c st'=>c=(none,())/\cJ κ a₀ st'/\bN O (arrOf st') 0 (pendingOf st').toList a₀.size/\(pendingOf st').size<=1) ?_ (λ _ _ z=>⟨z.1,z.2.1,z.2.2.1,by have:=z.2.2.2;omega⟩) ⟨rfl,B,R,Qa⟩) ?_)
  ·rintro i c st2 _ hi ⟨rfl,B2,R2,zi⟩
   refine wpS_bind (wpS_get ?_)
   by_cases d:(pendingOf st2).size<=1
   ·rw[if_pos d]
    exact wpS_pure ⟨rfl,B2,R2,d⟩
   ·rw[if_neg d]
    refine wpS_bind (Gu C B2 R2 (Nat.le_refl _) (Nat.lt_of_le_of_lt (Nat.add_le_add_right Tk 1) Qa) λ st3 B3 R3 z3=>?_)
    exact wpS_pure ⟨rfl,B3,R3,Qa⟩
  ·rintro c st2 ⟨rfl,B2,R2,z2⟩
   refine wpS_pure (h _ B2 ?_)
   have one:(pendingOf st2).toList.length<=1:=by rw[Array.length_toList];exact z2
   generalize(pendingOf st2).toList=p at R2 one
   match p,R2,one with
   |[],e,_=>
    have e:0=a₀.size:=e
    exact λ i j _ _ c=>absurd c Qa
   |[x],⟨x0,_,a,e⟩,_=>
    have e:0+x.2.1=a₀.size:=e
    rw[e]at a
    exact a
end
section
variable{prog:Program}{w:World}{A:Around}{E:Qe}{s:Shared}
def mP(h:Heap)(a:Addr)(vs:List Value):Heap:=((h.update a (Obj.mapSeq λ _=>#[])).push (seqObj "tuple" vs.toArray 0)).push (seqObj "list" #[] 0)
theorem Fa{h:Heap}{a b:Addr}{vs:List Value}(lt:b<h.objs.size):(mP h a vs).get? b=(h.update a (Obj.mapSeq λ _=>#[])).get? b:=by
 unfold mP
 have l1:b<(h.update a (Obj.mapSeq λ _=>#[])).objs.size:=by rw[Heap.size_update];exact lt
 rw[Heap.get?_push_ne _ _ _ (Nat.ne_of_lt (by rw[size_push'];exact Nat.lt_succ_of_lt l1))]
 exact Heap.get?_push_ne _ _ _ (Nat.ne_of_lt l1)
end
section
variable{prog:Program}{w:World}{A:Around}{E:Qe}{s:Shared}{O:SOrd}
def Fi(prog:Program)(w:World)(A:Around)(s:Shared)(a:Addr)(vs:List Value)(O:SOrd):Prop:=
 ∀sI:Shared,(∀b o,b≠a->s.heap.get? b=some o->sI.heap.get? b=some o)->∃κ:SortKind,(∀(E:Qe) (Q:SortKind->Shared->Prop),Q κ sI->wpAny (model prog w) A (keyKind' vs.toArray) Q E sI)/\dF prog w A sI κ (pairsOf vs) O
def oV(O:SOrd)(us:List Value):Prop:=us.Pairwise λ x y=>O.le (x,x) (y,y)
theorem Ap{vs:List Value}{xs:Array Keyed}(p:xs.Perm (pairsOf vs))(a:aZ O xs 0 vs.length):(xs.map (·.2)).toList.Perm vs/\oV O (xs.map (·.2)).toList:=by
 have same:∀q∈xs,q.1=q.2:=λ q hq=>by
  have:=p.mem_iff.mp hq
  rw[<-Array.mem_toList_iff,pairsOf_toList]at this
  have e:∀(l:List Value) (q:Keyed),q∈l.zip l->q.1=q.2:=λ l=>by
   induction l with
   |nil=>intro q h;simp at h
   |cons v l ih=>
    intro q h
    rcases List.mem_cons.mp h with rfl|h
    ·rfl
    ·exact ih q h
  exact e vs q this
 have sz:xs.size=vs.length:=p.size_eq.trans (pairsOf_size _)
 constructor
 ·rw[Array.toList_map]
  have:=(Array.perm_iff_toList_perm.mp p).map (·.2)
  rw[pairsOf_toList]at this
  have e:∀l:List Value,(l.zip l).map (·.2)=l:=λ l=>by
   induction l with
   |nil=>rfl
   |cons v l ih=>simp[ih]
  rw[e]at this
  exact this
 ·unfold oV
  rw[List.pairwise_iff_getElem]
  intro i j hi hj hij
  simp only[Array.length_toList,Array.size_map]at hi hj
  have g:∀k (hk:k<xs.size),aK xs k=((xs.map (·.2)).toList[k]'(by simpa using hk),(xs.map (·.2)).toList[k]'(by simpa using hk)):=λ k hk=>by
   unfold aK
   rw[Array.getElem?_eq_getElem hk]
   have:=same xs[k] (Array.getElem_mem hk)
   simp only[Option.getD_some,Array.getElem_toList,Array.getElem_map]
   exact Prod.ext this rfl
  have:=a i j (Nat.zero_le _) (Nat.le_of_lt hij) Qa
  rw[g i hi,g j hj]at this
  exact this
theorem Bz{a:Addr}{vs:List Value}{n:Nat}{P:Fin->Shared->Prop}(hob:s.heap.get? a=some (seqObj "list" vs.toArray n))(hS:2<=vs.length->Fi prog w A s a vs O)(hlen:vs.length<=1000)
  (h:∀out:Array Value,out.toList.Perm vs->oV O out.toList->P (.done (.ret .none)) {s with heap:=sortedHeap s.heap a vs out}):wpAny (model prog w) A (Builtin.«list.sort» ⟨[.ref a],[]⟩) P E s:=by
 rw[list_sort_plain]
 have few:vs.toArray.size=vs.length:=List.size_toArray
 have fit:vs.toArray.size<=sizeLine:=by rw[few];exact Nat.le_trans hlen gM
 obtain⟨ep,gone⟩:∃ep,(s.heap.update a (Obj.mapSeq λ _=>#[])).get? a=some (seqObj "list" #[] ep):=⟨_,get?_update_seq hob _⟩
 have gone':(mP s.heap a vs).get? a=some (seqObj "list" #[] ep):=(Fa (Heap.lt_size hob)).trans gone
 refine wpAny_bind (listItems_at hob rfl (wpAny_bind (listUpdate_at hob rfl ?_ (hsz:=fit) (hsz2:=Nat.zero_le _))))
 refine wpAny_bind (seqEpoch_at gone rfl (wpAny_bind (wpAny_newTuple (wpAny_bind (wpAny_newList (wpAny_holding ?_))))))
 change wpAny (model prog w) A _ P E {s with heap:=mP s.heap a vs}
 dsimp only
 by_cases two:vs.toArray.size<2
 ·rw[if_pos two,if_pos two]
  refine wpAny_bind (wpAny_pure ?_)
  rw[StateT.run_pure]
  refine wpAny_bind (wpAny_pure (wpAny_bind (seqEpoch_at gone' rfl (wpAny_bind (listUpdate_at gone' rfl ?_ (hsz2:=?_))))))
  ·rw[bne_self_eq_false,if_neg Bool.false_ne_true]
   have r:=Ap (O:=O) (vs:=vs) (xs:=pairsOf vs) (Array.Perm.refl _) λ i j _ hij hj=>by
    have:i=j:=by omega
    rw[this];exact SOrd.le_refl _
   exact wpAny_pure (h _ r.1 r.2)
  ·rw[Array.size_map]
   show(pairsOf vs).size<=_
   rw[pairsOf_size,<-few]
   omega
 ·rw[if_neg two,if_neg two]
  obtain⟨κ,kk,cmp⟩:=hS Qa {s with heap:=mP s.heap a vs} λ b o ne get=>by
   show(mP s.heap a vs).get? b=some o
   rw[Fa (Heap.lt_size get),Heap.get?_update_ne _ _ _ _ ne]
   exact get
  have sz0:(pairsOf vs).size=vs.length:=pairsOf_size _
  refine wpAny_bind (kk _ _ (wpAny_bind (wpAny_mono (Gm (a₀:=pairsOf vs) cmp (st:=SortSt.mk' κ (vs.toArray.zip vs.toArray) #[] 7 none) ⟨Array.Perm.refl _,rfl,rfl⟩ rfl
   (Q:=λ _ st'=>(arrOf st').Perm (pairsOf vs)/\failedOf st'=none/\aZ O (arrOf st') 0 vs.length) λ _ B up=>⟨B.perm,B.failed,by rw[<-sz0];exact up⟩) ?_ λ _ _ z=>z)))
  rintro⟨_,st'⟩ _ ⟨rfl,perm,sound,up⟩
  refine wpAny_bind (seqEpoch_at gone' rfl (wpAny_bind (listUpdate_at gone' rfl ?_ (hsz2:=?_))))
  ·rw[bne_self_eq_false,if_neg Bool.false_ne_true]
   dsimp only
   rw[sound]
   have r:=Ap perm up
   exact wpAny_pure (h _ r.1 r.2)
  ·have:=(Array.size_map (f:=λ x:Keyed=>x.2) (xs:=arrOf st')).trans (perm.size_eq.trans (pairsOf_size _))
   exact Nat.le_trans (Nat.le_of_eq this) Qa
end
end L2
namespace L2
open PySem PySem.Spec PyProof.Rows PySem.W
def W3(h:Heap)(v:Value):Prop:=∃a o n x t i u y k,v= .ref a/\h.get? a=some o/\o.cls= .type "tuple"/\o.data= .seq #[.str x t,.int i u,.str y k] n
def eF(x:List Nat)(i:Int)(y:List Nat):List Int:=x.map Int.ofNat++(-1::i::y.map Int.ofNat)
def jE:Option Obj->List Int
 | some o=>match o.data with
  |.seq its _=>match(its[0]?:Option Value),(its[1]?:Option Value),(its[2]?:Option Value)with
   |some (.str x _),some (.int i _),some (.str y _)=>eF x.cps.toList i y.cps.toList
   |_,_,_=>[]
  |_=>[]
 |none=>[]
def cY(h:Heap):Value->List Int
 |.ref a=>jE (h.get? a)
 |_=>[]
theorem vZ{o:Obj}{x y:Str}{t k:Tok}{i:Int}{u:Tok}{n:Nat}(hd:o.data= .seq #[.str x t,.int i u,.str y k] n):jE (some o)=eF x.cps.toList i y.cps.toList:=by
 unfold jE
 dsimp only
 rw[hd]
 rfl
def jD(h:Heap):SOrd where
 blt p q:=decide (cY h p.1<cY h q.1)
 irrefl a:=decide_eq_false (List.lt_irrefl _)
 trans a b c h1 h2:=decide_eq_true (List.lt_trans (of_decide_eq_true h1) (of_decide_eq_true h2))
 weak a b c h1:=by
  by_cases z:cY h a.1<cY h b.1
  ·exact .inl (decide_eq_true z)
  ·exact .inr (decide_eq_true (List.lt_of_le_of_lt (List.not_lt.mp z) (of_decide_eq_true h1)))
theorem app_lt{α:Type}[LT α][DecidableLT α][Std.Irrefl (α:=α) (· < ·)]:∀{a r r':List α},(a++r<a++r')↔r<r'
 |[],_,_=>Iff.rfl
 | x::a,r,r'=>by
  rw[List.cons_append,List.cons_append,List.cons_lt_cons_iff]
  constructor
  ·rintro(h|⟨_,h⟩)
   ·exact absurd h (Std.Irrefl.irrefl x)
   ·exact app_lt.mp h
  ·exact λ h=>.inr ⟨rfl,app_lt.mpr h⟩
theorem vY:∀{a b:List Nat} {r r':List Int},a≠b->((a.map Int.ofNat++(-1::r)<b.map Int.ofNat++(-1::r'))↔a<b)
 |[],[],_,_,h=>absurd rfl h
 |[],y::b,r,r',_=>by
  show(-1::r<(Int.ofNat y::(b.map Int.ofNat++(-1::r'))))↔_
  rw[List.cons_lt_cons_iff]
  exact⟨λ _=>List.nil_lt_cons _ _,λ _=>.inl (by show(-1:Int)<(y:Int);omega)⟩
 | x::a,[],r,r',_=>by
  show(Int.ofNat x::(a.map Int.ofNat++(-1::r))<(-1::r'))↔_
  rw[List.cons_lt_cons_iff]
  refine⟨λ h=>?_,λ h=>absurd h (List.not_lt_nil _)⟩
  rcases h with h|⟨h,_⟩
  ·have h:(x:Int)< -1:=h
   omega
  ·have h:(x:Int)= -1:=h
   omega
 | x::a,y::b,r,r',h=>by
  show(Int.ofNat x::(a.map Int.ofNat++(-1::r))<(Int.ofNat y::(b.map Int.ofNat++(-1::r'))))↔_
  rw[List.cons_lt_cons_iff,List.cons_lt_cons_iff]
  by_cases e:x=y
  ·subst e
   have hab:a≠b:=λ z=>h (by rw[z])
   constructor
   ·rintro(h|⟨_,h⟩)
    ·exact absurd h (Int.lt_irrefl _)
    ·exact .inr ⟨rfl,(vY hab).mp h⟩
   ·rintro(h|⟨_,h⟩)
    ·exact absurd h (Nat.lt_irrefl _)
    ·exact .inr ⟨rfl,(vY hab).mpr h⟩
  ·constructor
   ·rintro(h|⟨h,_⟩)
    ·exact .inl (by have h:(x:Int)<(y:Int):=h;omega)
    ·exact absurd (Int.ofNat.inj h) e
   ·rintro(h|⟨h,_⟩)
    ·exact .inl (by show(x:Int)<(y:Int);omega)
    ·exact absurd h e
theorem Bw:∀{a b:List Nat},(a.map Int.ofNat<b.map Int.ofNat)↔a<b
 |[],[]=>⟨λ h=>absurd h (List.not_lt_nil _),λ h=>absurd h (List.not_lt_nil _)⟩
 |[],_::_=>⟨λ _=>List.nil_lt_cons _ _,λ _=>List.nil_lt_cons _ _⟩
 |_::_,[]=>⟨λ h=>absurd h (List.not_lt_nil _),λ h=>absurd h (List.not_lt_nil _)⟩
 | x::a,y::b=>by
  rw[List.map_cons,List.map_cons,List.cons_lt_cons_iff,List.cons_lt_cons_iff,Bw]
  constructor
  ·rintro(h|⟨h,g⟩)
   ·exact .inl (by have h:(x:Int)<(y:Int):=h;omega)
   ·exact .inr ⟨Int.ofNat.inj h,g⟩
  ·rintro(h|⟨h,g⟩)
   ·exact .inl (by show(x:Int)<(y:Int);omega)
   ·exact .inr ⟨by rw[h],g⟩
theorem sN{x x' y y':List Nat}{i i':Int}(h:x≠x'):(eF x i y<eF x' i' y')↔x<x':=vY h
theorem sM{x y y':List Nat}{i i':Int}(h:i≠i'):(eF x i y<eF x i' y')↔i<i':=by
 unfold eF
 rw[app_lt,List.cons_lt_cons_iff,List.cons_lt_cons_iff]
 constructor
 ·rintro(h|⟨_,h|⟨e,_⟩⟩)
  ·exact absurd h (Int.lt_irrefl _)
  ·exact h
  ·exact absurd e h
 ·exact λ h=>.inr ⟨rfl,.inl h⟩
theorem sL{x y y':List Nat}{i:Int}:(eF x i y<eF x i y')↔y<y':=by
 unfold eF
 rw[app_lt,List.cons_lt_cons_iff,List.cons_lt_cons_iff,Bw]
 constructor
 ·rintro(h|⟨_,h|⟨_,h⟩⟩)
  ·exact absurd h (Int.lt_irrefl _)
  ·exact absurd h (Int.lt_irrefl _)
  ·exact h
 ·exact λ h=>.inr ⟨rfl,.inr ⟨rfl,h⟩⟩
theorem W3.stayK{h h':Heap}{v:Value}(x:W3 h v)(k:∀b o,v= .ref b->h.get? b=some o->h'.get? b=some o):W3 h' v/\cY h' v=cY h v:=by
 obtain⟨a,o,n,x,t,i,u,y,j,rfl,ho,hc,hd⟩:=x
 refine⟨⟨a,o,n,x,t,i,u,y,j,rfl,k a o rfl ho,hc,hd⟩,?_⟩
 show jE (h'.get? a)=jE (h.get? a)
 rw[ho,k a o rfl ho]
theorem Xf{x y:Str}(h:(x==y)=false):x.cps.toList≠y.cps.toList:=λ z=>by
 have:x.cps=y.cps:=Array.toList_inj.mp z
 have e:x=y:=by
  cases x
  cases y
  cases this
  rfl
 rw[e]at h
 simp at h
section
variable{prog:Program}{w:World}{A:Around}{E:Qe}{s:Shared}
theorem Xk{a₀:Array Keyed}{h0:Heap}(h3:∀p,p∈a₀->W3 s.heap p.1/\cY s.heap p.1=cY h0 p.1):dF prog w A s (tuples' true) a₀ (jD h0):=by
 intro E p q Q hp hq hQ
 obtain⟨p1,p2⟩:=p
 obtain⟨q1,q2⟩:=q
 obtain⟨⟨a,o,n,x,t,i,u,y,k,rfl,ho,_,hd⟩,ka⟩:=h3 _ hp
 obtain⟨⟨a',o',n',x',t',i',u',y',k',rfl,ho',_,hd'⟩,kb⟩:=h3 _ hq
 have ea:cY h0 (.ref a)=eF x.cps.toList i y.cps.toList:=by
  rw[<-ka]
  show jE (s.heap.get? a)=_
  rw[ho,vZ hd]
 have eb:cY h0 (.ref a')=eF x'.cps.toList i' y'.cps.toList:=by
  rw[<-kb]
  show jE (s.heap.get? a')=_
  rw[ho',vZ hd']
 have hQ:Q (decide (cY h0 (.ref a)<cY h0 (.ref a'))) s:=hQ
 rw[ea,eb]at hQ
 refine kat_lt ho hd ho' hd' ?_
 show KatLex prog w A true _ Q [(.str x t,.str x' t'),(.int i u,.int i' u'),(.str y k,.str y' k')] 0 s
 refine kat_cons (eqBool_str (kat_go (λ e=>kat_yes ?_) λ e=>kat_no (oneLt_str ?_)))
 ·have ex:x=x':=eq_of_beq e
  subst ex
  refine kat_cons (wpAny_eqBool_int (kat_go (λ e=>kat_yes ?_) λ e=>kat_no (kat_one _ _ (lt_int ?_))))
  ·have ei:i=i':=eq_of_beq e
   subst ei
   refine kat_cons (eqBool_str (kat_go (λ e=>kat_yes (kat_nil ?_)) λ e=>kat_no (kat_one _ _ (lt_str ?_))))
   ·have ey:y=y':=eq_of_beq e
    subst ey
    rw[decide_eq_false (List.lt_irrefl _)]at hQ
    exact hQ
   ·rw[decide_eq_decide.mpr sL]at hQ
    exact hQ
  ·have ni:i≠i':=by simpa using e
   rw[decide_eq_decide.mpr (sM ni)]at hQ
   exact hQ
 ·rw[decide_eq_decide.mpr (sN (Xf e))]at hQ
  exact hQ
theorem Sz{vs:List Value}(h3:∀v∈vs,W3 s.heap v)(hne:0<vs.length){Q:SortKind->Shared->Prop}(h:Q (tuples' true) s):wpAny (model prog w) A (keyKind' vs.toArray) Q E s:=by
 have:∀{vs:List Value},(∀v∈vs,W3 s.heap v)->∃fs,KatTups s.heap vs fs/\fs.length=vs.length/\∀v∈fs,∃x t,v= .str x t:=by
  intro vs h3
  induction vs with
  |nil=>exact⟨[],.nil,rfl,λ _ h=>nomatch h⟩
  |cons v r ih=>
   obtain⟨fs,hk,hl,hs⟩:=ih λ v hv=>h3 v (List.mem_cons_of_mem _ hv)
   obtain⟨a,o,n,x,t,i,u,y,k,rfl,ho,hc,hd⟩:=h3 v List.mem_cons_self
   refine⟨.str x t::fs,.cons ho hc hd rfl hk,by simp[hl],λ v hv=>?_⟩
   rcases List.mem_cons.mp hv with rfl|hv
   ·exact⟨_,_,rfl⟩
   ·exact hs v hv
 obtain⟨fs,hk,hl,hs⟩:=this h3
 refine kat_kind (T:=.type "str") hk Qa (λ v hv=>?_) Qc h
 obtain⟨x,t,rfl⟩:=hs v hv
 exact .now
theorem Ac{a:Addr}{vs:List Value}{h0:Heap}(h3:∀v∈vs,(W3 s.heap v/\cY s.heap v=cY h0 v)/\v≠ .ref a)(hne:0<vs.length):Fi prog w A s a vs (jD h0):=by
 intro sI hsI
 have at3:∀v∈vs,W3 sI.heap v/\cY sI.heap v=cY h0 v:=λ v hv=>by
  obtain⟨⟨c,k⟩,ne⟩:=h3 v hv
  obtain⟨c',k'⟩:=c.stayK (h':=sI.heap) λ b o e g=>hsI b o (λ z=>ne (by rw[e,z])) g
  exact⟨c',k'.trans k⟩
 have inv:∀p,p∈pairsOf vs->p.1∈vs:=λ p hp=>by
  rw[<-Array.mem_toList_iff,pairsOf_toList]at hp
  exact(List.of_mem_zip (a:=p.1) (b:=p.2) hp).1
 exact⟨tuples' true,λ E Q h=>Sz (λ v hv=>(at3 v hv).1) hne h,Xk λ p hp=>at3 _ (inv p hp)⟩
end
end L2
namespace L2
open PySem PySem.Spec PyProof.Rows PySem.W PySem.SetTable
structure eA(t:SetTable)(n:Nat):Prop where
 place:t.place.size=n
 dum:t.dummies= #[]
 sz:fI t.mask
 room:n*5<t.mask*3
theorem eA.le{t:SetTable}{n:Nat}(h:eA t n):n<=t.mask:=by have:=h.room;omega
theorem eA.fits{t:SetTable}{n:Nat}(h:eA t n):t.fits n=true:=by
 unfold SetTable.fits SetTable.fill
 rw[h.dum,h.place]
 simpa using h.le
theorem eA.gave{t:SetTable}{n:Nat}(h:eA t n):t.gaveWay=false:=by
 unfold SetTable.gaveWay
 rcases h.sz with e|e|e|e<;>rw[e]<;>rfl
section
variable{prog:Program}{w:World}{A:Around}{E:Qe}{s:Shared}
theorem W3.key{h:Heap}{v:Value}(x:W3 h v):∃a ks,v= .ref a/\IsTupleKey (eR prog w) h ks a:=by
 obtain⟨a,o,n,x,t,i,u,y,k,rfl,ho,hc,hd⟩:=x
 exact⟨a,[.inr x,.inl i,.inr y],rfl,o,_,n,ho,hc,hd,.cons (mD ..) (.cons (vP ..) (.cons (mD ..) .nil))⟩
theorem W3.quiet{v:Value}(x:W3 s.heap v){Q:Bool->Shared->Prop}(h:Q true s):wpAny (model prog w) A (eqIsQuiet 8 v) Q E s:=by
 obtain⟨a,ka,rfl,ha⟩:=x.key (prog:=prog) (w:=w)
 exact wpAny_eqIsQuiet_tuple ha h
theorem W3.noCls{v:Value}(x:W3 s.heap v){Q:Bool->Shared->Prop}(h:Q false s):wpAny (model prog w) A (ofAClassStatement 8 v) Q E s:=by
 obtain⟨a,o,n,x,t,i,u,y,k,rfl,ho,hc,hd⟩:=x
 unfold ofAClassStatement
 refine wpAny_bind (wpAny_typeOf (T:= "tuple") ⟨o,ho,hc⟩ ?_)
 refine wpAny_bind (wpAny_pure ?_)
 refine wpAny_bind (wpAny_seqItems ho hd ?_)
 refine wpAny_bind ?_
 rw[<-Array.forIn_toList]
 refine wpAny_forIn_list _ (λ rest r s'=>r.1=none/\s'=s/\∀v∈rest,carriedByValue v=true) _ ?_ ?_ _ _ ⟨rfl,rfl,?_⟩
 ·rintro v rest r s' ⟨hr,rfl,hall⟩
  have:ofAClassStatement 7 v=pure false:=by
   have:=hall v List.mem_cons_self
   cases v<;>first|rfl|(simp[carriedByValue]at this)|(unfold ofAClassStatement;rfl)
  rw[this]
  exact wpAny_bind (wpAny_pure (wpAny_pure ⟨rfl,rfl,λ u hu=>hall u (List.mem_cons_of_mem _ hu)⟩))
 ·rintro⟨r1,r2⟩ s' ⟨hr,rfl,_⟩
  simp only at hr
  subst hr
  exact wpAny_pure h
 ·intro v hv
  simp only[List.mem_cons,List.not_mem_nil,or_false]at hv
  rcases hv with rfl|rfl|rfl<;>rfl
theorem W3.byVal{v:Value}(x:W3 s.heap v){Q:Bool->Shared->Prop}(h:Q false s):wpAny (model prog w) A (hashByValue 8 v) Q E s:=by
 obtain⟨a,o,n,x,t,i,u,y,k,rfl,ho,hc,hd⟩:=x
 unfold hashByValue
 refine wpAny_bind (wpAny_specialOf (T:= "tuple") ⟨o,ho,hc⟩ F.slot_tuple_hash.lookup ?_)
 dsimp only
 refine wpAny_bind (wpAny_seqItems ho hd ?_)
 refine wpAny_bind ?_
 show wpAny _ _ (forIn (#[.str x t,.int i u,.str y k]:Array Value) _ _) _ _ _
 rw[<-Array.forIn_toList]
 rw[List.forIn_cons]
 refine wpAny_bind ?_
 refine wpAny_bind (m:=hashByValue 7 (.str x t)) (wpAny_pure ?_)
 exact wpAny_pure (wpAny_pure (wpAny_pure h))
theorem Lj{x:Value}(hx:W3 s.heap x){ys:List Value}(hy:∀y∈ys,W3 s.heap y){Q:Bool->Shared->Prop}(h:Q false s):wpAny (model prog w) A (searchCouldBeSeen x ys) Q E s:=by
 unfold searchCouldBeSeen
 obtain⟨ax,_,rfl,_⟩:=hx.key (prog:=prog) (w:=w)
 refine wpAny_bind ?_
 refine wpAny_forIn_list _ (λ rest r s'=>r.1=none/\s'=s/\∀v∈rest,W3 s.heap v) _ ?_ ?_ _ _ ⟨rfl,rfl,hy⟩
 ·rintro v rest r s' ⟨hr,rfl,hall⟩
  have hv:=hall v List.mem_cons_self
  have hend:r.1=none/\s'=s'/\∀v∈rest,W3 s'.heap v:=⟨hr,rfl,λ u hu=>hall u (List.mem_cons_of_mem _ hu)⟩
  obtain⟨av,_,rfl,_⟩:=hv.key (prog:=prog) (w:=w)
  dsimp only
  by_cases hb:(ax==av||carriedByValue (.ref ax)&&carriedByValue (.ref av))=true
  ·rw[if_pos hb]
   exact wpAny_pure ⟨rfl,hend.2⟩
  ·rw[if_neg hb]
   refine wpAny_bind (hx.quiet ?_)
   simp only[Bool.not_true,Bool.false_eq_true,if_false]
   refine wpAny_bind (hv.quiet ?_)
   simp only[Bool.not_true,Bool.false_eq_true,if_false]
   refine wpAny_bind (hx.noCls ?_)
   simp only[Bool.false_eq_true,if_false]
   refine wpAny_bind (hv.noCls ?_)
   simp only[Bool.false_eq_true,if_false]
   exact wpAny_pure ⟨rfl,hend.2⟩
 ·rintro⟨r1,r2⟩ s' ⟨hr,rfl,_⟩
  simp only at hr
  subst hr
  exact wpAny_pure h
end
section
variable{prog:Program}{w:World}{A:Around}{E:Qe}{s:Shared}
def mR(w:World)(h:Heap)(a:Addr)(P:Value->Prop)(m:Nat):Prop:=∃o es ep t,h.get? a=some o/\o.ExactSet/\o.data= .set es ep t/\eA t es.size/\
 t.led=(!w.params.followText "set-order")/\(es.size≠0->t.plain=false)/\(∀e∈es.toList,P e.2)/\es.size<=m
theorem mR.mono{w:World}{h:Heap}{a:Addr}{P P':Value->Prop}{m m':Nat}(x:mR w h a P m)(hp:∀v,P v->P' v)(hm:m<=m'):mR w h a P' m':=by
 obtain⟨o,es,ep,t,h1,h2,h3,h4,h5,h6,h7,h8⟩:=x
 exact⟨o,es,ep,t,h1,h2,h3,h4,h5,h6,λ e he=>hp _ (h7 e he),Nat.le_trans h8 hm⟩
theorem mR.stay{w:World}{h h':Heap}{a:Addr}{P:Value->Prop}{m:Nat}(x:mR w h a P m)(k:∀o,h.get? a=some o->h'.get? a=some o):mR w h' a P m:=by
 obtain⟨o,es,ep,t,h1,r⟩:=x
 exact⟨o,es,ep,t,k o h1,r⟩
theorem Cr{α:Type}(xs:Array α)(p:Nat)(x:α):(SetTable.insertAt xs p x).size=xs.size+1:=by
 unfold SetTable.insertAt
 rw[Array.size_append,Array.size_push,Array.size_extract,Array.size_extract]
 omega
theorem Bu{α:Type}{xs:Array α}{a b:Nat}{y:α}(h:y∈xs.extract a b):y∈xs:=by
 obtain⟨i,hi,e⟩:=Array.mem_iff_getElem.mp h
 rw[<-e,Array.getElem_extract]
 exact Array.getElem_mem _
theorem Ct{α:Type}{xs:Array α}{p:Nat}{x y:α}(h:y∈SetTable.insertAt xs p x):y∈xs\/y=x:=by
 unfold SetTable.insertAt at h
 rcases Array.mem_append.mp h with h|h
 ·rcases Array.mem_push.mp h with h|h
  ·exact .inl (Bu h)
  ·exact .inr h
 ·exact .inl (Bu h)
theorem Nh{t:SetTable}{n:Nat}(ht:eA t n)(j:Nat):(t.put j).1.place.size=n+1/\(t.put j).1.dummies= #[]/\(t.put j).1.mask=t.mask/\(t.put j).1.led=t.led/\(t.put j).1.plain=t.plain:=by
 unfold SetTable.put
 dsimp only
 refine⟨by rw[Cr,ht.place],?_,rfl,rfl,rfl⟩
 rw[if_neg]
 ·exact ht.dum
 ·unfold SetTable.has;rw[ht.dum];simp
theorem Ab{a:Addr}{o:Obj}{es es':Array (Int×Value)}{ep:Nat}{t t':SetTable}{h:Heap}(ho:h.get? a=some o)(hd:o.data= .set es ep t):
  (h.update a (Obj.putSet es' t')).get? a=some {o with data:=.set es' (ep+1) t'}:=by
 have:=Heap.get?_update_self (Obj.putSet es' t') ho (by rw[putSet_of es' t' hd];rfl)
 rw[putSet_of es' t' hd]at this
 exact this
end
theorem W3.stay{h h':Heap}{v:Value}(x:W3 h v)(k:∀b o,v= .ref b->h.get? b=some o->h'.get? b=some o):W3 h' v:=by
 obtain⟨a,o,n,x,t,i,u,y,j,rfl,ho,r⟩:=x
 exact⟨a,o,n,x,t,i,u,y,j,rfl,k a o rfl ho,r⟩
section
variable{prog:Program}{w:World}{A:Around}{R:Result->Shared->Prop}{I:Addr}{fp wr:List Addr}{G:Array GenState->Array GenState->Prop}{n:Nat}{Pi:Nat->Value->Prop}{St:Nat->Shared->Prop}
end
section
variable{prog:Program}{w:World}{A:Around}{E:Qe}{s:Shared}
def fP(w:World):Obj:={cls:=.type "set",dict:=none,data:=.set #[] 0 (.fresh 0 0 (!w.params.followText "set-order"))}
theorem La(x:Value){Q:Qe}(h:Q (.ref s.heap.objs.size) {s with heap:=s.heap.push (fP w)}):
  codeAny (model prog w) A (.call (.builtin "set.__new__") ⟨[.type "set",x],[]⟩) (wants Q E) s:=by
 refine codeAny_of_tree ?_
 show wpAny _ A.in1 (do checkBuiltinCall "set.__new__" ⟨[.type "set",x],[]⟩;again (.builtin "set.__new__" ⟨[.type "set",x],[]⟩)) _ _ s
 refine wpAny_bind (wpAny_of_eq (F.newCall_set_1 x) (wpAny_pure ⟨plainId_quiet F.plain_set_new _,codeAny_builtin F.entry_set_new ?_⟩))
 rw[Around.under_plainId F.plain_set_new _]
 unfold Builtin.«set.__new__» Builtin.Frozenset.newClass
 have sub:=sub_set_self
 cases s with
 |mk hp g d tk os=>
  dsimp only at h⊢
  wp_walk
  refine wpAny_askSetting (wpAny_pure ?_)
  dsimp only
  simp only[newObj]
  exact wpAny_bind (wpAny_alloc (wpAny_pure (wpAny_pure h)))
end
theorem si_slot:Slot "set_iterator" "__next__" "set_iterator.__next__" := .of (owner:= "set_iterator") (n:= "__next__") (by rw[typeLookup_type,builtinLookup_eq_fast];kernel_rfl) Qd Qd Qd (by first|exact .inl Qd|exact .inr Qd) (by rw[isSubtype_type];kernel_rfl)
theorem Ae:entryFor table "set_iterator.__next__" =some Builtin.«set_iterator.__next__»:=entryFor_of_tree (by kernel_rfl)
theorem Ky:Manifest.owners.lookup (String.ofList ['r','o','t','a','r','e','t','i','_','t','e','s'].reverse)=some Manifest.sig_set_iterator:=by kernel_rfl
theorem Af(a:Value):argsOk "set_iterator.__next__" ⟨[a],[]⟩:=by
 unfold argsOk;rw[signature?_of (id:= "set_iterator.__next__") (n:=['_','_','t','x','e','n','_','_']) (o:=['r','o','t','a','r','e','t','i','_','t','e','s']) (by kernel_rfl) Ky];kernel_rfl
theorem Lc:entryFor table "set.__iter__" =some Builtin.«frozenset.__iter__»:=entryFor_alias (id':= "frozenset.__iter__") (by kernel_rfl) rfl Qd (by kernel_rfl)
theorem Ba{α:Type}(next:Nat->Nat):∀(fuel k:Nat) (left:List α) (out:Array α),fuel=left.length->(pickOrder.go next fuel k left out).size=out.size+left.length/\∀x∈pickOrder.go next fuel k left out,x∈out\/x∈left
 |0,k,left,out,h=>by
  obtain rfl:left=[]:=List.length_eq_zero_iff.mp h.symm
  unfold pickOrder.go
  exact⟨rfl,λ x hx=>.inl hx⟩
 | fuel+1,k,left,out,h=>by
  unfold pickOrder.go
  have hlt:next k%left.length<left.length:=Nat.mod_lt _ Qa
  rw[List.getElem?_eq_getElem hlt]
  dsimp only
  obtain⟨h1,h2⟩:=Ba next fuel (k+1) (left.eraseIdx (next k%left.length)) (out.push left[next k%left.length]) (by rw[List.length_eraseIdx_of_lt hlt];omega)
  refine⟨by rw[h1,Array.size_push,List.length_eraseIdx_of_lt hlt];omega,λ x hx=>?_⟩
  rcases h2 x hx with h3|h3
  ·rcases Array.mem_push.mp h3 with h4|rfl
   ·exact .inl h4
   ·exact .inr (List.getElem_mem hlt)
  ·exact .inr (List.mem_of_mem_eraseIdx h3)
theorem Ay{α:Type}(next:Nat->Nat)(xs:Array α):(pickOrder next xs).size=xs.size/\∀x∈pickOrder next xs,x∈xs:=by
 unfold pickOrder
 obtain⟨h1,h2⟩:=Ba next xs.size 0 xs.toList #[] Qb
 refine⟨by simpa using h1,λ x hx=>?_⟩
 rcases h2 x hx with h|h
 ·simp at h
 ·exact Array.mem_toList_iff.mp h
section
variable{prog:Program}{w:World}{A:Around}{E:Qe}{s:Shared}
end
inductive rQ(w:World)(h:Heap)(T:Addr)(n i:Nat)(t:SetTable):Value->Prop
 |text {k:Int} {u:Tok} (e:w.params.followText "set-order" =true):rQ w h T n i t (.int k u)
 |drawn {ps:List Nat} {m:Nat} (e:w.params.followText "set-order" =false) (hT:h.get? T=some {cls:=.type "tuple",data:=.seq (ps.map λ (p:Nat)=>rawInt p).toArray m}) (hl:ps.length=n) (hp:∀p∈ps,p<n):rQ w h T n i t (.ref T)
 |few {k:Nat} {u:Tok} (e:w.params.followText "set-order" =false) (hn:n<=1) (hl:t.led=true) (h0:i=0->k=0) (h1:i=1->∃j,t.place[0]? =some j/\k=j+1):rQ w h T n i t (.int k u)
def xJ(w:World)(P:Value->Prop)(S I T:Addr)(n i:Nat)(h:Heap):Prop:=∃o es ep t first,h.get? S=some o/\o.data= .set es ep t/\eA t es.size/\es.size=n/\(∀e∈es.toList,P e.2)/\
 h.get? I=some {cls:=.type "set_iterator",data:=.fields #[first,.int i 0,.ref S,.int n 0,.int ep 0]}/\rQ w h T n i t first
section
variable{prog:Program}{w:World}{A:Around}{E:Qe}{s:Shared}{P:Value->Prop}{S I T:Addr}{n i:Nat}
theorem oP{b:Bool}(e:w.params.followText "set-order" =b){Q:Bool->Shared->Prop}(h:Q b s):wpAny (model prog w) A setsByText Q E s:=by
 unfold setsByText
 refine wpAny_bind (wpAny_askSetting (wpAny_pure ?_))
 have:(model prog w).w.params.followText "set-order" =b:=e
 rw[this]
 exact h
section
variable{o:Obj}{es:Array (Int×Value)}{ep:Nat}{t:SetTable}
theorem Ew{xs:Array Nat}{j:Nat}(h:xs[0]? =some j)(hs:xs.size=1):below xs 0=0/\below xs (j+1)=1:=by
 obtain⟨l⟩:=xs
 match l,hs,h with
 |[y],_,h=>
  have e:y=j:=by simpa using h
  subst e
  unfold below
  show below.go _ _ 1 0 1=0/\below.go _ _ 1 0 1=1
  unfold below.go
  constructor
  ·simp[below.go]
  ·simp[below.go]
theorem Aj(e:w.params.followText "set-order" =false)(hS:s.heap.get? S=some o)(hd:o.data= .set es ep t)(ht:eA t es.size)(hn:es.size<=1)(hl:t.led=true){slot given:Nat}{Q:Option (Value×Nat)->Shared->Prop}
  (h:∀r,(∀x,es[below t.place slot]? =some x->∀j,t.place[below t.place slot]? =some j->r=some (x.2,j+1))->(es[below t.place slot]? =none->r=none)->Q r s):wpAny (model prog w) A (setNext S slot given ep) Q E s:=by
 unfold setNext
 refine wpAny_bind (wpAny_setState_of hS hd ht.fits ?_)
 dsimp only
 refine wpAny_bind (oP e ?_)
 rw[if_neg Bool.false_ne_true]
 show wpAny _ _ (if(!t.plain&&decide (es.size>1))=true then _ else _) _ _ _
 rw[if_neg (by rw[decide_eq_false Qa];simp)]
 refine wpAny_bind ?_
 show wpAny _ _ (if(!t.led&& !es.isEmpty)=true then _ else _) _ _ _
 rw[hl,Bool.not_true,Bool.false_and,if_neg Bool.false_ne_true]
 refine wpAny_pure (wpAny_pure (h _ (λ x e1 j e2=>?_) λ e1=>?_))
 ·rw[e1,e2]
 ·rw[e1]
theorem Lg(hS:s.heap.get? S=some o)(hd:o.data= .set es ep t)(ht:eA t es.size){p:Nat}(hp:p<es.size){Q:Qe}(h:Q es[p].2 s):wpAny (model prog w) A (setNextDrawn S p ep) Q E s:=by
 unfold setNextDrawn
 refine wpAny_bind (wpAny_setState_of hS hd ht.fits ?_)
 dsimp only
 simp only[bne_self_eq_false,Bool.false_eq_true,if_false]
 rw[Array.getElem?_eq_getElem hp]
 exact wpAny_pure h
end
theorem iU{h:Heap}{I:Addr}{fs:Array Value}{k:Nat}{v:Value}(hI:h.get? I=some {cls:=.type "set_iterator",data:=.fields fs}):
  (h.update I (Obj.mapFields (·.setIfInBounds k v))).get? I=some {cls:=.type "set_iterator",data:=.fields (fs.setIfInBounds k v)}:=by
 have:=Heap.get?_update_self (Obj.mapFields (·.setIfInBounds k v)) hI (Obj.isFreed_of_fields (Obj.data_mapFields rfl _))
 exact this
end
section
variable{prog:Program}{w:World}{A:Around}{E:Qe}{s:Shared}{P:Value->Prop}{S I T:Addr}{n i:Nat}
theorem tE(hh:A.handled=none){P2:PySem.Fin->Shared->Prop}(h:∀e h',(∀b o,s.heap.get? b=some o->h'.get? b=some o)->Shared.TypeIs {s with heap:=h'} e "StopIteration"->E e {s with heap:=h'}):
  wpAny (model prog w) A (newExc (.type "StopIteration") []>>=raiseNew (α:=PySem.Fin)) P2 E s:=by
 refine wpAny_bind ?_
 simp only[newExc,newTuple]
 refine wpAny_bind (wpAny_newObj_type ?_ (by size_fits))
 refine wpAny_bind (m:=firstArgMember _ _) (wpAny_of_eq (a:=Value.none) (by first|rfl|(simp only[firstArgMember];rfl)) ?_)
 refine wpAny_newObj_type ?_ (by size_fits)
 simp only[raiseNew]
 refine wpAny_bind (wpAny_handled ?_)
 rw[hh]
 refine wpAny_bind (wpAny_pure (wpAny_throw ?_))
 exact h _ _ (λ b o e=>Heap.get?_push_of_some _ (Heap.get?_push_of_some _ e)) ⟨_,Heap.get?_push_size _ rfl,rfl⟩
end
theorem xJ.stay{w:World}{P:Value->Prop}{S I T:Addr}{n i:Nat}{h h':Heap}(x:xJ w P S I T n i h)(k:∀b o,b=S\/b=I\/b=T->h.get? b=some o->h'.get? b=some o):xJ w P S I T n i h':=by
 obtain⟨o,es,ep,t,first,hS,hd,ht,hn,hP,hI,way⟩:=x
 refine⟨o,es,ep,t,first,k S o (.inl rfl) hS,hd,ht,hn,hP,k I _ (.inr (.inl rfl)) hI,?_⟩
 cases way with
 |text e=>exact .text e
 |drawn e q hl hp=>exact .drawn e (k T _ (.inr (.inr rfl)) q) hl hp
 |few e hn hl h0 h1=>exact .few e hn hl h0 h1
section
variable{prog:Program}{w:World}{A:Around}{E:Qe}{s:Shared}{P:Value->Prop}{S I T L:Addr}{n i:Nat}{R:Result->Shared->Prop}
end
section
variable{prog:Program}{w:World}{A:Around}{E:Qe}{s:Shared}{P:Value->Prop}{S:Addr}{n:Nat}
end
def uH(ps:List Addr):Value->Prop:=λ v=>∃p∈ps,v= .ref p
section
variable{X:Cx}
theorem aB.w3{pins:List (Addr×Obj)}{σ:St}{H:Hp}{s:Shared}{ex:List Addr}(I:aB X pins σ H s){w:Wt}{p:Addr}(h:aE ex H w.d (.ref p)):W3 s.heap (.ref p):=by
 obtain⟨a,e,q⟩:=Wt.view h
 injection e with e
 subst e
 obtain⟨_,its,r,⟨o,ho,hc,n,hd⟩,_⟩:=(I.hok p _ q:cI X.prog X.w H s.heap p (.tup _))
 cases r with
 | cons r1 r=>cases r with
  | cons r2 r=>cases r with
   | cons r3 r=>cases r with
    |nil=>
     obtain⟨t,rfl⟩:=r1
     obtain⟨u,rfl⟩:=r2
     obtain⟨k,rfl⟩:=r3
     exact⟨p,o,n,_,t,_,u,_,k,rfl,ho,hc,hd⟩
end
end L2
namespace K14
open PySem L2 PyProof.Rows
structure Txt(K:PySem.W.Frag)(mg:Str->Option Value):Prop where
 b_len:mg "len" =none
 b_range:mg "range" =none
 b_sorted:mg "sorted" =none
 b_set:mg "set" =none
 b_zip:mg "zip" =none
 b_tuple:mg "tuple" =none
 b_list:mg "list" =none
 b_isinstance:mg "isinstance" =none
 b_ValueError:mg "ValueError" =none
 b_int:mg "int" =none
 b_bool:mg "bool" =none
 b_all:mg "all" =none
 b_min:mg "min" =none
section
variable{P:Program}{w:World}{K:PySem.W.Frag}{mg:Str->Option Value}{base:Heap}
abbrev uV:Stmt:=top 25
theorem sc__law_take:bW ["_law_held","_law_many","_law_found"] ["_law_held","_law_many"] (aW uV):=⟨rfl,rfl,rfl,Qd,rfl,Qd,Qd⟩
theorem Oy{f:Addr}{fd:FuncData}(F:bR K "_law_take" "_law_take" uV f fd):bE P w K mg base bP 1 f fd ["_law_held","_law_many"] jV:=by
 refine F.ok sc__law_take (λ vs H Q E h=>?_) (λ cdv A outer s H vs Q E hr h=>?_)
 ·obtain⟨z,m,rfl,_⟩:=h
  rfl
 obtain⟨z,m,rfl,c,h0,h1,q⟩:=h
 obtain⟨n,hp⟩:=c.held
 refine'⟨_,?hh,?rr⟩
 case hh=>(exists aT ?_ ?_,bH sc__law_take.nd (aQ 2) (Or.inl rfl) ?_,bJ qA ?_ (pv 1),aV ix_list (pv 0) aL (λ _ _=>rfl),aT ?_ ?_,lY ?_ ?_,bJ Op ?_ (pv 1),aV ix_list (pv 0) aL (λ _ _=>rfl),Nv (pv 0) aL Lb,aY ?_,bI (pv 2))
 refine⟨_,rfl,z.p,_,_,_,rfl,rfl,aN.of hp,rfl,_,rfl,_,_,rfl,rfl,h0,?_⟩
 refine⟨_,rfl,z.p,_,_,_,rfl,rfl,aN.of hp,rfl,_,rfl,_,_,rfl,rfl,⟨h0,h1⟩,?_⟩
 refine⟨_,rfl,z.p,_,_,_,rfl,rfl,hp,rfl,?_⟩
 exact⟨_,rfl,q _ _ (Int.emod_nonneg _ Qa) (Int.emod_lt_of_pos _ h0) ⟨aG.put Qb _,c.extp (aG.put Qb _) ⟨_,aR⟩⟩⟩
abbrev uY:Stmt:=top 24
theorem sc__law_digits:bW ["_law_script","_law_k","_law_cell","_law_total","_law_number","_law_turn"] ["_law_script","_law_k"] (aW uY):=⟨rfl,rfl,rfl,Qd,rfl,Qd,Qd⟩
theorem Py{f:Addr}{fd:FuncData}(F:bR K "_law_digits" "_law_digits" uY f fd)(T:Txt K mg):bE P w K mg base bP 1 f fd ["_law_script","_law_k"] (uA K):=by
 refine F.ok sc__law_digits (λ vs H Q E h=>?_) (λ cdv A outer s H vs Q E hr h=>?_)
 ·obtain⟨a,ns,k,rfl,_⟩:=h
  rfl
 obtain⟨a,ns,k,rfl,hS,h63,h0,h1,q⟩:=h
 refine'⟨_,?hh,?rr⟩
 case hh=>(exists aT ?_ ?_,bH sc__law_digits.nd (aQ 2) (Or.inl rfl) ?_,Oc ?_ ?_ aL,bY oA (pv 1) ?_ (bO _),bG cU rfl T.b_len PySem.boot_len ?_,aA (pv 0) aI,aV ix_list (pv 0) (pv 1) (λ _ _=>rfl),aT ?_ ?_,cG ?_ ?_ cF,bY qC (pv 2) ?_ (bO _),bJ Bh aL aL,aY ?_,bI ?_,gO ?_,aA ?_ aI,bJ Bg (pv 2) ?_,bJ Bh aL aL,aT ?_ ?_,bH sc__law_digits.nd (aQ 3) (Or.inl rfl) aL,aT ?_ ?_,bH sc__law_digits.nd (aQ 4) (Or.inl rfl) ?_,bJ qA ?_ aL,bJ dY ?_ aL,bJ dY ?_ ?_,bJ kM (pv 2) aL,bJ kM aL (pv 1),aT ?_ ?_,fW PassesOwn.never rfl ?_ ?_ ?_,jA rfl T.b_range ?_,aA aL aI,bL sc__law_digits.nd (aQ 5) (Or.inl rfl) (Or.inl rfl),aT ?_ ?_,bH sc__law_digits.nd (aQ 4) (Or.inl rfl) ?_,bJ qA ?_ aL,bJ dY ?_ (pv 5),bJ dY ?_ ?_,bJ kM (pv 4) (pv 4),bJ kM aL (pv 4),aY ?_,bH sc__law_digits.nd (aQ 3) (Or.inl rfl) ?_,bJ dY ?_ ?_,bJ kM (pv 3) aL,bJ qA ?_ aL,bJ kM (pv 4) aL,aY ?_,bI ?_,gO ?_,aA (pv 3) aI)
 have hl:(ns.map V.int).length=ns.length:=List.length_map _
 have d1:Fs 10 18:=⟨Qc,Qc,Qc⟩
 have one:∀x:V,([x]:List V).length<=sizeLine:=λ x=>by show 1<=sizeLine;decide
 refine⟨_,rfl,_,rfl,a,_,rfl,.inl hS,_,_,rfl,rfl,_,rfl,?_⟩
 refine bU (λ c=>?_) (λ c=>?_)
 ·have c':k<(((ns.map V.int).length:Nat):Int):=of_decide_eq_true c
  rw[hl]at c'
  have hk:k.toNat<ns.length:=by omega
  have hv:gC (ns.map V.int) k=some (.int ns[k.toNat]):=eY h0 (by rw[List.getElem?_map,List.getElem?_eq_getElem hk]<;>rfl)
  refine⟨_,rfl,_,rfl,a,_,_,_,rfl,rfl,hS,hv,?_⟩
  refine⟨_,rfl,_,_,rfl,rfl,d1,_,_,rfl,rfl,_,rfl,?_⟩
  refine bU (λ c1=>?_) (λ c1=>?_)
  ·exact⟨_,rfl,_,_,rfl,rfl,d1,_,_,rfl,rfl,one _,λ p hp=>q p _ hp⟩
  ·refine⟨_,rfl,_,_,rfl,rfl,.inr ⟨Qc,Qc⟩,_,rfl,_,_,rfl,rfl,.inl ⟨Qc,Qc⟩,_,_,rfl,rfl,_,_,rfl,rfl,_,_,rfl,rfl,(by show(0:Int)<2147483647;decide),?_⟩
   refine⟨12,rfl,Qc,Qc,kX (n:=12) (λ i σ H2=>∃(c:Option V) (total number:Int) (t:Option V),σ=[some (V.ref a),some (V.int k),c,some (V.int total),some (V.int number),t]/\H2=H/\0<=number/\number<2147483648)
    ⟨_,_,_,_,rfl,rfl,Int.emod_nonneg _ Qc,Int.lt_trans (Int.emod_lt_of_pos _ Qc) Qc⟩ ?_ ?_⟩
   ·rintro i σ H2 hi ⟨c,total,number,t,rfl,rfl,n0,n1⟩
    refine⟨_,rfl,_,rfl,_,_,rfl,rfl,.inl ⟨Qa,Qa⟩,_,rfl,_,_,rfl,rfl,.inl ⟨Qc,Qc⟩,_,_,rfl,rfl,_,rfl,_,_,rfl,rfl,_,_,rfl,rfl,(by show(0:Int)<2147483629;decide),?_⟩
    refine⟨_,rfl,_,_,rfl,rfl,.inr ⟨Qc,Qc⟩,_,rfl,_,_,rfl,rfl,.inr ⟨Qc,Qc⟩,_,_,rfl,rfl,(by show(0:Int)<2147483587;decide),_,_,rfl,rfl,?_⟩
    exact⟨_,_,_,_,rfl,rfl,Int.emod_nonneg _ Qc,Int.lt_trans (Int.emod_lt_of_pos _ Qc) Qc⟩
   ·rintro σ H2 ⟨c,total,number,t,rfl,rfl,_,_⟩
    exact⟨_,rfl,one _,λ p hp=>q p _ hp⟩
 ·skip
  refine⟨_,rfl,_,_,rfl,rfl,d1,_,_,rfl,rfl,_,rfl,?_⟩
  refine bU (λ c1=>?_) (λ c1=>?_)
  ·exact⟨_,rfl,_,_,rfl,rfl,d1,_,_,rfl,rfl,one _,λ p hp=>q p _ hp⟩
  ·refine⟨_,rfl,_,_,rfl,rfl,.inr ⟨Qc,Qc⟩,_,rfl,_,_,rfl,rfl,.inl ⟨Qc,Qc⟩,_,_,rfl,rfl,_,_,rfl,rfl,_,_,rfl,rfl,(by show(0:Int)<2147483647;decide),?_⟩
   refine⟨12,rfl,Qc,Qc,kX (n:=12) (λ i σ H2=>∃(c:Option V) (total number:Int) (t:Option V),σ=[some (V.ref a),some (V.int k),c,some (V.int total),some (V.int number),t]/\H2=H/\0<=number/\number<2147483648)
    ⟨_,_,_,_,rfl,rfl,Int.emod_nonneg _ Qc,Int.lt_trans (Int.emod_lt_of_pos _ Qc) Qc⟩ ?_ ?_⟩
   ·rintro i σ H2 hi ⟨c,total,number,t,rfl,rfl,n0,n1⟩
    refine⟨_,rfl,_,rfl,_,_,rfl,rfl,.inl ⟨Qa,Qa⟩,_,rfl,_,_,rfl,rfl,.inl ⟨Qc,Qc⟩,_,_,rfl,rfl,_,rfl,_,_,rfl,rfl,_,_,rfl,rfl,(by show(0:Int)<2147483629;decide),?_⟩
    refine⟨_,rfl,_,_,rfl,rfl,.inr ⟨Qc,Qc⟩,_,rfl,_,_,rfl,rfl,.inr ⟨Qc,Qc⟩,_,_,rfl,rfl,(by show(0:Int)<2147483587;decide),_,_,rfl,rfl,?_⟩
    exact⟨_,_,_,_,rfl,rfl,Int.emod_nonneg _ Qc,Int.lt_trans (Int.emod_lt_of_pos _ Qc) Qc⟩
   ·rintro σ H2 ⟨c,total,number,t,rfl,rfl,_,_⟩
    exact⟨_,rfl,one _,λ p hp=>q p _ hp⟩
abbrev uZ:Stmt:=top 27
theorem Lr:bW ["_law_held"] ["_law_held"] (aW uZ):=⟨rfl,rfl,rfl,Qd,rfl,Qd,Qd⟩
theorem Pk{f:Addr}{fd:FuncData}(F:bR K "_law_bound" "_law_bound" uZ f fd)(bS:bF P w K mg base "_law_take" 1 ["_law_held","_law_many"] jV):bE P w K mg base bP 2 f fd ["_law_held"] pT:=by
 refine F.ok Lr (λ vs H Q E h=>?_) (λ cdv A outer s H vs Q E hr h=>?_)
 ·obtain⟨z,rfl,_⟩:=h
  rfl
 obtain⟨z,rfl,c,q⟩:=h
 refine'⟨_,?hh,?rr⟩
 case hh=>(exists aY ?_,bI ?_,aV cB ?_ ?_ (λ _ _=>rfl),iE ?_,aA aL ?_,aA aL ?_,aA aL ?_,aA aL ?_,aA aL ?_,aA aL ?_,aA aL ?_,aA ?_ aI,bJ dY aL ?_,bD bS hr ?_ rfl ?_,aA (pv 0) ?_,aA aL aI,Qc,bD bS hr ?_ rfl ?_,aA (pv 0) ?_,aA aL aI,Qc)
 refine⟨_,rfl,z,99,rfl,c,Qc,Qc,λ i H1 i0 i1 s1=>?_⟩
 refine⟨_,_,rfl,rfl,z,[.int 1,.int 1,.int 2,.int 2,.int 3,.int 5,.int 99,.int (1+i)],⟨_,_,rfl,rfl,_,_,rfl,rfl,_,_,rfl,rfl,_,_,rfl,rfl,_,_,rfl,rfl,_,_,rfl,rfl,_,_,rfl,rfl,_,_,rfl,rfl,rfl⟩,(by show 8<=1000;decide),s1.cz,λ v H2 s2 f2=>?_⟩
 refine⟨_,rfl,z,8,rfl,s2.cz,Qc,Qc,λ k H3 k0 k1 s3=>?_⟩
 obtain⟨d,hd,md⟩:=wE (xs:=[PyData.int 1,.int 1,.int 2,.int 2,.int 3,.int 5,.int 99,.int (1+i)]) k0 (by show k<8;exact k1)
 refine⟨z,_,k,d,.inr (f2.stp s3),rfl,k0,hd,λ v fv=>?_⟩
 obtain⟨j,rfl,j1,j2⟩:∃j:Int,d= .int j/\1<=j/\j<=99:=by
  simp only[List.mem_cons,List.not_mem_nil,or_false]at md
  rcases md with rfl|rfl|rfl|rfl|rfl|rfl|rfl|rfl<;>exact⟨_,rfl,Qa,Qa⟩
 obtain rfl:v= .int j:=fv
 exact q j H3 j1 j2 ((s1.trans s2).trans s3)
abbrev iA:Stmt:=top 26
theorem sc__law_words:bW ["_law_held","_law_many","_law_letters","_law_word","_law_at","_law_start","_law_signs","_law_ahead","_law_behind","_law_turned","_law_found"] ["_law_held","_law_many"] (aW iA):=⟨rfl,rfl,rfl,Qd,rfl,Qd,Qd⟩
theorem Os{f:Addr}{fd:FuncData}(F:bR K "_law_words" "_law_words" iA f fd)(T:Txt K mg)(bS:bF P w K mg base "_law_take" 1 ["_law_held","_law_many"] jV):bE P w K mg base bP 2 f fd ["_law_held","_law_many"] nL:=by
 refine F.ok sc__law_words (λ vs H Q E h=>?_) (λ cdv A outer s H vs Q E hr h=>?_)
 ·obtain⟨z,m,rfl,_⟩:=h
  rfl
 obtain⟨z,many,rfl,my0,my52,c,q⟩:=h
 refine'⟨_,?hh,?rr⟩
 case hh=>(exists aT ?_ ?_,bH sc__law_words.nd (aQ 2) (Or.inr rfl) cQ,aT ?_ ?_,bH sc__law_words.nd (aQ 3) (Or.inl rfl) ?_,jB PySem.F.plainAttrs_str PySem.F.slot_str_join PySem.F.type_str_join Rv cQ ?_,aA ?_ aI,kJ rfl ?_ (eU ["_law_k","_law_held","_law_letters"] 1 [0,2]) ?_ ?_ ?_ ?_ ?_ ?_ ?_,(by exact⟨rfl,Qd,Qd,(show∀y:Str×NameKind,y∈_->y.2=NameKind.free->(aW iA).names.lookup y.1=some .cell\/(aW iA).names.lookup y.1=some .free from Qd)⟩),Qd,Qc,jA rfl T.b_range ?_,aA ?_ aI,bJ dY aL ?_,bD bS hr ?_ rfl ?_,aA (pv 0) ?_,aA aL aI,Qc,4,bL ?_ (aQ 0) (Or.inl rfl) (Or.inr rfl),(by exact(show(["_law_k","_law_held","_law_letters"]:List Str).Nodup from Qd)),fH Qc,4,kA,4,aV Ti (pv 2) ?_ (λ _ _=>rfl),bD bS hr ?_ rfl ?_,aA (pv 1) ?_,aA aL aI,Qc,aT ?_ ?_,bH sc__law_words.nd (aQ 4) (Or.inl rfl) ?_,bD bS hr ?_ rfl ?_,aA (pv 0) ?_,aA ?_ aI,bG Xz rfl T.b_len PySem.boot_len ?_,aA (pv 3) aI,Qc,aT ?_ ?_,bH sc__law_words.nd (aQ 5) (Or.inl rfl) ?_,bD bS hr ?_ rfl ?_,aA (pv 0) ?_,aA aL aI,Qc,aT ?_ ?_,bH sc__law_words.nd (aQ 6) (Or.inl rfl) cQ,aT ?_ ?_,bH sc__law_words.nd (aQ 7) (Or.inr rfl) ?_,kI pU (pv 3) kD ?_,kB (pv 4),aT ?_ ?_,bH sc__law_words.nd (aQ 8) (Or.inr rfl) ?_,kI pU (pv 3) ?_ kD,kB ?_,bJ dY (pv 4) aL,aT ?_ ?_,bH sc__law_words.nd (aQ 9) (Or.inl rfl) ?_,bJ qF ?_ ?_,kI pU (pv 6) ?_ kD,kB (pv 5),kI pU (pv 6) kD ?_,kB (pv 5),aT ?_ ?_,lX sc__law_words.nd (aQ 10) (Or.inl rfl) rfl ?_ (eU ["_law_sign","_law_ahead","_law_behind"] 1 [7,8]) ?_ ?_ ?_ ?_ ?_ ?_ ?_,(by exact⟨rfl,Qd,Qd,(show∀y:Str×NameKind,y∈_->y.2=NameKind.free->(aW iA).names.lookup y.1=some .cell\/(aW iA).names.lookup y.1=some .free from Qd)⟩),Qd,Qc,Nt (pv 9),4,bL ?_ (aQ 0) (Or.inl rfl) (Or.inr rfl),(by exact(show(["_law_sign","_law_ahead","_law_behind"]:List Str).Nodup from Qd)),fH Qc,4,kA,4,bJ qF ?_ (pv 2),bJ qF (pv 1) (pv 0),aY ?_,bI ?_,kI uC ?_ kD ?_,bJ vM (pv 10) ?_,kJ rfl ?_ (eU ["_law_one"] 1 []) ?_ ?_ ?_ ?_ ?_ ?_ ?_,(by exact⟨rfl,Qd,Qd,(show∀y:Str×NameKind,y∈_->y.2=NameKind.free->(aW iA).names.lookup y.1=some .cell\/(aW iA).names.lookup y.1=some .free from Qd)⟩),Qd,Qc,nZ (pv 10),4,bL ?_ (aQ 0) (Or.inl rfl) (Or.inr rfl),(by exact(show(["_law_one"]:List Str).Nodup from Qd)),fH Qc,4,kA,4,bJ qF (pv 0) cQ,kB (pv 1))
 refine⟨rfl,_,rfl,z,7,rfl,c,Qc,Qc,λ m H1 m0 m1 s1=>?_⟩
 refine⟨_,_,rfl,rfl,_,rfl,Qa,Qa,mG yO (λ i xs H3=>aX z H H3/\∃l:List Nat,xs=(l.map λ c=>tx [c]).map V.str/\l.length=i/\∀c∈l,97<=c/\c<=109) ⟨s1,[],rfl,rfl,Qb⟩ (λ _ _ _ _=>trivial) ?_ ?_⟩
 ·rintro i x xs H3 hx hi ⟨s3,l,rfl,hl,hc⟩
  rw[List.length_map,List.length_range]at hi
  have hi':i<8:=by omega
  refine⟨_,rfl,_,rfl,z,13,rfl,s3.cz,Qc,Qc,λ k H4 k0 k1 s4=>?_⟩
  obtain⟨c1,hc1,mc1⟩:=AQ (xs:=(("abcdefghijklm" :Str)).cps.toList) (i:=k) k0 (by
   have:((("abcdefghijklm" :Str)).cps.toList.length:Int)=13:=by decide+kernel
   rw[this]
   exact k1)
  refine⟨_,_,c1,rfl,rfl,line Qd,hc1,?_,nx (by rw[List.length_map,List.length_range];exact hi) ⟨s3.trans s4,l++[c1],?_,by simp[hl],?_⟩⟩
  ·rw[List.length_map,List.length_map,hl]
   exact cM Qa
  ·rw[List.map_append,List.map_append]
   rfl
  ·intro y hm
   rcases List.mem_append.mp hm with hm|hm
   ·exact hc y hm
   ·simp only[List.mem_cons,List.not_mem_nil,or_false]at hm
    subst hm
    exact AS _ mc1
 ·rintro xs H3 ⟨s3,l,rfl,hl,hc⟩ a ha
  rw[List.length_map,List.length_range]at hl
  have hl1:1<=l.length:=by omega
  have hl7:l.length<=7:=by omega
  have s4:aX z H (aD H3 a (.lst ((l.map λ c=>tx [c]).map V.str))):=s3.trans (aX.of s3.cz (aG.new ha _))
  refine⟨_,a,_,rfl,rfl,aN.of aR,(by rw[Rz,List.length_map,show(("" :Str)).length=0 from Qd];omega),?_⟩
  generalize aD H3 a (.lst ((l.map λ c=>tx [c]).map V.str))=H4 at s4⊢
  generalize hj:Txt.join ("" :Str) (l.map λ c=>tx [c])=wd
  rw[Hk]at hj
  subst hj
  have hw:(tx l).length<=sizeLine:=line (by rw[fM];omega)
  refine⟨_,rfl,_,rfl,_,rfl,hw,z,_,rfl,s4.cz,(by rw[fM];omega),(by rw[fM];omega),λ k H5 k0 k1 s5=>?_⟩
  rw[fM]at k1
  refine⟨_,rfl,z,26,rfl,s5.cz,Qc,Qc,λ st H6 st0 st1 s6=>?_⟩
  have s06:=(s4.trans s5).trans s6
  refine⟨_,rfl,_,rfl,_,rfl,_,rfl,hw,?_⟩
  generalize ha':Txt.slice (tx l) none (some k)=ahead
  rw[zO k0 Qa]at ha'
  subst ha'
  refine⟨_,rfl,_,rfl,_,_,rfl,rfl,_,rfl,_,rfl,hw,?_⟩
  generalize hb':Txt.slice (tx l) (some (k+1)) none=behind
  rw[zP Qa Qa]at hb'
  subst hb'
  have hz26:(("abcdefghijklmnopqrstuvwxyz" :Str)).length<=sizeLine:=line Qd
  refine⟨_,rfl,_,rfl,_,rfl,_,rfl,hz26,_,rfl,_,rfl,_,rfl,_,rfl,hz26,_,_,rfl,rfl,?_,?_⟩
  ·have h1:=Txt.slice_le ("abcdefghijklmnopqrstuvwxyz" :Str) (some st) none
   have h2:=Txt.slice_le ("abcdefghijklmnopqrstuvwxyz" :Str) none (some st)
   have h3:(("abcdefghijklmnopqrstuvwxyz" :Str)).length=26:=by decide+kernel
   exact line Qa
  generalize ht:Txt.slice ("abcdefghijklmnopqrstuvwxyz" :Str) (some st) none++Txt.slice ("abcdefghijklmnopqrstuvwxyz" :Str) none (some st)=turned
  rw[AM,zP st0 (by show st<=26;omega),zO st0 (by show st<=26;omega),hZ]at ht
  subst ht
  have nodup:=AN st.toNat Qa
  have inaz:∀c∈azl.drop st.toNat++azl.take st.toNat,97<=c/\c<=122:=λ c hc=>by
   rcases List.mem_append.mp hc with h|h
   ·exact Ex c (List.mem_of_mem_drop h)
   ·exact Ex c (List.mem_of_mem_take h)
  have hlen:(azl.drop st.toNat++azl.take st.toNat).length=26:=by
   rw[List.length_append,List.length_drop,List.length_take,show azl.length=26 from Qc]
   omega
  have hA:∀x∈l.take k.toNat,97<=x/\x<=109:=λ x hx=>hc x (List.mem_of_mem_take hx)
  have hB:∀x∈l.drop (k+1).toNat,97<=x/\x<=109:=λ x hx=>hc x (List.mem_of_mem_drop hx)
  have hAB:(l.take k.toNat).length+(l.drop (k+1).toNat).length<=6:=by
   rw[List.length_take,List.length_drop]
   omega
  generalize l.take k.toNat=A' at hA hAB⊢
  generalize l.drop (k+1).toNat=B' at hB hAB⊢
  generalize azl.drop st.toNat++azl.take st.toNat=S at nodup inaz hlen⊢
  refine⟨_,rfl,_,rfl,mG Fx (λ i xs H7=>H7=H6/\xs=(L2.cR A' B' (S.take i)).map V.str) ⟨rfl,rfl⟩ (λ _ _ _ _=>trivial) ?_ ?_⟩
  ·rintro i y xs H7 hy hi ⟨rfl,rfl⟩
   have hi2:=hi
   rw[uG]at hy
   rw[uG,List.length_map]at hi
   rw[List.getElem?_map,List.getElem?_eq_getElem hi]at hy
   obtain rfl:=Option.some.inj hy
   have l1:∀c:Nat,(tx [c]).length=1:=λ c=>fM _
   refine⟨_,rfl,_,rfl,_,_,rfl,rfl,line (by rw[fM,l1];omega),_,rfl,_,_,rfl,rfl,line (by rw[Str.length_append,fM,l1,fM];omega),?_,nx hi2 ⟨rfl,?_⟩⟩
   ·rw[List.length_map]
    unfold L2.cR
    rw[List.length_map,List.length_take]
    exact cM Qa
   ·rw[hZ,hZ,List.append_assoc]
    unfold L2.cR
    rw[List.take_add_one,List.getElem?_eq_getElem hi,List.map_append,List.map_append]
    rfl
  ·rintro xs H7 ⟨rfl,rfl⟩ b hb
   have e7:(jW (tx S)).length=S.length:=by rw[uG,List.length_map]
   rw[e7,List.take_length]
   have e8:aG [] H7 (aD H7 b (.lst ((L2.cR A' B' S).map V.str))):=aG.new hb _
   have s8:aX z H7 (aD H7 b (.lst ((L2.cR A' B' S).map V.str))):=aX.of s06.cz e8
   have f8:aE z.ex (aD H7 b (.lst ((L2.cR A' B' S).map V.str))) (.list ((L2.cR A' B' S).map .str)) (.ref b):=⟨b,_,rfl,s06.cz.free hb,aR,aJ.strs _⟩
   have hb8:(aD H7 b (.lst ((L2.cR A' B' S).map V.str))) b=some (.lst ((L2.cR A' B' S).map V.str)):=aR
   generalize aD H7 b (.lst ((L2.cR A' B' S).map V.str))=H8 at s8 f8 hb8⊢
   have hnl:(L2.cR A' B' S).length=26:=by unfold L2.cR;rw[List.length_map,hlen]
   have hnn:∀x∈L2.cR A' B' S,x.length<=8:=λ x hx=>by
    obtain⟨y,_,rfl⟩:=List.mem_map.mp hx
    rw[fM,List.length_append,List.length_cons]
    omega
   have nd:(L2.cR A' B' S).Nodup:=Bp nodup
   have nms:∀x∈L2.cR A' B' S,nm x=true:=λ x hx=>by
    obtain⟨y,hy,rfl⟩:=List.mem_map.mp hx
    exact Rt Qa hA hB (inaz y hy)
   have ndz:(L2.cR A' B' S++(L2.cR A' B' S).map λ x=>x++("z" :Str)).Nodup:=Rr nodup
   have nmz:∀x∈(L2.cR A' B' S).map (λ x=>x++("z" :Str)),nm x=true:=λ x hx=>by
    obtain⟨y,hy,rfl⟩:=List.mem_map.mp hx
    obtain⟨u,hu,rfl⟩:=List.mem_map.mp hy
    exact Rs Qa hA hB (inaz u hu)
   generalize L2.cR A' B' S=names at hnl hnn nd nms ndz nmz f8 hb8⊢
   refine⟨_,rfl,_,rfl,b,rfl,⟨_,aN.of hb8⟩,mG (pG (ys:=names.map V.str)) (λ i xs H9=>H9=H8/\xs=((names.take i).map λ x=>x++("z" :Str)).map V.str) ⟨rfl,rfl⟩ (λ _ _ _ h=>by rw[h.1];exact aN.of hb8) ?_ ?_⟩
   ·rintro i y xs H9 hy hi ⟨rfl,rfl⟩
    have hi2:=hi
    rw[List.length_map]at hi
    rw[List.getElem?_map,List.getElem?_eq_getElem hi]at hy
    obtain rfl:=Option.some.inj hy
    have hx:=hnn _ (List.getElem_mem hi)
    refine⟨_,rfl,_,_,rfl,rfl,line (by rw[show(("z" :Str)).length=1 from Qd];omega),?_,nx hi2 ⟨rfl,?_⟩⟩
    ·rw[List.length_map,List.length_map,List.length_take]
     exact cM Qa
    ·rw[List.take_add_one,List.getElem?_eq_getElem hi,List.map_append,List.map_append]
     rfl
   ·rintro xs H9 ⟨rfl,rfl⟩ b2 hb2
    rw[List.length_map,List.take_length]
    have s9:aX z H9 (aD H9 b2 (.lst ((names.map λ x=>x++("z" :Str)).map V.str))):=aX.of s8.cz (aG.new hb2 _)
    have f9:aE z.ex (aD H9 b2 (.lst ((names.map λ x=>x++("z" :Str)).map V.str))) (.list ((names.map λ x=>x++("z" :Str)).map .str)) (.ref b2):=⟨b2,_,rfl,s8.cz.free hb2,aR,aJ.strs _⟩
    generalize aD H9 b2 (.lst ((names.map λ x=>x++("z" :Str)).map V.str))=H10 at s9 f9⊢
    refine⟨z,_,_,f8.stp s9,f9,(by simp[hnl]),s9.cz,λ v H11 s11 f11=>?_⟩
    refine⟨_,rfl,_,rfl,z,_,f11,s11.cz,λ v2 H12 s12 f12=>?_⟩
    rw[Xd my0,<-List.map_append,<-List.map_take]at f12
    refine q _ v2 H12 ?_ (ndz.sublist (List.take_sublist _ _)) (λ x hx=>?_) ((((s06.trans s8).trans s9).trans s11).trans s12) f12
    ·rw[List.length_take,List.length_append,List.length_map,hnl]
     omega
    ·rcases List.mem_append.mp (List.mem_of_mem_take hx)with h|h
     ·exact nms x h
     ·exact nmz x h
end
end K14
namespace L2
open PySem PySem.Spec PyProof.Rows
def qK:PyData->Bool
 |.str x=>nm x
 |_=>false
def jI:PyData->Bool
 |.int i=>decide (1<=i)&&decide (i<=99)
 |_=>false
def dR(d:PyData)(lo hi:Int):Bool:=match d with
 |.tuple ds=>decide (lo<=(ds.length:Int))&&decide ((ds.length:Int)<=hi)
 |_=>false
def kS:PyData->Bool
 |.tuple [n,b]=>qK n&&jI b
 |_=>false
def fL(cnt:Int):Int->List PyData->Bool
 |_,[]=>true
 |a,.int i::r=>(decide (a<i)&&decide (i<cnt))&&fL cnt i r
 |_,_::_=>false
def oC:PyData->Int
 |.tuple ds=>ds.length
 |_=>0
def zI(d:PyData)(cnt:Int):Bool:=match d with
 |.tuple ds=>dR d 1 cnt&&fL cnt (-1) ds
 |_=>false
def Eo(d:PyData)(many:Int):Bool:=match d with
 |.tuple ds=>dR d many many&&ds.all jI
 |_=>false
def iH(cnt:Int):PyData->Bool
 |.tuple [n,wy,bs]=>qK n&&(zI wy cnt&&Eo bs (oC wy))
 |_=>false
def kY:PyData->Str
 |.tuple (.str x::_)=>x
 |_=>""
def hV(ds:List PyData):Bool:=decide ((ds.map kY).Nodup)
def oF(d:PyData):Bool:=match d with
 |.tuple ds=>dR d 1 6&&(ds.all kS&&hV ds)
 |_=>false
def vX(d:PyData)(cnt:Int):Bool:=match d with
 |.tuple ds=>dR d 1 6&&(ds.all (iH cnt)&&hV ds)
 |_=>false
def nY:PyData->Bool
 |.tuple [l,k]=>oF l&&vX k (oC l)
 |_=>false
theorem pL{ds:List PyData}{lo hi:Int}(c:dR (.tuple ds) lo hi=true):lo<=(ds.length:Int)/\(ds.length:Int)<=hi:=by
 have c':(decide (lo<=(ds.length:Int))&&decide ((ds.length:Int)<=hi))=true:=c
 rw[Bool.and_eq_true,decide_eq_true_eq,decide_eq_true_eq]at c'
 exact c'
theorem Sq{d:PyData}(h:kS d=true):∃x b,d= .tuple [.str x,.int b]/\nm x=true/\1<=b/\b<=99:=by
 match d,h with
 | .tuple [n,b],h=>
  have h':(qK n&&jI b)=true:=h
  rw[Bool.and_eq_true]at h'
  match n,b,h' with
  |.str x,.int i,h'=>
   have h2:(decide (1<=i)&&decide (i<=99))=true:=h'.2
   rw[Bool.and_eq_true,decide_eq_true_eq,decide_eq_true_eq]at h2
   exact⟨x,i,rfl,h'.1,h2.1,h2.2⟩
structure BQ(ls:List PyData):Prop where
 one:1<=ls.length
 six:ls.length<=6
 all:∀d∈ls,kS d=true
 nd:(ls.map kY).Nodup
theorem Vh{ls:List PyData}(h:oF (.tuple ls)=true):BQ ls:=by
 have h':(dR (.tuple ls) 1 6&&(ls.all kS&&hV ls))=true:=h
 rw[Bool.and_eq_true,Bool.and_eq_true]at h'
 have t:=pL h'.1
 exact⟨Qa,Qa,List.all_eq_true.mp h'.2.1,of_decide_eq_true h'.2.2⟩
theorem zC{cnt:Int}:∀{ws:List PyData} {a:Int},fL cnt a ws=true->∀d∈ws,∃i,d= .int i/\a<i/\i<cnt
 |[],_,_=>by simp
 | .int j::r,a,h=>by
  have h':((decide (a<j)&&decide (j<cnt))&&fL cnt j r)=true:=h
  rw[Bool.and_eq_true,Bool.and_eq_true,decide_eq_true_eq,decide_eq_true_eq]at h'
  intro d hd
  rcases List.mem_cons.mp hd with rfl|hd
  ·exact⟨j,rfl,h'.1.1,h'.1.2⟩
  ·obtain⟨i,rfl,h1,h2⟩:=zC h'.2 d hd
   exact⟨i,rfl,Qa,h2⟩
structure BR(n:Int)(x:Str)(ws bs:List PyData):Prop where
 nmx:nm x=true
 one:1<=ws.length
 most:(ws.length:Int)<=n
 way:fL n (-1) ws=true
 len:bs.length=ws.length
 bds:∀d∈bs,jI d=true
theorem Sy{n:Int}{d:PyData}(h:iH n d=true):∃x ws bs,d= .tuple [.str x,.tuple ws,.tuple bs]/\BR n x ws bs:=by
 match d,h with
 | .tuple [nm1,w,b],h=>
  have h':(qK nm1&&(zI w n&&Eo b (oC w)))=true:=h
  rw[Bool.and_eq_true,Bool.and_eq_true]at h'
  match nm1,w,b,h' with
  |.str x,.tuple ws,.tuple bs,h'=>
   have h1:(dR (.tuple ws) 1 n&&fL n (-1) ws)=true:=h'.2.1
   have h2:(dR (.tuple bs) (ws.length:Nat) (ws.length:Nat)&&bs.all jI)=true:=h'.2.2
   rw[Bool.and_eq_true]at h1 h2
   have t1:=pL h1.1
   have t2:=pL h2.1
   exact⟨x,ws,bs,rfl,⟨h'.1,Qa,t1.2,h1.2,Qa,List.all_eq_true.mp h2.2⟩⟩
structure BP(ls ks:List PyData):Prop where
 lanes:oF (.tuple ls)=true
 one:1<=ks.length
 six:ks.length<=6
 all:∀d∈ks,iH (ls.length:Nat) d=true
theorem Nn{d:PyData}(h:nY d=true):∃ls ks,d= .tuple [.tuple ls,.tuple ks]/\BP ls ks:=by
 match d,h with
 | .tuple [l,k],h=>
  have h':(oF l&&vX k (oC l))=true:=h
  rw[Bool.and_eq_true]at h'
  match l,k,h' with
  |.tuple ls,.tuple ks,h'=>
   have h2:(dR (.tuple ks) 1 6&&(ks.all (iH (ls.length:Nat))&&hV ks))=true:=h'.2
   rw[Bool.and_eq_true,Bool.and_eq_true]at h2
   have t:=pL h2.1
   exact⟨ls,ks,rfl,h'.1,Qa,Qa,List.all_eq_true.mp h2.2.1⟩
theorem Sw{d:PyData}{ls ks:List PyData}(h:nY (.tuple [.tuple ls,.tuple ks])=true):(ks.map kY).Nodup:=by
 have h':(oF (.tuple ls)&&vX (.tuple ks) (oC (.tuple ls)))=true:=h
 rw[Bool.and_eq_true]at h'
 have h2:(dR (.tuple ks) 1 6&&(ks.all (iH (ls.length:Nat))&&hV ks))=true:=h'.2
 rw[Bool.and_eq_true,Bool.and_eq_true]at h2
 exact of_decide_eq_true h2.2.2
theorem Tu{c:Nat}(h:inL ⟨#[c]⟩=true):c<1114112:=by
 unfold inL at h
 rw[PySem.StrLaws.found_one]at h
 have h1:c∈az.cps.toList:=of_decide_eq_true h
 have h2:∀x∈az.cps.toList,x<1114112:=by decide+kernel
 exact h2 c h1
theorem iG{x:Str}(h:nm x=true):PySem.PyData.strOk x=true/\x.length<=8:=by
 unfold nm at h
 split at h
 ·cases h
 ·rw[Bool.and_eq_true,Bool.and_eq_true,decide_eq_true_eq,decide_eq_true_eq]at h
  refine⟨?_,Qa⟩
  unfold PySem.PyData.strOk
  rw[Array.all_eq_true']
  intro c hc
  have:=List.all_eq_true.mp h.2.2 ⟨#[c]⟩ (List.mem_map.mpr ⟨c,Array.mem_toList_iff.mpr hc,rfl⟩)
  exact decide_eq_true (Tu this)
def Sh(n:Nat)(d:PyData):Prop:=d.canLay0=true/\d.depth<=n
theorem Sh.more{n m:Nat}{d:PyData}(h:Sh n d)(k:n<=m):Sh m d:=⟨h.1,Nat.le_trans h.2 k⟩
theorem uE{n:Nat}:∀{ds:List PyData},(∀d∈ds,Sh n d)->PyData.canLayAll0 ds=true/\PyData.depthAll ds<=n
 |[],_=>⟨rfl,Nat.zero_le _⟩
 | d::ds,h=>by
  obtain⟨a,b⟩:=h d List.mem_cons_self
  obtain⟨c,e⟩:=uE λ x hx=>h x (List.mem_cons_of_mem _ hx)
  refine⟨?_,?_⟩
  ·show(d.canLay0&&PyData.canLayAll0 ds)=true
   rw[a,c]
   rfl
  ·show max d.depth (PyData.depthAll ds)<=n
   omega
theorem Sh.tup{n:Nat}{ds:List PyData}(h:∀d∈ds,Sh n d):Sh (n+1) (.tuple ds):=by
 obtain⟨a,b⟩:=uE h
 exact⟨a,by show PyData.depthAll ds+1<=n+1;omega⟩
theorem Sh.lst{n:Nat}{ds:List PyData}(h:∀d∈ds,Sh n d):Sh (n+1) (.list ds):=by
 obtain⟨a,b⟩:=uE h
 exact⟨a,by show PyData.depthAll ds+1<=n+1;omega⟩
theorem Sh.shaped{n:Nat}{d:PyData}(h:Sh n d)(k:n<=64:=by decide):SeqAt.shaped d=true:=by
 unfold SeqAt.shaped
 rw[h.1,decide_eq_true (Nat.le_trans h.2 k)]
 rfl
theorem Sh.refl{n:Nat}{d:PyData}(h:Sh n d):PyData.eqv d d=true:=SeqAt.eqv_refl d h.1
theorem pV(i:Int):Sh 0 (.int i):=⟨rfl,Nat.le_refl _⟩
theorem uD(b:Bool):Sh 0 (.bool b):=⟨rfl,Nat.le_refl _⟩
theorem lS{x:Str}(h:nm x=true):Sh 0 (.str x):=⟨(iG h).1,Nat.le_refl _⟩
structure dP(p:Pl):Prop where
 l1:1<=p.ls.length
 l6:p.ls.length<=6
 k1:1<=p.ks.length
 k6:p.ks.length<=6
 ln:∀l∈p.ls,nm l.1=true/\1<=l.2/\l.2<=99
 lnd:(p.ls.map (·.1)).Nodup
 kn:∀k∈p.ks,nm k.nm=true/\1<=k.way.length/\k.way.length<=p.ls.length/\k.way.Pairwise (· < ·)/\(∀i∈k.way,0<=i/\i<p.n)/\k.bds.length=k.way.length/\∀b∈k.bds,1<=b/\b<=99
 knd:(p.ks.map (·.nm)).Nodup
theorem rP{α:Type}{f:α->PyData}{P:α->Prop}:∀{ds:List PyData},(∀d∈ds,∃a,d=f a/\P a)->∃l:List α,ds=l.map f/\∀a∈l,P a
 |[],_=>⟨[],rfl,λ _ z=>nomatch z⟩
 |d::ds,h=>by
  obtain⟨l,rfl,hl⟩:=rP (ds:=ds) λ x hx=>h x (List.mem_cons_of_mem _ hx)
  obtain⟨a,rfl,ha⟩:=h d List.mem_cons_self
  refine⟨a::l,rfl,λ x hx=>?_⟩
  rcases List.mem_cons.mp hx with rfl|hx
  ·exact ha
  ·exact hl x hx
theorem zH{n:Int}:∀{ws:List PyData} {a:Int},fL n a ws=true->∃w:List Int,ws=w.map .int/\w.Pairwise (· < ·)/\∀i∈w,a<i/\i<n
 |[],a,_=>⟨[],rfl,.nil,λ _ z=>nomatch z⟩
 | d::ws,a,h=>by
  obtain⟨i,rfl,h1,h2⟩:=zC h d List.mem_cons_self
  have h3:fL n i ws=true:=by
   have h':((decide (a<i)&&decide (i<n))&&fL n i ws)=true:=h
   rw[Bool.and_eq_true]at h'
   exact h'.2
  obtain⟨w,rfl,hp,hw⟩:=zH h3
  refine⟨i::w,rfl,List.pairwise_cons.mpr ⟨λ x hx=>(hw x hx).1,hp⟩,λ x hx=>?_⟩
  rcases List.mem_cons.mp hx with rfl|hx
  ·exact⟨h1,h2⟩
  ·have:=hw x hx
   omega
theorem AD:∀{bs:List PyData},(∀d∈bs,jI d=true)->∃b:List Int,bs=b.map .int/\∀i∈b,1<=i/\i<=99:=fun{bs} h=>rP λ d hd=>by
 have:=h d hd
 match d,this with
 |.int i,z=>
  have z':(decide (1<=i)&&decide (i<=99))=true:=z
  rw[Bool.and_eq_true,decide_eq_true_eq,decide_eq_true_eq]at z'
  exact⟨i,rfl,z'⟩
theorem Nl{d:PyData}(h:nY d=true):∃p:Pl,d=p.d/\dP p:=by
 obtain⟨ls,ks,rfl,g⟩:=Nn h
 have gl:=Vh g.lanes
 have kd:=Sw (d:=.tuple []) h
 obtain⟨l,rfl,hl⟩:=rP (f:=qS) (P:=λ l=>nm l.1=true/\1<=l.2/\l.2<=99) (λ d hd=>by
  obtain⟨x,b,rfl,h1⟩:=Sq (gl.all d hd)
  exact⟨(x,b),rfl,h1⟩)
 have hll:(l.map qS).length=l.length:=List.length_map ..
 obtain⟨k,rfl,hk⟩:=rP (f:=Kd.d) (ds:=ks) (P:=λ k=>nm k.nm=true/\1<=k.way.length/\k.way.length<=l.length/\k.way.Pairwise (· < ·)/\(∀i∈k.way,0<=i/\i<(l.length:Int))/\k.bds.length=k.way.length/\∀b∈k.bds,1<=b/\b<=99) (λ d hd=>by
  obtain⟨x,ws,bs,rfl,gk⟩:=Sy (g.all d hd)
  rw[hll]at gk
  obtain⟨w,rfl,hp,hw⟩:=zH gk.way
  obtain⟨b,rfl,hb⟩:=AD gk.bds
  have e1:=gk.one
  have e2:=gk.most
  have e3:=gk.len
  rw[List.length_map]at e1 e2 e3
  rw[List.length_map]at e3
  exact⟨⟨x,w,b⟩,rfl,gk.nmx,e1,(by show w.length<=l.length;omega),hp,λ i hi=>by have:=hw i hi;omega,e3,hb⟩)
 refine⟨⟨l,k⟩,rfl,by have:=gl.one;rw[hll]at this;exact this,by have:=gl.six;rw[hll]at this;exact this,by have:=g.one;rw[List.length_map]at this;exact this,by have:=g.six;rw[List.length_map]at this;exact this,hl,?_,hk,?_⟩
 ·have:=gl.nd
  rw[List.map_map]at this
  exact this
 ·rw[List.map_map]at kd
  exact kd
theorem fZ{x:Str}(h:nm x=true):x.length<=1000:=Nat.le_trans (iG h).2 Qc
theorem dP.ok{p:Pl}(g:dP p):jN p where
 nl:=Nat.le_trans g.l6 Qc
 nk:=Nat.le_trans g.k6 Qc
 ln:=λ l hl=>fZ (g.ln l hl).1
 kw:=λ k hk=>by
  obtain⟨h1,h2,h3,h4,h5,h6,h7⟩:=g.kn k hk
  exact⟨by have:=g.l6;omega,h6,fZ h1,h5⟩
def tL:Sp:=λ vs H Q _=>∃z:Zn,vs=[.ref z.p]/\Cz z H/\∀(p:Pl) (v:V) (H':Hp),dP p->aX z H H'->aE z.ex H' p.d v->Q v H'
end L2
namespace K14
open PySem PySem.Spec L2 PyProof.Rows
theorem Kz(w:List Int):SeqAt.shaped (.list (w.map .int))=true:=by
 have h1:PyData.canLayAll0 (w.map .int)=true:=by
  induction w with
  |nil=>rfl
  |cons x r ih=>
   rw[List.map_cons]
   show(PyData.canLay0 (.int x)&&PyData.canLayAll0 (r.map .int))=true
   rw[ih]
   rfl
 have h2:PyData.depthAll (w.map .int)=0:=by
  induction w with
  |nil=>rfl
  | cons x r ih=>
   rw[List.map_cons]
   show max (PyData.depth (.int x)) (PyData.depthAll (r.map .int))=0
   rw[ih]
   ·rfl
   ·have h1':(PyData.canLay0 (.int x)&&PyData.canLayAll0 (r.map .int))=true:=h1
    exact(Bool.and_eq_true_iff.mp h1').2
 show(PyData.canLayAll0 (w.map .int)&&decide (PyData.depthAll (w.map .int)+1<=64))=true
 rw[h1,h2]
 rfl
theorem Vz(w:List Int):PyData.eqv (.list (w.map .int)) (.list [])=w.isEmpty:=by
 cases w<;>rfl
theorem yZ{n:Int}:∀{w:List Int} {a:Int},w.Pairwise (· < ·)->(∀x∈w,a<x/\x<n)->fL n a (w.map .int)=true
 |[],_,_,_=>rfl
 |x::r,a,hp,hb=>by
  have h1:=hb x List.mem_cons_self
  rw[List.map_cons]
  show((decide (a<x)&&decide (x<n))&&fL n x (r.map .int))=true
  rw[decide_eq_true h1.1,decide_eq_true h1.2,yZ (w:=r) (a:=x) (List.pairwise_cons.mp hp).2 λ y hy=>⟨(List.pairwise_cons.mp hp).1 y hy,(hb y (List.mem_cons_of_mem _ hy)).2⟩]
  rfl
theorem AC{bs:List Int}(h:∀x∈bs,1<=x/\x<=99):(bs.map PyData.int).all jI=true:=by
 rw[List.all_eq_true]
 intro d hd
 obtain⟨x,hx,rfl⟩:=List.mem_map.mp hd
 have:=h x hx
 show(decide _&&decide _)=true
 rw[decide_eq_true this.1,decide_eq_true this.2]
 rfl
theorem Sx{n:Nat}{x:Str}{w bs:List Int}(hx:nm x=true)(h0:w≠[])(hn:w.length<=n)(hp:w.Pairwise (· < ·))(hb:∀x∈w,0<=x/\x<(n:Int))(hl:bs.length=w.length)(hbb:∀x∈bs,1<=x/\x<=99):iH n (.tuple [.str x,.tuple (w.map .int),.tuple (bs.map .int)])=true:=by
 have l0:1<=w.length:=by cases w with|nil=>exact absurd rfl h0|cons _ _=>simp
 show(nm x&&((dR (.tuple (w.map .int)) 1 n&&fL n (-1) (w.map .int))&&(dR (.tuple (bs.map .int)) ((w.map PyData.int).length:Nat) ((w.map PyData.int).length:Nat)&&(bs.map PyData.int).all jI)))=true
 have t1:dR (.tuple (w.map .int)) 1 n=true:=by
  show(decide ((1:Int)<=((w.map PyData.int).length:Nat))&&decide ((((w.map PyData.int).length:Nat):Int)<=n))=true
  rw[List.length_map,decide_eq_true Qa,decide_eq_true Qa]
  rfl
 have t2:dR (.tuple (bs.map .int)) ((w.map PyData.int).length:Nat) ((w.map PyData.int).length:Nat)=true:=by
  show(decide ((((w.map PyData.int).length:Nat):Int)<=((bs.map PyData.int).length:Nat))&&decide ((((bs.map PyData.int).length:Nat):Int)<=((w.map PyData.int).length:Nat)))=true
  rw[List.length_map,List.length_map,hl,decide_eq_true Qa]
  rfl
 rw[hx,t1,t2,yZ hp (λ y hy=>⟨by have:=hb y hy;omega,(hb y hy).2⟩),AC hbb]
 rfl
theorem Nm{ls ks:List PyData}(l1:1<=ls.length)(l6:ls.length<=6)(k1:1<=ks.length)(k6:ks.length<=6)(hl:∀d∈ls,kS d=true)(hk:∀d∈ks,iH (ls.length:Nat) d=true)(nl:(ls.map kY).Nodup)(nk:(ks.map kY).Nodup):nY (.tuple [.tuple ls,.tuple ks])=true:=by
 show((dR (.tuple ls) 1 6&&(ls.all kS&&hV ls))&&(dR (.tuple ks) 1 6&&(ks.all (iH (ls.length:Nat))&&hV ks)))=true
 have t:∀{ds:List PyData},1<=ds.length->ds.length<=6->dR (.tuple ds) 1 6=true:=fun{ds} h1 h2=>by
  show(decide ((1:Int)<=(ds.length:Nat))&&decide (((ds.length:Nat):Int)<=6))=true
  rw[decide_eq_true Qa,decide_eq_true Qa]
  rfl
 rw[t l1 l6,t k1 k6,List.all_eq_true.mpr hl,List.all_eq_true.mpr hk,show hV ls=true from decide_eq_true nl,show hV ks=true from decide_eq_true nk]
 rfl
section
variable{P:Program}{w:World}{K:PySem.W.Frag}{mg:Str->Option Value}{base:Heap}
abbrev jX:Stmt:=top 28
theorem sc__law_plan:bW ["_law_held","_law_names","_law_lanes","_law_k","_law_shift","_law_kinds","_law_way","_law_bounds"] ["_law_held"] (aW jX):=⟨rfl,rfl,rfl,Qd,rfl,Qd,Qd⟩
theorem Pf{f:Addr}{fd:FuncData}(F:bR K "_law_plan" "_law_plan" jX f fd)(T:Txt K mg)(bS:bF P w K mg base "_law_take" 1 ["_law_held","_law_many"] jV)(iQ:bF P w K mg base "_law_words" 2 ["_law_held","_law_many"] nL)(lL:bF P w K mg base "_law_bound" 2 ["_law_held"] pT):bE P w K mg base bP 3 f fd ["_law_held"] tL:=by
 refine F.ok sc__law_plan (λ vs H Q E h=>?_) (λ cdv A outer s H vs Q E hr h=>?_)
 ·obtain⟨z,rfl,_⟩:=h
  rfl
 obtain⟨z,rfl,c,q⟩:=h
 have hu:=hr.units
 refine'⟨_,?hh,?rr⟩
 case hh=>(exists aT ?_ ?_,bH sc__law_plan.nd (aQ 1) (Or.inl rfl) ?_,bD iQ hr ?_ rfl ?_,aA (pv 0) ?_,aA aL aI,Qc,aT ?_ ?_,bH sc__law_plan.nd (aQ 2) (Or.inl rfl) ?_,gO aI,aT ?_ ?_,fW PassesOwn.never rfl ?_ ?_ ?_,jA rfl T.b_range ?_,aA ?_ aI,bJ dY aL ?_,bD bS hr ?_ rfl ?_,aA (pv 0) ?_,aA aL aI,Qc,bL sc__law_plan.nd (aQ 3) (Or.inl rfl) (Or.inl rfl),aY ?_,iZ ?_,jB PySem.F.plainAttrs_list PySem.F.slot_list_append PySem.F.type_list_append qN (pv 2) ?_,aA ?_ aI,iD ?_,aA ?_ ?_,aV cB (pv 1) (pv 3) (λ _ _=>rfl),aA ?_ aI,bD lL hr ?_ rfl ?_,aA (pv 0) aI,Qc,aT ?_ ?_,bH sc__law_plan.nd (aQ 4) (Or.inl rfl) ?_,bD bS hr ?_ rfl ?_,aA (pv 0) ?_,aA aL aI,Qc,aT ?_ ?_,bH sc__law_plan.nd (aQ 5) (Or.inl rfl) ?_,gO aI,aT ?_ ?_,fW PassesOwn.never rfl ?_ ?_ ?_,jA rfl T.b_range ?_,aA ?_ aI,bJ dY aL ?_,bD bS hr ?_ rfl ?_,aA (pv 0) ?_,aA aL aI,Qc,bL sc__law_plan.nd (aQ 3) (Or.inl rfl) (Or.inl rfl),aT ?_ ?_,lX sc__law_plan.nd (aQ 6) (Or.inl rfl) rfl ?_ (eU ["_law_lane_here","_law_held"] 1 [0]) ?_ ?_ ?_ ?_ ?_ ?_ ?_,(by exact⟨rfl,Qd,Qd,(show∀y:Str×NameKind,y∈_->y.2=NameKind.free->(aW jX).names.lookup y.1=some .cell\/(aW jX).names.lookup y.1=some .free from Qd)⟩),Qd,Qc,jA rfl T.b_range ?_,aA ?_ aI,bG cU rfl T.b_len PySem.boot_len ?_,aA (pv 2) aI,4,bL ?_ (aQ 0) (Or.inl rfl) (Or.inr rfl),(by exact(show(["_law_lane_here","_law_held"]:List Str).Nodup from Qd)),fH Qc,4,jZ ?_,bY Bi ?_ aL (bO _),bD bS hr ?_ rfl ?_,aA (pv 1) ?_,aA aL aI,Qc,4,(pv 0),aT ?_ ?_,cG ?_ ?_ cF,bY (qD hu) (pv 6) ?_ (bO _),iE aI,aY ?_,bH sc__law_plan.nd (aQ 6) (Or.inl rfl) ?_,iE ?_,aA ?_ aI,bD bS hr ?_ rfl ?_,aA (pv 0) ?_,aA ?_ aI,bG cU rfl T.b_len PySem.boot_len ?_,aA (pv 2) aI,Qc,aT ?_ ?_,bH sc__law_plan.nd (aQ 7) (Or.inl rfl) ?_,fF rL rfl T.b_tuple eX ?_,aA ?_ aI,kJ rfl ?_ (eU ["_law_lane_here","_law_held"] 1 [0]) ?_ ?_ ?_ ?_ ?_ ?_ ?_,(by exact⟨rfl,Qd,Qd,(show∀y:Str×NameKind,y∈_->y.2=NameKind.free->(aW jX).names.lookup y.1=some .cell\/(aW jX).names.lookup y.1=some .free from Qd)⟩),Qd,Qc,nZ (pv 6),4,bL ?_ (aQ 0) (Or.inl rfl) (Or.inr rfl),(by exact(show(["_law_lane_here","_law_held"]:List Str).Nodup from Qd)),fH Qc,4,kA,4,bD lL hr ?_ rfl ?_,aA (pv 1) aI,Qc,aY ?_,iZ ?_,jB PySem.F.plainAttrs_list PySem.F.slot_list_append PySem.F.type_list_append qN (pv 5) ?_,aA ?_ aI,iD ?_,aA ?_ ?_,aV cB (pv 1) ?_ (λ _ _=>rfl),bJ dY (pv 3) (pv 4),aA ?_ ?_,fF rL rfl T.b_tuple eX ?_,aA (pv 6) aI,aA (pv 7) aI,aY ?_,bI ?_,iD ?_,aA ?_ ?_,fF lB rfl T.b_tuple eX ?_,aA (pv 2) aI,aA ?_ aI,fF lB rfl T.b_tuple eX ?_,aA (pv 5) aI)
 refine⟨_,rfl,z,12,rfl,Qc,Qc,c,λ ns v1 H1 hn' hnd hm s1 f1=>?_⟩
 have hn:ns.length=12:=by omega
 refine⟨(by show 0<=sizeLine;decide),λ l hl=>?_⟩
 have lp:l≠z.p:=λ e=>by
  obtain⟨n,h⟩:=s1.cz.held
  rw[e,h]at hl
  cases hl
 have nlp:l∉[z.p]:=λ h=>lp (List.mem_singleton.mp h)
 have a2:cN z l H1 (aD H1 l (.lst [])):=cN.new s1.cz hl
 have hl2:(aD H1 l (.lst [])) l=some (.lst []):=aR
 have f1':aE (z.with l).ex H1 (.list (ns.map .str)) v1:=aE.more hl f1
 generalize aD H1 l (.lst [])=H2 at a2 hl2⊢
 refine⟨_,rfl,z.with l,6,rfl,a2.cz,Qc,Qc,λ m H3 m0 m1 s3=>?_⟩
 have a3:=a2.stp s3
 have hl3:=s3.ext.lst nlp hl2
 refine⟨_,_,rfl,rfl,_,rfl,Qa,Qa,kX (n:=(1+m).toNat) (λ i σ H4=>∃(ls:List PyData) (xs:List V) (kk:Option V),σ=[some (V.ref z.p),some v1,some (V.ref l),kk,none,none,none,none]/\cN z l H1 H4/\H4 l=some (.lst xs)/\aJ (z.with l).ex H4 ls xs/\ls.length=i/\(∀d∈ls,kS d=true)/\ls.map kY=ns.take i)
  ⟨[],[],_,rfl,a3,hl3,rfl,rfl,Qb,rfl⟩ ?_ ?_⟩
 ·rintro i σ H4 hi ⟨ls,xs,kk,rfl,a4,hx,hds,hll,hla,hfi⟩
  have hin:i<ns.length:=by omega
  refine⟨_,rfl,.inl ⟨rfl,xs,aN.of hx⟩,?_⟩
  refine⟨_,rfl,_,rfl,z.with l,_,_,.str ns[i],.inr (f1'.stl a4),rfl,Qa,?_,λ vn fvn=>?_⟩
  ·rw[show((0:Int)+(i:Nat)).toNat=i from Qa,List.getElem?_map,List.getElem?_eq_getElem hin]
   rfl
  refine⟨_,rfl,z.with l,rfl,a4.cz,λ b H5 b1 b2 s5=>?_⟩
  refine⟨z.with l,[.str ns[i],.int b],⟨_,_,rfl,fvn.stp s5,_,_,rfl,rfl,rfl⟩,(by show 2<=1000;decide),s5.cz,λ v6 H6 s6 f6=>?_⟩
  have s56:=s5.trans s6
  refine⟨l,xs,v6,rfl,rfl,s56.ext.lst nlp hx,?_,?_⟩
  ·rw[hds.length,hll]
   exact cM Qa
  refine⟨ls++[.tuple [.str ns[i],.int b]],xs++[v6],_,rfl,(a4.stp s56).put lp,aR,?_,by rw[List.length_append,hll];rfl,?_,?_⟩
  ·exact pY List.mem_cons_self (aJ.append (hds.stp s56) ⟨v6,_,rfl,f6,rfl⟩)
  ·intro d hd
   rcases List.mem_append.mp hd with h|h
   ·exact hla d h
   ·rw[List.mem_singleton.mp h]
    show(nm ns[i]&&(decide (1<=b)&&decide (b<=99)))=true
    rw[hm _ (List.getElem_mem hin),decide_eq_true b1,decide_eq_true b2]
    rfl
  ·rw[List.map_append,hfi,List.take_add_one,List.getElem?_eq_getElem hin]
   rfl
 rintro σ H4 ⟨ls,xs,kk,rfl,a4,hx,hds,hll,hla,hfi⟩
 have hl1:1<=ls.length:=by omega
 have hl6:ls.length<=6:=by omega
 refine⟨_,rfl,z.with l,7,rfl,a4.cz,Qc,Qc,λ sh H5 sh0 sh1 s5=>?_⟩
 have a5:=a4.stp s5
 have hx5:=s5.ext.lst nlp hx
 have hds5:=hds.stp s5
 refine⟨(by show 0<=sizeLine;decide),λ l2 hl2=>?_⟩
 have l2p:l2≠(z.with l).p:=λ e=>by
  obtain⟨n,h⟩:=s5.cz.held
  rw[e,h]at hl2
  cases hl2
 have nl2p:l2∉[((z.with l).with l2).p]:=λ h=>l2p (List.mem_singleton.mp h)
 have ll2:l≠l2:=λ e=>by
  rw[<-e,hx5]at hl2
  cases hl2
 have nll:l∉[l2,(z.with l).p]:=λ h=>by
  rcases List.mem_cons.mp h with h|h
  ·exact ll2 h
  ·exact lp (List.mem_singleton.mp h)
 have a6:cN (z.with l) l2 H5 (aD H5 l2 (.lst [])):=cN.new s5.cz hl2
 have hl6':(aD H5 l2 (.lst [])) l2=some (.lst []):=aR
 have fn:aE ((z.with l).with l2).ex H5 (.list (ns.map .str)) v1:=aE.more hl2 (f1'.stl a5)
 have hdsb:aJ ((z.with l).with l2).ex H5 ls xs:=aJ.more hl2 hds5
 generalize aD H5 l2 (.lst [])=H6 at a6 hl6'⊢
 refine⟨_,rfl,(z.with l).with l2,6,rfl,a6.cz,Qc,Qc,λ m2 H7 m20 m21 s7=>?_⟩
 have a7':=a6.stp s7
 have hl7:=s7.ext.lst nl2p hl6'
 refine⟨_,_,rfl,rfl,_,rfl,Qa,Qa,kX (n:=(1+m2).toNat) (λ i σ H8=>∃(ks:List PyData) (ys:List V) (kk wy bd:Option V),σ=[some (V.ref z.p),some v1,some (V.ref l),kk,some (V.int sh),some (V.ref l2),wy,bd]/\cN (z.with l) l2 H5 H8/\H8 l2=some (.lst ys)/\aJ ((z.with l).with l2).ex H8 ks ys/\ks.length=i/\(∀d∈ks,iH (ls.length:Nat) d=true)/\ks.map kY=(ns.drop sh.toNat).take i)
  ⟨[],[],_,_,_,rfl,a7',hl7,rfl,rfl,Qb,rfl⟩ ?_ ?_⟩
 ·rintro i σ H8 hi ⟨ks,ys,kk,wy,bd,rfl,a7,hy,hky,hkl,hkk,hkf⟩
  have hi6:i<6:=by omega
  have hx8:H8 l=some (.lst xs):=a7.ext.lst nll hx5
  have exs:=hds.length
  refine zU λ R2 h2=>?_
  refine⟨_,rfl,l,xs,rfl,.inl (aN.of hx8),_,rfl,Qa,Qa,?_⟩
  refine kR yO (λ j us H9=>aX ((z.with l).with l2) H8 H9/\∃w:List Int,us=w.map V.int/\w.length<=j/\w.Pairwise (· < ·)/\∀x∈w,0<=x/\x<(j:Nat)) ⟨aX.refl a7.cz,[],rfl,Qb,List.Pairwise.nil,Qb⟩ (λ _ _ _ _=>trivial) ?_ ?_
  ·rintro j x us H9 hx9 hj ⟨s9,w,rfl,hwl,hwp,hwb⟩
   have hj2:=hj
   rw[List.length_map,List.length_range]at hj
   rw[List.getElem?_map,List.getElem?_range hj]at hx9
   obtain rfl:=Option.some.inj hx9
   refine⟨_,rfl,(z.with l).with l2,3,rfl,s9.cz,Qc,Qc,λ t H10 t0 t1 s10=>?_⟩
   refine⟨_,_,rfl,rfl,_,rfl,?_⟩
   refine bU (λ c1=>?_) (λ c1=>?_)
   ·refine⟨_,rfl,?_,nx hj2 ⟨s9.trans s10,w++[(0:Int)+(j:Nat)],by rw[List.map_append];rfl,by simp;omega,?_,?_⟩⟩
    ·rw[List.length_map]
     exact cM Qa
    ·rw[List.pairwise_append]
     refine⟨hwp,Qb,λ a ha b hb=>?_⟩
     rw[List.mem_singleton.mp hb]
     have:=hwb a ha
     omega
    ·intro x hx
     rcases List.mem_append.mp hx with h|h
     ·have:=hwb x h
      omega
     ·rw[List.mem_singleton.mp h]
      omega
   ·exact nx hj2 ⟨s9.trans s10,w,rfl,Qa,hwp,λ x hx=>by have:=hwb x hx;omega⟩
  rintro us H9 ⟨s9,w,rfl,hwl,hwp,hwb⟩ a ha
  rw[List.length_map,List.length_range]at hwl hwb
  have hwn:w.length<=ls.length:=by omega
  replace hwb:∀x∈w,0<=x/\x<(ls.length:Nat):=λ x hx=>by have:=hwb x hx;omega
  have s10:aX ((z.with l).with l2) H9 (aD H9 a (.lst (w.map V.int))):=aX.of s9.cz (aG.new ha _)
  have f10:aE ((z.with l).with l2).ex (aD H9 a (.lst (w.map V.int))) (.list (w.map .int)) (.ref a):=⟨a,_,rfl,s9.cz.free ha,aR,aJ.ints _⟩
  generalize aD H9 a (.lst (w.map V.int))=H10 at s10 f10⊢
  refine h2 _ _ (zU λ R3 h3=>?_)
  have tail:∀(Hw:Hp) (vw:V) (w:List Int),aX ((z.with l).with l2) H8 Hw->aE ((z.with l).with l2).ex Hw (.list (w.map .int)) vw->w≠[]->w.length<=ls.length->w.Pairwise (· < ·)->(∀x∈w,0<=x/\x<(ls.length:Nat))->R3 (([some (V.ref z.p),some v1,some (V.ref l),kk,some (V.int sh),some (V.ref l2),wy,bd].set 3 (some (V.int (0+(i:Nat))))).set 6 (some vw)) Hw:=by
   clear f10 s10 s9 hwb hwp hwn ha
   intro Hw vw w sw fw hw0 hwn hwp hwb
   refine h3 _ _ ?_
   obtain⟨b,xw,rfl,nb,hb,hxw⟩:=fw
   obtain rfl:=aJ.ints_of hxw
   have nbp:b∉[z.p]:=λ h=>nb (by rw[List.mem_singleton.mp h];exact sw.cz.mem)
   refine⟨_,rfl,b,rfl,⟨_,aN.of hb⟩,mG (pG (ys:=w.map V.int)) (λ j xs H9=>aX ((z.with l).with l2) Hw H9/\∃bs:List Int,xs=bs.map V.int/\bs.length=j/\∀x∈bs,1<=x/\x<=99) ⟨aX.refl sw.cz,[],rfl,rfl,Qb⟩ (λ _ _ _ h=>aN.of (h.1.ext.lst nbp hb)) ?_ ?_⟩
   ·rintro j x xs H9 hx hj ⟨s9,bs,rfl,hbl,hbb⟩
    refine⟨_,rfl,(z.with l).with l2,rfl,s9.cz,λ t H10 t1 t2 s10=>?_⟩
    rw[List.length_map]at hj
    refine⟨?_,nx (by rw[List.length_map];exact hj) ⟨s9.trans s10,bs++[t],by rw[List.map_append];rfl,by simp[hbl],λ x hx=>?_⟩⟩
    ·rw[List.length_map,hbl]
     exact cM Qa
    ·rcases List.mem_append.mp hx with h|h
     ·exact hbb x h
     ·rw[List.mem_singleton.mp h]
      exact⟨t1,t2⟩
   rintro xs H9 ⟨s9,bs,rfl,hbl,hbb⟩ a3 ha3
   rw[List.length_map]at hbl
   have s10:aX ((z.with l).with l2) H9 (aD H9 a3 (.lst (bs.map V.int))):=aX.of s9.cz (aG.new ha3 _)
   have f10:aE ((z.with l).with l2).ex (aD H9 a3 (.lst (bs.map V.int))) (.list (bs.map .int)) (.ref a3):=⟨a3,_,rfl,s9.cz.free ha3,aR,aJ.ints _⟩
   generalize aD H9 a3 (.lst (bs.map V.int))=H10 at s10 f10⊢
   refine⟨(z.with l).with l2,_,_,rfl,f10,s10.cz,λ vb H11 s11 fb=>?_⟩
   have fw2:aE ((z.with l).with l2).ex Hw (.list (w.map .int)) (.ref b):=⟨b,_,rfl,nb,hb,aJ.ints _⟩
   have sA:=(s9.trans s10).trans s11
   have hx11:H11 l2=some (.lst ys):=(sw.trans sA).ext.lst nl2p hy
   refine⟨_,rfl,.inl ⟨rfl,ys,aN.of hx11⟩,?_⟩
   have hsh:i+sh.toNat<ns.length:=by omega
   refine⟨_,rfl,_,rfl,_,rfl,_,_,rfl,rfl,(z.with l).with l2,_,_,.str ns[i+sh.toNat],.inr (fn.stl (a7.stp (sw.trans sA))),rfl,Qa,?_,λ vn fvn=>?_⟩
   ·rw[show((0:Int)+(i:Nat)+sh).toNat=i+sh.toNat from Qa,List.getElem?_map,List.getElem?_eq_getElem hsh]
    rfl
   refine⟨_,rfl,(z.with l).with l2,_,_,rfl,fw2.stp sA,sA.cz,λ vt H12 s12 ft=>?_⟩
   refine⟨_,rfl,(z.with l).with l2,[.str ns[i+sh.toNat],.tuple (w.map .int),.tuple (bs.map .int)],⟨_,_,rfl,fvn.stp s12,_,_,rfl,ft,_,_,rfl,fb.stp s12,rfl⟩,(by show 3<=1000;decide),s12.cz,λ vk H13 s13 fk=>?_⟩
   have sB:=(sw.trans sA).trans (s12.trans s13)
   have hx13:H13 l2=some (.lst ys):=sB.ext.lst nl2p hy
   refine⟨l2,ys,vk,rfl,rfl,hx13,?_,?_⟩
   ·rw[hky.length,hkl]
    exact cM Qa
   refine⟨ks++[.tuple [.str ns[i+sh.toNat],.tuple (w.map .int),.tuple (bs.map .int)]],ys++[vk],_,_,_,rfl,(a7.stp sB).put l2p,aR,?_,by rw[List.length_append,hkl];rfl,?_,?_⟩
   ·exact pY List.mem_cons_self (aJ.append (hky.stp sB) ⟨vk,_,rfl,fk,rfl⟩)
   ·intro d hd
    rcases List.mem_append.mp hd with h|h
    ·exact hkk d h
    ·rw[List.mem_singleton.mp h]
     exact Sx (hm _ (List.getElem_mem hsh)) hw0 Qa hwp hwb hbl hbb
   ·rw[List.map_append,hkf,List.take_add_one,List.getElem?_drop,Nat.add_comm sh.toNat i,List.getElem?_eq_getElem hsh]
    rfl
  refine⟨_,rfl,(z.with l).with l2,[],rfl,(by show 0<=1000;decide),s10.cz,λ v11 H11 s11 f11=>?_⟩
  refine⟨.list (w.map .int),.list [],aE.less Qb (f10.stp s11),aE.less Qb f11,Kz w,rfl,_,rfl,?_⟩
  rw[Vz]
  have sw0:=(s9.trans s10).trans s11
  have fw0:=f10.stp s11
  refine bU (λ c1=>?_) (λ c1=>?_)
  ·have hx11:H11 l=some (.lst xs):=sw0.ext.lst nlp hx8
   refine⟨_,rfl,_,rfl,l,xs,rfl,.inl (aN.of hx11),(z.with l).with l2,_,rfl,s11.cz,Qa,Qa,λ t H12 t0 t1 s12=>?_⟩
   refine⟨(z.with l).with l2,[.int t],⟨_,_,rfl,rfl,rfl⟩,(by show 1<=1000;decide),s12.cz,λ vw Hw s13 fw=>?_⟩
   have sw:=(sw0.trans s12).trans s13
   replace fw:aE ((z.with l).with l2).ex Hw (.list (([t]:List Int).map .int)) vw:=fw
   have hw0:([t]:List Int)≠[]:=by simp
   replace hwn:([t]:List Int).length<=ls.length:=hl1
   replace hwp:([t]:List Int).Pairwise (· < ·):=by simp
   replace hwb:∀x∈([t]:List Int),0<=x/\x<(ls.length:Nat):=λ x hx=>by rw[List.mem_singleton.mp hx];omega
   exact tail Hw vw [t] sw fw hw0 hwn hwp hwb
  ·exact tail H11 (.ref a) w sw0 fw0 (λ e=>c1 (by rw[e];rfl)) hwn hwp hwb
 rintro σ H8 ⟨ks,ys,kk,wy,bd,rfl,a7,hy,hky,hkl,hkk,hkf⟩
 have hx8:H8 l=some (.lst xs):=a7.ext.lst nll hx5
 have hls8:aJ ((z.with l).with l2).ex H8 ls xs:=hdsb.stl a7
 refine⟨_,rfl,l,xs,rfl,.inl ⟨aN.of hx8,λ t1 ht1=>?_⟩⟩
 have s9:aX ((z.with l).with l2) H8 (aD H8 t1 (.tup xs)):=aX.of a7.cz (aG.new ht1 _)
 have f9:aE ((z.with l).with l2).ex (aD H8 t1 (.tup xs)) (.tuple ls) (.ref t1):=⟨t1,_,rfl,a7.cz.free ht1,aR,hls8.stp s9⟩
 generalize aD H8 t1 (.tup xs)=H9 at s9 f9⊢
 have hy9:=s9.ext.lst nl2p hy
 refine⟨_,rfl,l2,ys,rfl,.inl ⟨aN.of hy9,λ t2 ht2=>?_⟩⟩
 have s10:aX ((z.with l).with l2) H9 (aD H9 t2 (.tup ys)):=aX.of s9.cz (aG.new ht2 _)
 have f10:aE ((z.with l).with l2).ex (aD H9 t2 (.tup ys)) (.tuple ks) (.ref t2):=⟨t2,_,rfl,s9.cz.free ht2,aR,(hky.stp s9).stp s10⟩
 generalize aD H9 t2 (.tup ys)=H10 at s10 f10⊢
 refine⟨(z.with l).with l2,[.tuple ls,.tuple ks],⟨_,_,rfl,f9.stp s10,_,_,rfl,f10,rfl⟩,(by show 2<=1000;decide),s10.cz,λ v H11 s11 f11=>?_⟩
 have b1:aX (z.with l) H5 H11:=(((a7.stp s9).stp s10).stp s11).back hl2 a5.cz.mem
 have b2:aX z H1 H11:=(a5.stp b1).back hl c.mem
 have hpl:nY (.tuple [.tuple ls,.tuple ks])=true:=Nm hl1 hl6 Qa Qa hla hkk ?u1 ?u2
 obtain⟨p,ep,gp⟩:=Nl hpl
 refine q p v H11 gp (s1.trans b2) ?_
 ·rw[<-ep]
  exact aE.less (λ b hb=>List.mem_cons_of_mem _ (List.mem_cons_of_mem _ hb)) f11
 ·rw[hfi]
  exact hnd.sublist (List.take_sublist _ _)
 ·rw[hkf]
  exact(hnd.sublist (List.drop_sublist _ _)).sublist (List.take_sublist _ _)
end
end K14
namespace K14
open PySem PySem.Spec L2 PyProof.Rows PySem.W
def tW:Sp:=λ vs H Q _=>∃(p:Pl) (v:V) (x:Str) (k:Kd),vs=[v,.str x]/\aE [] H p.d v/\jN p/\p.kd? x=some k/\∀u H',aG [] H H'->aE [] H' k.d u->Q u H'
def nN:Sp:=λ vs H Q _=>∃(p:Pl) (v:V) (b:Addr) (x kd:Str) (j:Int) (r:List V) (k:Kd),vs=[v,.ref b]/\aE [] H p.d v/\jN p/\H b=some (.tup (.str x::.str kd::.int j::r))/\p.kd? kd=some k/\1<=k.way.length/\0<=j/\j<=k.way.length+1/\∀H',aG [] H H'->Q (.int (p.at kd j)) H'
section
variable{P:Program}{w:World}{K:PySem.W.Frag}{mg:Str->Option Value}{base:Heap}
theorem rC{α:Type}{p:α->Bool}:∀(l:List α),(l.filter p)[0]? =l.find? p
 |[]=>rfl
 |a::l=>by
  by_cases h:p a=true
  ·rw[List.filter_cons_of_pos h,List.find?_cons_of_pos h];rfl
  ·rw[List.filter_cons_of_neg h,List.find?_cons_of_neg h];exact rC l
abbrev nS:Stmt:=top 29
theorem Lq:bW ["_law_plan_here","_law_name"] ["_law_plan_here","_law_name"] (aW nS):=⟨rfl,rfl,rfl,Qd,rfl,Qd,Qd⟩
theorem Ph{f:Addr}{fd:FuncData}(F:bR K "_law_kind" "_law_kind" nS f fd):bE P w K mg base bP 1 f fd ["_law_plan_here","_law_name"] tW:=by
 refine F.ok Lq (λ vs H Q E h=>?_) (λ cdv A outer s H vs Q E hr h=>?_)
 ·obtain⟨p,v,x,k,rfl,_⟩:=h
  rfl
 obtain⟨p,v,x,k,rfl,hp,Po,hk,q⟩:=h
 refine'⟨_,?hh,?rr⟩
 case hh=>exists aY ?_,bI ?_,aV ix_list ?_ aL (λ _ _=>rfl),kJ rfl ?_ (eU ["_law_kind_here","_law_name"] 1 [1]) ?_ ?_ ?_ ?_ ?_ ?_ ?_,(by exact⟨rfl,Qd,Qd,(show∀y:Str×NameKind,y∈_->y.2=NameKind.free->(aW nS).names.lookup y.1=some .cell\/(aW nS).names.lookup y.1=some .free from Qd)⟩),Qd,Qc,gN ?_,aV bK (pv 0) aL (λ _ _=>rfl),4,bL ?_ (aQ 0) (Or.inl rfl) (Or.inr rfl),(by exact(show(["_law_kind_here","_law_name"]:List Str).Nodup from Qd)),fH Qc,4,jZ ?_,bY eI ?_ (pv 1) (bO _),aV ?_ (pv 0) aL (λ _ _=>rfl),(by exact(show cW _ (fV K)from bK)),4,(pv 0)
 obtain⟨a,la,ka,lv,kv,rfl,ha,hla,hls,hka,hks,el,ek⟩:=Pl.view hp
 refine⟨_,rfl,a,_,_,_,rfl,rfl,aM.of ha,rfl,ka,rfl,⟨kv,aM.of hka⟩,kR (lN (ys:=kv)) (λ i xs H2=>aG [] H H2/\aJ [] H2 (((p.ks.take i).filter λ k=>k.nm==x).map Kd.d) xs) ⟨aG.refl,rfl⟩ (λ _ _ _ h=>aM.of (h.1.tup Qb hka)) ?_ ?_⟩
 ·rintro i y xs H2 hy hi ⟨e,hxs⟩
  obtain⟨k',hk',hdy⟩:=hks.nth hy
  have hdy2:=aE.ext e hdy
  obtain⟨b,wa,ba,rfl,hb,_⟩:=Kd.view hdy2
  have tk:p.ks.take (i+1)=p.ks.take i++[k']:=by rw[List.take_add_one,hk'];rfl
  refine⟨_,rfl,b,_,_,.str k'.nm,rfl,rfl,aM.of hb,rfl,_,rfl,rfl,_,rfl,?_⟩
  have small:xs.length<1000:=by
   rw[hxs.length,List.length_map]
   have:=List.length_filter_le (λ k:Kd=>k.nm==x) (p.ks.take i)
   rw[List.length_take]at this
   have:=Po.nk
   omega
  refine bU (λ cc=>?_) (λ cc=>?_)
  ·have ck:k'.nm=x:=by simpa using cc
   refine⟨_,rfl,cM Qa,nx hi ⟨e,?_⟩⟩
   rw[tk,List.filter_append,List.map_append]
   refine aJ.append hxs ?_
   simp only[List.filter_cons,ck,beq_self_eq_true,if_true,List.filter_nil,List.map_cons,List.map_nil]
   exact⟨_,_,rfl,hdy2,rfl⟩
  ·have ck:¬k'.nm=x:=by simpa using cc
   refine nx hi ⟨e,?_⟩
   rw[tk,List.filter_append,List.map_append]
   have:([k'].filter λ k=>k.nm==x)=[]:=by simp[ck]
   rw[this,List.map_nil,List.append_nil]
   exact hxs
 ·rintro xs H2 ⟨e,hxs⟩ b hb
  rw[ek,List.take_length]at hxs
  have hg:((p.ks.filter λ k=>k.nm==x).map Kd.d)[0]? =some k.d:=by
   rw[List.getElem?_map,rC]
   show(p.kd? x).map Kd.d=_
   rw[hk];rfl
  obtain⟨u,hu,hd⟩:=hxs.get hg
  refine⟨b,xs,_,u,rfl,rfl,aN.of aR,eY Qc hu,?_⟩
  exact q u _ (e.trans (aG.new hb _)) (aE.ext (aG.new hb _) hd)
abbrev uX:Stmt:=top 30
theorem sc__law_lane:bW ["_law_plan_here","_law_one","_law_way"] ["_law_plan_here","_law_one"] (aW uX):=⟨rfl,rfl,rfl,Qd,rfl,Qd,Qd⟩
theorem Pg{f:Addr}{fd:FuncData}(F:bR K "_law_lane" "_law_lane" uX f fd)(T:Txt K mg)(yJ:bF P w K mg base "_law_kind" 1 ["_law_plan_here","_law_name"] tW):bE P w K mg base bP 2 f fd ["_law_plan_here","_law_one"] nN:=by
 refine F.ok sc__law_lane (λ vs H Q E h=>?_) (λ cdv A outer s H vs Q E hr h=>?_)
 ·obtain⟨p,v,b,x,kd,j,r,k,rfl,_⟩:=h
  rfl
 obtain⟨p,v,b,x,kd,j,r,k,rfl,hp,Po,hb,hk,hw1,j0,j1,q⟩:=h
 refine'⟨_,?hh,?rr⟩
 case hh=>exists aT ?_ ?_,bH sc__law_lane.nd (aQ 2) (Or.inl rfl) ?_,aV bK ?_ aL (λ _ _=>rfl),bD yJ hr ?_ rfl ?_,aA (pv 0) ?_,aA ?_ aI,aV bK (pv 1) aL (λ _ _=>rfl),Qc,aY ?_,bI ?_,aV bK ?_ ?_ (λ _ _=>rfl),bJ vL ?_ ?_,bJ vL ?_ (pv 2),dS ?_,aA ?_ aI,Ny Hh aL,dS ?_,aA ?_ aI,bG cU rfl T.b_len PySem.boot_len ?_,aA ?_ aI,aV bK (pv 0) aL (λ _ _=>rfl),aV bK (pv 1) aL (λ _ _=>rfl)
 obtain⟨a,la,ka,lv,kv,rfl,ha,hla,hls,hka,hks,el,ek⟩:=Pl.view hp
 have kw:=Po.kw k (fO hk).1
 refine⟨_,rfl,_,rfl,b,_,_,.str kd,rfl,rfl,aM.of hb,eY Qc rfl,p,_,kd,k,rfl,hp,Po,hk,λ u H1 e1 hd=>?_⟩
 obtain⟨ua,wa,ba,rfl,hua,hwa,hba⟩:=Kd.view hd
 refine⟨ua,_,_,.ref wa,rfl,rfl,aM.of hua,rfl,?_⟩
 refine⟨_,rfl,(by show 1<=sizeLine;decide),λ t1 ht1=>?_⟩
 have e2:aG [] H1 (aD H1 t1 (.tup [V.int (-1)])):=aG.new ht1 _
 have h1:(aD H1 t1 (.tup [V.int (-1)])) t1=some (.tup [V.int (-1)]):=aR
 generalize aD H1 t1 (.tup [V.int (-1)])=H2 at e2 h1⊢
 refine⟨_,rfl,t1,wa,_,_,rfl,rfl,aM.of h1,aM.of (e2.tup Qb hwa),Qb,?_,λ z=>?_,λ _ t2 ht2=>?_⟩
 ·rw[List.length_map];exact Nat.le_of_lt (cM (by have:=kw.1;simp;omega))
 ·exfalso
  have z2:(k.way.map V.int).length=0:=by rw[z];rfl
  rw[List.length_map]at z2
  omega
 have e3:aG [] H2 (aD H2 t2 (.tup ([V.int (-1)]++k.way.map V.int))):=aG.new ht2 _
 have h2:(aD H2 t2 (.tup ([V.int (-1)]++k.way.map V.int))) t2=some (.tup ([V.int (-1)]++k.way.map V.int)):=aR
 generalize aD H2 t2 (.tup ([V.int (-1)]++k.way.map V.int))=H3 at e3 h2⊢
 have e123:=(e1.trans e2).trans e3
 refine⟨_,rfl,a,_,_,.ref la,rfl,rfl,aM.of (e123.tup Qb ha),rfl,la,lv,rfl,.inr (aM.of (e123.tup Qb hla)),(by show 1<=sizeLine;decide),λ t3 ht3=>?_⟩
 have e4:aG [] H3 (aD H3 t3 (.tup [V.int (lv.length:Nat)])):=aG.new ht3 _
 have h3:(aD H3 t3 (.tup [V.int (lv.length:Nat)])) t3=some (.tup [V.int (lv.length:Nat)]):=aR
 generalize aD H3 t3 (.tup [V.int (lv.length:Nat)])=H4 at e4 h3⊢
 refine⟨t2,t3,_,_,rfl,rfl,aM.of (e4.tup Qb h2),aM.of h3,Qb,?_,λ z=>absurd z Qb,λ _ t4 ht4=>?_⟩
 ·simp only[List.length_append,List.length_map,List.length_cons,List.length_nil]
  exact Nat.le_of_lt (cM (by have:=kw.1;omega))
 have e5:aG [] H4 (aD H4 t4 (.tup (([V.int (-1)]++k.way.map V.int)++[V.int (lv.length:Nat)]))):=aG.new ht4 _
 have h4:(aD H4 t4 (.tup (([V.int (-1)]++k.way.map V.int)++[V.int (lv.length:Nat)]))) t4=some (.tup (([V.int (-1)]++k.way.map V.int)++[V.int (lv.length:Nat)])):=aR
 generalize aD H4 t4 (.tup (([V.int (-1)]++k.way.map V.int)++[V.int (lv.length:Nat)]))=H5 at e5 h4⊢
 have e15:=(e123.trans e4).trans e5
 refine⟨_,rfl,b,_,_,.int j,rfl,rfl,aM.of (e15.tup Qb hb),eY Qc rfl,t4,_,_,.int (p.at kd j),rfl,rfl,aM.of h4,eY j0 ?_,q _ e15⟩
 rcases(show j=0\/(1<=j/\j<=k.way.length)\/j=k.way.length+1 from Qa)with rfl|⟨g1,g2⟩|rfl
 ·rw[oQ];rfl
 ·obtain⟨wv,hw,ew⟩:=rO hk g1 g2
  rw[ew,List.append_assoc,List.cons_append,List.nil_append]
  rw[show j.toNat=(j-1).toNat+1 from Qa,List.getElem?_cons_succ,List.getElem?_append_left (by rw[List.length_map];omega),List.getElem?_map,hw]
  rfl
 ·rw[oR hk Qa]
  rw[List.getElem?_append_right Qb,show((k.way.length:Int)+1).toNat-([V.int (-1)]++k.way.map V.int).length=0 from Qb]
  show some (V.int (lv.length:Nat))=some (V.int p.n)
  rw[el];rfl
abbrev nR:Stmt:=top 31
theorem sc__law_room:bW ["_law_plan_here","_law_bounds","_law_cards","_law_kind_here","_law_lane_here","_law_there"] ["_law_plan_here","_law_bounds","_law_cards","_law_kind_here","_law_lane_here"] (aW nR):=⟨rfl,rfl,rfl,Qd,rfl,Qd,Qd⟩
abbrev nV:Stmt:=top 32
theorem sc__law_bars:bW ["_law_plan_here","_law_cards","_law_wait","_law_found"] ["_law_plan_here","_law_cards","_law_wait"] (aW nV):=⟨rfl,rfl,rfl,Qd,rfl,Qd,Qd⟩
end
end K14
namespace L2
open PySem PySem.SetTable
def lG(xs:Array Nat):Prop:=∀i j,i<j->j<xs.size->xs.getD i 0<xs.getD j 0
theorem wX{xs:Array Nat}{j:Nat}(R:lG xs):∀(fuel lo hi:Nat),hi-lo<=fuel->lo<=hi->hi<=xs.size->(∀i,i<lo->xs.getD i 0<j)->(∀i,hi<=i->i<xs.size->j<=xs.getD i 0)->
  below.go xs j fuel lo hi<=xs.size/\(∀i,i<below.go xs j fuel lo hi->xs.getD i 0<j)/\∀i,below.go xs j fuel lo hi<=i->i<xs.size->j<=xs.getD i 0
 |0,lo,hi,h,h1,h2,a,b=>by
  obtain rfl:lo=hi:=by omega
  unfold below.go
  exact⟨h2,a,b⟩
 | fuel+1,lo,hi,h,h1,h2,a,b=>by
  unfold below.go
  by_cases c:lo<hi
  ·rw[if_pos c]
   dsimp only
   have mono:∀i k,i<=k->k<xs.size->xs.getD i 0<=xs.getD k 0:=λ i k x y=>by
    by_cases z:i=k
    ·rw[z];exact Nat.le_refl _
    ·exact Nat.le_of_lt (R i k Qa y)
   have gd:xs.getD ((lo+hi)/2) j=xs.getD ((lo+hi)/2) 0:=by
    unfold Array.getD
    rw[dif_pos Qa,dif_pos Qa]
   rw[gd]
   by_cases d:xs.getD ((lo+hi)/2) 0<j
   ·rw[if_pos d]
    exact wX R fuel _ _ Qa Qa h2 (λ i x=>Nat.lt_of_le_of_lt (mono i _ Qa Qa) d) b
   ·rw[if_neg d]
    exact wX R fuel _ _ Qa Qa Qa a λ i x y=>Nat.le_trans (Nat.not_lt.mp d) (mono _ i x y)
  ·rw[if_neg c]
   obtain rfl:lo=hi:=by omega
   exact⟨h2,a,b⟩
theorem rN{xs:Array Nat}(R:lG xs)(j:Nat):below xs j<=xs.size/\(∀i,i<below xs j->xs.getD i 0<j)/\∀i,below xs j<=i->i<xs.size->j<=xs.getD i 0:=
 wX R _ _ _ Qa (Nat.zero_le _) (Nat.le_refl _) (λ i h=>absurd h (Nat.not_lt_zero _)) λ i h1 h2=>absurd h2 Qa
theorem Vi{xs:Array Nat}{i x:Nat}(h:xs[i]? =some x):xs.getD i 0=x/\i<xs.size:=by
 obtain⟨hl,e⟩:=Array.getElem?_eq_some_iff.mp h
 exact⟨by unfold Array.getD;rw[dif_pos hl];exact e,hl⟩
theorem jJ{xs:Array Nat}{i:Nat}(h:i<xs.size):xs[i]? =some (xs.getD i 0):=by
 rw[Array.getElem?_eq_getElem h]
 unfold Array.getD
 rw[dif_pos h]
 rfl
theorem uB{t:SetTable}(R:lG t.place){i j:Nat}(h:t.place[i]? =some j):t.slot j= .live i:=by
 obtain⟨e,l⟩:=Vi h
 obtain⟨b0,b1,b2⟩:=rN R j
 have hb:below t.place j=i:=by
  rcases Nat.lt_trichotomy (below t.place j) i with c|c|c
  ·have x:=b2 (below t.place j) (Nat.le_refl _) Qa
   have y:=R _ i c l
   omega
  ·exact c
  ·have:=b1 i c;omega
 unfold slot
 dsimp only
 rw[hb,h]
 simp
theorem Kt{t:SetTable}{i j:Nat}(h:t.slot j= .live i):t.place[i]? =some j:=by
 unfold slot at h
 dsimp only at h
 split at h
 ·rename_i e
  injection h with h
  subst h
  exact eq_of_beq e
 ·split at h<;>exact nomatch h
def mW(t:SetTable)(j:Nat):Prop:=∃i:Nat,t.place[i]? =some j
def oW(t:SetTable)(h:Int)(j:Nat):Prop:=∃c,(bB t c (t.probeStart h)).j=j/\∀c',c'<c->mW t (bB t c' (t.probeStart h)).j
theorem AW{t t':SetTable}(h:t'.mask=t.mask)(p:Probe):t'.advance p=t.advance p:=by
 unfold advance
 rw[h]
theorem lC{t t':SetTable}(h:t'.mask=t.mask):∀(c:Nat) (p:Probe),bB t' c p=bB t c p
 |0,p=>rfl
 |c+1,p=>by
  show bB t' c (t'.advance p)=bB t c (t.advance p)
  rw[AW h,lC h]
theorem lR{t t':SetTable}(h:t'.mask=t.mask)(x:Int):t'.probeStart x=t.probeStart x:=by
 unfold probeStart
 rw[h]
theorem oW.more{t t':SetTable}{h:Int}{j:Nat}(hm:t'.mask=t.mask)(ho:∀j,mW t j->mW t' j)(p:oW t h j):oW t' h j:=by
 obtain⟨c,e,o⟩:=p
 refine⟨c,by rw[lR hm,lC hm];exact e,λ c' hc=>?_⟩
 rw[lR hm,lC hm]
 exact ho _ (o c' hc)
theorem Dh{t:SetTable}(hd:t.dummies= #[])(hashAt:Nat->Int)(h:Int):∀(k fuel:Nat) (p:Probe),k<fuel->lF t p k->
  (∃c,probe.go t hashAt h fuel p=some (.empty (bB t c p).j none)/\t.slot (bB t c p).j= .empty/\∀c',c'<c->∃i,t.slot (bB t c' p).j= .live i/\hashAt i≠h)\/
  ∃c i,probe.go t hashAt h fuel p=some (.candidate (bB t c p).j i (bB t (c+1) p))/\t.slot (bB t c p).j= .live i/\hashAt i=h/\c+1<=k/\lF t (bB t (c+1) p) (k-(c+1))/\∀c',c'<c->∃i,t.slot (bB t c' p).j= .live i/\hashAt i≠h
 |k,0,p,hk,_=>absurd hk (Nat.not_lt_zero _)
 |0,fuel+1,p,hk,e=>by
  have e2:t.slot p.j= .empty:=e.2
  refine .inl ⟨0,?_,e2,λ c' hc=>absurd hc (Nat.not_lt_zero _)⟩
  unfold probe.go
  rw[e2,e.1]
  rfl
 | k +1,fuel+1,p,hk,e=>by
  unfold probe.go
  cases hsl:t.slot p.j with
  |empty=>exact .inl ⟨0,by rw[e.1];rfl,hsl,λ c' hc=>absurd hc (Nat.not_lt_zero _)⟩
  |dummy=>exact absurd hsl (Ks hd)
  | live i=>
   dsimp only
   by_cases hh:(hashAt i==h)=true
   ·rw[if_pos hh]
    exact .inr ⟨0,i,rfl,hsl,eq_of_beq hh,Qa,e.next,λ c' hc=>absurd hc (Nat.not_lt_zero _)⟩
   ·rw[if_neg hh]
    have hne:hashAt i≠h:=λ z=>hh (by rw[z];exact beq_self_eq_true _)
    have ext:∀c,(∀c',c'<c->∃i,t.slot (bB t c' (t.advance p)).j= .live i/\hashAt i≠h)->∀c',c'<c+1->∃i,t.slot (bB t c' p).j= .live i/\hashAt i≠h:=λ c H c' hc=>by
     cases c' with
     |zero=>exact⟨i,hsl,hne⟩
     |succ c'=>exact H c' Qa
    rcases Dh hd hashAt h k fuel (t.advance p) (Nat.lt_of_succ_lt_succ hk) e.next with⟨c,a,b,d⟩|⟨c,i',a,b,b2,l,f,d⟩
    ·exact .inl ⟨c+1,a,b,ext c d⟩
    ·refine .inr ⟨c+1,i',a,b,b2,Qa,?_,ext c d⟩
     rw[show k+1-(c+1+1)=k-(c+1)from Qa]
     exact f
theorem oH{α:Type}{xs:Array α}{p:Nat}{x:α}(hp:p<=xs.size)(i:Nat):(SetTable.insertAt xs p x)[i]? =if i<p then xs[i]? else if i=p then some x else xs[i-1]?:=by
 unfold SetTable.insertAt
 have h1:((xs.extract 0 p).push x).size=p+1:=by rw[Array.size_push,Array.size_extract];omega
 by_cases c:i<p
 ·rw[if_pos c,Array.getElem?_append_left Qa,Array.getElem?_push_lt (by rw[Array.size_extract];omega)]
  rw[Array.getElem_extract,Array.getElem?_eq_getElem Qa]
  simp
 ·rw[if_neg c]
  by_cases d:i=p
  ·subst d
   rw[if_pos rfl,Array.getElem?_append_left Qa]
   have:(xs.extract 0 i).size=i:=by rw[Array.size_extract];omega
   rw[Array.getElem?_push,if_pos this.symm]
  ·rw[if_neg d,Array.getElem?_append_right Qa,h1,Array.getElem?_extract]
   by_cases l:i-1<xs.size
   ·rw[if_pos Qa,show p+(i-(p+1))=i-1 from Qa]
   ·rw[if_neg Qa,Array.getElem?_eq_none Qa]
theorem Ng{t:SetTable}(hd:t.dummies= #[])(j:Nat):(t.put j).1.place=SetTable.insertAt t.place (below t.place j) j/\(t.put j).2=below t.place j:=⟨rfl,rfl⟩
theorem qT{α:Type}(xs:Array α)(p:Nat)(x:α)(hp:p<=xs.size):(SetTable.insertAt xs p x).size=xs.size+1:=by
 unfold SetTable.insertAt
 rw[Array.size_append,Array.size_push,Array.size_extract,Array.size_extract]
 omega
theorem Ly{xs:Array Nat}(R:lG xs){j:Nat}(hn:∀i:Nat,xs[i]?≠some j):lG (SetTable.insertAt xs (below xs j) j):=by
 obtain⟨b0,b1,b2⟩:=rN R j
 have g:∀i,i<xs.size+1->(SetTable.insertAt xs (below xs j) j).getD i 0=if i<below xs j then xs.getD i 0 else if i=below xs j then j else xs.getD (i-1) 0:=λ i hi=>by
  have e:=oH (x:=j) b0 i
  have l:i<(SetTable.insertAt xs (below xs j) j).size:=by rw[qT _ _ _ b0];exact hi
  rw[jJ l]at e
  by_cases c:i<below xs j
  ·rw[if_pos c]at e⊢
   rw[jJ Qa]at e
   exact Option.some.inj e
  ·rw[if_neg c]at e⊢
   by_cases d:i=below xs j
   ·rw[if_pos d]at e⊢
    exact Option.some.inj e
   ·rw[if_neg d]at e⊢
    rw[jJ Qa]at e
    exact Option.some.inj e
 intro a b hab hb
 rw[qT _ _ _ b0]at hb
 rw[g a Qa,g b hb]
 have up:∀i,below xs j<=i->i<xs.size->j<xs.getD i 0:=λ i h1 h2=>by
  have:=b2 i h1 h2
  have ne:xs.getD i 0≠j:=λ z=>hn i (by rw[jJ h2,z])
  omega
 by_cases c1:a<below xs j
 ·rw[if_pos c1]
  by_cases c2:b<below xs j
  ·rw[if_pos c2];exact R a b hab Qa
  ·rw[if_neg c2]
   by_cases c3:b=below xs j
   ·rw[if_pos c3];exact b1 a c1
   ·rw[if_neg c3];exact Nat.lt_trans (b1 a c1) (up (b-1) Qa Qa)
 ·rw[if_neg c1,if_neg (show¬b<below xs j from Qa),if_neg (show¬b=below xs j from Qa)]
  by_cases c3:a=below xs j
  ·rw[if_pos c3];exact up (b-1) Qa Qa
  ·rw[if_neg c3];exact R (a-1) (b-1) Qa Qa
theorem Cv{α β:Type}{xs:Array α}{ys:Array β}{p:Nat}{x:α}{y:β}(h1:p<=xs.size)(h2:p<=ys.size){i:Nat}{a:α}{b:β}(ha:(SetTable.insertAt xs p x)[i]? =some a)(hb:(SetTable.insertAt ys p y)[i]? =some b):
  (i=p/\a=x/\b=y)\/∃i0,xs[i0]? =some a/\ys[i0]? =some b/\i=if i0<p then i0 else i0+1:=by
 rw[oH h1]at ha
 rw[oH h2]at hb
 by_cases c:i<p
 ·rw[if_pos c]at ha hb
  exact .inr ⟨i,ha,hb,by rw[if_pos c]⟩
 ·rw[if_neg c]at ha hb
  by_cases d:i=p
  ·rw[if_pos d]at ha hb
   exact .inl ⟨d,(Option.some.inj ha).symm,(Option.some.inj hb).symm⟩
  ·rw[if_neg d]at ha hb
   exact .inr ⟨i-1,ha,hb,by rw[if_neg Qa];omega⟩
theorem Cu{α:Type}{xs:Array α}{p:Nat}{x a:α}(hp:p<=xs.size){i0:Nat}(h:xs[i0]? =some a):(SetTable.insertAt xs p x)[if i0<p then i0 else i0+1]? =some a:=by
 rw[oH hp]
 by_cases c:i0<p
 ·rw[if_pos c,if_pos c];exact h
 ·rw[if_neg c,if_neg Qa,if_neg Qa]
  exact h
theorem Tr{α:Type}{xs:Array α}{p:Nat}{x:α}(hp:p<=xs.size):(SetTable.insertAt xs p x)[p]? =some x:=by
 rw[oH hp,if_neg Qa,if_pos rfl]
def tM(mask:Nat):SetTable:={mask:=mask,place:= #[],dummies:= #[],finger:=0,led:=true,moves:=0,plain:=true}
theorem Fb{t:SetTable}:∀(m:Nat) (q:Probe),m<=q.more->bB t m q={q with j:=q.j+m,more:=q.more-m}
 |0,q,_=>rfl
 |m+1,q,h=>by
  show bB t m (t.advance q)=_
  have e:t.advance q={q with j:=q.j+1,more:=q.more-1}:=by unfold advance;rw[if_pos Qa]
  rw[Fb m _ (by rw[e];show m<=q.more-1;omega),e]
  show({q with j:=q.j+1+m,more:=q.more-1-m}:Probe)=_
  rw[show q.j+1+m=q.j+(m+1)from Qa,show q.more-1-m=q.more-(m+1)from Qa]
theorem Lu{mask i:Nat}(h:i<=mask):i<=runEnd mask i/\runEnd mask i<=mask:=by
 unfold runEnd
 split<;>omega
theorem Dp{mask:Nat}(owner:Array (Option Nat)):∀(fuel i p:Nat) {j':Nat},layClean.free mask owner fuel i p=some j'->∀q:Probe,pD (tM mask) q->q.i=i->q.perturb=p->i<=mask->
  owner.getD j' (some 0)=none/\∃c,(bB (tM mask) c q).j=j'/\∀c',c'<c->(bB (tM mask) c' q).j<=mask/\owner.getD (bB (tM mask) c' q).j (some 0)≠none
 |0,i,p,j',h,_,_,_,_,_=>by unfold layClean.free at h;exact nomatch h
 | fuel+1,i,p,j',h,q,a,e1,e2,hi=>by
  obtain⟨r1,r2⟩:=Lu hi
  have hq:q.j=i:=a.1.trans e1
  have hm:q.more=runEnd mask i-i:=by rw[a.2,e1];rfl
  have run:∀m,m<=runEnd mask i-i->(bB (tM mask) m q).j=i+m:=λ m h=>by
   rw[Fb m q Qa]
   show q.j+m=_
   rw[hq]
  unfold layClean.free at h
  cases hf:(List.range (runEnd mask i+1-i)).find? λ k=>(owner.getD (i+k) (some 0)).isNone with
  |some k=>
   rw[hf]at h
   have h:some (i+k)=some j':=h
   injection h with h
   obtain⟨p1,p2,p3⟩:=List.find?_range_eq_some.mp hf
   have hk:k<runEnd mask i+1-i:=List.mem_range.mp p2
   refine⟨by rw[<-h];simpa using p1,k,by rw[run k Qa,h],λ c' hc=>?_⟩
   rw[run c' Qa]
   refine⟨Qa,λ z=>?_⟩
   have:=p3 c' hc
   rw[z]at this
   exact absurd this Qb
  | none=>
   rw[hf]at h
   dsimp only at h
   have all:=List.find?_range_eq_none.mp hf
   obtain⟨q',e3,a',l⟩:=vA (tM mask) _ q rfl
   have l1:q'.i=(leap mask i p).1:=by
    have:=congrArg Prod.fst l
    rw[e1,e2]at this
    exact this
   have l2:q'.perturb=(leap mask i p).2:=by
    have:=congrArg Prod.snd l
    rw[e1,e2]at this
    exact this
   obtain⟨f1,c,f2,f3⟩:=Dp owner fuel _ _ h q' a' l1 l2 (Nat.le_of_lt_succ (Nat.mod_lt _ (Nat.succ_pos _)))
   refine⟨f1,q.more+1+c,by rw[jK,e3];exact f2,λ c' hc=>?_⟩
   by_cases d:c'<=q.more
   ·rw[run c' Qa]
    refine⟨Qa,λ z=>?_⟩
    have:=all c' Qa
    rw[z]at this
    exact absurd this Qb
   ·have:=f3 (c'-(q.more+1)) Qa
    rw[show c'=q.more+1+(c'-(q.more+1))from Qa,jK,e3]
    exact this
structure mQ(mask:Nat)(hs:List Int)(owner:Array (Option Nat))(k:Nat):Prop where
 inj:∀j j' v,owner.getD j none=some v->owner.getD j' none=some v->j=j'
 all:∀v,v<k->∃j,owner.getD j none=some v
 path:∀j v h,owner.getD j none=some v->hs[v]? =some h->∃c,(bB (tM mask) c ((tM mask).probeStart h)).j=j/\∀c',c'<c->(bB (tM mask) c' ((tM mask).probeStart h)).j<=mask/\owner.getD (bB (tM mask) c' ((tM mask).probeStart h)).j (some 0)≠none
theorem mQ.put{mask:Nat}{hs:List Int}{owner:Array (Option Nat)}{k j:Nat}{h:Int}(o:gE mask owner k)(op:mQ mask hs owner k)(hh:hs[k]? =some h)(e:layClean.free mask owner (turns mask) (bits h%(mask+1)) (bits h)=some j):mQ mask hs (owner.setIfInBounds j (some k)) (k+1):=by
 obtain⟨f1,c,f2,f3⟩:=Dp owner _ _ _ e ((tM mask).probeStart h) ⟨rfl,rfl⟩ rfl rfl (Nat.le_of_lt_succ (Nat.mod_lt _ (Nat.succ_pos _)))
 obtain⟨hlt,hn⟩:=Di f1
 have hself:∀d,(owner.setIfInBounds j (some k)).getD j d=some k:=λ d=>by
  unfold Array.getD
  rw[dif_pos (by rw[Array.size_setIfInBounds];exact hlt)]
  simp
 have hoth:∀i d,i≠j->(owner.setIfInBounds j (some k)).getD i d=owner.getD i d:=λ i d hi=>by
  unfold Array.getD
  by_cases hl:i<owner.size
  ·rw[dif_pos (by rw[Array.size_setIfInBounds];exact hl),dif_pos hl]
   exact Array.getElem_setIfInBounds_ne hl (Ne.symm hi)
  ·rw[dif_neg (by rw[Array.size_setIfInBounds];exact hl),dif_neg hl]
 have keep:∀i,owner.getD i (some 0)≠none->(owner.setIfInBounds j (some k)).getD i (some 0)≠none:=λ i z=>by
  by_cases q:i=j
  ·rw[q,hself];exact λ z=>nomatch z
  ·rw[hoth i _ q];exact z
 refine⟨λ a b v ha hb=>?_,λ v hv=>?_,λ i v x hi hx=>?_⟩
 ·by_cases qa:a=j
  ·by_cases qb:b=j
   ·rw[qa,qb]
   ·rw[qa,hself]at ha
    rw[hoth b _ qb]at hb
    have:=o.small b v hb
    injection ha with ha
    omega
  ·rw[hoth a _ qa]at ha
   by_cases qb:b=j
   ·rw[qb,hself]at hb
    have:=o.small a v ha
    injection hb with hb
    omega
   ·rw[hoth b _ qb]at hb
    exact op.inj a b v ha hb
 ·by_cases q:v=k
  ·exact⟨j,by rw[hself,q]⟩
  ·obtain⟨i,hi⟩:=op.all v Qa
   refine⟨i,?_⟩
   rw[hoth i _ (λ z=>by rw[z,hn]at hi;exact nomatch hi)]
   exact hi
 ·by_cases q:i=j
  ·rw[q,hself]at hi
   injection hi with hi
   rw[<-hi,hh]at hx
   injection hx with hx
   rw[<-hx]
   exact⟨c,by rw[f2,q],λ c' hc=>⟨(f3 c' hc).1,keep _ (f3 c' hc).2⟩⟩
  ·rw[hoth i _ q]at hi
   obtain⟨c2,g1,g2⟩:=op.path i v x hi hx
   exact⟨c2,g1,λ c' hc=>⟨(g2 c' hc).1,keep _ (g2 c' hc).2⟩⟩
theorem Cj{mask:Nat}(hs:fI mask){all:List Int}:∀(l:List Int) (owner:Array (Option Nat)) (k:Nat),gE mask owner k->mQ mask all owner k->(∀i h,l[i]? =some h->all[k+i]? =some h)->k+l.length<=mask+1->
  ∃owner',l.foldl (vU mask) (some (owner,k))=some (owner',k+l.length)/\gE mask owner' (k+l.length)/\mQ mask all owner' (k+l.length)
 |[],owner,k,o,op,_,_=>⟨owner,rfl,o,op⟩
 | h::r,owner,k,o,op,ha,hl=>by
  rw[List.length_cons]at hl
  obtain⟨j,e,hn⟩:=o.free hs Qa h
  obtain⟨owner',e2,o2,op2⟩:=Cj hs r _ (k+1) (o.put hn) (op.put o (ha 0 h rfl) e) (λ i x hx=>by
   have:=ha (i+1) x (by simpa using hx)
   rw[show k+1+i=k+(i+1)from Qa];exact this) Qa
  rw[List.length_cons,show k+(r.length+1)=k+1+r.length from Qa]
  refine⟨owner',?_,o2,op2⟩
  rw[List.foldl_cons,<-e2]
  congr 1
  show Option.bind (layClean.free mask owner (turns mask) (bits h%(mask+1)) (bits h)) (λ j=>some (owner.setIfInBounds j (some k),k+1))=_
  rw[e];rfl
theorem Om(mask:Nat)(all:List Int):mQ mask all (Array.replicate (mask+1) none) 0:=by
 have hg:∀j,(Array.replicate (mask+1) (none:Option Nat)).getD j none=none:=λ j=>by
  unfold Array.getD;split<;>simp
 exact⟨λ j _ v e _=>(by rw[hg]at e;exact nomatch e),λ v h=>absurd h (Nat.not_lt_zero _),λ j v h e=>(by rw[hg]at e;exact nomatch e)⟩
theorem Ss{mask:Nat}(hs:fI mask)(hashes:Array Int)(hn:hashes.size<=mask)(finger moves:Nat)(led plain:Bool):
  ∃t order,SetTable.laid mask finger moves led plain hashes=some (t,order)/\t.mask=mask/\t.place.size=hashes.size/\t.dummies= #[]/\t.led=led/\t.plain=plain/\
   order.size=hashes.size/\(∀i∈order.toList,i<hashes.size)/\lG t.place/\(∀(i j v:Nat) h,t.place[i]? =some j->order[i]? =some v->hashes[v]? =some h->oW t h j)/\
   (∀i i' v:Nat,order[i]? =some v->order[i']? =some v->i=i')/\∀v,v<hashes.size->∃i:Nat,order[i]? =some v:=by
 obtain⟨t,order,e,m1,m2,m3,m4,m5,m6,m7⟩:=Sr hs hashes hn finger moves led plain
 refine⟨t,order,e,m1,m2,m3,m4,m5,m6,m7,?_⟩
 obtain⟨owner,e2,o,op⟩:=Cj hs hashes.toList _ 0 (Be mask) (Om mask hashes.toList) (λ i h hi=>by rw[Nat.zero_add];exact hi) (by rw[Array.length_toList];omega)
 rw[Nat.zero_add,Array.length_toList]at o op
 have ee:SetTable.laid mask finger moves led plain hashes=some ({mask,place:=(((List.range (mask+1)).filterMap λ j=>(owner.getD j none).map (j,·)).map (·.1)).toArray,dummies:= #[],finger,led,moves,plain},
  (((List.range (mask+1)).filterMap λ j=>(owner.getD j none).map (j,·)).map (·.2)).toArray):=by
  unfold SetTable.laid
  rw[Cl,e2]
  rfl
 rw[ee]at e
 injection e with e
 injection e with et eo
 have hp:t.place=(((List.range (mask+1)).filterMap λ j=>(owner.getD j none).map (j,·)).map (·.1)).toArray:=by rw[<-et]
 have mem:∀x,x∈((List.range (mask+1)).filterMap λ j=>(owner.getD j none).map (j,·))↔x.1<mask+1/\owner.getD x.1 none=some x.2:=λ x=>by
  rw[List.mem_filterMap]
  constructor
  ·rintro⟨j,hj,q⟩
   obtain⟨v,q1,q2⟩:=Option.map_eq_some_iff.mp q
   subst q2
   exact⟨List.mem_range.mp hj,q1⟩
  ·rintro⟨h1,h2⟩
   exact⟨x.1,List.mem_range.mpr h1,by rw[h2];rfl⟩
 have pw:((List.range (mask+1)).filterMap λ j=>(owner.getD j none).map (j,·)).Pairwise (λ a b=>a.1<b.1):=by
  refine List.Pairwise.filterMap _ (λ a b hab x hx y hy=>?_) List.pairwise_lt_range
  obtain⟨v,q1,q2⟩:=Option.map_eq_some_iff.mp hx
  obtain⟨u,q3,q4⟩:=Option.map_eq_some_iff.mp hy
  subst q2
  subst q4
  exact hab
 generalize((List.range (mask+1)).filterMap λ j=>(owner.getD j none).map (j,·))=live at hp eo mem pw
 have at1:∀(i j:Nat),t.place[i]? =some j->∃x,live[i]? =some x/\x.1=j:=λ i j h=>by
  rw[hp,List.getElem?_toArray,List.getElem?_map]at h
  obtain⟨x,h1,h2⟩:=Option.map_eq_some_iff.mp h
  exact⟨x,h1,h2⟩
 have at2:∀(i v:Nat),order[i]? =some v->∃x,live[i]? =some x/\x.2=v:=λ i v h=>by
  rw[<-eo,List.getElem?_toArray,List.getElem?_map]at h
  obtain⟨x,h1,h2⟩:=Option.map_eq_some_iff.mp h
  exact⟨x,h1,h2⟩
 have occ:∀j,j<mask+1->owner.getD j (some 0)≠none->mW t j:=λ j hj hne=>by
  have hlt:j<owner.size:=by rw[o.size];exact hj
  have:∃v,owner.getD j none=some v:=by
   cases q:owner.getD j none with
   |some v=>exact⟨v,rfl⟩
   |none=>exact absurd (Dj hlt q) hne
  obtain⟨v,hv⟩:=this
  obtain⟨i,hi⟩:=List.mem_iff_getElem?.mp ((mem (j,v)).mpr ⟨hj,hv⟩)
  refine⟨i,?_⟩
  rw[hp,List.getElem?_toArray,List.getElem?_map,hi]
  rfl
 refine⟨λ i j hij hj=>?_,λ i j v h h1 h2 h3=>?_,λ i i' v h1 h2=>?_,λ v hv=>?_⟩
 ·obtain⟨x,x1,x2⟩:=at1 i _ (jJ Qa)
  obtain⟨y,y1,y2⟩:=at1 j _ (jJ hj)
  obtain⟨l1,g1⟩:=List.getElem?_eq_some_iff.mp x1
  obtain⟨l2,g2⟩:=List.getElem?_eq_some_iff.mp y1
  have:=List.pairwise_iff_getElem.mp pw i j l1 l2 hij
  rw[g1,g2,x2,y2]at this
  exact this
 ·obtain⟨x,x1,x2⟩:=at1 i j h1
  obtain⟨y,y1,y2⟩:=at2 i v h2
  rw[x1]at y1
  injection y1 with y1
  subst y1
  obtain⟨b1,b2⟩:=(mem x).mp (List.mem_of_getElem? x1)
  rw[x2]at b1 b2
  rw[y2]at b2
  obtain⟨c,c1,c2⟩:=op.path j v h b2 (by rw[Array.getElem?_toList];exact h3)
  refine⟨c,by rw[lR (t:=tM mask) m1,lC (t:=tM mask) m1];exact c1,λ c' hc=>?_⟩
  rw[lR (t:=tM mask) m1,lC (t:=tM mask) m1]
  obtain⟨d1,d2⟩:=c2 c' hc
  exact occ _ Qa d2
 ·obtain⟨x,x1,x2⟩:=at2 i v h1
  obtain⟨y,y1,y2⟩:=at2 i' v h2
  have bx:=((mem x).mp (List.mem_of_getElem? x1)).2
  have byy:=((mem y).mp (List.mem_of_getElem? y1)).2
  rw[x2]at bx
  rw[y2]at byy
  have ej:=op.inj _ _ _ bx byy
  obtain⟨l1,g1⟩:=List.getElem?_eq_some_iff.mp x1
  obtain⟨l2,g2⟩:=List.getElem?_eq_some_iff.mp y1
  rcases Nat.lt_trichotomy i i' with q|q|q
  ·have:=List.pairwise_iff_getElem.mp pw i i' l1 l2 q
   rw[g1,g2]at this
   omega
  ·exact q
  ·have:=List.pairwise_iff_getElem.mp pw i' i l2 l1 q
   rw[g1,g2]at this
   omega
 ·obtain⟨j,hj⟩:=op.all v hv
  have hlt:j<mask+1:=by
   rw[<-o.size]
   refine Nat.lt_of_not_le λ z=>?_
   unfold Array.getD at hj
   rw[dif_neg Qa]at hj
   exact nomatch hj
  obtain⟨i,hi⟩:=List.mem_iff_getElem?.mp ((mem (j,v)).mpr ⟨hlt,hj⟩)
  refine⟨i,?_⟩
  rw[<-eo,List.getElem?_toArray,List.getElem?_map,hi]
  rfl
end L2
namespace L2
open PySem PySem.Spec PyProof.Rows PySem.W PySem.SetTable
def iP(prog:Program)(w:World)(h:Heap)(v:Value)(ks:List bC):Prop:=∃a,v= .ref a/\IsTupleKey (eR prog w) h ks a
structure lK(kk:Value->List bC)(hsh:List bC->Int)(t:SetTable)(es:Array (Int×Value)):Prop where
 rise:lG t.place
 path:∀(i:Nat) e j,es[i]? =some e->t.place[i]? =some j->oW t e.1 j
 hash:∀(i:Nat) e,es[i]? =some e->e.1=hsh (kk e.2)
 once:∀(i i':Nat) e e',es[i]? =some e->es[i']? =some e'->kk e.2=kk e'.2->i=i'
section
variable{prog:Program}{w:World}{A:Around}{E:Qe}{s:Shared}{kk:Value->List bC}{hsh:List bC->Int}
theorem Ak{a:Addr}{o:Obj}{es:Array (Int×Value)}{ep:Nat}{t:SetTable}{x:Value}{h:Int}{kx:List bC}(ho:s.heap.get? a=some o)(hd:o.data= .set es ep t)(ht:eA t es.size)
  (hx:W3 s.heap x) (hes:∀e∈es.toList,W3 s.heap e.2) (hkx:iP prog w s.heap x kx) (hke:∀e∈es.toList,iP prog w s.heap e.2 (kk e.2)) (hu:A.units<cLine) {Q:SetFound->Shared->Prop}
  (hf:∀c,t.slot (bB t c (t.probeStart h)).j= .empty->(∀c',c'<c->∃(i:Nat) (e:Int×Value),t.slot (bB t c' (t.probeStart h)).j= .live i/\es[i]? =some e/\(e.1=h->kk e.2≠kx))->Q (.free (bB t c (t.probeStart h)).j false) s)
  (hq:∀(i:Nat) e,es[i]? =some e->kk e.2=kx->Q (.there none) s):
  ∀(fuel k c:Nat) (stand:Option Probe),stand.getD (t.probeStart h)=bB t c (t.probeStart h)->k<fuel->k<10*turns t.mask->lF t (bB t c (t.probeStart h)) k->
   (∀c',c'<c->∃(i:Nat) (e:Int×Value),t.slot (bB t c' (t.probeStart h)).j= .live i/\es[i]? =some e/\(e.1=h->kk e.2≠kx))->wpAny (model prog w) A (setSearchFrom a x h true fuel stand) Q E s
 |0,k,_,_,_,hk,_,_,_=>absurd hk (Nat.not_lt_zero _)
 | fuel+1,k,c,stand,hst,hk,hk2,e,pass=>by
  unfold setSearchFrom
  refine wpAny_bind (wpAny_setState_of ho hd ht.fits ?_)
  dsimp only
  rw[ht.gave,hst]
  simp only[Bool.false_eq_true,if_false]
  have live_at:∀(i:Nat) (j:Nat),t.slot j= .live i->∃en:Int×Value,es[i]? =some en:=λ i j hl=>by
   have hi:i<es.size:=by rw[<-ht.place];exact Ad hl
   exact⟨es[i],Array.getElem?_eq_getElem hi⟩
  have more:∀f:Nat->Int,(∀(i:Nat) en,es[i]? =some en->f i=en.1)->∀c2,(∀c',c'<c2->∃i,t.slot (bB t c' (bB t c (t.probeStart h))).j= .live i/\f i≠h)->∀c',c'<c+c2->∃(i:Nat) (e:Int×Value),t.slot (bB t c' (t.probeStart h)).j= .live i/\es[i]? =some e/\(e.1=h->kk e.2≠kx):=λ f hfe c2 H c' hc=>by
   by_cases d:c'<c
   ·exact pass c' d
   ·obtain⟨i,h1,h2⟩:=H (c'-c) Qa
    rw[<-jK,show c+(c'-c)=c' from Qa]at h1
    obtain⟨en,hen⟩:=live_at i _ h1
    exact⟨i,en,h1,hen,λ z=>absurd ((hfe i en hen).trans z) h2⟩
  generalize hg:t.probe _ h (bB t c (t.probeStart h))=pr
  rcases Dh ht.dum _ h k (10*turns t.mask) _ hk2 e with⟨c2,e1,e2,e3⟩|⟨c2,i,e1,e2,e3,e4,e5,e6⟩
  ·have e1:pr=some (.empty (bB t c2 (bB t c (t.probeStart h))).j none):=hg.symm.trans e1
   subst e1
   rw[<-jK]at e2⊢
   exact wpAny_pure (hf (c+c2) e2 (more _ (λ i en hen=>by show(es[i]?.map (·.1)).getD 0=en.1;rw[hen];rfl) c2 e3))
  ·have e1:pr=some (.candidate (bB t c2 (bB t c (t.probeStart h))).j i (bB t (c2+1) (bB t c (t.probeStart h)))):=hg.symm.trans e1
   subst e1
   dsimp only
   have hi:i<es.size:=by rw[<-ht.place];exact Ad e2
   have hei:es[i]? =some (es[i].1,es[i].2):=by rw[Array.getElem?_eq_getElem hi]
   have hmi:es[i]∈es.toList:=by rw[Array.mem_toList_iff];exact Array.getElem_mem hi
   have hwi:W3 s.heap es[i].2:=hes _ hmi
   by_cases hl:(!t.led)=true
   rw[if_pos hl]
   refine wpAny_bind (Lj hx (λ y hy=>?_) ?_)
   ·obtain⟨e',he',rfl⟩:=List.mem_map.mp hy
    exact hes e' (Array.mem_toList_iff.mpr (Array.mem_filter.mp (Array.mem_toList_iff.mp he')).1)
   rw[if_neg Bool.false_ne_true]
   rotate_left
   rw[if_neg hl]
   all_goals
    rw[hei]
    dsimp only
    obtain⟨ay,hy1,hy2⟩:=hke _ hmi
    obtain⟨ax,hx1,hx2⟩:=hkx
    have heq:∀{Q:Bool->Shared->Prop},Q (decide (kk es[i].2=kx)) s->wpAny (model prog w) A (eqBool es[i].2 x) Q E s:=λ h=>by
     rw[hx1]
     have:∀y,y=es[i].2->kk y=kk es[i].2:=λ y z=>by rw[z]
     rw[hy1]
     exact wpAny_eqBool_tuple hu hy2 hx2 h
    refine wpAny_bind (wpAny_holding (heq ?_))
    refine wpAny_bind (wpAny_setState_of ho hd ht.fits ?_)
    dsimp only
    by_cases b:kk es[i].2=kx
    ·rw[decide_eq_true b]
     exact wpAny_pure (hq i es[i] (Array.getElem?_eq_getElem hi) b)
    ·rw[decide_eq_false b]
     simp only[Bool.and_false,Bool.false_eq_true,if_false]
     have hm:t.sameMemory t.moves t.mask=some true:=by unfold sameMemory;rw[if_pos (beq_self_eq_true _)]
     rw[hm]
     dsimp only
     rw[if_pos rfl,e2]
     dsimp only
     rw[hei]
     dsimp only
     rw[hy1]
     refine wpAny_bind (wpAny_isSame_ref_self (wpAny_bind (wpAny_pure ?_)))
     rw[<-jK]at e2 e5
     rw[show c+(c2+1)=c+c2+1 from Qa]at e5
     refine Ak ho hd ht hx hes ⟨ax,hx1,hx2⟩ hke hu hf hq fuel (k-(c2+1)) (c+c2+1) (some _) ?_ Qa Qa e5 λ c' hc=>?_
     ·show bB t (c2+1) (bB t c (t.probeStart h))=_
      rw[<-jK,show c+(c2+1)=c+c2+1 from Qa]
     ·by_cases d:c'<c+c2
      ·exact more _ (λ i en hen=>by show(es[i]?.map (·.1)).getD 0=en.1;rw[hen];rfl) c2 e6 c' d
      ·obtain rfl:c'=c+c2:=by omega
       exact⟨i,es[i],e2,Array.getElem?_eq_getElem hi,λ _=>b⟩
theorem Rh{t:SetTable}{es:Array (Int×Value)}{h:Int}{kx:List bC}{c:Nat}(N:lK kk hsh t es)(hsz:t.place.size=es.size)(hh:h=hsh kx)(he:t.slot (bB t c (t.probeStart h)).j= .empty)
  (pass:∀c',c'<c->∃(i:Nat) (e:Int×Value),t.slot (bB t c' (t.probeStart h)).j= .live i/\es[i]? =some e/\(e.1=h->kk e.2≠kx)):∀(i:Nat) e,es[i]? =some e->kk e.2≠kx:=λ i e hi z=>by
 have hl:i<t.place.size:=by rw[hsz];exact(Array.getElem?_eq_some_iff.mp hi).1
 have h1:e.1=h:=by rw[N.hash i e hi,z,hh]
 obtain⟨c1,p1,p2⟩:=N.path i e _ hi (jJ hl)
 rw[h1]at p1 p2
 have sl:=uB N.rise (jJ hl)
 rw[<-p1]at sl
 rcases Nat.lt_trichotomy c1 c with q|q|q
 ·obtain⟨i',e',a1,a2,a3⟩:=pass c1 q
  rw[sl]at a1
  injection a1 with a1
  subst a1
  rw[hi]at a2
  injection a2 with a2
  subst a2
  exact a3 h1 z
 ·rw[q,he]at sl
  exact nomatch sl
 ·obtain⟨i',o⟩:=p2 c q
  have:=uB N.rise o
  rw[he]at this
  exact nomatch this
theorem lK.put{t t2:SetTable}{es:Array (Int×Value)}{h:Int}{x:Value}{c:Nat}(N:lK kk hsh t es)(hsz:t.place.size=es.size)(hh:h=hsh (kk x))(he:t.slot (bB t c (t.probeStart h)).j= .empty)
  (pass:∀c',c'<c->∃(i:Nat) (e:Int×Value),t.slot (bB t c' (t.probeStart h)).j= .live i/\es[i]? =some e/\(e.1=h->kk e.2≠kk x)) (hm:t2.mask=t.mask) (hp:t2.place=SetTable.insertAt t.place (below t.place (bB t c (t.probeStart h)).j) (bB t c (t.probeStart h)).j):
  lK kk hsh t2 (SetTable.insertAt es (below t.place (bB t c (t.probeStart h)).j) (h,x)):=by
 have nt:=Rh N hsz hh he pass
 generalize ej:(bB t c (t.probeStart h)).j=j at*
 have b0:=(rN N.rise j).1
 have b1:below t.place j<=es.size:=by rw[<-hsz];exact b0
 have fresh:∀i:Nat,t.place[i]?≠some j:=λ i z=>by
  have:=uB N.rise z
  rw[he]at this
  exact nomatch this
 have occ:∀j',mW t j'->mW t2 j':=λ j' ⟨i,o⟩=>by
  exact⟨_,hp▸Cu b0 o⟩
 have old:∀(i:Nat) e,(SetTable.insertAt es (below t.place j) (h,x))[i]? =some e->(i=below t.place j/\e=(h,x))\/∃i0,es[i0]? =some e/\i=if i0<below t.place j then i0 else i0+1:=λ i e hi=>by
  have hl:i<(SetTable.insertAt t.place (below t.place j) j).size:=by
   rw[qT _ _ _ b0,hsz,<-qT es _ (h,x) b1]
   exact(Array.getElem?_eq_some_iff.mp hi).1
  rcases Cv b1 b0 hi (Array.getElem?_eq_getElem hl)with⟨a,b,_⟩|⟨i0,a,_,b⟩
  ·exact .inl ⟨a,b⟩
  ·exact .inr ⟨i0,a,b⟩
 refine⟨by rw[hp];exact Ly N.rise fresh,λ i e k h1 h2=>?_,λ i e h1=>?_,λ i i' e e' h1 h2 h3=>?_⟩
 ·rw[hp]at h2
  rcases Cv b1 b0 h1 h2 with⟨_,rfl,rfl⟩|⟨i0,g1,g2,_⟩
  ·refine⟨c,by rw[lR hm,lC hm];exact ej,λ c' hc=>?_⟩
   rw[lR hm,lC hm]
   obtain⟨i',e',a1,_,_⟩:=pass c' hc
   exact occ _ ⟨i',Kt a1⟩
  ·exact(N.path i0 e k g1 g2).more hm occ
 ·rcases old i e h1 with⟨_,rfl⟩|⟨i0,g1,_⟩
  ·exact hh
  ·exact N.hash i0 e g1
 ·rcases old i e h1 with⟨a,rfl⟩|⟨i0,g1,a⟩
  ·rcases old i' e' h2 with⟨b,rfl⟩|⟨i1,g2,b⟩
   ·rw[a,b]
   ·exact absurd h3.symm (nt i1 e' g2)
  ·rcases old i' e' h2 with⟨b,rfl⟩|⟨i1,g2,b⟩
   ·exact absurd h3 (nt i0 e g1)
   ·rw[a,b,N.once i0 i1 e e' g1 g2 h3]
def dD(w:World)(h:Heap)(a:Addr)(P:Value->Prop)(kk:Value->List bC)(hsh:List bC->Int)(L:List (List bC))(m:Nat):Prop:=∃o es ep t,h.get? a=some o/\o.ExactSet/\o.data= .set es ep t/\eA t es.size/\
 t.led=(!w.params.followText "set-order")/\(es.size≠0->t.plain=false)/\(∀e∈es.toList,P e.2)/\es.size<=m/\lK kk hsh t es/\(∀e∈es.toList,kk e.2∈L)/\∀k∈L,∃e∈es.toList,kk e.2=k
theorem dD.stay{w:World}{h h':Heap}{a:Addr}{P:Value->Prop}{L:List (List bC)}{m:Nat}(x:dD w h a P kk hsh L m)(k:∀o,h.get? a=some o->h'.get? a=some o):dD w h' a P kk hsh L m:=by
 obtain⟨o,es,ep,t,h1,r⟩:=x
 exact⟨o,es,ep,t,k o h1,r⟩
theorem dD.mono{w:World}{h:Heap}{a:Addr}{P:Value->Prop}{L:List (List bC)}{m m':Nat}(x:dD w h a P kk hsh L m)(hm:m<=m'):dD w h a P kk hsh L m':=by
 obtain⟨o,es,ep,t,h1,h2,h3,h4,h5,h6,h7,h8,r⟩:=x
 exact⟨o,es,ep,t,h1,h2,h3,h4,h5,h6,h7,Nat.le_trans h8 hm,r⟩
theorem Dt{α:Type}{xs:Array α}:∀{l:List Nat},(∀i∈l,i<xs.size)->(l.filterMap (xs[·]?)).length=l.length/\∀(k v:Nat),l[k]? =some v->(l.filterMap (xs[·]?))[k]? =xs[v]?
 |[],_=>⟨rfl,λ k v h=>by simp at h⟩
 | i::l,hl=>by
  have hi:=hl i List.mem_cons_self
  obtain⟨a,b⟩:=Dt (xs:=xs) (l:=l) λ j hj=>hl j (List.mem_cons_of_mem _ hj)
  rw[List.filterMap_cons,Array.getElem?_eq_getElem hi]
  refine⟨by simp[a],λ k v h=>?_⟩
  cases k with
  |zero=>
   have:i=v:=by simpa using h
   subst this
   rw[Array.getElem?_eq_getElem hi]
   rfl
  |succ k=>exact b k v (by simpa using h)
theorem Lz{a:Addr}{o:Obj}{es:Array (Int×Value)}{ep:Nat}{t:SetTable}{wanted:Nat}{P:Value->Prop}{L:List (List bC)}(ho:s.heap.get? a=some o)(hex:o.ExactSet)(hd:o.data= .set es ep t)
  (hf:t.fits es.size=true) (hl:t.led=(!w.params.followText "set-order")) (hp:es.size≠0->t.plain=false) (hP:∀e∈es.toList,P e.2) (N:lK kk hsh t es) (hL:∀e∈es.toList,kk e.2∈L) (hL2:∀k∈L,∃e∈es.toList,kk e.2=k)
  (hs:fI (sizeAbove wanted-1)) (hr:es.size*5<(sizeAbove wanted-1)*3) (h5:sizeAbove wanted<=512) {Q:Unit->Shared->Prop}
  (h:∀h',Heap.SameBut a s.heap h'->dD w h' a P kk hsh L es.size->Q () {s with heap:=h'}):wpAny (model prog w) A (setRelay a wanted) Q E s:=by
 obtain⟨t',order,e,m1,m2,m3,m4,m5,m6,m7,m8,m9,m10,m11⟩:=Ss hs (es.map (·.1)) (by rw[Array.size_map];omega) t.finger (t.movedTo (sizeAbove wanted-1)) t.led t.plain
 rw[Array.size_map]at m2 m6 m7 m11
 unfold setRelay
 refine wpAny_bind (wpAny_setState_of ho hd hf ?_)
 dsimp only
 have hline:¬sizeAbove wanted>sizeLine:=by
  have:(512:Nat)<=sizeLine:=by decide+kernel
  omega
 rw[if_neg hline]
 obtain⟨f1,f2⟩:=Dt (xs:=es) m7
 have hsz:(order.filterMap (es[·]?)).size=es.size:=by
  rw[<-m6,<-Array.length_toList,Array.toList_filterMap,f1,Array.length_toList]
 have e':t.relaid (es.map (·.1)) wanted=some (t',order):=e
 rw[e']
 refine wpAny_bind (wpAny_of_eq (a:=(order.filterMap (es[·]?),t')) ?_ ?_)
 ·show(if((order.filterMap (es[·]?)).size !=es.size)=true then _ else _)=_
  rw[hsz,bne_self_eq_false,if_neg Bool.false_ne_true]
 dsimp only
 have at_:∀(i:Nat) en,(order.filterMap (es[·]?))[i]? =some en->∃v:Nat,order[i]? =some v/\es[v]? =some en:=λ i en hi=>by
  have hil:i<order.size:=by rw[m6,<-hsz];exact(Array.getElem?_eq_some_iff.mp hi).1
  refine⟨order[i],Array.getElem?_eq_getElem hil,?_⟩
  have:=f2 i order[i] (by rw[Array.getElem?_toList];exact Array.getElem?_eq_getElem hil)
  rw[<-Array.toList_filterMap,Array.getElem?_toList]at this
  rw[<-this]
  exact hi
 have mem:∀en,en∈(order.filterMap (es[·]?)).toList->en∈es.toList:=λ en he=>by
  obtain⟨i,hi⟩:=List.mem_iff_getElem?.mp he
  rw[Array.getElem?_toList]at hi
  obtain⟨v,_,hv⟩:=at_ i en hi
  exact Array.mem_toList_iff.mpr (Array.mem_of_getElem? hv)
 refine wpAny_storeSet_of ho hd (h _ (Heap.SameBut.update s.heap a _) ?_) ?_
 ·refine⟨_,_,_,t',Ab ho hd,hex,rfl,⟨by rw[hsz,m2],m3,by rw[m1];exact hs,by rw[hsz,m1];exact hr⟩,by rw[m4,hl],λ hz=>by rw[m5];exact hp (by rw[<-hsz];exact hz),λ e he=>hP e (mem e he),by rw[hsz];exact Nat.le_refl _,
   ⟨m8,λ i en j h1 h2=>?_,λ i en h1=>?_,λ i i' en en' h1 h2 h3=>?_⟩,λ en he=>hL en (mem en he),λ k hk=>?_⟩
  ·obtain⟨v,v1,v2⟩:=at_ i en h1
   exact m9 i j v en.1 h2 v1 (by rw[Array.getElem?_map,v2];rfl)
  ·obtain⟨v,v1,v2⟩:=at_ i en h1
   exact N.hash v en v2
  ·obtain⟨v,v1,v2⟩:=at_ i en h1
   obtain⟨v',v3,v4⟩:=at_ i' en' h2
   have:=N.once v v' en en' v2 v4 h3
   subst this
   exact m10 i i' v v1 v3
  ·obtain⟨en,hen,ek⟩:=hL2 k hk
   obtain⟨v,hv⟩:=List.mem_iff_getElem?.mp hen
   rw[Array.getElem?_toList]at hv
   obtain⟨i,hi⟩:=m11 v (Array.getElem?_eq_some_iff.mp hv).1
   refine⟨en,?_,ek⟩
   rw[Array.toList_filterMap,List.mem_filterMap]
   exact⟨v,Array.mem_toList_iff.mpr (Array.mem_of_getElem? hi),hv⟩
 ·rw[hsz]
  have:(512:Nat)<=sizeLine:=by decide+kernel
  omega
end
theorem Bt{α:Type}{xs:Array α}{p:Nat}{x y:α}(hp:p<=xs.size)(h:y∈xs.toList\/y=x):y∈(SetTable.insertAt xs p x).toList:=by
 rw[Array.mem_toList_iff]
 rcases h with h|rfl
 ·obtain⟨i,hi⟩:=List.mem_iff_getElem?.mp h
  rw[Array.getElem?_toList]at hi
  exact Array.mem_of_getElem? (Cu hp hi)
 ·exact Array.mem_of_getElem? (Tr hp)
section
variable{prog:Program}{w:World}{A:Around}{E:Qe}{s:Shared}{kk:Value->List bC}{hsh:List bC->Int}
theorem Lh{a:Addr}{x:Value}{P:Value->Prop}{L:List (List bC)}{m:Nat}(hS:dD w s.heap a P kk hsh L m)(hm:m<200)(hP:∀v,P v->W3 s.heap v/\iP prog w s.heap v (kk v))(hx:P x)(hu:A.units<cLine)(eh:hsh=tupleKeyHash (eR prog w)){Q:Bool->Shared->Prop}
  (h:∀b h' tk,Heap.SameBut a s.heap h'->dD w h' a P kk hsh (kk x::L) (m+1)->s.toks<=tk->Q b {s with heap:=h',toks:=tk}):wpAny (model prog w) A (setAdd a x) Q E s:=by
 obtain⟨hx3,ax,ex,hk⟩:=hP x hx
 unfold setAdd
 rw[ex]
 refine wpAny_holding (wpAny_bind (wpAny_pyHash_tuple hu hk ?_))
 rw[<-ex]
 generalize hs2:({s with toks:=s.toks+((kk x).length+1)}:Shared)=s2
 have hh:s2.heap=s.heap:=by rw[<-hs2]
 have hS':=hS
 obtain⟨o,es,ep,t,ho,hex,hd,ht,hl,hpl,hall,hle,N,hL,hL2⟩:=hS
 rw[<-hh]at ho
 have hbs:byScan x es=false:=by rw[ex];rfl
 unfold setAddHashed
 refine wpAny_holding ?_
 show wpAny _ _ (setAddHashedIn a x _ (99999+1)) _ _ _
 unfold setAddHashedIn
 refine wpAny_bind (wpAny_setState_of ho hd ht.fits ?_)
 dsimp only
 rw[hbs]
 simp only[Bool.false_eq_true,if_false]
 obtain⟨hv,ehv⟩:∃hv,hv=tupleKeyHash (eR prog w) (kk x):=⟨_,rfl⟩
 rw[<-ehv]
 have ehk:hv=hsh (kk x):=by rw[eh];exact ehv
 obtain⟨k,hk1,hk2⟩:=Ko ht.sz ht.dum (by rw[ht.place];exact ht.le) hv
 have hkf:k<100000:=by
  unfold turns at hk1
  rcases ht.sz with e|e|e|e<;>rw[e]at hk1<;>omega
 refine wpAny_bind (Ak (kk:=kk) ho hd ht (by rw[hh];exact hx3) (λ e he=>by rw[hh];exact(hP _ (hall e he)).1) (by rw[hh];exact⟨ax,ex,hk⟩) (λ e he=>by rw[hh];exact(hP _ (hall e he)).2) hu (λ c he pass=>?_) (λ i0 e0 hi0 hk0=>?_) 100000 k 0 none rfl hkf hk1 hk2 λ c' hc=>absurd hc (Nat.not_lt_zero _))
 ·dsimp only
  refine wpAny_bind (wpAny_setState_of ho hd ht.fits ?_)
  dsimp only
  have NP:=λ (t2:SetTable)=>lK.put (t2:=t2) N ht.place ehk he pass
  generalize(bB t c (t.probeStart hv)).j=j at NP⊢
  obtain⟨q1,q2,q3,q4,q5⟩:=Nh ht j
  obtain⟨q6,q7⟩:=Ng ht.dum j
  have b1:below t.place j<=es.size:=by rw[<-ht.place];exact(rN N.rise j).1
  generalize t.put j=tp at q1 q2 q3 q4 q5 q6 q7⊢
  obtain⟨t1,p⟩:=tp
  dsimp only at q1 q2 q3 q4 q5 q6 q7⊢
  subst q7
  have hsz:(SetTable.insertAt es (below t.place j) (hv,x)).size=es.size+1:=Cr _ _ _
  have hmem:∀e∈(SetTable.insertAt es (below t.place j) (hv,x)).toList,P e.2:=λ e he=>by
   rcases Ct (Array.mem_toList_iff.mp he)with h1|rfl
   ·exact hall e (Array.mem_toList_iff.mpr h1)
   ·exact hx
  have hL':∀e∈(SetTable.insertAt es (below t.place j) (hv,x)).toList,kk e.2∈kk x::L:=λ e he=>by
   rcases Ct (Array.mem_toList_iff.mp he)with h1|rfl
   ·exact List.mem_cons_of_mem _ (hL e (Array.mem_toList_iff.mpr h1))
   ·exact List.mem_cons_self
  have hL2':∀k∈kk x::L,∃e∈(SetTable.insertAt es (below t.place j) (hv,x)).toList,kk e.2=k:=λ k hk=>by
   rcases List.mem_cons.mp hk with rfl|hk
   ·exact⟨(hv,x),Bt b1 (.inr rfl),rfl⟩
   ·obtain⟨e,he,z⟩:=hL2 k hk
    exact⟨e,Bt b1 (.inl he),z⟩
  have hbig:es.size+1<=sizeLine:=by
   have:(512:Nat)<=sizeLine:=by decide+kernel
   omega
  have fin:∀t2:SetTable,t2.place.size=es.size+1->t2.dummies= #[]->t2.mask=t.mask->t2.led=t.led->t2.plain=false->t2.place=SetTable.insertAt t.place (below t.place j) j->
    wpAny (model prog w) A (do
     storeSet a (SetTable.insertAt es (below t.place j) (hv,x)) t2
     if !false&&t2.tooFull then setRelay a (SetTable.grown (es.size+1))
     return true) Q E s2:=by
   intro t2 r1 r2 r3 r4 r5 r6
   have N2:=NP t2 r3 r6
   refine wpAny_bind (wpAny_storeSet_of ho hd ?_ (by rw[hsz];exact hbig))
   have hst:(s2.heap.update a (Obj.putSet (SetTable.insertAt es (below t.place j) (hv,x)) t2)).get? a=some {o with data:=.set (SetTable.insertAt es (below t.place j) (hv,x)) (ep+1) t2}:=Ab ho hd
   have hsb:Heap.SameBut a s2.heap (s2.heap.update a (Obj.putSet (SetTable.insertAt es (below t.place j) (hv,x)) t2)):=Heap.SameBut.update s2.heap a _
   by_cases hfull:t2.tooFull=true
   ·simp only[hfull,Bool.not_false,Bool.and_self,if_true]
    have hfull:(es.size+1)*5≥t.mask*3:=by
     unfold SetTable.tooFull SetTable.fill at hfull
     rw[r1,r2,r3]at hfull
     simpa using hfull
    obtain⟨g1,g2,g3⟩:=Hu ht.sz ht.room hfull Qa
    refine wpAny_bind (Lz (kk:=kk) (hsh:=hsh) (L:=kk x::L) (s:={s2 with heap:=s2.heap.update a (Obj.putSet (SetTable.insertAt es (below t.place j) (hv,x)) t2)}) (P:=P) hst hex rfl ?_ (by rw[r4,hl]) (λ _=>r5) hmem N2 hL' hL2' g1 (by rw[hsz];exact g2) g3 λ h' sb2 hR=>?_)
    ·unfold SetTable.fits SetTable.fill
     rw[r1,r2,r3,hsz]
     have:=ht.room
     simp;omega
    ·refine wpAny_pure ?_
     rw[hsz]at hR
     have:=h true h' (s.toks+((kk x).length+1)) (by rw[<-hh];exact hsb.trans sb2) (hR.mono Qa) Qa
     rw[<-hs2];exact this
   ·simp only[hfull,Bool.and_false,Bool.false_eq_true,if_false]
    have hfull:(es.size+1)*5<t.mask*3:=by
     unfold SetTable.tooFull SetTable.fill at hfull
     rw[r1,r2,r3]at hfull
     simpa using hfull
    refine wpAny_pure ?_
    have:=h true _ (s.toks+((kk x).length+1)) (by rw[<-hh];exact hsb) ⟨_,_,_,t2,hst,hex,rfl,⟨by rw[r1,hsz],r2,by rw[r3];exact ht.sz,by rw[hsz,r3];exact hfull⟩,by rw[r4,hl],λ _=>r5,hmem,by rw[hsz];omega,N2,hL',hL2'⟩ Qa
    rw[<-hs2]at this⊢;exact this
  by_cases hpl1:t1.plain=true
  ·rw[if_pos hpl1]
   refine wpAny_bind (W3.byVal (by rw[hh];exact hx3) ?_)
   simp only[Bool.false_eq_true,if_false]
   exact fin {t1 with plain:=false} q1 q2 q3 q4 rfl q6
  ·rw[if_neg hpl1]
   refine wpAny_bind (wpAny_pure ?_)
   simp only[if_true]
   exact fin t1 q1 q2 q3 q4 (by simpa using hpl1) q6
 ·dsimp only
  refine wpAny_pure ?_
  have:=h false s.heap (s.toks+((kk x).length+1)) (Heap.SameBut.refl a s.heap) ⟨o,es,ep,t,by rw[<-hh];exact ho,hex,hd,ht,hl,hpl,hall,Qa,N,λ e he=>List.mem_cons_of_mem _ (hL e he),λ k hk=>?_⟩ Qa
  ·rw[<-hs2];exact this
  ·rcases List.mem_cons.mp hk with rfl|hk
   ·exact⟨e0,Array.mem_toList_iff.mpr (Array.mem_of_getElem? hi0),hk0⟩
   ·exact hL2 k hk
end
theorem W3.both{prog:Program}{w:World}{h h':Heap}{v:Value}{ks:List bC}(x:W3 h v)(y:iP prog w h v ks)(k:∀b o,v= .ref b->h.get? b=some o->h'.get? b=some o):W3 h' v/\iP prog w h' v ks:=by
 refine⟨x.stay k,?_⟩
 obtain⟨a,e,o,its,n,ho,r⟩:=y
 exact⟨a,e,o,its,n,k a o e ho,r⟩
section
variable{prog:Program}{w:World}{A:Around}{R:Result->Shared->Prop}{I:Addr}{fp wr:List Addr}{G:Array GenState->Array GenState->Prop}{n:Nat}{Pi:Nat->Value->Prop}{St:Nat->Shared->Prop}{kk:Value->List bC}{hsh:List bC->Int}{its:List Value}
theorem Hg(W:WalksS prog w A.in1 I fp wr G n Pi St)(S:Addr)(hSf:S∉fp){P:Value->Prop}(hPi:∀i v,Pi i v->P v/\its[i]? =some v)(hlen:its.length=n)(eh:hsh=tupleKeyHash (eR prog w))(hne:∀b,P (.ref b)->b∉S::wr)(hn:n<200)(hu:A.in1.units<cLine):
  ∀(k i:Nat) (s:Shared),n-i=k->i<=n->St i s->(∀v,P v->W3 s.heap v/\iP prog w s.heap v (kk v))->dD w s.heap S P kk hsh (((its.take i).map kk).reverse) i->
   (∀s',Moved (S::wr) G s s'->dD w s'.heap S P kk hsh ((its.map kk).reverse) n->R (.ok (.ret .none)) s')->codeAny (model prog w) A (.builtin "set.update.loop" ⟨[.ref S,.ref I],[]⟩) R s:=by
 have hSw:S∉wr:=λ z=>hSf (W.sub S z)
 have up:∀b∈wr,b∈S::wr:=λ b z=>List.mem_cons_of_mem S z
 intro k
 induction k with
 |zero=>
  intro i s hk hi st hW hS fin
  obtain rfl:i=n:=by omega
  refine codeAny_builtin F.entry_set_update_loop ?_
  rw[Around.under_plainId F.plain_set_update_loop _]
  show wpAny _ A.in1 (pyNext (.ref I)>>=_) _ _ s
  refine wpAny_bind (W.done s _ _ st λ s1 hm=>?_)
  refine wpAny_pure (fin s1 (hm.mono up) ?_)
  rw[List.take_of_length_le Qa]at hS
  exact hS.stay λ o e=>hm.heap S o hSw e
 | succ k ih=>
  intro i s hk hi st hW hS fin
  have lt:i<n:=by omega
  refine codeAny_builtin F.entry_set_update_loop ?_
  rw[Around.under_plainId F.plain_set_update_loop _]
  show wpAny _ A.in1 (pyNext (.ref I)>>=_) _ _ s
  refine wpAny_bind (W.item i s _ _ lt st λ v s1 hv st1 hm=>?_)
  have hW1:∀v,P v->W3 s1.heap v/\iP prog w s1.heap v (kk v):=λ u hp=>(hW u hp).1.both (hW u hp).2 λ b o e q=>hm.heap b o (λ z=>hne b (by rw[<-e];exact hp) (up b z)) q
  obtain⟨hv1,hv2⟩:=hPi i v hv
  have hS1:dD w s1.heap S P kk hsh (((its.take i).map kk).reverse) i:=hS.stay λ o e=>hm.heap S o hSw e
  show wpAny _ A.in1 (holding [v] (setAdd S v)>>=_) _ _ s1
  refine wpAny_bind (wpAny_holding (Lh hS1 Qa hW1 hv1 hu eh λ _ h' tk sb hS2 htk=>?_))
  have etk:(((its.take (i+1)).map kk).reverse)=kk v::(((its.take i).map kk).reverse):=by
   rw[List.take_add_one,hv2]
   simp
  rw[<-etk]at hS2
  refine wpAny_pure ⟨plainId_quiet F.plain_set_update_loop _,ih (i+1) _ Qa lt (W.frame _ s1 _ _ st1 htk λ b hb o e=>?_) (λ u hp=>(hW1 u hp).1.both (hW1 u hp).2 λ b o e q=>?_) hS2 λ s2 hm2 hS3=>?_⟩
  ·rw[sb.2 b (λ z=>hSf (by rw[<-z];exact hb))];exact e
  ·show h'.get? b=some o
   rw[sb.2 b (λ z=>hne b (by rw[<-e];exact hp) (by rw[z];exact List.mem_cons_self))];exact q
  ·refine fin s2 (Moved.trans W.gtrans ((hm.mono up).then_heap htk λ b o hb e=>?_) hm2) hS3
   rw[sb.2 b (λ z=>hb (by rw[z];exact List.mem_cons_self))];exact e
end
section
variable{prog:Program}{w:World}{A:Around}{E:Qe}{s:Shared}{kk:Value->List bC}{hsh:List bC->Int}
theorem Vn(P:Value->Prop){h:Heap}{a:Addr}(e:h.get? a=some (fP w)):dD w h a P kk hsh [] 0:=
 ⟨_,#[],0,_,e,⟨rfl,rfl,rfl⟩,rfl,⟨rfl,rfl,.inl rfl,show 0*5<7*3 from Qc⟩,rfl,λ z=>absurd rfl z,λ e he=>by simp at he,Nat.le_refl _,⟨λ i j _ h=>absurd h (Nat.not_lt_zero _),λ i e j h=>by simp at h,λ i e h=>by simp at h,λ i i' e e' h=>by simp at h⟩,λ e he=>by simp at he,λ k hk=>nomatch hk⟩
theorem Xw{l:Addr}{its:Array Value}{P:Value->Prop}{Q:Qe}(hh:A.handled=none)(hl:s.heap.IsList l its)(hP:∀(i:Nat) v,its[i]? =some v->P v)(hW:∀v,P v->W3 s.heap v/\iP prog w s.heap v (kk v))(eh:hsh=tupleKeyHash (eR prog w))(hn:its.size<200)
  (hu:A.units+64<cLine) (h:∀h' tk,dD w h' s.heap.objs.size P kk hsh ((its.toList.map kk).reverse) its.size->(∀b o,s.heap.get? b=some o->h'.get? b=some o)->Q (.ref s.heap.objs.size) {s with heap:=h',toks:=tk}):
  wpAny (model prog w) A (call (.type "set") [.ref l]) Q E s:=by
 obtain⟨c,tl,mro⟩:=F.called_set.mro
 have made:=F.called_set.made
 have sub:=F.called_set.sub
 refine wpAny_call (codeAny_of_tree ?_)
 show wpAny _ _ (callAny (.type "set") _) _ _ _
 refine wpAny_pure ⟨Code.quiet_builtin _ Qd,codeAny_builtin F.entry_type_call ?_⟩
 rw[Around.under_plain (weight_type_call_type "set" [.ref l] []) rfl]
 have notT:=F.called_set.notType
 have canC:=F.called_set.canCreate
 have tcall:=F.typeCall_set_1 (.ref l)
 repeat (any_goals (first|assumption|wp_step))
 refine codeAny_mono (La (.ref l) (E:=E) (Q:=λ obj s₁=>obj= .ref s.heap.objs.size/\s₁={s with heap:=s.heap.push (fP w)}) ⟨rfl,rfl⟩) λ r s₁ hr=>?_
 cases r with
 |error e=>exact hr
 | ok fl=>
  cases fl with
  | ret obj=>
   obtain⟨rfl,rfl⟩:=hr
   have gS:(s.heap.push (fP w)).get? s.heap.objs.size=some (fP w):=Heap.get?_push_size _ rfl
   have tS:Shared.TypeIs {s with heap:=s.heap.push (fP w)} (.ref s.heap.objs.size) "set" :=⟨_,gS,rfl⟩
   have ini:=F.called_set.init.lookup
   have bnd:=F.called_set.init.bind (.ref s.heap.objs.size)
   repeat (any_goals (first|assumption|wp_step))
   refine codeAny_mono (codeAny_call_builtin (R:=wants (λ r s₂=>r= .none/\∃h' tk,s₂={s with heap:=h',toks:=tk}/\dD w h' s.heap.objs.size P kk hsh ((its.toList.map kk).reverse) its.size/\
    (∀b o,s.heap.get? b=some o->h'.get? b=some o)) E) F.called_set.init.plain F.entry_set_init (check_set_init_1 tS ?_)) λ r₂ s₂ hr₂=>?_
   ·have hl0:=hl
    obtain⟨⟨oc,od,oda,osl⟩,hol,hcl,nl,hdl⟩:=hl
    simp only at hcl hdl
    subst hcl;subst hdl
    have lt:l<s.heap.objs.size:=Heap.lt_size hol
    have hol':(s.heap.push (fP w)).get? l=some {cls:=.type "list",dict:=od,data:=.seq its nl,slots:=osl}:=Heap.get?_push_of_some _ hol
    have n1:=F.sub_list_set
    have n2:=F.sub_list_frozenset
    have n3:(Value.type "list" ==Value.type "dict")=false:=by decide
    have hl1:(s.heap.push (fP w)).IsList l its:=⟨_,hol',rfl,nl,rfl⟩
    unfold Builtin.«set.__init__» noKeywords Builtin.Frozenset.updateFrom
    generalize hPI:pyIter=PI
    wp_walk
    subst hPI
    refine wpAny_pyIter_list hl1 ?_
    refine wpAny_bind (wpAny_runValue ?_)
    have hh3:A.in1.in1.in1.handled=none:=by simp[hh]
    have szI:(s.heap.push (fP w)).objs.size=s.heap.objs.size+1:=Heap.size_push ..
    have neI:l≠(s.heap.push (fP w)).objs.size:=by rw[szI];exact Nat.ne_of_lt (Nat.lt_succ_of_lt lt)
    have nf:s.heap.objs.size∉[(s.heap.push (fP w)).objs.size,l]:=by
     simp only[List.mem_cons,List.not_mem_nil,or_false,not_or]
     exact⟨by rw[szI];exact Nat.ne_of_lt (Nat.lt_succ_self _),Nat.ne_of_gt lt⟩
    have old:∀b o,s.heap.get? b=some o->((s.heap.push (fP w)).push {cls:=.type "list_iterator",data:=.fields #[.ref l,.int 0 0]}).get? b=some o:=λ b o e=>Heap.get?_push_of_some _ (Heap.get?_push_of_some _ e)
    refine Hg (kk:=kk) (hsh:=hsh) (its:=its.toList) ((Walks.list hh3 _ l neI its).toS) s.heap.objs.size nf (P:=P) (λ i v h=>⟨hP i v h,by rw[Array.getElem?_toList];exact h⟩) (Array.length_toList) eh (λ b hb=>?_) hn (by show A.units+1+1+1<cLine;omega) its.size 0 _ Qa (Nat.zero_le _)
     ⟨⟨_,Heap.get?_push_size _ rfl,rfl,rfl⟩,hl1.push _⟩ (λ v hp=>(hW v hp).1.both (hW v hp).2 λ b o _ e=>old b o e) (Vn P (Heap.get?_push_of_some _ gS)) λ s' hm hS'=>?_
    ·obtain⟨b',o',_,_,_,_,_,_,_,hv,ho',_⟩:=(hW _ hb).1
     injection hv with hv
     subst hv
     have:=Heap.lt_size ho'
     simp only[List.mem_cons,List.not_mem_nil,or_false,not_or]
     exact⟨Nat.ne_of_lt this,by rw[szI];exact Nat.ne_of_lt (Nat.lt_succ_of_lt this)⟩
    ·obtain⟨h',g',d',tk',os'⟩:=s'
     have eg:g'=s.gens:=hm.gens
     have ed:d'=s.drawn:=hm.drawn
     have eo:os'=s.os:=hm.os
     subst eg;subst ed;subst eo
     show wpAny _ _ _ _ _ _
     refine wpAny_pure ?_
     show wpAny _ _ (ret Value.none) _ _ _
     refine wpAny_pure ⟨rfl,h',tk',rfl,hS',λ b o e=>?_⟩
     have:=Heap.lt_size e
     exact hm.heap b o (by simp only[List.mem_cons,List.not_mem_nil,or_false,not_or];exact⟨Nat.ne_of_lt this,by rw[szI];exact Nat.ne_of_lt (Nat.lt_succ_of_lt this)⟩) (old b o e)
   ·cases r₂ with
    |error e=>exact hr₂
    | ok fl₂=>
     cases fl₂ with
     |ret r=>
      obtain⟨rfl,h',tk,rfl,hS',hk'⟩:=hr₂
      repeat (any_goals (first|assumption|wp_step))
      exact h _ _ hS' hk'
     |_=>exact hr₂.elim
  |_=>exact hr.elim
end
theorem Ea{α:Type}{l:List α}{i:Nat}(h:i<l.length):(l[i]::l.eraseIdx i).Perm l:=by
 rw[List.eraseIdx_eq_take_drop_succ]
 refine List.Perm.trans List.perm_middle.symm (List.Perm.of_eq ?_)
 rw[<-List.drop_eq_getElem_cons h,List.take_append_drop]
theorem Az{α:Type}(next:Nat->Nat):∀(fuel k:Nat) (left:List α) (out:Array α),fuel=left.length->(pickOrder.go next fuel k left out).toList.Perm (out.toList++left)
 |0,k,left,out,h=>by
  obtain rfl:left=[]:=List.length_eq_zero_iff.mp h.symm
  unfold pickOrder.go
  rw[List.append_nil]
 |fuel+1,k,left,out,h=>by
  unfold pickOrder.go
  have hlt:next k%left.length<left.length:=Nat.mod_lt _ Qa
  rw[List.getElem?_eq_getElem hlt]
  dsimp only
  refine(Az next fuel (k+1) (left.eraseIdx (next k%left.length)) (out.push left[next k%left.length]) (by rw[List.length_eraseIdx_of_lt hlt];omega)).trans ?_
  rw[Array.toList_push,List.append_assoc]
  exact List.Perm.append_left _ (Ea hlt)
theorem No{α:Type}(next:Nat->Nat)(xs:Array α):(pickOrder next xs).toList.Perm xs.toList:=by
 unfold pickOrder
 exact Az next xs.size 0 xs.toList #[] Qb
section
variable{prog:Program}{w:World}{A:Around}{E:Qe}{s:Shared}
theorem Ed{α:Type}:∀(n:Nat) (xs:List α) (s:Shared) {Q:List α->Shared->Prop},n=xs.length->(∀ys d,ys.Perm xs->Q ys {s with drawn:=d})->wpAny (model prog w) A (drawOrder n xs) Q E s
 |0,xs,s,Q,e,h=>by
  unfold drawOrder
  obtain rfl:xs=[]:=List.length_eq_zero_iff.mp e.symm
  exact wpAny_pure (h [] s.drawn (List.Perm.refl _))
 |n+1,[],s,Q,e,h=>nomatch e
 |n+1,x::r,s,Q,e,h=>by
  unfold drawOrder
  refine wpAny_bind ?_
  intro Γ p hΓ
  refine⟨Qb,?_⟩
  show Sem.wp _ _ (Sem.pure _) _ _ _ _
  generalize hi:(model prog w).w.draws Source.order (s.drawn.get Source.order)%(x::r).length=i
  have hlt:i<(x::r).length:=by rw[<-hi];exact Nat.mod_lt _ Qb
  show wpAny (model prog w) A _ Q E _
  rw[List.getElem?_eq_getElem hlt]
  dsimp only
  refine wpAny_bind (Ed n ((x::r).eraseIdx i) _ (by rw[List.length_eraseIdx_of_lt hlt];omega) λ ys d hp=>?_)
  exact wpAny_pure (h _ d ((hp.cons _).trans (Ea hlt)))
end
inductive oS(w:World)(h:Heap)(S T:Addr)(n i ep:Nat)(t:SetTable)(es:Array (Int×Value))(vs:List Value):Value->Prop
 |text {k:Int} {u:Tok} (e:w.params.followText "set-order" =true) (hv:vs=(pickOrder (w.params.setOrder S ep) es).toList.map (·.2)):oS w h S T n i ep t es vs (.int k u)
 |drawn {ps:List Nat} {m:Nat} (e:w.params.followText "set-order" =false) (hT:h.get? T=some {cls:=.type "tuple",data:=.seq (ps.map λ (p:Nat)=>rawInt p).toArray m}) (hl:ps.length=n) (hp:∀p∈ps,p<n) (hv:∀(k p:Nat) (x:Int×Value),ps[k]? =some p->es[p]? =some x->vs[k]? =some x.2):oS w h S T n i ep t es vs (.ref T)
 |few {k:Nat} {u:Tok} (e:w.params.followText "set-order" =false) (hn:n<=1) (hl:t.led=true) (h0:i=0->k=0) (h1:i=1->∃j,t.place[0]? =some j/\k=j+1) (hv:vs=es.toList.map (·.2)):oS w h S T n i ep t es vs (.int k u)
def jL(w:World)(vs:List Value)(S I T:Addr)(n i:Nat)(h:Heap):Prop:=∃o es ep t first,h.get? S=some o/\o.data= .set es ep t/\eA t es.size/\es.size=n/\vs.length=n/\
 h.get? I=some {cls:=.type "set_iterator",data:=.fields #[first,.int i 0,.ref S,.int n 0,.int ep 0]}/\oS w h S T n i ep t es vs first
section
variable{prog:Program}{w:World}{A:Around}{E:Qe}{s:Shared}{vs:List Value}{S I T:Addr}{n i:Nat}
section
variable{o:Obj}{es:Array (Int×Value)}{ep:Nat}{t:SetTable}
theorem Le(e:w.params.followText "set-order" =true)(hS:s.heap.get? S=some o)(hd:o.data= .set es ep t)(ht:eA t es.size){Q:Array (Int×Value)->Shared->Prop}(h:Q (pickOrder (w.params.setOrder S ep) es) s):
  wpAny (model prog w) A (setWalk S) Q E s:=by
 unfold setWalk
 refine wpAny_bind (wpAny_setState_of hS hd ht.fits ?_)
 dsimp only
 refine wpAny_bind (oP e ?_)
 rw[if_pos rfl]
 refine wpAny_bind (wpAny_askSetting (wpAny_pure ?_))
 exact h
theorem Ai(e:w.params.followText "set-order" =true)(hS:s.heap.get? S=some o)(hd:o.data= .set es ep t)(ht:eA t es.size){slot given:Nat}{Q:Option (Value×Nat)->Shared->Prop}
  (h:∀r,(∀x,(pickOrder (w.params.setOrder S ep) es)[given]? =some x->r=some (x.2,slot))->(es.size<=given->r=none)->Q r s):wpAny (model prog w) A (setNext S slot given ep) Q E s:=by
 unfold setNext
 refine wpAny_bind (wpAny_setState_of hS hd ht.fits ?_)
 dsimp only
 refine wpAny_bind (oP e ?_)
 rw[if_pos rfl]
 simp only[bne_self_eq_false,Bool.false_eq_true,if_false]
 refine wpAny_bind (Le e hS hd ht (wpAny_pure (h _ (λ x hx=>?_) λ hle=>?_)))
 ·rw[hx];rfl
 ·rw[Array.getElem?_eq_none (by rw[(Ay _ es).1];exact hle)];rfl
end
theorem Rl(st:jL w vs S I T n i s.heap)(hIS:I≠S)(hIT:I≠T)(hi:i<n){Q:Option Value->Shared->Prop}
  (h:∀v h',vs[i]? =some v->jL w vs S I T n (i+1) h'->Heap.SameBut I s.heap h'->Q (some v) {s with heap:=h'}):wpAny (model prog w) A (pyNext (.ref I)) Q E s:=by
 obtain⟨o,es,ep,t,first,hS,hd,ht,hn,hvl,hI,way⟩:=st
 have tI:s.TypeIs (.ref I) "set_iterator" :=⟨_,hI,rfl⟩
 unfold pyNext
 refine wpAny_bind (wpAny_attempt (wpAny_callSpecial?_slot (name:=Str.ofString "__next__") tI si_slot (wpAny_call_entry si_slot tI Ae ?_ (Af _))))
 unfold Builtin.«set_iterator.__next__»
 refine wpAny_bind (m:=slotArgs "__next__" 0 _) (wpAny_pure ?_)
 dsimp only
 refine wpAny_bind (wpAny_fieldsOf hI rfl ?_)
 dsimp only
 refine wpAny_bind (wpAny_setEntries_of hS hd ht.fits ?_)
 rw[hn]
 simp only[bne_self_eq_false,Bool.false_eq_true,if_false]
 cases way with
 | @text k u e hv=>
  dsimp only
  refine wpAny_bind (Ai e hS hd ht λ r h1 _=>?_)
  have hil:i<(pickOrder (w.params.setOrder S ep) es).size:=by rw[(Ay _ es).1,hn];exact hi
  obtain⟨x,hx⟩:∃x,x=(pickOrder (w.params.setOrder S ep) es)[i]:=⟨_,rfl⟩
  have hxi:(pickOrder (w.params.setOrder S ep) es)[i]? =some x:=by rw[hx];exact Array.getElem?_eq_getElem hil
  have hvi:vs[i]? =some x.2:=by rw[hv,List.getElem?_map,Array.getElem?_toList,hxi];rfl
  obtain rfl:=h1 x (by simpa using hxi)
  dsimp only
  refine wpAny_bind (wpAny_setField hI rfl Qb ?_)
  refine wpAny_bind (wpAny_setField (iU hI) rfl Qb ?_)
  refine wpAny_pure ⟨_,rfl,wpAny_pure (h x.2 _ hvi ⟨o,es,ep,t,rawInt k.toNat,?_,hd,ht,hn,hvl,?_,.text e hv⟩ ((Heap.SameBut.update ..).trans (Heap.SameBut.update ..)))⟩
  ·rw[Heap.get?_update_other _ _ hIS,Heap.get?_update_other _ _ hIS];exact hS
  ·exact iU (iU hI)
 | @drawn ps m e hT hl hp hv=>
  dsimp only
  refine wpAny_bind (wpAny_seqItems hT rfl ?_)
  dsimp only
  have hpi:(ps.map λ (p:Nat)=>rawInt p).toArray[(i:Int).toNat]? =some (rawInt (ps[i]' Qa:Nat)):=by
   simp[hl,hi]
  rw[hpi]
  have hpb:ps[i]' Qa<es.size:=by rw[hn];exact hp _ (List.getElem_mem _)
  show wpAny _ _ (setNextDrawn S ((ps[i]' Qa:Nat):Int).toNat (ep:Int).toNat>>=_) _ _ _
  rw[Int.toNat_natCast,Int.toNat_natCast]
  refine wpAny_bind (Lg hS hd ht hpb ?_)
  refine wpAny_bind (wpAny_setField hI rfl Qb ?_)
  refine wpAny_pure ⟨_,rfl,wpAny_pure (h _ _ (hv i _ _ (List.getElem?_eq_getElem Qa) (Array.getElem?_eq_getElem hpb)) ⟨o,es,ep,t,.ref T,?_,hd,ht,hn,hvl,?_,.drawn (ps:=ps) (m:=m) e ?_ hl hp hv⟩ (Heap.SameBut.update ..))⟩
  ·rw[Heap.get?_update_other _ _ hIS];exact hS
  ·exact iU hI
  ·rw[Heap.get?_update_other _ _ hIT];exact hT
 | @few k u e hn1 hl h0 h1 hv=>
  dsimp only
  obtain rfl:i=0:=by omega
  obtain rfl:n=1:=by omega
  obtain rfl:k=0:=h0 rfl
  have hp0:(0:Nat)<t.place.size:=by rw[ht.place];omega
  obtain⟨b0,b1⟩:=Ew (Array.getElem?_eq_getElem hp0) (by rw[ht.place];omega)
  refine wpAny_bind (Aj e hS hd ht Qa hl λ r h1 _=>?_)
  have he0:(0:Nat)<es.size:=by omega
  obtain rfl:=h1 es[0] (by show es[below t.place 0]? =_;rw[b0];exact Array.getElem?_eq_getElem he0) t.place[0] (by show t.place[below t.place 0]? =_;rw[b0];exact Array.getElem?_eq_getElem hp0)
  dsimp only
  refine wpAny_bind (wpAny_setField hI rfl Qb ?_)
  refine wpAny_bind (wpAny_setField (iU hI) rfl Qb ?_)
  refine wpAny_pure ⟨_,rfl,wpAny_pure (h es[0].2 _ (by rw[hv,List.getElem?_map,Array.getElem?_toList,Array.getElem?_eq_getElem he0];rfl) ⟨o,es,ep,t,rawInt (t.place[0]+1:Nat),?_,hd,ht,hn,hvl,?_,.few e (Nat.le_refl _) hl (λ z=>nomatch z) (λ _=>⟨_,Array.getElem?_eq_getElem hp0,rfl⟩) hv⟩ ((Heap.SameBut.update ..).trans (Heap.SameBut.update ..)))⟩
  ·rw[Heap.get?_update_other _ _ hIS,Heap.get?_update_other _ _ hIS];exact hS
  ·exact iU (iU hI)
theorem Rm(st:jL w vs S I T n n s.heap)(hh:A.handled=none){Q:Option Value->Shared->Prop}(h:∀h',(∀b o,b≠I->s.heap.get? b=some o->h'.get? b=some o)->Q none {s with heap:=h'}):
  wpAny (model prog w) A (pyNext (.ref I)) Q E s:=by
 obtain⟨o,es,ep,t,first,hS,hd,ht,hn,hvl,hI,way⟩:=st
 have tI:s.TypeIs (.ref I) "set_iterator" :=⟨_,hI,rfl⟩
 unfold pyNext
 refine wpAny_bind (wpAny_attempt (wpAny_callSpecial?_slot (name:=Str.ofString "__next__") tI si_slot (wpAny_call_entry si_slot tI Ae ?_ (Af _))))
 unfold Builtin.«set_iterator.__next__»
 refine wpAny_bind (m:=slotArgs "__next__" 0 _) (wpAny_pure ?_)
 dsimp only
 refine wpAny_bind (wpAny_fieldsOf hI rfl ?_)
 dsimp only
 refine wpAny_bind (wpAny_setEntries_of hS hd ht.fits ?_)
 rw[hn]
 simp only[bne_self_eq_false,Bool.false_eq_true,if_false]
 have fin:∀e h',(∀b o,b≠I->s.heap.get? b=some o->h'.get? b=some o)->Shared.TypeIs {s with heap:=h'} e "StopIteration" ->
   wpAny (model prog w) A (do if<-isInstance e (.type "StopIteration")then pure none else throw e) Q E {s with heap:=h'}:=λ e h' hk hT=>by
  refine wpAny_bind (wpAny_isInstance (b:=true) hT isSubtype_stop ?_)
  exact wpAny_pure (h h' hk)
 have one:∀(k:Nat) (v:Value) (b:Addr) (o:Obj),b≠I->s.heap.get? b=some o->(s.heap.update I (Obj.mapFields (·.setIfInBounds k v))).get? b=some o:=λ k v b o hb e=>by
  rw[Heap.get?_update_other _ _ (Ne.symm hb)];exact e
 cases way with
 | @text k u e hv=>
  dsimp only
  refine wpAny_bind (Ai e hS hd ht λ r _ h2=>?_)
  obtain rfl:=h2 (by rw[hn];simp)
  dsimp only
  refine wpAny_bind (wpAny_setField hI rfl Qb ?_)
  refine tE (A:=A.in1) hh ?_
  exact λ e h' hk hT=>fin e h' (λ b o hb q=>hk b o (one _ _ b o hb q)) hT
 | @drawn ps m e hT hl hp hv=>
  dsimp only
  refine wpAny_bind (wpAny_seqItems hT rfl ?_)
  dsimp only
  have hpi:(ps.map λ (p:Nat)=>rawInt p).toArray[(n:Int).toNat]? =none:=by simp[hl]
  rw[hpi]
  dsimp only
  refine wpAny_bind (wpAny_setField hI rfl Qb ?_)
  refine wpAny_bind (wpAny_setField (iU hI) rfl Qb ?_)
  refine tE (A:=A.in1) hh ?_
  exact λ e h' hk hT=>fin e h' (λ b o hb q=>hk b o (by
   show((s.heap.update I _).update I _).get? b=some o
   rw[Heap.get?_update_other _ _ (Ne.symm hb)];exact one _ _ b o hb q)) hT
 | @few k u e hn1 hl h0 h1 hv=>
  dsimp only
  refine wpAny_bind (Aj e hS hd ht Qa hl λ r _ h2=>?_)
  obtain rfl:=h2 (by
   rcases(show n=0\/n=1 from Qa)with rfl|rfl
   ·exact Array.getElem?_eq_none Qa
   ·obtain⟨j,hj,rfl⟩:=h1 rfl
    obtain⟨_,b1⟩:=Ew hj (by rw[ht.place];omega)
    show es[below t.place (j+1)]? =none
    rw[b1]
    exact Array.getElem?_eq_none Qa)
  dsimp only
  refine wpAny_bind (wpAny_setField hI rfl Qb ?_)
  refine tE (A:=A.in1) hh ?_
  exact λ e h' hk hT=>fin e h' (λ b o hb q=>hk b o (one _ _ b o hb q)) hT
theorem Xb{es:Array (Int×Value)}{ys:List Nat}(p:ys.Perm (List.range es.size)):(ys.map λ p=>(es.getD p default).2).Perm (es.toList.map (·.2)):=by
 refine(p.map _).trans (List.Perm.of_eq ?_)
 apply List.ext_getElem
 ·simp
 ·intro i h1 h2
  simp only[List.length_map,List.length_range]at h1
  simp only[List.getElem_map,List.getElem_range,Array.getElem_toList]
  unfold Array.getD
  rw[dif_pos h1]
  rfl
theorem Tj{P:Value->Prop}{kk:Value->List bC}{hsh:List bC->Int}{L:List (List bC)}(hS:dD w s.heap S P kk hsh L n)(hn:n<=1000){Q:Qe}(h:∀I T m h' d vs,m<=n->(∀v∈vs,P v)->(vs.map kk).Nodup->(∀v∈vs,kk v∈L)->(∀k∈L,k∈vs.map kk)->s.heap.objs.size<=I->I≠T->I≠S->I<h'.objs.size->(T=S\/s.heap.objs.size<=T)->(∀b o,s.heap.get? b=some o->h'.get? b=some o)->jL w vs S I T m 0 h'->Q (.ref I) {s with heap:=h',drawn:=d}):
  wpAny (model prog w) A (pyIter (.ref S)) Q E s:=by
 obtain⟨o,es,ep,t,ho,hex,hd,ht,hl,hpl,hP,hle,N,hL,hL2⟩:=hS
 have facts:∀vs:List Value,vs.Perm (es.toList.map (·.2))->(∀v∈vs,P v)/\(vs.map kk).Nodup/\(∀v∈vs,kk v∈L)/\∀k∈L,k∈vs.map kk:=λ vs p=>by
  refine⟨λ v hv=>?_,?_,λ v hv=>?_,λ k hk=>?_⟩
  ·obtain⟨e,he,rfl⟩:=List.mem_map.mp (p.mem_iff.mp hv)
   exact hP e he
  ·rw[(p.map kk).nodup_iff,List.map_map]
   unfold List.Nodup
   rw[List.pairwise_iff_getElem]
   intro a b ha hb hab z
   rw[List.length_map]at ha hb
   rw[List.getElem_map,List.getElem_map]at z
   have:=N.once a b es.toList[a] es.toList[b] (by rw[<-Array.getElem?_toList];exact List.getElem?_eq_getElem ha) (by rw[<-Array.getElem?_toList];exact List.getElem?_eq_getElem hb) z
   omega
  ·obtain⟨e,he,rfl⟩:=List.mem_map.mp (p.mem_iff.mp hv)
   exact hL e he
  ·obtain⟨e,he,rfl⟩:=hL2 k hk
   exact List.mem_map.mpr ⟨e.2,p.mem_iff.mpr (List.mem_map.mpr ⟨e,he,rfl⟩),rfl⟩
 have tS:s.TypeIs (.ref S) "set" :=⟨o,ho,hex.1⟩
 have ltS:S<s.heap.objs.size:=Heap.lt_size ho
 refine wpAny_pyIter_slot tS F.slot_set_iter (wpAny_call_entry F.slot_set_iter tS Lc ?_ (F.args_set_iter_1 _))
 unfold Builtin.«frozenset.__iter__» Builtin.Frozenset.slot0
 refine wpAny_bind (wpAny_bind (m:=slotArgs "__iter__" 0 _) (wpAny_pure ?_))
 refine wpAny_pure ?_
 unfold Builtin.Frozenset.sizeOf
 refine wpAny_bind (wpAny_bind (wpAny_setEntries_of ho hd ht.fits (wpAny_pure ?_)))
 refine wpAny_bind ?_
 unfold setDrawn
 have line:(1000:Nat)<=sizeLine:=by decide+kernel
 have fin:∀(first:Value) (T:Addr) (h1:Heap) (d:Drawn),(∀b o,s.heap.get? b=some o->h1.get? b=some o)->s.heap.objs.size<=h1.objs.size->T<h1.objs.size->(T=S\/s.heap.objs.size<=T)->∀vs:List Value,vs.Perm (es.toList.map (·.2))->oS w h1 S T es.size 0 ep t es vs first->
   wpAny (model prog w) A.in1 (do ret (<-newFields "set_iterator" [first,rawInt 0,.ref S,rawInt es.size,rawInt (<-setEpoch S)])) (λ fin s'=>∃r,fin= .done (.ret r)/\∃T' r',s'.TypeIs r T'/\typeLookup (.type T') "__next__" =pure (some r')/\Q r s') E {s with heap:=h1,drawn:=d}:=by
  intro first T h1 d hk hle1 hT hTS vs pv way
  obtain⟨w1,w2,w3,w4⟩:=facts vs pv
  refine wpAny_bind (wpAny_setEpoch_of (s:={s with heap:=h1,drawn:=d}) (hk S o ho) hd ht.fits ?_)
  refine wpAny_bind (wpAny_newObj_type ?_)
  have keep:∀b o,h1.get? b=some o->(h1.push {cls:=.type "set_iterator",data:=.fields #[first,rawInt 0,.ref S,rawInt es.size,rawInt ep]}).get? b=some o:=λ b o e=>Heap.get?_push_of_some _ e
  refine wpAny_pure ⟨_,rfl,"set_iterator",_,⟨_,Heap.get?_push_size _ rfl,rfl⟩,si_slot.lookup,?_⟩
  refine h h1.objs.size T es.size _ d vs hle w1 w2 w3 w4 hle1 (Nat.ne_of_gt hT) (Nat.ne_of_gt (Nat.lt_of_lt_of_le ltS hle1)) (by rw[Heap.size_push];exact Nat.lt_succ_self _) hTS (λ b o e=>keep b o (hk b o e))
   ⟨o,es,ep,t,first,keep S o (hk S o ho),hd,ht,rfl,by rw[pv.length_eq,List.length_map,Array.length_toList],Heap.get?_push_size _ rfl,?_⟩
  cases way with
  |text e hv=>exact .text e hv
  |drawn e q hl hp hv=>exact .drawn e (keep _ _ q) hl hp hv
  |few e hn hl h0 h1 hv=>exact .few e hn hl h0 h1 hv
 refine wpAny_bind (wpAny_setState_of ho hd ht.fits ?_)
 dsimp only
 cases e:w.params.followText "set-order" with
 |true=>
  refine wpAny_bind (oP e (wpAny_pure ?_))
  simp only[Bool.not_true,Bool.false_and,Bool.false_eq_true,if_false]
  refine wpAny_bind (wpAny_pure ?_)
  exact fin (rawInt 0) S s.heap s.drawn (λ _ _ q=>q) (Nat.le_refl _) ltS (.inl rfl) _ ((No _ es).map _) (.text e rfl)
 | false=>
  refine wpAny_bind (oP e (wpAny_pure ?_))
  by_cases h1:es.size<=1
  ·have:(!false&&(!t.plain&&decide (es.size>1)))=false:=by rw[decide_eq_false Qa];simp
   show wpAny _ _ (if(!false&&(!t.plain&&decide (es.size>1)))=true then _ else _) _ _ _
   rw[this,if_neg Bool.false_ne_true]
   refine wpAny_bind (wpAny_pure ?_)
   exact fin (rawInt 0) S s.heap s.drawn (λ _ _ q=>q) (Nat.le_refl _) ltS (.inl rfl) _ (List.Perm.refl _) (.few (k:=0) e h1 (by rw[hl,e];rfl) (λ _=>rfl) (λ z=>nomatch z) rfl)
  ·have:(!false&&(!t.plain&&decide (es.size>1)))=true:=by rw[decide_eq_true Qa,hpl Qa];simp
   show wpAny _ _ (if(!false&&(!t.plain&&decide (es.size>1)))=true then _ else _) _ _ _
   rw[this,if_pos rfl]
   refine wpAny_bind (Ed _ _ _ Qb λ ys d hpy=>?_)
   have hly:ys.length=es.size:=by rw[hpy.length_eq,List.length_range]
   have hmy:∀y∈ys,y<es.size:=λ y hy=>List.mem_range.mp (hpy.mem_iff.mp hy)
   refine wpAny_bind (wpAny_newTuple ?_ (by rw[List.length_map,hly];omega))
   exact fin (.ref s.heap.objs.size) s.heap.objs.size _ d (λ b o q=>Heap.get?_push_of_some _ q) (by rw[Heap.size_push];exact Nat.le_succ _) (by rw[Heap.size_push];exact Nat.lt_succ_self _) (.inr (Nat.le_refl _)) (ys.map λ p=>(es.getD p default).2) (Xb hpy)
    (.drawn (m:=0) e (Heap.get?_push_size _ rfl) hly hmy λ k p x h1 h2=>by rw[List.getElem?_map,h1];show some (es.getD p default).2=_;unfold Array.getD;rw[dif_pos (Array.getElem?_eq_some_iff.mp h2).1];exact congrArg (λ z:Int×Value=>some z.2) (Array.getElem?_eq_some_iff.mp h2).2)
end
theorem jL.stay{w:World}{vs:List Value}{S I T:Addr}{n i:Nat}{h h':Heap}(x:jL w vs S I T n i h)(k:∀b o,b=S\/b=I\/b=T->h.get? b=some o->h'.get? b=some o):jL w vs S I T n i h':=by
 obtain⟨o,es,ep,t,first,hS,hd,ht,hn,hvl,hI,way⟩:=x
 refine⟨o,es,ep,t,first,k S o (.inl rfl) hS,hd,ht,hn,hvl,k I _ (.inr (.inl rfl)) hI,?_⟩
 cases way with
 |text e hv=>exact .text e hv
 |drawn e q hl hp hv=>exact .drawn e (k T _ (.inr (.inr rfl)) q) hl hp hv
 |few e hn hl h0 h1 hv=>exact .few e hn hl h0 h1 hv
section
variable{prog:Program}{w:World}{A:Around}{E:Qe}{s:Shared}{P:Value->Prop}{vs:List Value}{S I T L:Addr}{n i:Nat}{R:Result->Shared->Prop}
theorem Vs(hIS:I≠S)(hIT:I≠T)(hLI:L≠I)(hLS:L≠S)(hLT:L≠T)(hh:A.handled=none)(hn:n<=1000)(res:Value):∀(k i:Nat) (s:Shared) (acc:Array Value) (c:Nat),n-i=k->i<=n->jL w vs S I T n i s.heap->
  s.heap.get? L=some {cls:=.type "list",data:=.seq acc c}->acc.toList=vs.take i->vs.length=n->
  (∀h' acc' c',h'.get? L=some {cls:=.type "list",data:=.seq acc' c'}->acc'.toList=vs->(∀b o,b≠I->b≠L->s.heap.get? b=some o->h'.get? b=some o)->R (.ok (.ret res)) {s with heap:=h'})->
  codeAny (model prog w) A (.builtin "list.extend.loop" ⟨[.ref L,.ref I,res],[]⟩) R s:=by
 have line:(1000:Nat)<=sizeLine:=by decide+kernel
 intro k
 induction k with
 |zero=>
  intro i s acc c hk hi st hL hacc hvn fin
  have hsz:acc.size=i:=by rw[<-Array.length_toList,hacc,List.length_take];omega
  obtain rfl:i=n:=by omega
  refine codeAny_builtin F.entry_extend_loop ?_
  rw[Around.under_plainId F.plain_extend_loop _]
  show wpAny _ A.in1 (pyNext (.ref I)>>=_) _ _ s
  refine wpAny_bind (Rm (A:=A.in1) st hh λ h' hk'=>?_)
  exact wpAny_pure (fin h' acc c (hk' L _ hLI hL) (by rw[hacc,List.take_of_length_le Qa]) λ b o hb _ e=>hk' b o hb e)
 | succ k ih=>
  intro i s acc c hk hi st hL hacc hvn fin
  have hsz:acc.size=i:=by rw[<-Array.length_toList,hacc,List.length_take];omega
  have lt:i<n:=by omega
  refine codeAny_builtin F.entry_extend_loop ?_
  rw[Around.under_plainId F.plain_extend_loop _]
  show wpAny _ A.in1 (pyNext (.ref I)>>=_) _ _ s
  refine wpAny_bind (Rl st hIS hIT lt λ v h' hv st1 sb=>?_)
  have hL1:h'.get? L=some {cls:=.type "list",data:=.seq acc c}:=by rw[sb.2 L hLI];exact hL
  show wpAny _ A.in1 (updateSeq L (·.push v)>>=_) _ _ _
  refine wpAny_bind ?_
  refine wpAny_updateSeq (s:={s with heap:=h'}) hL1 rfl (wpAny_pure ⟨plainId_quiet F.plain_extend_loop _,ih (i+1) _ (acc.push v) _ Qa lt (st1.stay λ b o hb e=>?_) (Heap.get?_update_self _ hL1 rfl) (by rw[Array.toList_push,hacc,List.take_add_one,hv];rfl) hvn λ h2 acc' c' q1 q3 q4=>?_⟩) Qa (by show(acc.push v).size<=sizeLine+1;rw[Array.size_push];omega)
  ·refine(Heap.get?_update_other _ _ ?_).trans e
   rcases hb with rfl|rfl|rfl
   ·exact hLS
   ·exact hLI
   ·exact hLT
  ·refine fin h2 acc' c' q1 q3 λ b o hb1 hb2 e=>q4 b o hb1 hb2 ?_
   refine(Heap.get?_update_other _ _ (Ne.symm hb2)).trans ?_
   show h'.get? b=some o
   rw[sb.2 b hb1];exact e
theorem Xi{kk:Value->List bC}{hsh:List bC->Int}{LL:List (List bC)}(hS:dD w s.heap S P kk hsh LL n)(hn:n<=1000)(hh:A.handled=none){Q:List Value->Shared->Prop}
  (h:∀(vs:List Value) h' d,vs.length<=n->(∀v∈vs,P v)->(vs.map kk).Nodup->(∀v∈vs,kk v∈LL)->(∀k∈LL,k∈vs.map kk)->(∀b o,s.heap.get? b=some o->h'.get? b=some o)->s.heap.objs.size<h'.objs.size->Q vs {s with heap:=h',drawn:=d}):wpAny (model prog w) A (collect (.ref S)) Q E s:=by
 have hS0:=hS
 obtain⟨o,es,ep,t,ho,hex,hd,ht,hl,hpl,hP,hle,_⟩:=hS
 have ltS:S<s.heap.objs.size:=Heap.lt_size ho
 unfold collect
 refine wpAny_bind (wpAny_runValue (codeAny_builtin F.entry_proto_collect ?_))
 rw[Around.under_plainId F.plain_proto_collect _]
 show wpAny _ A.in1 (newList []>>=λ l=>again (.builtin "list.__iadd__" ⟨[l,.ref S],[]⟩)) _ _ s
 refine wpAny_bind (wpAny_newList ?_ (by size_fits))
 refine wpAny_pure ⟨plainId_quiet F.plain_list_iadd _,codeAny_builtin F.entry_list_iadd ?_⟩
 rw[Around.under_plainId F.plain_list_iadd _]
 show wpAny _ A.in1 (Builtin.List.listExtendWith (.ref s.heap.objs.size) (.ref S) (.ref s.heap.objs.size)) _ _ _
 unfold Builtin.List.listExtendWith
 have gL:(s.heap.push {cls:=.type "list",data:=.seq ([]:List Value).toArray}).get? s.heap.objs.size=some {cls:=.type "list",data:=.seq ([]:List Value).toArray}:=Heap.get?_push_size _ rfl
 have old:∀b o,s.heap.get? b=some o->(s.heap.push {cls:=.type "list",data:=.seq ([]:List Value).toArray}).get? b=some o:=λ b o e=>Heap.get?_push_of_some _ e
 refine wpAny_bind (wpAny_typeOf (T:= "set") ⟨o,old S o ho,hex.1⟩ ?_)
 have h1:Builtin.List.listSameRef (.ref s.heap.objs.size) (.ref S)=false:=by simp[Builtin.List.listSameRef,Nat.ne_of_gt ltS]
 have h2:(Value.type "set" ==Value.type "list")=false:=by decide
 have h3:(Value.type "set" ==Value.type "tuple")=false:=by decide
 simp only[h1,h2,h3,Bool.or_false,Bool.false_eq_true,if_false]
 refine wpAny_bind (Tj (hS0.stay λ o e=>old S o e) hn λ I T m h2 d vs hm w1 w2 w3 w4 hI hIT hIS hlI hT keep st=>?_)
 have hvn:vs.length=m:=by obtain⟨_,_,_,_,_,_,_,_,_,q,_⟩:=st;exact q
 have sz1:(s.heap.push {cls:=.type "list",data:=.seq ([]:List Value).toArray}).objs.size=s.heap.objs.size+1:=Heap.size_push ..
 have hLI:s.heap.objs.size≠I:=Nat.ne_of_lt (Nat.lt_of_lt_of_le (by rw[sz1];exact Nat.lt_succ_self _) hI)
 have hLS:s.heap.objs.size≠S:=Nat.ne_of_gt ltS
 have hLT:s.heap.objs.size≠T:=by
  rcases hT with rfl|hT
  ·exact hLS
  ·exact Nat.ne_of_lt (Nat.lt_of_lt_of_le (by rw[sz1];exact Nat.lt_succ_self _) hT)
 have tS2:Shared.TypeIs {s with heap:=h2,drawn:=d} (.ref S) "set" :=⟨o,keep S o (old S o ho),hex.1⟩
 refine wpAny_bind (wpAny_holding ?_)
 unfold Builtin.List.listLengthHint
 refine wpAny_bind (wpAny_specialOf tS2 F.slot_set_len.lookup ?_)
 dsimp only
 have sp:splitId "set.__len__" =some ("set","__len__"):=by kernel_rfl
 rw[sp]
 dsimp only
 refine wpAny_bind (wpAny_isInstance tS2 sub_set_self ?_)
 simp only[Bool.not_true,Bool.false_eq_true,if_false]
 rw[if_pos Qd]
 refine wpAny_bind (wpAny_typeOf tS2 ?_)
 dsimp only
 refine wpAny_pure ?_
 rw[if_pos Qd]
 refine wpAny_bind (wpAny_rule ?_)
 have g2:=keep _ _ gL
 refine wpAny_bind ?_
 show wpAny _ A.in1 (updateSeq s.heap.objs.size (·.push .none)>>=λ _=>updateSeq s.heap.objs.size (·.pop)) _ _ _
 refine wpAny_bind (wpAny_updateSeq (s:={s with heap:=h2,drawn:=d}) g2 rfl ?_)
 have g3:=Heap.get?_update_self (Obj.mapSeq (·.push Value.none)) g2 rfl
 refine wpAny_updateSeq (s:={s with heap:=h2.update s.heap.objs.size (Obj.mapSeq (·.push Value.none)),drawn:=d}) g3 rfl ?_
 have g4:=Heap.get?_update_self (Obj.mapSeq (·.pop)) g3 rfl
 have oth:∀b o,b≠s.heap.objs.size->h2.get? b=some o->((h2.update s.heap.objs.size (Obj.mapSeq (·.push Value.none))).update s.heap.objs.size (Obj.mapSeq (·.pop))).get? b=some o:=λ b o hb e=>
  (Heap.get?_update_other _ _ (Ne.symm hb)).trans ((Heap.get?_update_other _ _ (Ne.symm hb)).trans e)
 refine wpAny_pure ⟨plainId_quiet F.plain_extend_loop _,Vs (A:=A) hIS hIT hLI hLS hLT hh (Nat.le_trans hm hn) _ m 0 _ #[] _ rfl (Nat.zero_le _) (st.stay λ b o hb e=>oth b o ?_ e) g4 Qb hvn λ h3 acc c q1 q3 q4=>?_⟩
 ·rcases hb with rfl|rfl|rfl
  ·exact Ne.symm hLS
  ·exact Ne.symm hLI
  ·exact Ne.symm hLT
 ·show wpAny _ A (load s.heap.objs.size>>=_) _ _ _
  refine wpAny_bind (wpAny_load q1 ?_)
  refine wpAny_pure (h acc.toList h3 d (by rw[q3,hvn];exact hm) (by rw[q3];exact w1) (by rw[q3];exact w2) (by rw[q3];exact w3) (by rw[q3];exact w4) (λ b o e=>?_) (Heap.lt_size q1))
  have lt:=Heap.lt_size e
  exact q4 b o (λ z=>Nat.lt_irrefl _ (Nat.lt_of_lt_of_le lt (z▸Nat.le_trans (by rw[sz1];exact Nat.le_succ _) hI))) (Nat.ne_of_lt lt) (oth b o (Nat.ne_of_lt lt) (keep b o (old b o e)))
end
section
variable{prog:Program}{w:World}{A:Around}{E:Qe}{s:Shared}{P:Value->Prop}{S:Addr}{n:Nat}{kk:Value->List bC}{hsh:List bC->Int}{LL:List (List bC)}
theorem Kq(hS:dD w s.heap S P kk hsh LL n)(hn:n<=1000)(hh:A.handled=none)(hW:∀v,P v->W3 s.heap v){Q:Qe}
  (h:∀L (us:List Value) e h' d,s.heap.objs.size<=L->us.length<=n->(∀v∈us,P v)->(us.map kk).Nodup->(∀k∈LL,k∈us.map kk)->oV (jD s.heap) us->(∀b o,s.heap.get? b=some o->h'.get? b=some o)->h'.get? L=some {cls:=.type "list",data:=.seq us.toArray e}->Q (.ref L) {s with heap:=h',drawn:=d}):
  wpAny (model prog w) A (call (.builtin "sorted") [.ref S]) Q E s:=by
 refine Calls.call_function_entry kind_sorted plain_sorted entry_sorted (args_sorted1 _) ?_
 unfold Builtin.«sorted»
 refine wpAny_bind (m:=checkCount "sorted" 1 1 _) (wpAny_pure ?_)
 refine wpAny_bind (Xi (A:=A.in1) hS hn hh λ vs h1 d hlen hP w2 w3 w4 keep big=>?_)
 have line:(1000:Nat)<=sizeLine:=by decide+kernel
 refine wpAny_bind (wpAny_newList ?_ Qa)
 have hoL:(h1.push (seqObj "list" vs.toArray 0)).get? h1.objs.size=some (seqObj "list" vs.toArray 0):=Heap.get?_push_size _ rfl
 have old:∀b o,s.heap.get? b=some o->(h1.push (seqObj "list" vs.toArray 0)).get? b=some o:=λ b o e=>Heap.get?_push_of_some _ (keep b o e)
 show wpAny _ _ _ _ _ {s with heap:=h1.push (seqObj "list" vs.toArray 0),drawn:=d}
 refine wpAny_bind (wpAny_holding (wpAny_call_entry slot_list_sort ⟨_,hoL,rfl⟩ entry_list_sort (Bz (s:={s with heap:=h1.push (seqObj "list" vs.toArray 0),drawn:=d}) (O:=jD s.heap) hoL (λ h2=>Ac (λ v hv=>?_) Qa) Qa λ out perm ris=>⟨_,rfl,?_⟩) (args_list_sort _)))
 ·refine⟨(hW v (hP v hv)).stayK λ b o _ e=>old b o e,λ z=>?_⟩
  obtain⟨b,o,_,_,_,_,_,_,_,hv',ho,_⟩:=hW v (hP v hv)
  rw[hv']at z
  injection z with z
  exact Nat.lt_irrefl _ (Nat.lt_of_lt_of_le (Heap.lt_size ho) (z▸Nat.le_of_lt big))
 ·obtain⟨e,he⟩:=sortedHeap_at (out:=out) hoL
  refine wpAny_pure ⟨_,rfl,h h1.objs.size out.toList e _ d (Nat.le_of_lt big) ?_ (λ v hv=>hP v (perm.mem_iff.mp hv)) ((perm.map kk).nodup_iff.mpr w2) (λ k hk=>(perm.map kk).mem_iff.mpr (w4 k hk)) ris (λ b o q=>?_) (by rw[Array.toArray_toList];exact he)⟩
  ·rw[perm.length_eq];exact hlen
  ·have lt:=Heap.lt_size (keep b o q)
   show(sortedHeap _ _ _ _).get? b=some o
   rw[sortedHeap_old (Nat.ne_of_lt lt) (by rw[size_push'];exact Nat.lt_succ_of_lt lt)]
   exact old b o q
end
def dC(w:Wt):List bC:=[.inr w.cd,.inl w.ln,.inr w.ot]
def nK(w:Wt):List Int:=eF w.cd.cps.toList w.ln w.ot.cps.toList
def gD(a b:Wt):Prop:=nK a<nK b
theorem yX{a b:Wt}(h:dC a=dC b):a=b:=by
 cases a
 cases b
 unfold dC at h
 simp only[List.cons.injEq,Sum.inr.injEq,Sum.inl.injEq,and_true]at h
 obtain⟨rfl,rfl,rfl⟩:=h
 rfl
theorem Ha{x x' y y':List Nat}{i i':Int}(h:eF x i y=eF x' i' y'):x=x'/\i=i'/\y=y':=by
 have e1:x=x':=by
  refine Classical.byContradiction λ z=>?_
  have h1:=not_congr (sN (i:=i) (i':=i') (y:=y) (y':=y') z)
  have h2:=not_congr (sN (i:=i') (i':=i) (y:=y') (y':=y) (Ne.symm z))
  rw[h]at h1 h2
  exact z (List.le_antisymm (List.not_lt.mp (h2.mp (List.lt_irrefl _))) (List.not_lt.mp (h1.mp (List.lt_irrefl _))))
 subst e1
 have e2:i=i':=by
  refine Classical.byContradiction λ z=>?_
  have h1:=not_congr (sM (x:=x) (y:=y) (y':=y') z)
  have h2:=not_congr (sM (x:=x) (y:=y') (y':=y) (Ne.symm z))
  rw[h]at h1 h2
  have g1:=h1.mp (List.lt_irrefl _)
  have g2:=h2.mp (List.lt_irrefl _)
  omega
 subst e2
 refine⟨rfl,rfl,?_⟩
 have h1:=not_congr (sL (x:=x) (i:=i) (y:=y) (y':=y'))
 have h2:=not_congr (sL (x:=x) (i:=i) (y:=y') (y':=y))
 rw[h]at h1 h2
 exact List.le_antisymm (List.not_lt.mp (h2.mp (List.lt_irrefl _))) (List.not_lt.mp (h1.mp (List.lt_irrefl _)))
theorem zJ{a b:Wt}(h:nK a=nK b):a=b:=by
 obtain⟨h1,h2,h3⟩:=Ha h
 have e1:a.cd=b.cd:=by
  have:a.cd.cps=b.cd.cps:=Array.toList_inj.mp h1
  cases ha:a.cd
  cases hb:b.cd
  rw[ha,hb]at this
  cases this
  rfl
 have e3:a.ot=b.ot:=by
  have:a.ot.cps=b.ot.cps:=Array.toList_inj.mp h3
  cases ha:a.ot
  cases hb:b.ot
  rw[ha,hb]at this
  cases this
  rfl
 cases a
 cases b
 simp only at h2 e1 e3
 subst h2 e1 e3
 rfl
def oG:Option Obj->List bC
 | some o=>match o.data with
  |.seq its _=>match(its[0]?:Option Value),(its[1]?:Option Value),(its[2]?:Option Value)with
   |some (.str x _),some (.int i _),some (.str y _)=>[.inr x,.inl i,.inr y]
   |_,_,_=>[]
  |_=>[]
 |none=>[]
def kT(h:Heap):Value->List bC
 |.ref a=>oG (h.get? a)
 |_=>[]
def mS(P:Program)(w:World)(a:Addr)(pl:List (Addr×Wt)):HO:=.ext λ h=>∃kk:Value->List bC,(∀q∈pl,kk (.ref q.1)=dC q.2)/\dD w h a (uH (pl.map (·.1))) kk (tupleKeyHash (eR P w)) ((pl.map λ q=>dC q.2).reverse) pl.length
theorem Lf{P:Program}{w:World}{H:Hp}{h:Heap}{a:Addr}{pl:List (Addr×Wt)}(x:∃kk:Value->List bC,(∀q∈pl,kk (.ref q.1)=dC q.2)/\dD w h a (uH (pl.map (·.1))) kk (tupleKeyHash (eR P w)) ((pl.map λ q=>dC q.2).reverse) pl.length):cI P w H h a (mS P w a pl):=by
 refine⟨x,?_,λ h1 h2 y k=>?_⟩
 ·obtain⟨_,_,o,_,_,_,e,_⟩:=x
  exact⟨o,e⟩
 ·obtain⟨kk,a1,a2⟩:=y
  exact⟨kk,a1,a2.stay k⟩
theorem pI{ex:List Addr}{H:Hp}:∀{ws:List Wt} {vs:List V},aJ ex H (ws.map Wt.d) vs->∃pl:List (Addr×Wt),pl.map (·.2)=ws/\vs=pl.map (λ q=>V.ref q.1)/\∀q∈pl,aE ex H q.2.d (.ref q.1)
 |[],vs,h=>by
  obtain rfl:vs=[]:=List.length_eq_zero_iff.mp h.length
  exact⟨[],rfl,rfl,λ _ z=>nomatch z⟩
 |w::ws,vs,h=>by
  obtain⟨v,vs',rfl,h1,h2⟩:=h
  obtain⟨pl,e1,rfl,hq⟩:=pI h2
  obtain⟨a,rfl,_⟩:=Wt.view h1
  refine⟨(a,w)::pl,by rw[List.map_cons,e1],rfl,λ q z=>?_⟩
  rcases List.mem_cons.mp z with e|z
  ·rw[e];exact h1
  ·exact hq q z
theorem vK{ex:List Addr}{H:Hp}:∀{pl:List (Addr×Wt)},(∀q∈pl,aE ex H q.2.d (.ref q.1))->aJ ex H ((pl.map (·.2)).map Wt.d) (pl.map λ q=>V.ref q.1)
 |[],_=>rfl
 |q::pl,h=>⟨_,_,rfl,h q List.mem_cons_self,vK λ x z=>h x (List.mem_cons_of_mem _ z)⟩
section
variable{X:Cx}
theorem aB.w3k{pins:List (Addr×Obj)}{σ:St}{H:Hp}{s:Shared}{ex:List Addr}(I:aB X pins σ H s){w:Wt}{p:Addr}(h:aE ex H w.d (.ref p)):W3 s.heap (.ref p)/\cY s.heap (.ref p)=nK w/\kT s.heap (.ref p)=dC w/\iP X.prog X.w s.heap (.ref p) (dC w):=by
 obtain⟨a,e,q⟩:=Wt.view h
 injection e with e
 subst e
 obtain⟨_,its,r,⟨o,ho,hc,n,hd⟩,_⟩:=(I.hok p _ q:cI X.prog X.w H s.heap p (.tup _))
 cases r with
 | cons r1 r=>cases r with
  | cons r2 r=>cases r with
   | cons r3 r=>cases r with
    | nil=>
     obtain⟨t,rfl⟩:=r1
     obtain⟨u,rfl⟩:=r2
     obtain⟨k,rfl⟩:=r3
     refine⟨⟨p,o,n,_,t,_,u,_,k,rfl,ho,hc,hd⟩,?_,?_,p,rfl,o,_,n,ho,hc,hd,.cons (mD ..) (.cons (vP ..) (.cons (mD ..) .nil))⟩
     ·show jE (s.heap.get? p)=_
      rw[ho,vZ hd]
      rfl
     ·show oG (s.heap.get? p)=_
      rw[ho]
      unfold oG
      dsimp only
      rw[hd]
      rfl
def Mi(X:Cx):List V->Hp->VK->Prop:=λ vs H Q=>∃(z:Zn) (ws:List Wt) (x:V),vs=[x]/\aE z.ex H (.list (ws.map Wt.d)) x/\ws.length<200/\Cz z H/\
 ∀(p:Addr) (pl:List (Addr×Wt)) (H':Hp),aX z H H'->H' p=some (mS X.prog X.w p pl)->pl.map (·.2)=ws->(∀q∈pl,aE z.ex H' q.2.d (.ref q.1))->Q (.ref p) H'
theorem nW:∀{pl:List (Addr×Wt)} {us:List Value},aO (pl.map λ q=>V.ref q.1) us->us=pl.map λ q=>Value.ref q.1
 |[],us,r=>by cases r;rfl
 | q::pl,us,r=>by
  cases r with
  |cons r1 r2=>
   rw[nW r2]
   cases r1
   rfl
theorem Xv(hc:X.calm=true)(hu:X.A.units+64<cLine):dA X (.type "set") (Mi X):=by
 intro pins s σ H vs us Q I rv h
 obtain⟨z,ws,x,rfl,hx,hlen,cz,q⟩:=h
 obtain⟨u,rfl,ru⟩:=rv.one
 obtain⟨a,vs,rfl,hax,ha,hds⟩:=hx
 obtain rfl:u= .ref a:=ru
 obtain⟨pl,rfl,rfl,hps⟩:=pI hds
 obtain⟨its,r,pls,hl⟩:=I.list (aN.of ha)
 obtain rfl:=nW r
 rw[List.length_map]at hlen
 have him:∀(i:Nat) v,(pl.map λ q=>Value.ref q.1).toArray[i]? =some v->uH (pl.map (·.1)) v:=λ i v hv=>by
  rw[List.getElem?_toArray,List.getElem?_map]at hv
  obtain⟨q,hq,rfl⟩:=Option.map_eq_some_iff.mp hv
  exact⟨q.1,List.mem_map.mpr ⟨q,List.mem_of_getElem? hq,rfl⟩,rfl⟩
 have hkk:∀q∈pl,kT s.heap (.ref q.1)=dC q.2:=λ q hq=>(I.w3k (hps q hq)).2.2.1
 refine Xw (kk:=kT s.heap) (hsh:=tupleKeyHash (eR X.prog X.w)) (I.ok.hd hc) pls.isList him (λ v hv=>?_) rfl (by simp;omega) hu λ h' tk hS keep=>?_
 ·obtain⟨p,hp,rfl⟩:=hv
  obtain⟨q,hq,rfl⟩:=List.mem_map.mp hp
  obtain⟨w1,_,w2,w3⟩:=I.w3k (hps q hq)
  exact⟨w1,by rw[w2];exact w3⟩
 ·have hsz:(pl.map λ q=>Value.ref q.1).toArray.size=pl.length:=by simp
  have hL:((pl.map λ q=>Value.ref q.1).toArray.toList.map (kT s.heap)).reverse=(pl.map λ q=>dC q.2).reverse:=by
   rw[List.toList_toArray,List.map_map]
   congr 1
   exact List.map_congr_left λ q hq=>hkk q hq
  rw[hsz,hL]at hS
  have hnone:H s.heap.objs.size=none:=I.hok.fresh (Nat.le_refl _)
  have stp:aX z H (aD H s.heap.objs.size (mS X.prog X.w s.heap.objs.size pl)):=aX.of cz (aG.new hnone _)
  refine⟨.ref s.heap.objs.size,_,I.laid (t':=tk) (o:=mS X.prog X.w s.heap.objs.size pl) keep (Nat.le_refl _) (Lf ⟨kT s.heap,hkk,hS⟩),rfl,q _ pl _ stp aR rfl λ p hp=>(hps p hp).stp stp⟩
def Mc(X:Cx):List V->Hp->VK->Prop:=λ vs H Q=>∃(z:Zn) (p:Addr) (pl:List (Addr×Wt)),vs=[.ref p]/\H p=some (mS X.prog X.w p pl)/\pl.length<200/\Cz z H/\(∀q∈pl,aE z.ex H q.2.d (.ref q.1))/\
 ∀ws':List Wt,ws'.length<=pl.length->ws'.Pairwise gD->(∀w,w∈ws'↔w∈pl.map (·.2))->fJ z Q (.list (ws'.map Wt.d)) H
theorem Xs(hc:X.calm=true):dA X (.builtin "sorted") (Mc X):=by
 intro pins s σ H vs us Q I rv h
 obtain⟨z,p,pl,rfl,hp,hlen,cz,hps,q⟩:=h
 obtain⟨u,rfl,ru⟩:=rv.one
 obtain rfl:u= .ref p:=ru
 obtain⟨kk,hkk,hS⟩:=(I.hok p _ hp:cI X.prog X.w H s.heap p (mS X.prog X.w p pl)).1
 refine Kq hS Qa (I.ok.hd hc) (λ v hv=>?_) λ L us e h' d hL hus hP hnd hall ris keep hg=>?_
 ·obtain⟨b,hb,rfl⟩:=hv
  obtain⟨q,hq,rfl⟩:=List.mem_map.mp hb
  exact(I.w3k (hps q hq)).1
 ·have hnone:H L=none:=I.hok.fresh hL
  have:∃zs:List (Addr×Wt),us=zs.map (λ q=>Value.ref q.1)/\(∀z∈zs,z∈pl):=by
   clear hus hg hnd hall ris
   induction us with
   |nil=>exact⟨[],rfl,λ _ z=>nomatch z⟩
   |cons u us ih=>
    obtain⟨zs,rfl,hz⟩:=ih λ v hv=>hP v (List.mem_cons_of_mem _ hv)
    obtain⟨b,hb,rfl⟩:=hP u List.mem_cons_self
    obtain⟨q,hq,rfl⟩:=List.mem_map.mp hb
    refine⟨q::zs,rfl,λ y hy=>?_⟩
    rcases List.mem_cons.mp hy with rfl|hy
    ·exact hq
    ·exact hz y hy
  obtain⟨zs,rfl,hz⟩:=this
  rw[List.length_map]at hus
  have rel:∀l:List (Addr×Wt),aO (l.map λ q=>V.ref q.1) (l.map λ q=>Value.ref q.1):=λ l=>by
   induction l with
   |nil=>exact .nil
   |cons y l ih=>exact .cons rfl ih
  have line:zs.length<=sizeLine:=Nat.le_trans Qa gM
  have I2:aB X pins σ (aD H L (.lst (zs.map λ q=>V.ref q.1))) {s with heap:=h',drawn:=d}:=
   I.call (g':=s.gens) (t':=s.toks) (d':=d) (ch:=[]) (Un.laid keep hL hnone) (I.hok.laid keep hL ⟨by rw[List.length_map];exact line,zs.map λ q=>Value.ref q.1,e,rel zs,hg⟩) ⟨I.bare.1,Nat.le_refl _⟩ (λ _ z=>nomatch z)
  have ek:(zs.map λ q=>Value.ref q.1).map kk=zs.map λ q=>dC q.2:=by
   rw[List.map_map]
   exact List.map_congr_left λ q hq=>hkk q (hz q hq)
  rw[ek]at hnd hall
  refine⟨.ref L,_,I2,rfl,(q (zs.map (·.2)) (by rw[List.length_map];exact hus) ?_ (λ w=>⟨λ hw=>?_,λ hw=>?_⟩)).lst cz (vK λ q hq=>hps q (hz q hq)) hnone⟩
  ·have ris:(zs.map λ q=>Value.ref q.1).Pairwise λ x y=>(jD s.heap).le (x,x) (y,y):=ris
   rw[List.pairwise_map]at ris⊢
   have nd2:zs.Pairwise λ a b=>dC a.2≠dC b.2:=by
    unfold List.Nodup at hnd
    rw[List.pairwise_map]at hnd
    exact hnd
   refine List.Pairwise.imp_of_mem (fun{a b} ma mb h=>?_) (ris.and nd2)
   obtain⟨le,ne⟩:=h
   have le:decide (cY s.heap (.ref b.1)<cY s.heap (.ref a.1))=false:=le
   rw[(I.w3k (hps a (hz a ma))).2.1,(I.w3k (hps b (hz b mb))).2.1]at le
   have le:=of_decide_eq_false le
   refine Classical.byContradiction λ z=>ne ?_
   rw[zJ (List.le_antisymm (List.not_lt.mp le) (List.not_lt.mp z))]
  ·obtain⟨q,hq,rfl⟩:=List.mem_map.mp hw
   exact List.mem_map.mpr ⟨q,hz q hq,rfl⟩
  ·obtain⟨q,hq,rfl⟩:=List.mem_map.mp hw
   have:=hall (dC q.2) (List.mem_reverse.mpr (List.mem_map.mpr ⟨q,hq,rfl⟩))
   obtain⟨q',hq',e⟩:=List.mem_map.mp this
   exact List.mem_map.mpr ⟨q',hq',yX e⟩
end
end L2
namespace L2
open PySem PySem.Spec PyProof.Rows PySem.W
structure SdG(p:Pl)(s:Sd):Prop where
 nb:s.bs.length=p.ls.length
 bd:∀b∈s.bs,1<=b/\b<=99
 nc:s.cs.length<=30
 c:∀c∈s.cs,jQ p c
 cn:∀c∈s.cs,nm c.nm=true
 nd:(s.cs.map (·.nm)).Nodup
 srt:sortedS (s.cs.map (·.nm))=true
 bk:∀c∈s.cs,c.bk=true->∀k,p.kd? c.kd=some k->c.pl<=k.way.length
 nw:s.ws.length<=60
 w:∀w∈s.ws,(∃c∈s.cs,c.nm=w.cd)/\(∃c∈s.cs,c.nm=w.ot)/\0<=w.ln/\w.ln<=p.n
theorem rK{s:Sd}{x:Str}(h:∃c∈s.cs,c.nm=x):(s.cd? x).isSome=true:=by
 obtain⟨c,hc,e⟩:=h
 unfold Sd.cd?
 rw[List.find?_isSome]
 exact⟨c,hc,by simp[e]⟩
theorem SdG.ok{p:Pl}{s:Sd}(g:SdG p s):mU p s where
 nb:=g.nb
 nc:=Nat.le_trans g.nc Qc
 c:=g.c
 nw:=Nat.le_trans g.nw Qc
 w:=λ w hw=>by
  obtain⟨h1,h2,_,_⟩:=g.w w hw
  refine⟨rK h1,rK h2,?_,?_⟩
  ·obtain⟨c,hc,e⟩:=h1;rw[<-e];exact fZ (g.cn c hc)
  ·obtain⟨c,hc,e⟩:=h2;rw[<-e];exact fZ (g.cn c hc)
theorem AF:bootBuiltins ("set" :Str)=some (.type "set"):=by decide+kernel
theorem kZ{α:Type}{f:α->Str}{a:α}:∀{l:List α},(l.map f).Nodup->a∈l->l.find? (λ b=>f b==f a)=some a
 |[],_,h=>nomatch h
 | b::l,hn,h=>by
  rw[List.map_cons,List.nodup_cons]at hn
  rcases List.mem_cons.mp h with rfl|h
  ·exact List.find?_cons_of_pos Qb
  ·rw[List.find?_cons_of_neg]
   ·exact kZ hn.2 h
   ·intro e
    have e:f b=f a:=by simpa using e
    exact hn.1 (by rw[e];exact List.mem_map_of_mem h)
theorem Sn{p:Pl}(G:dP p){x:Str}{k:Kd}{j:Int}(hk:p.kd? x=some k)(h0:0<=j):p.at x j<=p.n:=by
 have l1:=G.l1
 rcases(show j=0\/(1<=j/\j<=k.way.length)\/(k.way.length:Int)<j from Qa)with rfl|⟨q1,q2⟩|q1
 ·rw[oQ]
  unfold Pl.n
  omega
 ·obtain⟨wv,hw,ew⟩:=rO hk q1 q2
  rw[ew]
  have:=((G.kn k (fO hk).1).2.2.2.2.1 wv (List.mem_of_getElem? hw)).2
  omega
 ·rw[oR hk q1]
  exact Int.le_refl _
def iB(p:Pl)(s:Sd)(l:Int)(k:Kd):Str:=
 if 0<=l/\l<p.n then(if s.bs.getD l.toNat 0<=((s.inL p l).length:Int)then "Full" else if p.kb k.nm l<=(s.many p l k.nm:Int)then "KindFull" else "")else ""
def Sd.hold(s:Sd)(p:Pl)(w:Wt):Bool:=match s.cd? w.cd with
 |some c=>decide (p.lane c<w.ln)||s.out p w.ot
 |none=>false
structure Fj(p:Pl)(s:Sd):Prop extends SdG p s where
 rise:s.ws.Pairwise gD
 hold:∀w∈s.ws,s.hold p w=true
 room:∀l:Int,0<=l->l<p.n->((s.inL p l).length:Int)<=s.bs.getD l.toNat 0
 kroom:∀(l:Int) (k:Kd),0<=l->l<p.n->k∈p.ks->l∈k.way->(s.many p l k.nm:Int)<=p.kb k.nm l
theorem Tt(p:Pl)(bs:List Int)(cs:List Cd)(ws:List Wt)(c:Cd)(l:Int):(Sd.inL ⟨bs,cs++[c],ws⟩ p l).length=(Sd.inL ⟨bs,cs,ws⟩ p l).length+if p.lane c=l then 1 else 0:=by
 unfold Sd.inL
 simp only[List.filter_append,List.map_append,List.length_append,List.length_map,List.filter_cons,List.filter_nil]
 by_cases h:p.lane c=l<;>simp[h]
theorem Sb(p:Pl)(bs:List Int)(cs:List Cd)(ws:List Wt)(c:Cd)(l:Int)(k:Str):Sd.many ⟨bs,cs++[c],ws⟩ p l k=Sd.many ⟨bs,cs,ws⟩ p l k+if c.kd=k/\p.at k c.pl=l then 1 else 0:=by
 unfold Sd.many
 simp only[List.filter_append,List.length_append,List.filter_cons,List.filter_nil]
 by_cases h:c.kd=k/\p.at k c.pl=l
 ·simp[h.1,h.2]
 ·rw[if_neg h]
  have:(c.kd==k&&p.at k c.pl==l)=false:=by
   rw[Bool.eq_false_iff]
   intro z
   rw[Bool.and_eq_true]at z
   exact h ⟨eq_of_beq z.1,eq_of_beq z.2⟩
  simp[this]
def oU(p:Pl)(s:Sd):Prop:=(∀l:Int,0<=l->l<p.n->((s.inL p l).length:Int)<=s.bs.getD l.toNat 0)/\∀(l:Int) (k:Kd),0<=l->l<p.n->k∈p.ks->l∈k.way->(s.many p l k.nm:Int)<=p.kb k.nm l
theorem oU.snoc{p:Pl}{bs:List Int}{cs:List Cd}{ws:List Wt}{c:Cd}{kd:Kd}(G:dP p)(h:oU p ⟨bs,cs,ws⟩)(hkf:p.kd? c.kd=some kd)(hr:∀l:Int,0<=l->l<p.n->p.lane c=l->iB p ⟨bs,cs,ws⟩ l kd= ""):oU p ⟨bs,cs++[c],ws⟩:=by
 have strict:∀l:Int,0<=l->l<p.n->p.lane c=l->((Sd.inL ⟨bs,cs,ws⟩ p l).length:Int)<bs.getD l.toNat 0/\(Sd.many ⟨bs,cs,ws⟩ p l kd.nm:Int)<p.kb kd.nm l:=λ l l0 l1 e=>by
  have:=hr l l0 l1 e
  unfold iB at this
  rw[if_pos ⟨l0,l1⟩]at this
  split at this
  ·exact absurd this Qc
  ·split at this
   ·exact absurd this Qc
   ·rename_i a b
    exact⟨Int.not_le.mp a,Int.not_le.mp b⟩
 refine⟨λ l l0 l1=>?_,λ l k l0 l1 hk hw=>?_⟩
 ·rw[Tt]
  by_cases e:p.lane c=l
  ·have:=(strict l l0 l1 e).1
   rw[if_pos e]
   show _<=bs.getD l.toNat 0
   omega
  ·rw[if_neg e]
   exact h.1 l l0 l1
 ·rw[Sb]
  by_cases e:c.kd=k.nm/\p.at k.nm c.pl=l
  ·have hkk:p.kd? k.nm=some k:=by unfold Pl.kd?;exact kZ G.knd hk
   rw[e.1,hkk]at hkf
   obtain rfl:=Option.some.inj hkf
   have:=(strict l l0 l1 (by unfold Pl.lane;rw[e.1];exact e.2)).2
   rw[if_pos e]
   omega
  ·rw[if_neg e]
   exact h.2 l k l0 l1 hk hw
theorem Lx{p:Pl}{bs:List Int}(G:dP p)(hl:bs.length=p.ls.length)(hb:∀b∈bs,1<=b/\b<=99):oU p ⟨bs,[],[]⟩:=by
 refine⟨λ l l0 l1=>?_,λ l k l0 l1 hk hw=>?_⟩
 ·show(0:Int)<=bs.getD l.toNat 0
  have hlt:l.toNat<bs.length:=by unfold Pl.n at l1;omega
  rw[List.getD_eq_getElem?_getD,List.getElem?_eq_getElem hlt]
  have:=hb _ (List.getElem_mem hlt)
  show 0<=bs[l.toNat]
  omega
 ·show(0:Int)<=p.kb k.nm l
  unfold Pl.kb
  have hkk:p.kd? k.nm=some k:=by unfold Pl.kd?;exact kZ G.knd hk
  rw[hkk]
  show 0<=k.bds.getD _ 0
  rw[List.getD_eq_getElem?_getD]
  cases e:k.bds[k.way.findIdx (· ==l)]? with
  |none=>exact Int.le_refl _
  |some b=>
   have:=(G.kn k hk).2.2.2.2.2.2 b (List.mem_of_getElem? e)
   show 0<=b
   omega
end L2
namespace K14
open PySem PySem.Spec L2 PyProof.Rows PySem.W
def tV:Sp:=λ vs H Q _=>∃(p:Pl) (s:Sd) (v kv:V) (ba ca:Addr) (cv:List V) (k:Kd) (l:Int),vs=[v,.ref ba,.ref ca,kv,.int l]/\aE [] H p.d v/\dP p/\s.bs.length=p.ls.length/\s.cs.length<=30/\(∀c∈s.cs,jQ p c)/\H ba=some (.lst (s.bs.map V.int))/\
 H ca=some (.lst cv)/\aJ [] H (s.cs.map Cd.d) cv/\aE [] H k.d kv/\k∈p.ks/\(0<=l->l<p.n->l∈k.way)/\∀H',aG [] H H'->Q (.str (iB p s l k)) H'
section
variable{P:Program}{w:World}{K:PySem.W.Frag}{mg:Str->Option Value}{base:Heap}
theorem Pe{f:Addr}{fd:FuncData}(F:bR K "_law_room" "_law_room" nR f fd)(T:Txt K mg)(hJ:bF P w K mg base "_law_lane" 2 ["_law_plan_here","_law_one"] nN):bE P w K mg base bP 3 f fd ["_law_plan_here","_law_bounds","_law_cards","_law_kind_here","_law_lane_here"] tV:=by
 refine F.ok sc__law_room (λ vs H Q E h=>?_) (λ cdv A outer s H vs Q E hr h=>?_)
 ·obtain⟨p,sd,v,kv,ba,ca,cv,k,l,rfl,_⟩:=h
  rfl
 obtain⟨p,sd,v,kv,ba,ca,cv,k,l,rfl,hp,G,nb,ic,hco,hba,hca,hcs,hkv,hkp,hlw,q⟩:=h
 have Po:=G.ok
 have ec:cv.length=sd.cs.length:=by rw[hcs.length,List.length_map]
 have hkf:p.kd? k.nm=some k:=by unfold Pl.kd?;exact kZ G.knd hkp
 refine'⟨_,?hh,?rr⟩
 case hh=>exists aT ?_ ?_,lX sc__law_room.nd (aQ 5) (Or.inl rfl) rfl ?_ (eU ["_law_one","_law_plan_here","_law_lane_here"] 1 [0,4]) ?_ ?_ ?_ ?_ ?_ ?_ ?_,(by exact⟨rfl,Qd,Qd,(show∀y:Str×NameKind,y∈_->y.2=NameKind.free->(aW nR).names.lookup y.1=some .cell\/(aW nR).names.lookup y.1=some .free from Qd)⟩),Qd,Qc,nZ (pv 2),4,bL ?_ (aQ 0) (Or.inl rfl) (Or.inr rfl),(by exact(show(["_law_one","_law_plan_here","_law_lane_here"]:List Str).Nodup from Qd)),fH Qc,4,jZ ?_,bY eI ?_ (pv 2) (bO _),bD hJ hr ?_ rfl ?_,aA (pv 1) ?_,aA (pv 0) aI,Qc,4,aV ?_ (pv 0) aL (λ _ _=>rfl),(by exact(show cW _ (fV K)from bK)),aT ?_ ?_,cG ?_ ?_ cF,iY ?_,Ni qB oA aL (pv 4) ?_,bG cU rfl T.b_len PySem.boot_len ?_,aA ?_ aI,aV bK (pv 0) aL (λ _ _=>rfl),aY ?_,bI cQ,aT ?_ ?_,cG ?_ ?_ cF,bY qC ?_ ?_ (bO _),bG cU rfl T.b_len PySem.boot_len ?_,aA (pv 5) aI,aV ix_list (pv 1) (pv 4) (λ _ _=>rfl),aY ?_,bI cQ,aT ?_ ?_,cG ?_ ?_ cF,bY qC ?_ ?_ (bO _),jB PySem.F.plainAttrs_list PySem.F.slot_list_count PySem.F.type_list_count Bq (pv 5) ?_,aA ?_ aI,aV bK (pv 3) aL (λ _ _=>rfl),aV bK ?_ ?_ (λ _ _=>rfl),aV bK (pv 3) aL (λ _ _=>rfl),Oh PySem.F.plainAttrs_tuple PySem.F.slot_tuple_index PySem.F.type_tuple_index Rx ?_ ?_,aV bK (pv 3) aL (λ _ _=>rfl),aA (pv 4) aI,aY ?_,bI cQ,aY ?_,bI cQ
 refine⟨_,rfl,ca,rfl,⟨cv,aN.of hca⟩,kR (pG (ys:=cv)) (λ i xs H2=>aG [] H H2/\xs=(((sd.cs.take i).filter λ c=>p.lane c==l).map (·.kd)).map V.str) ⟨aG.refl,rfl⟩ (λ _ _ _ h=>aN.of (h.1.lst Qb hca)) ?_ ?_⟩
 ·rintro i y xs H2 hy hi ⟨e,rfl⟩
  obtain⟨c,hc,hdy⟩:=hcs.nth hy
  obtain⟨b,rfl,hb⟩:=Cd.view (aE.ext e hdy)
  obtain⟨_,kd,hkd,p0,p1⟩:=hco c (List.mem_of_getElem? hc)
  have tk:sd.cs.take (i+1)=sd.cs.take i++[c]:=by rw[List.take_add_one,hc];rfl
  refine⟨_,rfl,_,rfl,p,v,b,c.nm,c.kd,c.pl,[.bl c.bk],kd,rfl,aE.ext e hp,Po,hb,hkd,(G.kn kd (fO hkd).1).2.1,p0,p1,λ H3 e3=>?_⟩
  refine⟨_,rfl,rfl,_,rfl,?_⟩
  have e13:=e.trans e3
  have et:decide (V.int (p.at c.kd c.pl)=V.int l)=(p.lane c==l):=by
   unfold Pl.lane
   by_cases h:p.at c.kd c.pl=l<;>simp[h]
  refine bU (λ cc=>?_) (λ cc=>?_)
  ·rw[et]at cc
   refine⟨_,rfl,b,_,_,.str c.kd,rfl,rfl,aM.of (e3.tup Qb hb),rfl,?_,nx hi ⟨e13,?_⟩⟩
   ·rw[List.length_map,List.length_map]
    refine cM (Nat.le_trans (List.length_filter_le _ _) ?_)
    rw[List.length_take]
    omega
   ·rw[tk,List.filter_append,List.map_append,List.map_append]
    simp[List.filter_cons,cc]
  ·rw[et]at cc
   refine nx hi ⟨e13,?_⟩
   rw[tk,List.filter_append,List.map_append,List.map_append]
   simp[List.filter_cons,cc]
 ·rintro xs H2 ⟨e,rfl⟩ t ht
  rw[ec,List.take_length]
  have e2:aG [] H2 (aD H2 t (.lst (((sd.cs.filter λ c=>p.lane c==l).map (·.kd)).map V.str))):=aG.new ht _
  have h2:(aD H2 t (.lst (((sd.cs.filter λ c=>p.lane c==l).map (·.kd)).map V.str))) t=some (.lst (((sd.cs.filter λ c=>p.lane c==l).map (·.kd)).map V.str)):=aR
  generalize aD H2 t (.lst (((sd.cs.filter λ c=>p.lane c==l).map (·.kd)).map V.str))=H3 at e2 h2⊢
  have e3:=e.trans e2
  have fin:=q H3 e3
  obtain⟨a,la,ka,lv,kv',rfl,ha,hla,hls,hka,hks,el,ek⟩:=Pl.view hp
  refine⟨_,rfl,_,_,rfl,rfl,_,rfl,?_⟩
  refine bU (λ c0=>?_) (λ c0=>?_)
  ·have hl0:0<=l:=of_decide_eq_true c0
   refine⟨_,rfl,a,_,_,.ref la,rfl,rfl,aM.of (e3.tup Qb ha),rfl,la,lv,rfl,.inr (aM.of (e3.tup Qb hla)),_,_,rfl,rfl,_,rfl,?_⟩
   refine bU (λ c1=>?_) (λ c1=>?_)
   ·have:¬(0<=l/\l<p.n):=λ z=>by
     simp at c1
     have:=z.2
     unfold Pl.n at this
     omega
    unfold iB at fin
    rw[if_neg this]at fin
    exact fin
   ·have hl:l<p.n:=by
     have:=c1
     simp at this
     rw[el]at this
     exact this
    unfold iB at fin
    rw[if_pos ⟨hl0,hl⟩]at fin
    have hbl:l.toNat<sd.bs.length:=by
     have:(l.toNat:Int)<p.ls.length:=by rw[Int.toNat_of_nonneg hl0];exact hl
     rw[nb]
     omega
    have eb:sd.bs.getD l.toNat 0=sd.bs[l.toNat]:=by rw[List.getD_eq_getElem?_getD,List.getElem?_eq_getElem hbl];rfl
    have elen:(((sd.cs.filter λ c=>p.lane c==l).map (·.kd)).map V.str).length=(sd.inL p l).length:=by unfold Sd.inL;rw[List.length_map,List.length_map,List.length_map]
    obtain⟨ka2,wa,bda,rfl,hka2,hwa,hbda⟩:=Kd.view hkv
    refine⟨_,rfl,t,_,rfl,.inl (aN.of h2),_,rfl,_,rfl,ba,_,_,.int sd.bs[l.toNat],rfl,rfl,aN.of (e3.lst Qb hba),eY hl0 (by simp[hbl]),_,_,rfl,rfl,_,rfl,?_⟩
    rw[elen]
    rw[eb]at fin
    refine bU (λ c2=>?_) (λ c2=>?_)
    ·rw[if_pos (of_decide_eq_true c2)]at fin
     exact fin
    rw[if_neg (λ z=>c2 (decide_eq_true z))]at fin
    have hm:=hlw hl0 hl
    have hjl:k.way.findIdx (· ==l)<k.way.length:=List.findIdx_lt_length_of_exists ⟨l,hm,Qb⟩
    have hje:k.way[k.way.findIdx (· ==l)]=l:=by
     have:=List.findIdx_getElem (xs:=k.way) (p:=(· ==l)) (w:=hjl)
     simpa using this
    have kw:=Po.kw k hkp
    have hjb:k.way.findIdx (· ==l)<k.bds.length:=by omega
    have ekb:p.kb k.nm l=k.bds[k.way.findIdx (· ==l)]:=by
     unfold Pl.kb
     rw[hkf]
     show k.bds.getD (k.way.findIdx (· ==l)) 0=_
     rw[List.getD_eq_getElem?_getD,List.getElem?_eq_getElem hjb]
     rfl
    have emany:(((sd.cs.filter λ c=>p.lane c==l).map (·.kd)).map V.str).countP (λ x=>dZ x (.str k.nm))=sd.many p l k.nm:=by
     rw[List.countP_map,List.countP_map,List.countP_eq_length_filter,List.filter_filter]
     unfold Sd.many
     congr 1
     apply List.filter_congr
     intro c _
     show((c.kd==k.nm)&&(p.lane c==l))=((c.kd==k.nm)&&(p.at k.nm c.pl==l))
     unfold Pl.lane
     cases h:c.kd==k.nm with
     |false=>rfl
     |true=>rw[show c.kd=k.nm from eq_of_beq h]
    refine⟨_,rfl,.inl ⟨rfl,_,aN.of h2⟩,_,rfl,ka2,_,_,.str k.nm,rfl,rfl,aM.of (e3.tup Qb hka2),rfl,t,_,.str k.nm,rfl,rfl,aN.of h2,rfl,by simp[eS],?_⟩
    rw[emany]
    refine⟨_,rfl,ka2,_,_,.ref bda,rfl,rfl,aM.of (e3.tup Qb hka2),rfl,_,rfl,ka2,_,_,.ref wa,rfl,rfl,aM.of (e3.tup Qb hka2),rfl,⟨wa,_,rfl,e3.tup Qb hwa⟩,_,rfl,wa,_,.int l,k.way.findIdx (· ==l),rfl,rfl,aM.of (e3.tup Qb hwa),rfl,by simp[eS],⟨⟨.int l,by simp[hjl,hje],by simp[dZ]⟩,λ m x hm2 hx=>?_⟩,?_⟩
    ·rw[List.getElem?_map]at hx
     obtain⟨w',hw',rfl⟩:=Option.map_eq_some_iff.mp hx
     obtain⟨hlt,he⟩:=List.getElem?_eq_some_iff.mp hw'
     have:=List.not_of_lt_findIdx hm2
     rw[he]at this
     simpa[dZ]using this
    refine⟨bda,_,_,.int k.bds[k.way.findIdx (· ==l)],rfl,rfl,aM.of (e3.tup Qb hbda),eY Qa (by simp[hjb]),_,_,rfl,rfl,_,rfl,?_⟩
    rw[ekb]at fin
    refine bU (λ c3=>?_) (λ c3=>?_)
    ·rw[if_pos (of_decide_eq_true c3)]at fin
     exact fin
    ·rw[if_neg (λ z=>c3 (decide_eq_true z))]at fin
     exact fin
  ·have:¬(0<=l/\l<p.n):=λ z=>c0 (decide_eq_true z.1)
   unfold iB at fin
   rw[if_neg this]at fin
   exact⟨_,rfl,fin⟩
end
def tX:Sp:=λ vs H Q _=>∃(p:Pl) (s:Sd) (v:V) (ca wa:Addr) (cv:List V) (x y:Str) (n:Int) (c:Cd),vs=[v,.ref ca,.ref wa]/\aE [] H p.d v/\dP p/\s.cs.length<=30/\(∀c∈s.cs,jQ p c)/\
 H ca=some (.lst cv)/\aJ [] H (s.cs.map Cd.d) cv/\H wa=some (.tup [.str x,.int n,.str y])/\s.cd? y=some c/\∀H',aG [] H H'->Q (.bl (!s.out p y)) H'
section
variable{P:Program}{w:World}{K:PySem.W.Frag}{mg:Str->Option Value}{base:Heap}
theorem Pm{f:Addr}{fd:FuncData}(F:bR K "_law_bars" "_law_bars" nV f fd)(T:Txt K mg)(hJ:bF P w K mg base "_law_lane" 2 ["_law_plan_here","_law_one"] nN):bE P w K mg base bP 3 f fd ["_law_plan_here","_law_cards","_law_wait"] tX:=by
 refine F.ok sc__law_bars (λ vs H Q E h=>?_) (λ cdv A outer s H vs Q E hr h=>?_)
 ·obtain⟨p,sd,v,ca,wa,cv,x,y,n,c,rfl,_⟩:=h
  rfl
 obtain⟨p,sd,v,ca,wa,cv,x,y,n,c,rfl,hp,G,ncs,hco,hca,hcs,hwa,hcy,q⟩:=h
 obtain⟨cs,ecs⟩:∃cs,cs=sd.cs:=⟨_,rfl⟩
 rw[<-ecs]at ncs hco hcs
 have Po:=G.ok
 refine'⟨_,?hh,?rr⟩
 case hh=>exists aT ?_ ?_,lX sc__law_bars.nd (aQ 3) (Or.inl rfl) rfl ?_ (eU ["_law_one","_law_wait"] 1 [2]) ?_ ?_ ?_ ?_ ?_ ?_ ?_,(by exact⟨rfl,Qd,Qd,(show∀y:Str×NameKind,y∈_->y.2=NameKind.free->(aW nV).names.lookup y.1=some .cell\/(aW nV).names.lookup y.1=some .free from Qd)⟩),Qd,Qc,nZ (pv 1),4,bL ?_ (aQ 0) (Or.inl rfl) (Or.inr rfl),(by exact(show(["_law_one","_law_wait"]:List Str).Nodup from Qd)),fH Qc,4,jZ ?_,bY eI ?_ ?_ (bO _),aV ?_ (pv 0) aL (λ _ _=>rfl),(by exact(show cW _ (fV K)from bK)),aV ?_ (pv 1) aL (λ _ _=>rfl),(by exact(show cW _ (fV K)from bK)),4,(pv 0),aY ?_,bI ?_,iF oA ?_ ?_ (bO _),bD hJ hr ?_ rfl ?_,aA (pv 0) ?_,aA ?_ aI,aV ix_list (pv 3) aL (λ _ _=>rfl),Qc,bG cU rfl T.b_len PySem.boot_len ?_,aA ?_ aI,aV bK (pv 0) aL (λ _ _=>rfl)
 have hcl:cv.length=cs.length:=by rw[hcs.length,List.length_map]
 refine⟨_,rfl,ca,rfl,⟨cv,aN.of hca⟩,kR (pG (ys:=cv)) (λ i xs H2=>aG [] H H2/\aJ [] H2 (((cs.take i).filter λ c=>c.nm==y).map Cd.d) xs) ⟨aG.refl,rfl⟩ (λ _ _ _ h=>aN.of (h.1.lst Qb hca)) ?_ ?_⟩
 ·rintro i u xs H2 hy hi ⟨e,hxs⟩
  obtain⟨c,hc,hdy⟩:=hcs.nth hy
  have hdy2:=aE.ext e hdy
  obtain⟨b,rfl,hb⟩:=Cd.view hdy2
  have tk:cs.take (i+1)=cs.take i++[c]:=by rw[List.take_add_one,hc];rfl
  refine⟨_,rfl,b,_,_,.str c.nm,rfl,rfl,aM.of hb,rfl,_,rfl,wa,_,_,.str y,rfl,rfl,aM.of (e.tup Qb hwa),rfl,rfl,_,rfl,?_⟩
  have small:xs.length<1000:=by
   rw[hxs.length,List.length_map]
   have:=List.length_filter_le (λ c:Cd=>c.nm==y) (cs.take i)
   rw[List.length_take]at this
   omega
  refine bU (λ cc=>?_) (λ cc=>?_)
  ·have ck:c.nm=y:=by simpa using cc
   refine⟨_,rfl,cM Qa,nx hi ⟨e,?_⟩⟩
   rw[tk,List.filter_append,List.map_append]
   refine aJ.append hxs ?_
   have:([c].filter λ c=>c.nm==y)=[c]:=by simp[ck]
   rw[this]
   exact⟨_,_,rfl,hdy2,rfl⟩
  ·have ck:¬c.nm=y:=by simpa using cc
   refine nx hi ⟨e,?_⟩
   rw[tk,List.filter_append,List.map_append]
   have:([c].filter λ c=>c.nm==y)=[]:=by simp[ck]
   rw[this,List.map_nil,List.append_nil]
   exact hxs
 ·rintro xs H2 ⟨e,hxs⟩ t ht
  rw[hcl,List.take_length]at hxs
  have hc:(cs.filter λ c=>c.nm==y)[0]? =some c:=by
   rw[rC,ecs]
   exact hcy
  have hcm:c∈cs:=(List.mem_filter.mp (List.mem_of_getElem? hc)).1
  have hg:((cs.filter λ c=>c.nm==y).map Cd.d)[0]? =some c.d:=by rw[List.getElem?_map,hc];rfl
  obtain⟨u,hu,hd⟩:=hxs.get hg
  have e2:aG [] H2 (aD H2 t (.lst xs)):=aG.new ht _
  have h2:(aD H2 t (.lst xs)) t=some (.lst xs):=aR
  generalize aD H2 t (.lst xs)=H3 at e2 h2⊢
  have e3:=e.trans e2
  have hd3:=aE.ext e2 hd
  obtain⟨b,rfl,hb⟩:=Cd.view hd3
  obtain⟨a,la,ka,lv,kv',rfl,ha,hla,hls,hka,hks,el,ek⟩:=Pl.view hp
  obtain⟨_,kd,hkd,p0,p1⟩:=hco c hcm
  refine⟨_,rfl,_,rfl,t,xs,_,.ref b,rfl,rfl,aN.of h2,eY Qc hu,p,_,b,c.nm,c.kd,c.pl,[.bl c.bk],kd,rfl,aE.ext e3 hp,Po,hb,hkd,(G.kn kd (fO hkd).1).2.1,p0,p1,λ H4 e4=>?_⟩
  have e5:=e3.trans e4
  refine⟨_,rfl,a,_,_,.ref la,rfl,rfl,aM.of (e5.tup Qb ha),rfl,la,lv,rfl,.inr (aM.of (e5.tup Qb hla)),_,_,rfl,rfl,?_⟩
  have hout:sd.out p y=decide (p.lane c=p.n):=by unfold Sd.out;rw[hcy]
  have hle:p.at c.kd c.pl<=p.n:=Sn G hkd p0
  have:decide (p.at c.kd c.pl<(lv.length:Nat))= !sd.out p y:=by
   rw[hout,el]
   show decide (p.at c.kd c.pl<p.n)= !decide (p.at c.kd c.pl=p.n)
   by_cases z:p.at c.kd c.pl=p.n
   ·rw[z];simp
   ·rw[decide_eq_true Qa,decide_eq_false z];rfl
  show Q (.bl (decide (p.at c.kd c.pl<(lv.length:Nat)))) _
  rw[this]
  exact q _ e5
end
section
variable{P:Program}{w:World}{K:PySem.W.Frag}{mg:Str->Option Value}{base:Heap}
abbrev nQ:Stmt:=top 33
theorem sc__law_stand:bW ["_law_held","_law_plan_here","_law_most","_law_bounds","_law_cards","_law_name","_law_kind_here","_law_one","_law_waits","_law_turn","_law_two","_law_wait"] ["_law_held","_law_plan_here","_law_most"] (aW nQ):=⟨rfl,rfl,rfl,Qd,rfl,Qd,Qd⟩
def tU:Sp:=λ vs H Q _=>∃(z:Zn) (p:Pl) (v:V) (m:Int),vs=[.ref z.p,v,.int m]/\Cz z H/\aE z.ex H p.d v/\dP p/\0<=m/\m<=30/\∀(s:Sd) (u:V) H',Fj p s->aX z H H'->aE z.ex H' s.d u->Q u H'
theorem Pd{f:Addr}{fd:FuncData}(F:bR K "_law_stand" "_law_stand" nQ f fd)(T:Txt K mg)(bS:bF P w K mg base "_law_take" 1 ["_law_held","_law_many"] jV)(lL:bF P w K mg base "_law_bound" 2 ["_law_held"] pT)(iQ:bF P w K mg base "_law_words" 2 ["_law_held","_law_many"] nL)
  (hJ:bF P w K mg base "_law_lane" 2 ["_law_plan_here","_law_one"] nN) (yF:bF P w K mg base "_law_room" 3 ["_law_plan_here","_law_bounds","_law_cards","_law_kind_here","_law_lane_here"] tV) (yL:bF P w K mg base "_law_bars" 3 ["_law_plan_here","_law_cards","_law_wait"] tX):
  bE P w K mg base bP 4 f fd ["_law_held","_law_plan_here","_law_most"] tU:=by
 refine F.ok sc__law_stand (λ vs H Q E h=>?_) (λ cdv A outer s H vs Q E hr h=>?_)
 ·obtain⟨z,p,v,m,rfl,_⟩:=h
  rfl
 obtain⟨z,p,v,m,rfl,c,hp,G,m0,m1,q⟩:=h
 have hu:=hr.units
 refine'⟨_,?hh,?rr⟩
 case hh=>(exists aT ?_ ?_,lX ?_ ?_ ?_ ?_ ?_ ?_ ?_ ?_ ?_ ?_ ?_ ?_ ?_,sc__law_stand.nd,aQ 3,Or.inl rfl,rfl,(by exact⟨rfl,Qd,Qd,(show∀y:Str×NameKind,y∈_->y.2=NameKind.free->(aW nQ).names.lookup y.1=some .cell\/(aW nQ).names.lookup y.1=some .free from Qd)⟩),eU ["_law_lane_here","_law_held"] 1 [0],Qd,Qc,gN ?_,aV ?_ ?_ ?_ ?_,cB,pv 1,aL,(λ _ _=>rfl),4,bL ?_ ?_ ?_ ?_,(by exact(show(["_law_lane_here","_law_held"]:List Str).Nodup from Qd)),aQ 0,Or.inl rfl,Or.inr rfl,fH Qc,4,kA,4,aV ?_ ?_ ?_ ?_,cB,iE ?_,aA ?_ ?_,aV ?_ ?_ ?_ ?_,cB,pv 0,aL,(λ _ _=>rfl),aA ?_ ?_,bD ?_ ?_ ?_ ?_ ?_,lL,hr,aA ?_ ?_,pv 1,aI,rfl,Qc,aI,bD ?_ ?_ ?_ ?_ ?_,bS,hr,aA ?_ ?_,pv 1,aA ?_ ?_,aL,aI,rfl,Qc,(λ _ _=>rfl),aT ?_ ?_,bH ?_ ?_ ?_ ?_,sc__law_stand.nd,aQ 4,Or.inl rfl,gO ?_,aI,aT ?_ ?_,fW ?_ ?_ ?_ ?_ ?_,PassesOwn.never,rfl,nZ ?_,bG ?_ ?_ ?_ ?_ ?_,Xu,rfl,T.b_sorted,boot_sorted,aA ?_ ?_,kI ?_ ?_ ?_ ?_,uC,bD ?_ ?_ ?_ ?_ ?_,iQ,hr,aA ?_ ?_,pv 0,aA ?_ ?_,aL,aI,rfl,Qc,kD,kB ?_,bD ?_ ?_ ?_ ?_ ?_,bS,hr,aA ?_ ?_,pv 0,aA ?_ ?_,bJ ?_ ?_ ?_,dY,pv 2,aL,aI,rfl,Qc,aI,bL ?_ ?_ ?_ ?_,sc__law_stand.nd,aQ 5,Or.inl rfl,Or.inl rfl,aT ?_ ?_,bH ?_ ?_ ?_ ?_,sc__law_stand.nd,aQ 6,Or.inl rfl,aV ?_ ?_ ?_ ?_,cB,aV ?_ ?_ ?_ ?_,cB,pv 1,aL,(λ _ _=>rfl),bD ?_ ?_ ?_ ?_ ?_,bS,hr,aA ?_ ?_,pv 0,aA ?_ ?_,bG ?_ ?_ ?_ ?_ ?_,jH,rfl,T.b_len,PySem.boot_len,aA ?_ ?_,aV ?_ ?_ ?_ ?_,cB,pv 1,aL,(λ _ _=>rfl),aI,aI,rfl,Qc,(λ _ _=>rfl),aT ?_ ?_,bH ?_ ?_ ?_ ?_,sc__law_stand.nd,aQ 7,Or.inl rfl,iD ?_,aA ?_ ?_,pv 5,aA ?_ ?_,aV ?_ ?_ ?_ ?_,cB,pv 6,aL,(λ _ _=>rfl),aA ?_ ?_,bD ?_ ?_ ?_ ?_ ?_,bS,hr,aA ?_ ?_,pv 0,aA ?_ ?_,bJ ?_ ?_ ?_,dY,bG ?_ ?_ ?_ ?_ ?_,jH,rfl,T.b_len,PySem.boot_len,aA ?_ ?_,aV ?_ ?_ ?_ ?_,cB,pv 6,aL,(λ _ _=>rfl),aI,aL,aI,rfl,Qc,aI,aT ?_ ?_,cG ?_ ?_ ?_,bY ?_ ?_ ?_ ?_,kL,bD ?_ ?_ ?_ ?_ ?_,yF,hr,aA ?_ ?_,pv 1,aA ?_ ?_,pv 3,aA ?_ ?_,pv 4,aA ?_ ?_,pv 6,aA ?_ ?_,bD ?_ ?_ ?_ ?_ ?_,hJ,hr,aA ?_ ?_,pv 1,aA ?_ ?_,pv 7,aI,rfl,Qc,aI,rfl,Qc,cQ,bO _,aY ?_,bH ?_ ?_ ?_ ?_,sc__law_stand.nd,aQ 7,Or.inl rfl,iD ?_,aA ?_ ?_,pv 5,aA ?_ ?_,aV ?_ ?_ ?_ ?_,cB,pv 6,aL,(λ _ _=>rfl),aA ?_ ?_,aV ?_ ?_ ?_ ?_,cB,iE ?_,aA ?_ ?_,aL,aA ?_ ?_,bJ ?_ ?_ ?_,dY,bG ?_ ?_ ?_ ?_ ?_,jH,rfl,T.b_len,PySem.boot_len,aA ?_ ?_,aV ?_ ?_ ?_ ?_,cB,pv 6,aL,(λ _ _=>rfl),aI,aL,aI,bD ?_ ?_ ?_ ?_ ?_,bS,hr,aA ?_ ?_,pv 0,aA ?_ ?_,aL,aI,rfl,Qc,(λ _ _=>rfl),aI,cF,aY ?_,iZ ?_,jB ?_ ?_ ?_ ?_ ?_ ?_,PySem.F.plainAttrs_list,PySem.F.slot_list_append,PySem.F.type_list_append,qN,pv 4,aA ?_ ?_,bJ ?_ ?_ ?_,Oq,pv 7,iD ?_,aA ?_ ?_,Bd ?_ ?_,iF ?_ ?_ ?_ ?_,qB,aV ?_ ?_ ?_ ?_,cB,pv 7,aL,(λ _ _=>rfl),bG ?_ ?_ ?_ ?_ ?_,jH,rfl,T.b_len,PySem.boot_len,aA ?_ ?_,aV ?_ ?_ ?_ ?_,cB,pv 6,aL,(λ _ _=>rfl),aI,bO _,vG ?_,iF ?_ ?_ ?_ ?_,eI,bD ?_ ?_ ?_ ?_ ?_,bS,hr,aA ?_ ?_,pv 0,aA ?_ ?_,aL,aI,rfl,Qc,aL,bO _,aI,aI,aT ?_ ?_,bH ?_ ?_ ?_ ?_,sc__law_stand.nd,aQ 8,Or.inl rfl,gO ?_,aI,aT ?_ ?_,fW ?_ ?_ ?_ ?_ ?_,PassesOwn.never,rfl,jA ?_ ?_ ?_,rfl,T.b_range,aA ?_ ?_,bJ ?_ ?_ ?_,kM,bD ?_ ?_ ?_ ?_ ?_,bS,hr,aA ?_ ?_,pv 0,aA ?_ ?_,aV ?_ ?_ ?_ ?_,cB,iE ?_,aA ?_ ?_,aL,aA ?_ ?_,aL,aA ?_ ?_,aL,aA ?_ ?_,aL,aI,bD ?_ ?_ ?_ ?_ ?_,bS,hr,aA ?_ ?_,pv 0,aA ?_ ?_,aL,aI,rfl,Qc,(λ _ _=>rfl),aI,rfl,Qc,fF ?_ ?_ ?_ ?_ ?_,AA,rfl,T.b_int,AG,aA ?_ ?_,iF ?_ ?_ ?_ ?_,pZ hu,pv 4,iE ?_,aI,bO _,aI,aI,bL ?_ ?_ ?_ ?_,sc__law_stand.nd,aQ 9,Or.inl rfl,Or.inl rfl,aT ?_ ?_,bH ?_ ?_ ?_ ?_,sc__law_stand.nd,aQ 7,Or.inl rfl,aV ?_ ?_ ?_ ?_,ix_list,pv 4,bD ?_ ?_ ?_ ?_ ?_,bS,hr,aA ?_ ?_,pv 0,aA ?_ ?_,bG ?_ ?_ ?_ ?_ ?_,cU,rfl,T.b_len,PySem.boot_len,aA ?_ ?_,pv 4,aI,aI,rfl,Qc,(λ _ _=>rfl),aT ?_ ?_,bH ?_ ?_ ?_ ?_,sc__law_stand.nd,aQ 10,Or.inl rfl,aV ?_ ?_ ?_ ?_,cB,aV ?_ ?_ ?_ ?_,ix_list,pv 4,bD ?_ ?_ ?_ ?_ ?_,bS,hr,aA ?_ ?_,pv 0,aA ?_ ?_,bG ?_ ?_ ?_ ?_ ?_,cU,rfl,T.b_len,PySem.boot_len,aA ?_ ?_,pv 4,aI,aI,rfl,Qc,(λ _ _=>rfl),aL,(λ _ _=>rfl),aT ?_ ?_,bH ?_ ?_ ?_ ?_,sc__law_stand.nd,aQ 11,Or.inl rfl,iD ?_,aA ?_ ?_,aV ?_ ?_ ?_ ?_,cB,pv 7,aL,(λ _ _=>rfl),aA ?_ ?_,bD ?_ ?_ ?_ ?_ ?_,bS,hr,aA ?_ ?_,pv 0,aA ?_ ?_,bJ ?_ ?_ ?_,dY,bG ?_ ?_ ?_ ?_ ?_,jH,rfl,T.b_len,PySem.boot_len,aA ?_ ?_,aV ?_ ?_ ?_ ?_,cB,pv 1,aL,(λ _ _=>rfl),aI,aL,aI,rfl,Qc,aA ?_ ?_,pv 10,aI,aY ?_,cG ?_ ?_ ?_,PW.pt ?_,lW ?_ ?_,bY ?_ ?_ ?_ ?_,oA,bD ?_ ?_ ?_ ?_ ?_,hJ,hr,aA ?_ ?_,pv 1,aA ?_ ?_,pv 7,aI,rfl,Qc,aV ?_ ?_ ?_ ?_,cB,pv 11,aL,(λ _ _=>rfl),bO _,lV ?_,iY ?_,iC ?_,bD ?_ ?_ ?_ ?_ ?_,yL,hr,aA ?_ ?_,pv 1,aA ?_ ?_,pv 4,aA ?_ ?_,pv 11,aI,rfl,Qc,aY ?_,iZ ?_,jB ?_ ?_ ?_ ?_ ?_ ?_,PySem.F.plainAttrs_list,PySem.F.slot_list_append,PySem.F.type_list_append,qN,pv 8,aA ?_ ?_,pv 11,aI,cF,aY ?_,bI ?_,iD ?_,aA ?_ ?_,fF ?_ ?_ ?_ ?_ ?_,rL,rfl,T.b_tuple,eX,aA ?_ ?_,pv 3,aI,aA ?_ ?_,fF ?_ ?_ ?_ ?_ ?_,lB,rfl,T.b_tuple,eX,aA ?_ ?_,pv 4,aI,aA ?_ ?_,fF ?_ ?_ ?_ ?_ ?_,rL,rfl,T.b_tuple,eX,aA ?_ ?_,kI ?_ ?_ ?_ ?_,uC,bG ?_ ?_ ?_ ?_ ?_,Xs rfl,rfl,T.b_sorted,boot_sorted,aA ?_ ?_,fF ?_ ?_ ?_ ?_ ?_,Xv rfl hu,rfl,T.b_set,AF,aA ?_ ?_,pv 8,aI,aI,kD,kB ?_,aL,aI,aI)
 refine⟨_,rfl,z,_,_,_,.inl hp,rfl,Qc,rfl,λ v1 hv1=>?_⟩
 obtain⟨la,lv,rfl,nla,hla,hls⟩:=hv1
 have elv:lv.length=p.ls.length:=by rw[hls.length,List.length_map]
 have nlap:la∉[z.p]:=λ h=>nla (by rw[List.mem_singleton.mp h];exact c.mem)
 refine⟨la,rfl,⟨lv,aM.of hla⟩,mG (lN (ys:=lv)) (λ i xs H2=>aX z H H2/\∃bs:List Int,xs=bs.map V.int/\bs.length=i/\∀x∈bs,1<=x/\x<=99) ⟨aX.refl c,[],rfl,rfl,Qb⟩ (λ _ _ _ h=>aM.of (h.1.ext.tup nlap hla)) ?_ ?_⟩
 ·rintro i y xs H2 hy hi ⟨s2,bs,rfl,hbl,hbb⟩
  obtain⟨ln,hln,hdy⟩:=hls.nth hy
  have hdy2:=hdy.stp s2
  have gl:=G.ln ln (List.mem_of_getElem? hln)
  refine⟨_,rfl,z,_,_,_,.inl hdy2,rfl,Qc,rfl,λ vb hvb=>?_⟩
  refine⟨_,rfl,z,rfl,s2.cz,λ b H3 b1 b2 s3=>?_⟩
  refine⟨z,[.int ln.2,.int b],⟨_,_,rfl,hvb.stp s3,_,_,rfl,rfl,rfl⟩,(by show 2<=1000;decide),s3.cz,λ v4 H4 s4 f4=>?_⟩
  refine⟨_,rfl,z,2,rfl,s4.cz,Qc,Qc,λ k H5 k0 k1 s5=>?_⟩
  obtain⟨b',hb',g1,g2⟩:∃b':Int,([.int ln.2,.int b]:List PyData)[k.toNat]? =some (.int b')/\1<=b'/\b'<=99:=by
   rcases(show k=0\/k=1 from Qa)with rfl|rfl
   ·exact⟨ln.2,rfl,gl.2⟩
   ·exact⟨b,rfl,b1,b2⟩
  refine⟨z,_,_,_,.inr (f4.stp s5),rfl,k0,hb',λ v6 hv6=>?_⟩
  obtain rfl:v6= .int b':=hv6
  refine⟨?_,nx hi ⟨((s2.trans s3).trans s4).trans s5,bs++[b'],by rw[List.map_append];rfl,by simp[hbl],λ x hx=>?_⟩⟩
  ·rw[List.length_map,hbl]
   have:=G.l6
   exact cM Qa
  ·rcases List.mem_append.mp hx with h|h
   ·exact hbb x h
   ·rw[List.mem_singleton.mp h]
    exact⟨g1,g2⟩
 rintro xs H2 ⟨s2,bs,rfl,hbl,hbb⟩ ba hba0
 rw[elv]at hbl
 have s3:aX z H2 (aD H2 ba (.lst (bs.map V.int))):=aX.of s2.cz (aG.new hba0 _)
 have hba:(aD H2 ba (.lst (bs.map V.int))) ba=some (.lst (bs.map V.int)):=aR
 generalize aD H2 ba (.lst (bs.map V.int))=H3 at s3 hba⊢
 have bap:ba≠z.p:=λ e=>by
  obtain⟨n,h⟩:=s2.cz.held
  rw[e,h]at hba0
  cases hba0
 have sB3:=s2.trans s3
 refine⟨(by show 0<=sizeLine;decide),λ l hl=>?_⟩
 have lp:l≠z.p:=λ e=>by
  obtain⟨n,h⟩:=s3.cz.held
  rw[e,h]at hl
  cases hl
 have bal:ba≠l:=λ e=>by
  rw[<-e,hba]at hl
  cases hl
 have nlp:l∉[z.p]:=λ h=>lp (List.mem_singleton.mp h)
 have nbap:ba∉[z.p]:=λ h=>bap (List.mem_singleton.mp h)
 have hp4:aE (z.with l).ex H3 p.d v:=aE.more hl (hp.stp sB3)
 have a4:cN z l H3 (aD H3 l (.lst [])):=cN.new s3.cz hl
 have hl4:(aD H3 l (.lst [])) l=some (.lst []):=aR
 have hba4:(aD H3 l (.lst [])) ba=some (.lst (bs.map V.int)):=by rw[aU bal];exact hba
 generalize aD H3 l (.lst [])=H4 at a4 hl4 hba4⊢
 refine⟨_,rfl,z.with l,30,rfl,Qc,Qc,a4.cz,λ ns v5 H5 hn hnd hm s5 f5=>?_⟩
 refine⟨_,rfl,_,rfl,_,_,rfl,rfl,z.with l,m+1,rfl,s5.cz,Qa,Qa,λ t H6 t0 t1 s6=>?_⟩
 refine⟨_,rfl,z.with l,_,f5.stp s6,s6.cz,λ v7 H7 s7 f7=>?_⟩
 obtain⟨k,hk⟩:∃k,L2.iL (ns.map PyData.str) none (some t)=(ns.take k).map PyData.str:=⟨_,by unfold L2.iL;rw[HT.sIx_none,List.drop_zero,<-List.map_take]⟩
 rw[hk]at f7
 obtain⟨a7,x7,rfl,n7,h7,d7⟩:=f7
 obtain rfl:=aJ.strs_of d7
 have hk30:(ns.take k).length<=30:=by
  have:=List.length_take_le k ns
  rw[List.length_take]
  omega
 refine⟨a7,ns.take k,rfl,aN.of h7,Qa,λ sl zs hsl hperm hsorted=>?_⟩
 have s8:aX (z.with l) H7 (aD H7 sl (.lst (zs.map V.str))):=aX.of s7.cz (aG.new hsl _)
 have hsl8:(aD H7 sl (.lst (zs.map V.str))) sl=some (.lst (zs.map V.str)):=aR
 have s58:=(s5.trans s6).trans (s7.trans s8)
 have hl8:(aD H7 sl (.lst (zs.map V.str))) l=some (.lst []):=s58.ext.lst nlp hl4
 have hba8:(aD H7 sl (.lst (zs.map V.str))) ba=some (.lst (bs.map V.int)):=s58.ext.lst nbap hba4
 have a8:=a4.stp s58
 have slp:sl≠z.p:=λ e=>by
  obtain⟨n,h⟩:=s7.cz.held
  have h:H7 z.p=some (.lst [.int n]):=h
  rw[e,h]at hsl
  cases hsl
 have sll:sl≠l:=λ e=>by
  have:=((s5.trans s6).trans s7).ext.lst nlp hl4
  rw[e,this]at hsl
  cases hsl
 have nslp:sl∉[z.p]:=λ h=>slp (List.mem_singleton.mp h)
 generalize aD H7 sl (.lst (zs.map V.str))=H8 at s8 hsl8 s58 hl8 hba8 a8⊢
 have hzn:∀x∈zs,nm x=true:=λ x hx=>hm x (List.mem_of_mem_take (hperm.mem_iff.mp hx))
 have hznd:zs.Nodup:=hperm.nodup_iff.mpr (hnd.sublist (List.take_sublist _ _))
 have hzl:zs.length<=30:=by rw[hperm.length_eq];exact hk30
 clear hperm d7 h7 n7 f5 hm hnd hn
 refine⟨sl,rfl,⟨_,aN.of hsl8⟩,Vo (xs:=zs.map V.str) (λ i σ H9=>∃(cs:List Cd) (cv:List V) (x5 x6 x7:Option V),σ=[some (V.ref z.p),some v,some (V.int m),some (V.ref ba),some (V.ref l),x5,x6,x7,none,none,none,none]/\cN z l H3 H9/\H9 l=some (.lst cv)/\H9 ba=some (.lst (bs.map V.int))/\H9 sl=some (.lst (zs.map V.str))/\
   aJ (z.with l).ex H9 (cs.map Cd.d) cv/\cs.map (·.nm)=zs.take i/\(∀c∈cs,jQ p c)/\(∀c∈cs,c.bk=true->∀k,p.kd? c.kd=some k->c.pl<=k.way.length)/\oU p ⟨bs,cs,[]⟩)
  ⟨[],[],_,_,_,rfl,a8,hl8,hba8,hsl8,rfl,rfl,Qb,Qb,Lx G hbl hbb⟩ ?_ ?_ ?_⟩
 ·rintro i σ H9 hi ⟨cs,cv,x5,x6,x7,rfl,a9,hl9,hba9,hsl9,hcs9,hnm9,hco9,hbk9,hrm9⟩
  exact aN.of hsl9
 ·rintro i x σ H9 hx ⟨cs,cv,x5,x6,x7,rfl,a9,hl9,hba9,hsl9,hcs9,hnm9,hco9,hbk9,hrm9⟩
  rw[List.getElem?_map]at hx
  obtain⟨nme,hnme,rfl⟩:=Option.map_eq_some_iff.mp hx
  have hp9:aE (z.with l).ex H9 p.d v:=hp4.stl a9
  have nmG:=hzn nme (List.mem_of_getElem? hnme)
  have kks:1<=p.ks.length:=G.k1
  have ic:cs.length<=30:=by
   have:=congrArg List.length hnm9
   rw[List.length_map,List.length_take]at this
   omega
  refine⟨_,rfl,z.with l,_,_,_,.inl hp9,rfl,Qc,rfl,λ v1 hv1=>?_⟩
  refine⟨_,rfl,_,rfl,z.with l,_,_,_,.inl hp9,rfl,Qc,rfl,λ v2 hv2=>?_⟩
  refine⟨z.with l,v2,_,rfl,.inl hv2,z.with l,_,rfl,a9.cz,?_,?_,λ t10 H10 t100 t101 s10=>?_⟩
  ·rw[List.length_map];omega
  ·rw[List.length_map];have:=G.k6;omega
  rw[List.length_map]at t101
  have hkin:t10.toNat<p.ks.length:=by omega
  refine⟨z.with l,_,_,(p.ks[t10.toNat]).d,.inl (hv1.stp s10),rfl,t100,by simp[hkin],λ vk hvk=>?_⟩
  have hkm:p.ks[t10.toNat]∈p.ks:=List.getElem_mem hkin
  generalize p.ks[t10.toNat]=kd at hvk hkm
  have kg:=G.kn kd hkm
  have hkf:p.kd? kd.nm=some kd:=by
   unfold Pl.kd?
   refine kZ G.knd hkm
  refine⟨_,rfl,_,rfl,z.with l,_,_,_,.inl hvk,rfl,Qc,rfl,λ vn hvn=>?_⟩
  refine⟨_,rfl,_,rfl,z.with l,_,_,_,.inl hvk,rfl,Qc,rfl,λ vw hvw=>?_⟩
  refine⟨z.with l,vw,_,rfl,.inl hvw,_,_,rfl,rfl,z.with l,_,rfl,s10.cz,Qa,?_,λ j H11 j0 j1 s11=>?_⟩
  ·rw[List.length_map];have:=G.l6;omega
  rw[List.length_map]at j1
  refine⟨z.with l,[.str nme,.str kd.nm,.int j],⟨_,_,rfl,rfl,_,_,rfl,hvn.stp s11,_,_,rfl,rfl,rfl⟩,(by show 3<=1000;decide),s11.cz,λ vo H12 s12 f12=>?_⟩
  have b12:aX (z.with l) H9 H12:=(s10.trans s11).trans s12
  have g12:aE (z.with l).ex H12 (.tuple [.str nme,.str kd.nm,.int j]) vo:=f12
  obtain⟨oa,ov,rfl,_,hoa,hov⟩:=f12
  obtain⟨_,_,rfl,rfl,_,_,rfl,rfl,_,_,rfl,rfl,rfl⟩:=hov
  refine⟨_,rfl,_,rfl,_,rfl,_,rfl,_,rfl,_,rfl,p,v,oa,nme,kd.nm,j,[],kd,rfl,aE.less Qb (hp9.stp b12),G.ok,hoa,hkf,kg.2.1,j0,Qa,λ H13 e13=>?_⟩
  have s13':aX (z.with l) H12 H13:=aX.of s12.cz e13
  have b13:=b12.trans s13'
  have hvk13:aE (z.with l).ex H13 kd.d vk:=(hvk.stp (s11.trans s12)).stp s13'
  refine⟨p,⟨bs,cs,[]⟩,v,vk,ba,l,cv,kd,p.at kd.nm j,rfl,aE.less Qb (hp9.stp b13),G,hbl,ic,hco9,b13.ext.lst nbap hba9,b13.ext.lst nlp hl9,aJ.less Qb (hcs9.stp b13),aE.less Qb hvk13,hkm,?_,λ H14 e14=>?_⟩
  ·intro g0 g1
   rcases(show j=0\/(1<=j/\j<=kd.way.length)\/(kd.way.length:Int)<j from Qa)with rfl|⟨q1,q2⟩|q1
   ·rw[oQ]at g0;omega
   ·obtain⟨wv,hw,ew⟩:=rO hkf q1 q2
    rw[ew]
    exact List.mem_of_getElem? hw
   ·rw[oR hkf q1]at g1;omega
  have s14:aX (z.with l) H13 H14:=aX.of s13'.cz e14
  have b14:=b13.trans s14
  refine⟨rfl,_,rfl,?_⟩
  refine bU (λ c1=>?yes) (λ c1=>?no)
  case' yes=>
   refine⟨_,rfl,_,rfl,z.with l,_,_,_,.inl (hvk13.stp s14),rfl,Qc,rfl,λ vn2 hvn2=>?_⟩
   refine⟨_,rfl,z.with l,_,_,_,.inl (hvk13.stp s14),rfl,Qc,rfl,λ vw2 hvw2=>?_⟩
   refine⟨z.with l,vw2,_,rfl,.inl hvw2,_,_,rfl,rfl,?_⟩
   rw[List.length_map]
   refine⟨z.with l,[.int 0,.int ((kd.way.length:Nat)+1)],⟨_,_,rfl,rfl,_,_,rfl,rfl,rfl⟩,(by show 2<=1000;decide),s14.cz,λ vl H15 s15 f15=>?_⟩
   refine⟨_,rfl,z.with l,2,rfl,s15.cz,Qc,Qc,λ k2 H16 k20 k21 s16=>?_⟩
   obtain⟨jj,hjj,jj0,jj1,jjc⟩:∃jj:Int,([.int 0,.int ((kd.way.length:Nat)+1)]:List PyData)[k2.toNat]? =some (.int jj)/\0<=jj/\jj<=kd.way.length+1/\(jj=0\/jj=kd.way.length+1):=by
    rcases(show k2=0\/k2=1 from Qa)with rfl|rfl
    ·exact⟨0,rfl,Qa,Qa,.inl rfl⟩
    ·exact⟨_,rfl,Qa,Qa,.inr rfl⟩
   refine⟨z.with l,_,_,_,.inr (f15.stp s16),rfl,k20,hjj,λ vj hvj=>?_⟩
   refine⟨z.with l,[.str nme,.str kd.nm,.int jj],⟨_,_,rfl,rfl,_,_,rfl,hvn2.stp (s15.trans s16),_,_,rfl,hvj,rfl⟩,(by show 3<=1000;decide),s16.cz,λ vo2 HH s17 ff=>?_⟩
   have bb:aX (z.with l) H9 HH:=b14.trans ((s15.trans s16).trans s17)
   have hvkH:aE (z.with l).ex HH kd.d vk:=(hvk13.stp s14).stp ((s15.trans s16).trans s17)
   have hroom:∀l':Int,0<=l'->l'<p.n->p.at kd.nm jj=l'->iB p ⟨bs,cs,[]⟩ l' kd= "" :=λ l' g0 g1 e=>by
    rcases jjc with rfl|rfl
    ·rw[oQ]at e;omega
    ·rw[oR hkf Qa]at e;omega
   clear hjj hvj hvw2 hvn2 f15
  case' no=>
   have bb:aX (z.with l) H9 H14:=b14
   have hc1:iB p ⟨bs,cs,[]⟩ (p.at kd.nm j) kd= "" :=by simpa using c1
   obtain⟨jj,jj0,jj1,ff,hroom⟩:∃jj:Int,0<=jj/\jj<=kd.way.length+1/\aE (z.with l).ex H14 (.tuple [.str nme,.str kd.nm,.int jj]) (.ref oa)/\∀l':Int,0<=l'->l'<p.n->p.at kd.nm jj=l'->iB p ⟨bs,cs,[]⟩ l' kd= "" :=⟨j,j0,Qa,(g12.stp s13').stp s14,λ l' _ _ e=>by rw[<-e];exact hc1⟩
   have hvkH:aE (z.with l).ex H14 kd.d vk:=hvk13.stp s14
  all_goals
   refine⟨_,rfl,.inl ⟨rfl,cv,aN.of (bb.ext.lst nlp hl9)⟩,_,rfl,?_⟩
   refine⟨_,rfl,z.with l,_,_,_,.inl ff,rfl,Qc,rfl,λ va hva=>?_⟩
   obtain rfl:va= .int jj:=hva
   refine⟨_,rfl,z.with l,_,_,_,.inl hvkH,rfl,Qc,rfl,λ vw3 hvw3=>?_⟩
   refine⟨z.with l,vw3,_,rfl,.inl hvw3,_,_,rfl,rfl,_,rfl,?_⟩
   rw[List.length_map]
   refine bU (λ c2=>?_) (λ c2=>?_)
   refine⟨_,rfl,z.with l,5,rfl,bb.cz,Qc,Qc,λ t20 H20 t200 t201 s20=>?_⟩
   refine⟨rfl,?_⟩
   have c3:decide (V.int t20=V.int 0)=true->jj<=kd.way.length:=λ _=>of_decide_eq_true c2
   generalize decide (V.int t20=V.int 0)=bq at c3⊢
   rotate_left
   have s20:=aX.refl bb.cz
   obtain⟨bq,ebq,c3⟩:∃bq:Bool,bq=false/\(bq=true->jj<=kd.way.length):=⟨false,rfl,λ z=>nomatch z⟩
   rw[<-ebq]
   all_goals
    refine⟨z.with l,[.bool bq],⟨_,_,rfl,rfl,rfl⟩,(by show 1<=1000;decide),s20.cz,λ v21 H21 s21 f21=>?_⟩
    refine⟨z.with l,_,_,ff.stp (s20.trans s21),f21,(by show 3+1<=1000;decide),s21.cz,λ v22 H22 s22 f22=>?_⟩
    have b22:=bb.trans ((s20.trans s21).trans s22)
    refine⟨l,cv,v22,rfl,rfl,b22.ext.lst nlp hl9,?_,?_⟩
    ·rw[hcs9.length,List.length_map]
     exact cM Qa
    have fc:aE (z.with l).ex H22 (Cd.d ⟨nme,kd.nm,jj,bq⟩) v22:=f22
    refine⟨cs++[⟨nme,kd.nm,jj,bq⟩],cv++[v22],_,_,_,rfl,(a9.stp b22).put lp,aR,?_,?_,?_,?_,?_,?_,hrm9.snoc (c:=⟨nme,kd.nm,jj,bq⟩) G hkf hroom⟩
    ·rw[aU bal];exact b22.ext.lst nbap hba9
    ·rw[aU sll];exact b22.ext.lst nslp hsl9
    ·rw[List.map_append]
     exact pY List.mem_cons_self (aJ.append (hcs9.stp b22) ⟨v22,_,rfl,fc,rfl⟩)
    ·rw[List.map_append,hnm9,List.take_add_one,hnme]
     rfl
    ·intro c' hc'
     rcases List.mem_append.mp hc' with h|h
     ·exact hco9 c' h
     ·rw[List.mem_singleton.mp h]
      exact⟨fZ nmG,kd,hkf,jj0,jj1⟩
    ·intro c' hc'
     rcases List.mem_append.mp hc' with h|h
     ·exact hbk9 c' h
     ·rw[List.mem_singleton.mp h]
      intro e k' hk'
      have hk':p.kd? kd.nm=some k':=hk'
      rw[hkf]at hk'
      obtain rfl:=Option.some.inj hk'
      exact c3 e
 ·rintro σ H9 ⟨cs,cv,x5,x6,x7,rfl,a9,hl9,hba9,hsl9,hcs9,hnm9,hco9,hbk9,hrm9⟩
  rw[List.length_map,List.take_length]at hnm9
  have ic:cs.length<=30:=by
   have:=congrArg List.length hnm9
   rw[List.length_map]at this
   omega
  have icv:cv.length=cs.length:=by rw[hcs9.length,List.length_map]
  have hcn:∀c∈cs,nm c.nm=true:=λ c hc=>hzn _ (by rw[<-hnm9];exact List.mem_map_of_mem hc)
  have hcd:(cs.map (·.nm)).Nodup:=by rw[hnm9];exact hznd
  have hcs2:sortedS (cs.map (·.nm))=true:=by rw[hnm9];exact hsorted
  clear hsl9 hnm9 hzn hznd hzl hsl8 hl8 hba8 hsl
  refine⟨(by show 0<=sizeLine;decide),λ l2 hl2=>?_⟩
  have l2p:l2≠z.p:=λ e=>by
   obtain⟨n,h⟩:=a9.cz.held
   have h:H9 z.p=some (.lst [.int n]):=h
   rw[e,h]at hl2
   cases hl2
  have l2l:l≠l2:=λ e=>by
   rw[<-e,hl9]at hl2
   cases hl2
  have l2b:ba≠l2:=λ e=>by
   rw[<-e,hba9]at hl2
   cases hl2
  have nl2p:l2∉[z.p]:=λ h=>l2p (List.mem_singleton.mp h)
  have nl2:l2∉(z.with l).ex:=a9.cz.free hl2
  have a10:cN (z.with l) l2 H9 (aD H9 l2 (.lst [])):=cN.new a9.cz hl2
  have hl10:(aD H9 l2 (.lst [])) l=some (.lst cv):=by rw[aU l2l];exact hl9
  have hba10:(aD H9 l2 (.lst [])) ba=some (.lst (bs.map V.int)):=by rw[aU l2b];exact hba9
  have hw10:(aD H9 l2 (.lst [])) l2=some (.lst []):=aR
  have hp10:aE ((z.with l).with l2).ex H9 p.d v:=aE.more hl2 (hp4.stl a9)
  have hcs10:aJ ((z.with l).with l2).ex H9 (cs.map Cd.d) cv:=aJ.more hl2 hcs9
  generalize aD H9 l2 (.lst [])=H10 at a10 hl10 hba10 hw10⊢
  refine⟨_,rfl,(z.with l).with l2,[.int 3,.int 7,.int 7,.int 90],⟨_,_,rfl,rfl,_,_,rfl,rfl,_,_,rfl,rfl,_,_,rfl,rfl,rfl⟩,(by show 4<=1000;decide),a10.cz,λ v11 H11 s11 f11=>?_⟩
  refine⟨_,rfl,(z.with l).with l2,4,rfl,s11.cz,Qc,Qc,λ t12 H12 t120 t121 s12=>?_⟩
  obtain⟨mm,hmm,mm0,mm1⟩:∃mm:Int,([.int 3,.int 7,.int 7,.int 90]:List PyData)[t12.toNat]? =some (.int mm)/\0<mm/\mm<=90:=by
   rcases(show t12=0\/t12=1\/t12=2\/t12=3 from Qa)with rfl|rfl|rfl|rfl
   ·exact⟨3,rfl,Qa,Qa⟩
   ·exact⟨7,rfl,Qa,Qa⟩
   ·exact⟨7,rfl,Qa,Qa⟩
   ·exact⟨90,rfl,Qa,Qa⟩
  refine⟨(z.with l).with l2,_,_,_,.inr (f11.stp s12),rfl,t120,hmm,λ v13 hv13=>?_⟩
  obtain rfl:v13= .int mm:=hv13
  refine⟨(z.with l).with l2,mm,rfl,s12.cz,mm0,Qa,λ r H13 r0 r1 s13=>?_⟩
  have b13:=(s11.trans s12).trans s13
  have nlp2:l∉[((z.with l).with l2).p]:=nlp
  refine⟨_,rfl,(z.with l).with l2,[],rfl,(by show 0<=1000;decide),s13.cz,λ v14 H14 s14 f14=>?_⟩
  have b14:=b13.trans s14
  have a14:=a10.stp b14
  have hl14:H14 l=some (.lst cv):=b14.ext.lst nlp hl10
  refine⟨.list (cs.map Cd.d),.list [],⟨l,cv,rfl,Qb,hl14,aJ.less Qb (hcs10.stl a14)⟩,aE.less Qb f14,?_,rfl,?_⟩
  ·refine Sh.shaped (n:=2) (Sh.lst λ d hd=>?_)
   obtain⟨c',hc',rfl⟩:=List.mem_map.mp hd
   obtain⟨_,k',hk',_⟩:=hco9 c' hc'
   have hkn:nm c'.kd=true:=by rw[<-(fO hk').2];exact(G.kn k' (fO hk').1).1
   refine Sh.tup λ d hd=>?_
   simp only[List.mem_cons,List.not_mem_nil,or_false]at hd
   rcases hd with rfl|rfl|rfl|rfl
   ·exact lS (hcn c' hc')
   ·exact lS hkn
   ·exact pV _
   ·exact uD _
  have ene:(!PyData.eqv (.list (cs.map Cd.d)) (.list []))= !cs.isEmpty:=by cases cs<;>rfl
  rw[ene]
  refine .inr ⟨_,rfl,?_⟩
  have rb:0<=r*(if(!cs.isEmpty)=true then 1 else 0)/\r*(if(!cs.isEmpty)=true then 1 else 0)<=89/\(0<r*(if(!cs.isEmpty)=true then 1 else 0)->0<cs.length):=by
   cases cs with
   |nil=>simp
   |cons c' cs'=>simp;omega
  refine⟨r,_,rfl,rfl,?_,?_⟩
  ·refine .inl ⟨?_,?_⟩<;>(have:(2:Int)^64=18446744073709551616:=by decide)<;>omega
  obtain⟨rr0,rr1,rr2⟩:=rb
  have hba14:H14 ba=some (.lst (bs.map V.int)):=b14.ext.lst nbap hba10
  have hw14:H14 l2=some (.lst []):=b14.ext.lst nl2p hw10
  refine⟨_,rfl,Qa,Qa,?_⟩
  refine kX (n:=(r*(if(!cs.isEmpty)=true then 1 else 0)).toNat) (λ i σ H15=>∃(ws:List Wt) (wv:List V) (y7 y9 y10 y11:Option V),σ=[some (V.ref z.p),some v,some (V.int m),some (V.ref ba),some (V.ref l),x5,x6,y7,some (V.ref l2),y9,y10,y11]/\cN (z.with l) l2 H9 H15/\H15 l=some (.lst cv)/\H15 ba=some (.lst (bs.map V.int))/\H15 l2=some (.lst wv)/\
    aJ ((z.with l).with l2).ex H15 (ws.map Wt.d) wv/\ws.length<=i/\(∀w∈ws,(∃c∈cs,c.nm=w.cd)/\(∃c∈cs,c.nm=w.ot)/\0<=w.ln/\w.ln<=p.n)/\∀w∈ws,Sd.hold ⟨bs,cs,[]⟩ p w=true)
   ⟨[],[],_,_,_,_,rfl,a14,hl14,hba14,hw14,rfl,Nat.le_refl _,Qb,Qb⟩ ?_ ?_
  ·rintro i σ H15 hi ⟨ws,wv,y7,y9,y10,y11,rfl,a15,hl15,hba15,hw15,hws15,hwl,hwg,hwh⟩
   have hc0:0<cs.length:=rr2 Qa
   have i89:i<89:=by omega
   refine⟨_,rfl,_,rfl,_,rfl,l,cv,rfl,.inl (aN.of hl15),(z.with l).with l2,_,rfl,a15.cz,Qa,Qa,λ t16 H16 t160 t161 s16=>?_⟩
   obtain⟨c1,hc1,hc1m⟩:=wE (xs:=cs) t160 Qa
   have hcs16:=(hcs10.stl a15).stp s16
   have hl16:H16 l=some (.lst cv):=s16.ext.lst nlp hl15
   obtain⟨u1,hu1,f1⟩:=hcs16.nth' hc1
   refine⟨l,cv,_,u1,rfl,rfl,aN.of hl16,eY t160 hu1,?_⟩
   refine⟨_,rfl,_,rfl,_,rfl,l,cv,rfl,.inl (aN.of hl16),(z.with l).with l2,_,rfl,s16.cz,Qa,Qa,λ t17 H17 t170 t171 s17=>?_⟩
   obtain⟨c2,hc2,hc2m⟩:=wE (xs:=cs) t170 Qa
   have hl17:H17 l=some (.lst cv):=s17.ext.lst nlp hl16
   obtain⟨u2,hu2,f2⟩:=(hcs16.stp s17).nth' hc2
   refine⟨l,cv,_,u2,rfl,rfl,aN.of hl17,eY t170 hu2,(z.with l).with l2,_,_,_,.inl f2,rfl,Qc,rfl,λ v2 hv2=>?_⟩
   have b17:=s16.trans s17
   have f1':=f1.stp s17
   have hp17:aE ((z.with l).with l2).ex H17 p.d v:=(hp10.stl a15).stp b17
   refine⟨_,rfl,(z.with l).with l2,_,_,_,.inl f1',rfl,Qc,rfl,λ v1 hv1=>?_⟩
   refine⟨_,rfl,_,rfl,(z.with l).with l2,_,_,_,.inl hp17,rfl,Qc,rfl,λ v3 hv3=>?_⟩
   refine⟨(z.with l).with l2,v3,_,rfl,.inl hv3,_,_,rfl,rfl,(z.with l).with l2,_,rfl,s17.cz,Qa,?_,λ ln H18 ln0 oB s18=>?_⟩
   ·rw[List.length_map];have:=G.l6;omega
   rw[List.length_map]at oB
   refine⟨_,rfl,(z.with l).with l2,[.str c1.nm,.int ln,.str c2.nm],⟨_,_,rfl,hv1.stp s18,_,_,rfl,rfl,_,_,rfl,hv2.stp s18,rfl⟩,(by show 3<=1000;decide),s18.cz,λ vw H19 s19 fw=>?_⟩
   have fwt:aE ((z.with l).with l2).ex H19 (Wt.d ⟨c1.nm,ln,c2.nm⟩) vw:=fw
   obtain⟨wa,rfl,hwa⟩:=Wt.view fwt
   have b19:=b17.trans (s18.trans s19)
   have f119:=f1'.stp (s18.trans s19)
   obtain⟨oa,rfl,hoa⟩:=Cd.view f119
   obtain⟨_,kd,hkd,q0,q1⟩:=hco9 c1 hc1m
   have hp19:aE ((z.with l).with l2).ex H19 p.d v:=(hp10.stl a15).stp b19
   refine⟨_,rfl,_,rfl,p,v,oa,c1.nm,c1.kd,c1.pl,[.bl c1.bk],kd,rfl,aE.less Qb hp19,G.ok,hoa,hkd,(G.kn kd (fO hkd).1).2.1,q0,q1,λ H20 e20=>?_⟩
   have s20:aX ((z.with l).with l2) H19 H20:=aX.of s19.cz e20
   refine⟨_,rfl,(z.with l).with l2,_,_,_,.inl (fw.stp s20),rfl,Qc,rfl,λ v4 hv4=>?_⟩
   obtain rfl:v4= .int ln:=hv4
   refine⟨_,_,rfl,rfl,_,rfl,?_⟩
   have hcd1:Sd.cd? ⟨bs,cs,[]⟩ c1.nm=some c1:=kZ hcd hc1m
   have hcd2:Sd.cd? ⟨bs,cs,[]⟩ c2.nm=some c2:=kZ hcd hc2m
   have hho:(p.lane c1<ln\/Sd.out ⟨bs,cs,[]⟩ p c2.nm=true)->Sd.hold ⟨bs,cs,[]⟩ p ⟨c1.nm,ln,c2.nm⟩=true:=λ h=>by
    unfold Sd.hold
    rw[hcd1]
    show(decide (p.lane c1<ln)||Sd.out ⟨bs,cs,[]⟩ p c2.nm)=true
    rcases h with h|h
    ·rw[decide_eq_true h];rfl
    ·rw[h,Bool.or_true]
   refine bU (λ d1=>?g1) (λ d1=>?g2)
   case' g1=>
    have bX:aX ((z.with l).with l2) H15 H20:=b19.trans s20
    have fX:=fwt.stp s20
    have hhX:=hho (.inl (by simpa[Pl.lane]using d1))
   case' g2=>
    refine⟨_,rfl,_,rfl,_,rfl,p,⟨bs,cs,[]⟩,v,l,wa,cv,c1.nm,c2.nm,ln,c2,rfl,aE.less Qb (hp19.stp s20),G,ic,hco9,(b19.trans s20).ext.lst nlp hl15,aJ.less Qb ((hcs10.stl a15).stp (b19.trans s20)),e20.tup Qb hwa,hcd2,λ H21 e21=>?_⟩
    have s21:aX ((z.with l).with l2) H20 H21:=aX.of s20.cz e21
    have bX:aX ((z.with l).with l2) H15 H21:=(b19.trans s20).trans s21
    have fX:=(fwt.stp s20).stp s21
    refine⟨_,rfl,?_⟩
    refine bU (λ d2=>?g3) (λ d2=>?g4)
    case' g3=>
     have hhX:=hho (.inr (by simpa using d2))
   case g4=>exact⟨ws,wv,_,_,_,_,rfl,a15.stp bX,bX.ext.lst nlp hl15,bX.ext.lst nbap hba15,bX.ext.lst nl2p hw15,hws15.stp bX,Nat.le_succ_of_le hwl,hwg,hwh⟩
   all_goals
    refine⟨_,rfl,.inl ⟨rfl,wv,aN.of (bX.ext.lst nl2p hw15)⟩,_,rfl,l2,wv,.ref wa,rfl,rfl,bX.ext.lst nl2p hw15,?_,?_⟩
    ·rw[hws15.length,List.length_map]
     exact cM Qa
    refine⟨ws++[⟨c1.nm,ln,c2.nm⟩],wv++[.ref wa],_,_,_,_,rfl,(a15.stp bX).put l2p,?_,?_,aR,?_,?_,?_,?_⟩
    ·rw[aU l2l];exact bX.ext.lst nlp hl15
    ·rw[aU l2b];exact bX.ext.lst nbap hba15
    ·rw[List.map_append]
     exact pY List.mem_cons_self (aJ.append (hws15.stp bX) ⟨_,_,rfl,fX,rfl⟩)
    ·rw[List.length_append]
     exact Nat.succ_le_succ hwl
    ·intro w' hw'
     rcases List.mem_append.mp hw' with h|h
     ·exact hwg w' h
     ·rw[List.mem_singleton.mp h]
      exact⟨⟨c1,hc1m,rfl⟩,⟨c2,hc2m,rfl⟩,ln0,by show ln<=(p.ls.length:Int);omega⟩
    ·intro w' hw'
     rcases List.mem_append.mp hw' with h|h
     ·exact hwh w' h
     ·rw[List.mem_singleton.mp h]
      exact hhX
  ·rintro σ H15 ⟨ws,wv,y7,y9,y10,y11,rfl,a15,hl15,hba15,hw15,hws15,hwl,hwg,hwh⟩
   have nbex:ba∉(z.with l).ex:=λ h=>by
    rcases List.mem_cons.mp h with h|h
    ·exact bal h
    ·exact s2.cz.free hba0 h
   have cz1:Cz (z.with l) H15:=a15.cz.less a9.cz.mem
   have rl89:ws.length<=89:=by omega
   refine⟨_,rfl,z.with l,_,bs.map .int,rfl,⟨ba,_,rfl,nbex,hba15,aJ.ints _⟩,cz1,λ t1 H16 s16 f16=>?_⟩
   refine⟨_,rfl,l,cv,rfl,.inl ⟨aN.of (s16.ext.lst nlp hl15),λ t2 ht2=>?_⟩⟩
   have s17:aX (z.with l) H16 (aD H16 t2 (.tup cv)):=aX.of s16.cz (aG.new ht2 _)
   have hcs15:aJ (z.with l).ex H15 (cs.map Cd.d) cv:=aJ.less (λ b hb=>List.mem_cons_of_mem _ hb) (hcs10.stl a15)
   have f17:aE (z.with l).ex (aD H16 t2 (.tup cv)) (.tuple (cs.map Cd.d)) (.ref t2):=⟨t2,cv,rfl,s16.cz.free ht2,aR,hcs15.stp (s16.trans s17)⟩
   generalize aD H16 t2 (.tup cv)=H17 at s17 f17⊢
   have b17:=s16.trans s17
   have hws17:aJ (z.with l).ex H17 (ws.map Wt.d) wv:=(aJ.less (λ b hb=>List.mem_cons_of_mem _ hb) hws15).stp b17
   refine⟨_,rfl,z.with l,ws,.ref l2,rfl,⟨l2,wv,rfl,nl2,b17.ext.lst nl2p hw15,hws17⟩,Qa,s17.cz,λ sp pl H18 s18 hsp hpl hps=>?_⟩
   have hpll:pl.length=ws.length:=by rw[<-hpl,List.length_map]
   refine⟨z.with l,sp,pl,rfl,hsp,Qa,s18.cz,hps,λ ws' hl' hris hmem v19 H19 s19 f19=>?_⟩
   rw[hpl]at hmem
   refine⟨_,rfl,z.with l,_,f19,s19.cz,λ v20 H20 s20 f20=>?_⟩
   obtain⟨k2,hk2,hk60⟩:∃k2,L2.iL (ws'.map Wt.d) none (some 60)=(ws'.take k2).map Wt.d/\k2<=60:=⟨_,by unfold L2.iL;rw[HT.sIx_none,List.drop_zero,<-List.map_take],by
    have:=HT.sIx_nat (ws'.map Wt.d).length (ws'.map Wt.d).length 60
    have e60:((60:Nat):Int)=60:=rfl
    rw[e60]at this
    rw[this]
    omega⟩
   rw[hk2]at f20
   refine⟨z.with l,v20,_,rfl,f20,s20.cz,λ v21 H21 s21 f21=>?_⟩
   have b21:=s18.trans (s19.trans (s20.trans s21))
   refine⟨z.with l,[.tuple (bs.map .int),.tuple (cs.map Cd.d),.tuple ((ws'.take k2).map Wt.d)],⟨_,_,rfl,(f16.stp s17).stp b21,_,_,rfl,f17.stp b21,_,_,rfl,f21,rfl⟩,(by show 3<=1000;decide),s21.cz,λ u H22 s22 f22=>?_⟩
   have b22:aX (z.with l) H9 H22:=(a15.back hl2 a9.cz.mem).trans (b17.trans (b21.trans s22))
   have c22:aX z H3 H22:=(a9.stp b22).back hl c.mem
   refine q ⟨bs,cs,ws'.take k2⟩ u H22 ?_ (sB3.trans c22) (aE.less (λ b hb=>List.mem_cons_of_mem _ hb) f22)
   refine⟨⟨hbl,hbb,ic,hco9,hcn,hcd,hcs2,hbk9,?_,λ w' hw'=>hwg w' ((hmem w').mp (List.mem_of_mem_take hw'))⟩,hris.sublist (List.take_sublist _ _),λ w' hw'=>hwh w' ((hmem w').mp (List.mem_of_mem_take hw')),hrm9.1,hrm9.2⟩
   show(ws'.take k2).length<=60
   have:=List.length_take_le k2 ws'
   omega
end
end K14
namespace L2
open PySem PySem.Spec PyProof.Rows
section
variable{X:Cx}
theorem Nq{elts:List Expr}{q tpos}{l m:Expr}{ta:TA}{p pos:Pos}(hg:Gl X "zip")(hm:X.mg "zip" =none)(ha:PA X [l,m] ta)(hs:starEach [l,m] X.env=(false,eval l X.env)::starEach [m] X.env:=by rfl)(hs2:(backTo pos (starEach [m] X.env)).any (·.1)=false:=by rfl):
  PI X (.Tuple elts q tpos) (.Call (.Name "zip" p) [l,m] [] pos) (λ σ H R=>Dd X.K ta σ H R\/Dc X.K ta σ H R):=by
 intro pins s σ H R I h
 rcases h with h|h
 ·exact Nr hg hm ha hs hs2 pins s σ H R I h
 ·exact Np hg hm ha hs hs2 pins s σ H R I h
end
theorem Sk{K:PySem.W.Frag}{a c:Addr}{xs ys:List V}{g:TG}{te:TE}{σc:St}{H:Hp}{Q:VK}(hlen:ys.length=xs.length)(Pv:Nat->List V->Hp->Prop)(h0:Pv 0 [] H)(hok:∀i vs H,Pv i vs H->aN K H a xs/\aN K H c ys)
  (step:∀i x y T vs H,xs[i]? =some x->ys[i]? =some y->i<xs.length->Pv i vs H->H T=none->g (.ref T) σc (aD H T (.tup [x,y])) λ σ2 H2=>te σ2 H2 λ v H4=>vs.length<sizeLine/\Nx xs.length i (Pv (i+1) (vs++[v]) H4))
  (fin:∀vs H,Pv xs.length vs H->∀p,H p=none->Q (.ref p) (aD H p (.lst vs))):pA (xR K a c) g gJ te σc Q H:=by
 refine⟨λ i m vs H=>m=xs.length-i/\i<=xs.length/\Pv i vs H,⟨xs.length,Qb,Nat.zero_le _,h0⟩,?_⟩
 rintro i m vs H ⟨rfl,hi,p⟩
 obtain⟨o1,o2⟩:=hok i vs H p
 by_cases hlt:i<xs.length
 ·have hlt':i<ys.length:=by omega
  refine .inr ⟨⟨xs,ys,xs[i],ys[i],o1,o2,by simp[hlt],by simp[hlt']⟩,λ v H' yy=>?_⟩
  obtain⟨T,x,y,rfl,hT,rfl,y1,y2⟩:=yy
  have e:(λ (σ2:St) (H2:Hp)=>gJ σ2 H2 λ b H3=>if b=true then te σ2 H3 λ v H4=>vs.length<sizeLine/\∃m',m'<xs.length-i/\(m'=xs.length-(i+1)/\i+1<=xs.length/\Pv (i+1) (vs++[v]) H4)else∃m',m'<xs.length-i/\(m'=xs.length-(i+1)/\i+1<=xs.length/\Pv (i+1) vs H3))=
    λ σ2 H2=>te σ2 H2 λ v H4=>vs.length<sizeLine/\Nx xs.length i (Pv (i+1) (vs++[v]) H4):=by
   funext σ2 H2
   unfold gJ
   dsimp only
   rw[if_pos rfl]
   rfl
  rw[e]
  exact step i x y T vs H (y1 xs o1) (y2 ys o2) hlt p hT
 ·have e:i=xs.length:=by omega
  subst e
  exact .inl ⟨⟨xs,ys,o1,o2,.inl rfl⟩,fin vs H p⟩
end L2
namespace K14
open PySem PySem.Spec L2 PyProof.Rows
def iJ(d:PyData):Prop:=(∃x,d= .str x/\PySem.PyData.strOk x=true)\/(∃i,d= .int i)\/∃b,d= .bool b
def eQ:Nat->PyData->Prop
 |0,d=>iJ d
 |n+1,d=>iJ d\/∃ds,(d= .tuple ds\/d= .list ds)/\ds.length<=100/\∀e∈ds,eQ n e
def nM:Nat->Sp
 |0=>λ _ _ _ _=>False
 |n+1=>λ vs H Q _=>∃(d:PyData) (v u:V),vs=[v,u]/\aE [] H d v/\aE [] H d u/\eQ n d/\∀H',aG [] H H'->Q (.bl true) H'
theorem Rb{n:Nat}{d:PyData}(h:eQ n d):iJ d\/∃m ds,n=m+1/\(d= .tuple ds\/d= .list ds)/\ds.length<=100/\∀e∈ds,eQ m e:=by
 cases n with
 |zero=>exact .inl h
 |succ n=>
  rcases h with hf|⟨ds,hd,hl,hds⟩
  ·exact .inl hf
  ·exact .inr ⟨n,ds,rfl,hd,hl,hds⟩
theorem wI{d:PyData}(h:iJ d):Sh 0 d:=by
 rcases h with⟨x,rfl,hx⟩|⟨i,rfl⟩|⟨b,rfl⟩
 ·exact⟨hx,Nat.le_refl _⟩
 ·exact pV i
 ·exact uD b
section
variable{P:Program}{w:World}{K:PySem.W.Frag}{mg:Str->Option Value}{base:Heap}{ts:List Addr}
abbrev lU:Stmt:=top 34
theorem Lp:bW ["_law_found","_law_due"] ["_law_found","_law_due"] (aW lU):=⟨rfl,rfl,rfl,Qd,rfl,Qd,Qd⟩
theorem Oz{f:Addr}{fd:FuncData}(n:Nat)(F:bR K "_law_same" "_law_same" lU f fd)(T:Txt K mg)(pC:bF P w K mg base "_law_same" n ["_law_found","_law_due"] (nM n)):bE P w K mg base bP (n+1) f fd ["_law_found","_law_due"] (nM (n+1)):=by
 refine F.ok Lp (λ vs H Q E h=>?_) (λ cdv A outer s H vs Q E hr h=>?_)
 ·obtain⟨d,v,u,rfl,_⟩:=h
  rfl
 obtain⟨d,v,u,rfl,hv,hu',ok,q⟩:=h
 have hu:=hr.units
 refine'⟨_,?hh,?rr⟩
 case hh=>(exists aT ?_ ?_,cG ?_ ?_ cF,PW.pt ?_,lW ?_ ?_,iC ?_,bG iM rfl T.b_isinstance eM ?_,aA (pv 1) ?_,aA (gP (v:=.ty "tuple") rfl T.b_tuple eX rfl) aI,lV ?_,iC ?_,bG iM rfl T.b_isinstance eM ?_,aA (pv 1) ?_,aA (gP (v:=.ty "list") rfl T.b_list rM rfl) aI,aT ?_ ?_,cG ?_ ?_ cF,bY kL ?_ ?_ (bO _),bG iM rfl T.b_isinstance eM ?_,aA (pv 0) ?_,aA (gP (v:=.ty "tuple") rfl T.b_tuple eX rfl) aI,bG iM rfl T.b_isinstance eM ?_,aA (pv 1) ?_,aA (gP (v:=.ty "tuple") rfl T.b_tuple eX rfl) aI,aY ?_,bI jC,aT ?_ ?_,cG ?_ ?_ cF,PW.pt ?_,lW ?_ ?_,bY kL ?_ ?_ (bO _),bG iM rfl T.b_isinstance eM ?_,aA (pv 0) ?_,aA (gP (v:=.ty "list") rfl T.b_list rM rfl) aI,bG iM rfl T.b_isinstance eM ?_,aA (pv 1) ?_,aA (gP (v:=.ty "list") rfl T.b_list rM rfl) aI,lV ?_,bY kL ?_ ?_ (bO _),bG cU rfl T.b_len PySem.boot_len ?_,aA (pv 0) aI,bG cU rfl T.b_len PySem.boot_len ?_,aA (pv 1) aI,aY ?_,bI jC,aY ?_,bI ?_,bG (AB rfl) rfl T.b_all AJ ?_,aA ?_ aI,kJ rfl ?_ (eU ["_law_one","_law_other"] 2 []) ?_ ?_ ?_ ?_ ?_ ?_ ?_,(by exact⟨rfl,Qd,Qd,(show∀y:Str×NameKind,y∈_->y.2=NameKind.free->(aW lU).names.lookup y.1=some .cell\/(aW lU).names.lookup y.1=some .free from Qd)⟩),Qd,Qc,Nq rfl T.b_zip ?_,aA (pv 0) ?_,aA (pv 1) aI,4,Nu (K:=K) (n:=2) rfl rfl ?_,dL ?_ ?_,bL ?_ (aQ 0) (Or.inl rfl) (Or.inr rfl),(by exact(show(["_law_one","_law_other"]:List Str).Nodup from Qd)),dL ?_ lZ,bL ?_ (aQ 1) (Or.inl rfl) (Or.inr rfl),(by exact(show(["_law_one","_law_other"]:List Str).Nodup from Qd)),Vf (De Qc (De Qc Ve)),4,kA,4,bD pC hr ?_ rfl ?_,aA (pv 0) ?_,aA (pv 1) aI,(by first|decide|exact Nat.le_refl _),aY ?_,bI ?_,Bd ?_ ?_,iF eI ?_ ?_ (bO _),bG iM rfl T.b_isinstance eM ?_,aA (pv 0) ?_,aA (gP (v:=.ty "bool") rfl T.b_bool Er rfl) aI,bG iM rfl T.b_isinstance eM ?_,aA (pv 1) ?_,aA (gP (v:=.ty "bool") rfl T.b_bool Er rfl) aI,vG ?_,iF (qD hu) (pv 0) (pv 1) (bO _))
 rcases Rb ok with hf|⟨m,ds,rfl,rfl|rfl,hl,hds⟩
 ·skip
  have sh:=wI hf
  refine⟨_,rfl,_,_,_,_,rfl,hu'.ty,kU d,_,rfl,?_⟩
  have e1:mL "tuple" d=false:=by rcases hf with⟨x,rfl,hx⟩|⟨i,rfl⟩|⟨b,rfl⟩<;>rfl
  have e2:mL "list" d=false:=by rcases hf with⟨x,rfl,hx⟩|⟨i,rfl⟩|⟨b,rfl⟩<;>rfl
  rw[e1]
  refine cZ ?_
  refine⟨_,rfl,_,_,_,_,rfl,hu'.ty,mH d,_,rfl,?_⟩
  rw[e2]
  refine cZ ?_
  refine⟨_,rfl,_,_,_,_,rfl,hv.ty,Cn d,_,rfl,_,_,_,_,rfl,hu'.ty,Cn d,rfl,_,rfl,?_⟩
  rw[decide_eq_true rfl]
  refine mK ?_
  refine⟨_,rfl,_,rfl,d,d,hv,hu',sh.shaped,sh.shaped,?_⟩
  rw[sh.refl]
  exact q H aG.refl
 ·skip
  obtain⟨a,xs,rfl,na,ha,hxs⟩:=id hv
  obtain⟨c,ys,rfl,nc,hc,hys⟩:=id hu'
  have lx:=hxs.length
  have ly:=hys.length
  refine⟨_,rfl,_,_,_,_,rfl,hu'.ty,kU _,_,rfl,?_⟩
  refine mK (mK ?_)
  refine⟨_,rfl,_,_,_,_,rfl,hv.ty,kU _,_,rfl,_,_,_,_,rfl,hu'.ty,kU _,rfl,_,rfl,?_⟩
  rw[decide_eq_true rfl]
  refine cZ ?_
  refine⟨_,rfl,_,_,_,_,rfl,hv.ty,mH _,_,rfl,_,_,_,_,rfl,hu'.ty,mH _,rfl,_,rfl,?_⟩
  rw[decide_eq_true rfl]
  refine cZ ?_
  refine⟨_,rfl,a,_,rfl,.inr (aM.of ha),_,rfl,c,_,rfl,.inr (aM.of hc),rfl,_,rfl,?_⟩
  rw[lx,ly,decide_eq_true rfl]
  refine cZ ?_
  refine .inl ⟨_,rfl,_,rfl,a,c,rfl,⟨xs,aM.of ha⟩,⟨ys,aM.of hc⟩,Sl (xs:=xs) (ys:=ys) Qa (λ i vs H2=>aG [] H H2/\vs=(List.replicate i true).map V.bl) ⟨aG.refl,rfl⟩ (λ _ _ _ h=>⟨aM.of (h.1.tup Qb ha),aM.of (h.1.tup Qb hc)⟩) ?_ ?_⟩
  ·rintro i x1 y1 T1 vs H2 hx1 hy1 hi ⟨e,rfl⟩ hT
   have hi':i<ds.length:=by omega
   have hdi:=List.getElem?_eq_getElem hi'
   obtain⟨x1',hx1',dx⟩:=hxs.get hdi
   rw[hx1]at hx1'
   cases hx1'
   obtain⟨y1',hy1',dy⟩:=hys.get hdi
   rw[hy1]at hy1'
   cases hy1'
   have x3:aG [] H2 (aD H2 T1 (.tup [x1,y1])):=aG.new hT _
   have hT3:aD H2 T1 (.tup [x1,y1]) T1=some (.tup [x1,y1]):=aR
   generalize aD H2 T1 (.tup [x1,y1])=H3 at x3 hT3⊢
   have e3:=e.trans x3
   refine⟨T1,_,rfl,aM.of hT3,rfl,_,_,rfl,_,_,rfl,rfl,?_⟩
   refine⟨_,rfl,_,rfl,ds[i],x1,y1,rfl,aE.ext e3 dx,aE.ext e3 dy,hds _ (List.getElem_mem hi'),λ H4 e4=>⟨?_,nx hi ⟨e3.trans e4,?_⟩⟩⟩
   ·rw[List.length_map,List.length_replicate]
    exact cM Qa
   ·rw[List.replicate_succ',List.map_append]
    rfl
  ·rintro vs H2 ⟨e,rfl⟩ p hp
   refine⟨p,_,rfl,aN.of aR,?_⟩
   have:(List.replicate xs.length true).all id=true:=by simp
   rw[this]
   exact q _ (e.trans (aG.new hp _))
 ·skip
  obtain⟨a,xs,rfl,na,ha,hxs⟩:=id hv
  obtain⟨c,ys,rfl,nc,hc,hys⟩:=id hu'
  have lx:=hxs.length
  have ly:=hys.length
  refine⟨_,rfl,_,_,_,_,rfl,hu'.ty,kU _,_,rfl,?_⟩
  refine cZ ?_
  refine⟨_,rfl,_,_,_,_,rfl,hu'.ty,mH _,_,rfl,?_⟩
  refine mK ?_
  refine⟨_,rfl,_,_,_,_,rfl,hv.ty,kU _,_,rfl,_,_,_,_,rfl,hu'.ty,kU _,rfl,_,rfl,?_⟩
  rw[decide_eq_true rfl]
  refine cZ ?_
  refine⟨_,rfl,_,_,_,_,rfl,hv.ty,mH _,_,rfl,_,_,_,_,rfl,hu'.ty,mH _,rfl,_,rfl,?_⟩
  rw[decide_eq_true rfl]
  refine cZ ?_
  refine⟨_,rfl,a,_,rfl,.inl (aN.of ha),_,rfl,c,_,rfl,.inl (aN.of hc),rfl,_,rfl,?_⟩
  rw[lx,ly,decide_eq_true rfl]
  refine cZ ?_
  refine .inr ⟨_,rfl,_,rfl,a,c,rfl,⟨xs,aN.of ha⟩,⟨ys,aN.of hc⟩,Sk (xs:=xs) (ys:=ys) Qa (λ i vs H2=>aG [] H H2/\vs=(List.replicate i true).map V.bl) ⟨aG.refl,rfl⟩ (λ _ _ _ h=>⟨aN.of (h.1.lst Qb ha),aN.of (h.1.lst Qb hc)⟩) ?_ ?_⟩
  ·rintro i x1 y1 T1 vs H2 hx1 hy1 hi ⟨e,rfl⟩ hT
   have hi':i<ds.length:=by omega
   have hdi:=List.getElem?_eq_getElem hi'
   obtain⟨x1',hx1',dx⟩:=hxs.get hdi
   rw[hx1]at hx1'
   cases hx1'
   obtain⟨y1',hy1',dy⟩:=hys.get hdi
   rw[hy1]at hy1'
   cases hy1'
   have x3:aG [] H2 (aD H2 T1 (.tup [x1,y1])):=aG.new hT _
   have hT3:aD H2 T1 (.tup [x1,y1]) T1=some (.tup [x1,y1]):=aR
   generalize aD H2 T1 (.tup [x1,y1])=H3 at x3 hT3⊢
   have e3:=e.trans x3
   refine⟨T1,_,rfl,aM.of hT3,rfl,_,_,rfl,_,_,rfl,rfl,?_⟩
   refine⟨_,rfl,_,rfl,ds[i],x1,y1,rfl,aE.ext e3 dx,aE.ext e3 dy,hds _ (List.getElem_mem hi'),λ H4 e4=>⟨?_,nx hi ⟨e3.trans e4,?_⟩⟩⟩
   ·rw[List.length_map,List.length_replicate]
    exact cM Qa
   ·rw[List.replicate_succ',List.map_append]
    rfl
  ·rintro vs H2 ⟨e,rfl⟩ p hp
   refine⟨p,_,rfl,aN.of aR,?_⟩
   have:(List.replicate xs.length true).all id=true:=by simp
   rw[this]
   exact q _ (e.trans (aG.new hp _))
theorem En{f:Addr}{fd:FuncData}(F:bR K "_law_same" "_law_same" lU f fd)(T:Txt K mg)(hm:mg "_law_same" =some (.ref f))(hk:PySem.W.keepIn K (.ref f)=true)(hb:hU K fd ["_law_found","_law_due"] []):∀n,bF P w K mg base "_law_same" n ["_law_found","_law_due"] (nM n)
 |0=>⟨f,fd,⟨λ _ _ _ _ h=>h.elim,λ _ _ _ _ _ _ _ _ _ _ _ _ _ h=>h.elim⟩,hm,hk,hb⟩
 |n+1=>⟨f,fd,Oz n F T (En F T hm hk hb n),hm,hk,hb⟩
end
end K14
namespace L2
open PySem PySem.Spec PyProof.Rows PySem.W
def C4(h:Heap)(v:Value):Prop:=∃a o n x t y u i k b,v= .ref a/\h.get? a=some o/\o.cls= .type "tuple"/\o.data= .seq #[.str x t,.str y u,.int i k,.bool b] n
def oK:Option Obj->List Nat
 | some o=>match o.data with
  |.seq its _=>match(its[0]?:Option Value)with
   |some (.str x _)=>x.cps.toList
   |_=>[]
  |_=>[]
 |none=>[]
def wA(h:Heap):Value->List Nat
 |.ref a=>oK (h.get? a)
 |_=>[]
theorem C4.stay{h h':Heap}{v:Value}(x:C4 h v)(k:∀b o,v= .ref b->h.get? b=some o->h'.get? b=some o):C4 h' v/\wA h' v=wA h v:=by
 obtain⟨a,o,n,x,t,y,u,i,j,b,rfl,ho,hc,hd⟩:=x
 refine⟨⟨a,o,n,x,t,y,u,i,j,b,rfl,k a o rfl ho,hc,hd⟩,?_⟩
 show oK (h'.get? a)=oK (h.get? a)
 rw[ho,k a o rfl ho]
section
variable{prog:Program}{w:World}{A:Around}{E:Qe}{s:Shared}
end
section
variable{prog:Program}{w:World}{A:Around}{E:Qe}{s:Shared}
end
theorem Bb{α β:Type}{f:α->β}:∀{us:List β} {l:List α},us.Perm (l.map f)->∃l':List α,l'.Perm l/\us=l'.map f
 |[],l,h=>by
  have:l.map f=[]:=List.nil_perm.mp h
  exact⟨[],by rw[List.map_eq_nil_iff.mp this],rfl⟩
 | u::us,l,h=>by
  obtain⟨a,ha,rfl⟩:=List.mem_map.mp (h.mem_iff.mp List.mem_cons_self)
  obtain⟨s,t,rfl⟩:=List.append_of_mem ha
  have h2:us.Perm ((s++t).map f):=by
   have:(f a::us).Perm (f a::(s++t).map f):=h.trans (by
    rw[List.map_append,List.map_append,List.map_cons]
    exact List.perm_middle)
   exact this.cons_inv
  obtain⟨l',hl,rfl⟩:=Bb h2
  exact⟨a::l',(hl.cons a).trans List.perm_middle.symm,rfl⟩
section
variable{X:Cx}
theorem aB.c4{pins:List (Addr×Obj)}{σ:St}{H:Hp}{s:Shared}{ex:List Addr}(I:aB X pins σ H s){c:Cd}{p:Addr}(h:aE ex H c.d (.ref p)):C4 s.heap (.ref p)/\wA s.heap (.ref p)=c.nm.cps.toList:=by
 obtain⟨a,e,q⟩:=Cd.view h
 injection e with e
 subst e
 obtain⟨_,its,r,⟨o,ho,hc,n,hd⟩,_⟩:=(I.hok p _ q:cI X.prog X.w H s.heap p (.tup _))
 cases r with
 | cons r1 r=>cases r with
  | cons r2 r=>cases r with
   | cons r3 r=>cases r with
    | cons r4 r=>cases r with
     |nil=>
      obtain⟨t,rfl⟩:=r1
      obtain⟨u,rfl⟩:=r2
      obtain⟨k,rfl⟩:=r3
      cases r4
      refine⟨⟨p,o,n,_,t,_,u,_,k,_,rfl,ho,hc,hd⟩,?_⟩
      show oK (s.heap.get? p)=_
      rw[ho]
      unfold oK
      dsimp only
      rw[hd]
      rfl
end
end L2
namespace L2
open PySem PySem.Spec PyProof.Rows PySem.W PySem.SetTable
section
variable{prog:Program}{w:World}{A:Around}{E:Qe}{s:Shared}
theorem Kr{T:String}{l n:Nat}{o:Obj}{vs:List Value}(hT:T= "list"\/T= "tuple")(ho:s.heap.get? l=some o)(hc:o.cls= .type T)(hd:o.data= .seq vs.toArray n)(hn:vs.length<=1000)(hW:∀v∈vs,W3 s.heap v){Q:Qe}
  (h:∀h1:Heap,(∀b o,s.heap.get? b=some o->h1.get? b=some o)->∀L (us:List Value) e h',h1.objs.size<=L->us.Perm vs->oV (jD s.heap) us->(∀b o,h1.get? b=some o->h'.get? b=some o)->h'.get? L=some {cls:=.type "list",data:=.seq us.toArray e}->Q (.ref L) {s with heap:=h'}):
  wpAny (model prog w) A (call (.builtin "sorted") [.ref l]) Q E s:=by
 have line:vs.length<=sizeLine:=Nat.le_trans hn gM
 refine Calls.call_function_entry kind_sorted plain_sorted entry_sorted (args_sorted1 _) ?_
 unfold Builtin.«sorted»
 refine wpAny_bind (m:=checkCount "sorted" 1 1 _) (wpAny_pure (wpAny_bind (wpAny_collect_seq l hT ho hc hd (λ h1 old1=>?_) (by rw[List.size_toArray];exact line))))
 rw[List.toList_toArray]
 refine wpAny_bind (wpAny_newList ?_ line)
 have top:(h1.push (seqObj "list" vs.toArray 0)).get? h1.objs.size=some (seqObj "list" vs.toArray 0):=Heap.get?_push_size _ rfl
 have old:∀b o,s.heap.get? b=some o->(h1.push (seqObj "list" vs.toArray 0)).get? b=some o:=λ b o g=>Heap.get?_push_of_some _ (old1 b o g)
 change wpAny _ _ _ _ _ {s with heap:=h1.push (seqObj "list" vs.toArray 0)}
 refine wpAny_bind (wpAny_holding (wpAny_call_entry slot_list_sort ⟨_,top,rfl⟩ entry_list_sort (Bz (s:={s with heap:=h1.push (seqObj "list" vs.toArray 0)}) (O:=jD s.heap) top (λ two=>Ac (λ v hv=>?_) Qa) hn λ out perm ris=>⟨_,rfl,?_⟩) (args_list_sort _)))
 ·refine⟨(hW v hv).stayK λ b o _ g=>old b o g,λ z=>?_⟩
  obtain⟨b,o,_,_,_,_,_,_,_,e,g,_⟩:=hW v hv
  rw[e]at z
  injection z with z
  exact Nat.lt_irrefl _ (z▸Heap.lt_size (old1 _ _ g))
 ·obtain⟨e,g⟩:=sortedHeap_at (out:=out) top
  refine wpAny_pure ⟨_,rfl,h h1 old1 h1.objs.size out.toList e _ (Nat.le_refl _) perm ris (λ b o q=>?_) (by rw[Array.toArray_toList];exact g)⟩
  have lt:=Heap.lt_size q
  show(sortedHeap _ _ _ _).get? b=some o
  rw[sortedHeap_old (Nat.ne_of_lt lt) (by rw[size_push'];exact Nat.lt_succ_of_lt lt)]
  exact Heap.get?_push_of_some _ q
end
section
variable{X:Cx}
def Ms(K:PySem.W.Frag)(neg:Bool):R2:=λ x y H Q=>∃(u:Wt) (ws:List Wt) (p:Addr) (xs:List V),y= .ref p/\aE [] H u.d x/\(aN K H p xs\/aM K H p xs)/\aJ [] H (ws.map Wt.d) xs/\∀b:Bool,(b=true↔u∈ws)->Q (.bl (if neg then !b else b)) H
theorem Cy{pins:List (Addr×Obj)}{σ:St}{H:Hp}{s:Shared}(I:aB X pins σ H s){u:Wt}{pl:List (Addr×Wt)}(hp:∀q∈pl,aE [] H q.2.d (.ref q.1)):
  (((pl.map λ q=>Value.ref q.1).toArray.any λ v=>decide (kT s.heap v=dC u))=true↔u∈pl.map (·.2)):=by
 rw[List.any_toArray,List.any_eq_true]
 constructor
 ·rintro⟨v,hv,e⟩
  obtain⟨q,hq,rfl⟩:=List.mem_map.mp hv
  have e:=of_decide_eq_true e
  rw[(I.w3k (hp q hq)).2.2.1]at e
  exact List.mem_map.mpr ⟨q,hq,yX e⟩
 ·intro h
  obtain⟨q,hq,rfl⟩:=List.mem_map.mp h
  exact⟨.ref q.1,List.mem_map.mpr ⟨q,hq,rfl⟩,decide_eq_true (I.w3k (hp q hq)).2.2.1⟩
theorem Cw{pins:List (Addr×Obj)}{σ:St}{H:Hp}{s:Shared}(hu:X.A.units+64<cLine)(I:aB X pins σ H s){u:Wt}{a:Addr}(ha:aE [] H u.d (.ref a)){pl:List (Addr×Wt)}(hp:∀q∈pl,aE [] H q.2.d (.ref q.1)):
  ∀y∈(pl.map λ q=>Value.ref q.1).toArray,SeqAt.EqAt X.A.in1 s y (.ref a) (decide (kT s.heap y=dC u)):=λ y hy=>by
 obtain⟨q,hq,rfl⟩:=List.mem_map.mp (List.mem_toArray.mp hy)
 intro prog w E Q hQ
 have kin:∀{p:Addr} {v:Wt},aE [] H v.d (.ref p)->IsTupleKey (eR prog w) s.heap (dC v) p:=fun{p v} hv=>by
  obtain⟨p',o,n,x,t,i,k,y,j,e,ho,hc,hd⟩:=(I.w3k hv).1
  injection e with e
  subst e
  have hk:=(I.w3k hv).2.2.1
  have hk:oG (s.heap.get? p)=dC v:=hk
  rw[ho]at hk
  unfold oG at hk
  dsimp only at hk
  rw[hd]at hk
  have hk:[Sum.inr x,Sum.inl i,Sum.inr y]=dC v:=hk
  rw[<-hk]
  exact⟨o,_,n,ho,hc,hd,.cons (mD ..) (.cons (vP ..) (.cons (mD ..) .nil))⟩
 rw[(I.w3k (hp q hq)).2.2.1]at hQ
 refine wpAny_eqBool_tuple (by show X.A.units+1<cLine;omega) (kin (hp q hq)) (kin ha) hQ
theorem Oo(hu:X.A.units+64<cLine):bV X (compareOp .In) (Ms X.K false):=by
 intro pins s σ H x y v u Q I rx ry h
 obtain⟨wt,ws,p,xs,rfl,hx,hq,hds,q⟩:=h
 cases ry
 obtain⟨pl,rfl,rfl,hps⟩:=pI hds
 obtain⟨a,rfl,_⟩:=Wt.view hx
 obtain rfl:v= .ref a:=rx
 rcases hq with hq|hq
 ·obtain⟨its,r,tl,hz⟩:=I.list hq
  obtain rfl:=nW r
  exact SeqAt.in_listAt _ tl.isList (Cw hu I hx hps) ⟨.bl _,H,I,rfl,q _ (Cy I hps)⟩
 ·obtain⟨its,r,tl,hz⟩:=I.tuple hq
  obtain rfl:=nW r
  exact SeqAt.in_tupleAt _ tl (Cw hu I hx hps) ⟨.bl _,H,I,rfl,q _ (Cy I hps)⟩
def Md(K:PySem.W.Frag):List V->Hp->VK->Prop:=λ vs H Q=>∃(ws:List Wt) (t:Addr) (xs:List V),vs=[.ref t]/\aM K H t xs/\aJ [] H (ws.map Wt.d) xs/\ws.Nodup/\ws.length<=1000/\
 ∀(ws':List Wt) v H',ws'.length=ws.length->ws'.Pairwise gD->(∀w,w∈ws'↔w∈ws)->aG [] H H'->aE [] H' (.list (ws'.map Wt.d)) v->Q v H'
theorem Xt:dA X (.builtin "sorted") (Md X.K):=by
 intro pins s σ H vs us Q I rv h
 obtain⟨ws,t,xs,rfl,hq,hds,nd,hlen,q⟩:=h
 obtain⟨u,rfl,ru⟩:=rv.one
 obtain rfl:u= .ref t:=ru
 obtain⟨pl,rfl,rfl,hps⟩:=pI hds
 obtain⟨its,r,⟨o,ho,hc,n,hd⟩,hz⟩:=I.tuple hq
 obtain rfl:=nW r
 rw[List.length_map]at hlen
 refine Kr (.inr rfl) ho hc hd (by rw[List.length_map];exact hlen) (λ v hv=>?_) λ h1 old1 L us e h' hL perm ris keep hg=>?_
 ·obtain⟨q,hq,rfl⟩:=List.mem_map.mp hv
  exact(I.w3k (hps q hq)).1
 ·have I1:aB X pins σ H {s with heap:=h1}:=I.kept (t':=s.toks) old1
  have hnone:H L=none:=I1.hok.fresh hL
  obtain⟨zs,pz,rfl⟩:=Bb perm
  have hz:∀q∈zs,q∈pl:=λ q hq=>pz.mem_iff.mp hq
  have rel:∀l:List (Addr×Wt),aO (l.map λ q=>V.ref q.1) (l.map λ q=>Value.ref q.1):=λ l=>by
   induction l with
   |nil=>exact .nil
   |cons y l ih=>exact .cons rfl ih
  have I2:aB X pins σ (aD H L (.lst (zs.map λ q=>V.ref q.1))) {s with heap:=h'}:=
   I1.laid (t':=s.toks) keep hL ⟨by rw[List.length_map,pz.length_eq];exact Nat.le_trans hlen gM,zs.map λ q=>Value.ref q.1,e,rel zs,hg⟩
  have eN:aG [] H (aD H L (.lst (zs.map λ q=>V.ref q.1))):=aG.new hnone _
  refine⟨.ref L,_,I2,rfl,q (zs.map (·.2)) _ _ (by rw[List.length_map,List.length_map,pz.length_eq]) ?_ (λ w=>(pz.map _).mem_iff) eN ⟨L,_,rfl,Qb,aR,aJ.ext eN (vK λ q hq=>hps q (hz q hq))⟩⟩
  have ris:(zs.map λ q=>Value.ref q.1).Pairwise λ x y=>(jD s.heap).le (x,x) (y,y):=ris
  rw[List.pairwise_map]at ris⊢
  have nd2:zs.Pairwise λ a b=>a.2≠b.2:=by
   have:=(pz.map (·.2)).nodup_iff.mpr nd
   unfold List.Nodup at this
   rw[List.pairwise_map]at this
   exact this
  refine List.Pairwise.imp_of_mem (fun{a b} ma mb h=>?_) (ris.and nd2)
  obtain⟨le,ne⟩:=h
  have le:decide (cY s.heap (.ref b.1)<cY s.heap (.ref a.1))=false:=le
  rw[(I.w3k (hps a (hz a ma))).2.1,(I.w3k (hps b (hz b mb))).2.1]at le
  have le:=of_decide_eq_false le
  refine Classical.byContradiction λ z=>ne ?_
  exact zJ (List.le_antisymm (List.not_lt.mp le) (List.not_lt.mp z))
end
theorem Gh{a b:List Wt}(ha:a.Pairwise gD)(hb:b.Pairwise gD)(h:∀w,w∈a↔w∈b):a=b:=by
 have nd:∀{l:List Wt},l.Pairwise gD->l.Nodup:=λ h=>h.imp fun{a b} z e=>by
  subst e
  exact List.lt_irrefl _ z
 refine List.Perm.eq_of_pairwise (le:=gD) (λ x y _ _ h1 h2=>?_) ha hb ((List.perm_ext_iff_of_nodup (nd ha) (nd hb)).mpr h)
 exact absurd (List.lt_trans h1 h2) (List.lt_irrefl _)
end L2
namespace K14
open PySem PySem.Spec L2 PyProof.Rows PySem.W
def tG:Sp:=λ vs H Q _=>∃(p:Pl) (s:Sd) (v u:V) (x y:Str) (l:Int) (c o:Cd),vs=[v,u,.str x,.int l,.str y]/\aE [] H p.d v/\aE [] H s.d u/\x.length<=1000/\y.length<=1000/\jN p/\mU p s/\s.cd? x=some c/\s.cd? y=some o/\0<=l/\l<=p.n/\
 (decide (p.lane c<l)||decide (p.lane o=p.n))=true/\s.ws.length<=60/\s.ws.Pairwise gD/\((⟨x,l,y⟩:Wt)∈s.ws\/s.ws.length<60)/\
 ∀(ws':List Wt) r H',aG [] H H'->ws'.Pairwise gD->(∀w,w∈ws'↔w∈s.ws\/w=⟨x,l,y⟩)->aE [] H' ({s with ws:=ws'}:Sd).d r->Q r H'
structure Fd(K:PySem.W.Frag)(mg:Str->Option Value):Prop where
 b_len:mg "len" =none
 b_tuple:mg "tuple" =none
 b_sorted:mg "sorted" =none
 g_MOST_WAITS:∃u,mg "MOST_WAITS" =some u/\bA (.int 60) u
section
variable{P:Program}{w:World}{K:PySem.W.Frag}{mg:Str->Option Value}{base:Heap}{CC:Addr}
abbrev uK:Stmt:=top 21
theorem sc_with_wait:bW ["plan","stand","card","lane","other","bounds","cards","waits","wait"] ["plan","stand","card","lane","other"] (aW uK):=⟨rfl,rfl,rfl,Qd,rfl,Qd,Qd⟩
theorem Ov{f:Addr}{fd:FuncData}(F:bR K "with_wait" "with_wait" uK f fd)(T:Fd K mg)(gH:dQ P w K mg base "card_of" 4 ["stand","card"] (nO CC))(xX:bF P w K mg base "may_wait_at" 1 ["plan","lane"] tO)(yB:bF P w K mg base "holds" 9 ["plan","stand","wait"] tZ):bE P w K mg base bP 10 f fd ["plan","stand","card","lane","other"] tG:=by
 refine F.ok sc_with_wait (λ vs H Q E h=>?_) (λ cdv A outer s H vs Q E hr h=>?_)
 ·obtain⟨p,sd,v,u,x,y,l,c,o,rfl,_⟩:=h
  rfl
 obtain⟨p,sd,v,u,x,y,l,c,o,rfl,hp,hs,hx,hy,Po,So,hc,ho,l0,l1,hh,h60,rise,h6,q⟩:=h
 have hu:=hr.units
 refine'⟨_,?hh,?rr⟩
 case hh=>(exists aT ?_ ?_,iZ ?_,fY nG gH hr ?_ rfl ?_,aA (pv 1) ?_,aA (pv 2) aI,Qc,aT ?_ ?_,iZ ?_,fY nG gH hr ?_ rfl ?_,aA (pv 1) ?_,aA (pv 4) aI,Qc,aT ?_ ?_,cG ?_ ?_ cF,iY ?_,iC ?_,bD xX hr ?_ rfl ?_,aA (pv 0) ?_,aA (pv 3) aI,Qc,aY vE,aT ?_ ?_,lY (pv 1) ?_,mB rfl ?_,dL ?_ ?_,bL sc_with_wait.nd (aQ 5) (Or.inl rfl) (Or.inl rfl),dL ?_ ?_,bL sc_with_wait.nd (aQ 6) (Or.inl rfl) (Or.inl rfl),dL ?_ lZ,bL sc_with_wait.nd (aQ 7) (Or.inl rfl) (Or.inl rfl),aT ?_ ?_,bH sc_with_wait.nd (aQ 8) (Or.inl rfl) ?_,dS ?_,aA (pv 2) ?_,aA (pv 3) ?_,aA (pv 4) aI,aT ?_ ?_,cG ?_ ?_ cF,iY ?_,iC ?_,bD yB hr ?_ rfl ?_,aA (pv 0) ?_,aA (pv 1) ?_,aA (pv 8) aI,Qc,aY vE,aT ?_ ?_,cG ?_ ?_ cF,bY (Oo hu) (pv 8) (pv 7) ?_,(by with_unfolding_all rfl),aY ?_,bI (pv 1),aT ?_ ?_,cG ?_ ?_ cF,bY qC ?_ (kK T.g_MOST_WAITS) (bO _),bG cU rfl T.b_len PySem.boot_len ?_,aA (pv 7) aI,aY vE,aY ?_,bI ?_,dS ?_,aA (pv 5) ?_,aA (pv 6) ?_,aA ?_ aI,fF lB rfl T.b_tuple eX ?_,aA ?_ aI,bG Xt rfl T.b_sorted boot_sorted ?_,aA ?_ aI,dS ?_,Oj (pv 7) ?_,aA (pv 8) aI)
 refine⟨_,rfl,_,rfl,sd,u,x,rfl,hs,hx,λ c' cu H1 hc' e1 _=>?_,λ hn=>by rw[hc]at hn;cases hn⟩
 refine⟨_,rfl,_,rfl,sd,u,y,rfl,aE.ext e1 hs,hy,λ o' ou H2 ho' e2 _=>?_,λ hn=>by rw[ho]at hn;cases hn⟩
 have e12:=e1.trans e2
 refine⟨_,rfl,_,rfl,p,v,l,rfl,aE.ext e12 hp,_,rfl,?_⟩
 rw[decide_eq_true l0,decide_eq_true l1]
 refine cZ ?_
 have hs2:=aE.ext e12 hs
 obtain⟨a,ba,ca,wa,cv,wv,rfl,ha,hba,hca,hcs,hwa,hws,ec,ew⟩:=Sd.view hs2
 refine⟨_,rfl,_,_,rfl,aM.of ha,rfl,_,_,rfl,_,_,rfl,_,_,rfl,rfl,?_⟩
 refine⟨_,rfl,_,rfl,_,rfl,by show 3<=sizeLine;decide,λ t ht=>?_⟩
 have e3:aG [] H2 (aD H2 t (.tup [.str x,.int l,.str y])):=aG.new ht _
 have h3:(aD H2 t (.tup [.str x,.int l,.str y])) t=some (.tup [.str x,.int l,.str y]):=aR
 generalize aD H2 t (.tup [.str x,.int l,.str y])=H3 at e3 h3⊢
 have e13:=e12.trans e3
 have ft:aE [] H3 (Wt.d ⟨x,l,y⟩) (.ref t):=⟨t,_,rfl,Qb,h3,_,_,rfl,rfl,_,_,rfl,rfl,_,_,rfl,rfl,rfl⟩
 refine⟨_,rfl,_,rfl,_,rfl,p,sd,v,_,.ref t,⟨x,l,y⟩,c,o,rfl,aE.ext e13 hp,aE.ext e13 hs,ft,Po,So,hc,ho,hx,hy,λ H4 e4=>?_⟩
 rw[hh]
 refine⟨_,rfl,cZ ?_⟩
 have e14:=e13.trans e4
 have e24:=e3.trans e4
 have ft4:=aE.ext e4 ft
 have hwa4:H4 wa=some (.tup wv):=e24.tup Qb hwa
 have hws4:=aJ.ext e24 hws
 have ew2:(({sd with ws:=sd.ws}:Sd))=sd:=rfl
 refine⟨_,rfl,_,rfl,⟨x,l,y⟩,sd.ws,wa,wv,rfl,ft4,.inr (aM.of hwa4),hws4,λ b hb=>⟨b,rfl,?_⟩⟩
 refine bU (λ c1=>?_) (λ c1=>?_)
 ·have hm:(⟨x,l,y⟩:Wt)∈sd.ws:=hb.mp c1
  exact⟨_,rfl,q sd.ws _ _ e14 rise (λ w=>⟨.inl,λ h=>h.elim id λ e=>e▸hm⟩) (aE.ext e24 hs2)⟩
 have hm:¬(⟨x,l,y⟩:Wt)∈sd.ws:=λ z=>c1 (hb.mpr z)
 have hlt:sd.ws.length<60:=h6.resolve_left hm
 refine⟨_,rfl,wa,wv,rfl,.inr (aM.of hwa4),_,_,rfl,rfl,_,rfl,?_⟩
 rw[decide_eq_false (by rw[ew];omega)]
 refine cZ ?_
 refine⟨_,rfl,_,rfl,_,rfl,wa,wv,rfl,.inr (aM.of hwa4),_,rfl,?_⟩
 have elen:(wv++[V.ref t]).length=sd.ws.length+1:=by rw[List.length_append,ew];rfl
 refine⟨by rw[elen];exact Nat.le_of_lt (cM Qa),λ t2 ht2=>?_⟩
 have e5:aG [] H4 (aD H4 t2 (.tup (wv++[.ref t]))):=aG.new ht2 _
 have h5:(aD H4 t2 (.tup (wv++[.ref t]))) t2=some (.tup (wv++[.ref t])):=aR
 generalize aD H4 t2 (.tup (wv++[.ref t]))=H5 at e5 h5⊢
 have nd:(sd.ws++[(⟨x,l,y⟩:Wt)]).Nodup:=by
  rw[List.nodup_append]
  refine⟨rise.imp fun{a b} z e=>?_,List.pairwise_singleton _ _,λ a ha b hb e=>?_⟩
  ·subst e
   exact List.lt_irrefl _ z
  ·rw[List.mem_singleton.mp hb]at e
   exact hm (e▸ha)
 have fds:aJ [] H5 ((sd.ws++[(⟨x,l,y⟩:Wt)]).map Wt.d) (wv++[.ref t]):=by
  rw[List.map_append]
  exact aJ.append (aJ.ext e5 hws4) ⟨_,_,rfl,aE.ext e5 ft4,rfl⟩
 refine⟨sd.ws++[⟨x,l,y⟩],t2,_,rfl,aM.of h5,fds,nd,by rw[List.length_append];show sd.ws.length+1<=1000;omega,λ ws' v6 H6 hl6 hris hmem e6 f6=>?_⟩
 obtain⟨la,lx,rfl,_,hla,hlx⟩:=f6
 refine⟨la,lx,rfl,.inl ⟨aN.of hla,λ t7 ht7=>?_⟩⟩
 have e7:aG [] H6 (aD H6 t7 (.tup lx)):=aG.new ht7 _
 have h7:(aD H6 t7 (.tup lx)) t7=some (.tup lx):=aR
 generalize aD H6 t7 (.tup lx)=H7 at e7 h7⊢
 refine⟨by show 3<=sizeLine;decide,λ t8 ht8=>?_⟩
 have e8:aG [] H7 (aD H7 t8 (.tup [.ref ba,.ref ca,.ref t7])):=aG.new ht8 _
 have E8:=e24.trans (e5.trans (e6.trans (e7.trans e8)))
 have E18:=e14.trans (e5.trans (e6.trans (e7.trans e8)))
 refine q ws' _ _ E18 hris (λ w=>?_) ⟨t8,_,rfl,Qb,aR,.ref ba,_,rfl,⟨ba,_,rfl,Qb,E8.tup Qb hba,aJ.ints _⟩,.ref ca,_,rfl,⟨ca,_,rfl,Qb,E8.tup Qb hca,aJ.ext E8 hcs⟩,.ref t7,_,rfl,⟨t7,lx,rfl,Qb,e8.tup Qb h7,aJ.ext (e7.trans e8) hlx⟩,rfl⟩
 rw[hmem,List.mem_append,List.mem_singleton]
end
theorem Xo{p:Pl}{s:Sd}(G:dP p)(SG:SdG p s){c:Cd}(hc:c∈s.cs):Sh 1 c.d:=by
 have hkn:nm c.kd=true:=by
  obtain⟨_,k',hk',_⟩:=SG.c c hc
  rw[<-(fO hk').2];exact(G.kn k' (fO hk').1).1
 refine Sh.tup λ d hd=>?_
 simp only[List.mem_cons,List.not_mem_nil,or_false]at hd
 rcases hd with rfl|rfl|rfl|rfl
 ·exact lS (SG.cn c hc)
 ·exact lS hkn
 ·exact pV _
 ·exact uD _
def dM(s:Sd)(x y:Str):PyData:=match s.cd? x with
 |none=>.tuple [.str "NoCard",.str x]
 |some _=>match s.cd? y with
  |none=>.tuple [.str "NoCard",.str y]
  |some _=>if(Sd.less s x y).length=s.ws.length then .tuple [.str "NoWait",.str x]else Sd.d {s with ws:=Sd.less s x y}
def tQ:Sp:=λ vs H Q _=>∃(p:Pl) (s:Sd) (u:V) (x y:Str),vs=[u,.str x,.str y]/\aE [] H s.d u/\dP p/\SdG p s/\PySem.PyData.strOk x=true/\PySem.PyData.strOk y=true/\∀r H',aG [] H H'->aE [] H' (dM s x y) r->Q r H'
section
variable{P:Program}{w:World}{K:PySem.W.Frag}{mg:Str->Option Value}{base:Heap}
abbrev jY:Stmt:=top 35
theorem sc__law_let_due:bW ["_law_stand_here","_law_card","_law_other","_law_name","_law_left"] ["_law_stand_here","_law_card","_law_other"] (aW jY):=⟨rfl,rfl,rfl,Qd,rfl,Qd,Qd⟩
theorem Pj{f:Addr}{fd:FuncData}(F:bR K "_law_let_due" "_law_let_due" jY f fd)(T:Txt K mg):bE P w K mg base bP 1 f fd ["_law_stand_here","_law_card","_law_other"] tQ:=by
 refine F.ok sc__law_let_due (λ vs H Q E h=>?_) (λ cdv A outer s H vs Q E hr h=>?_)
 ·obtain⟨p,sd,u,x,y,rfl,_⟩:=h
  rfl
 obtain⟨p,sd,u,x,y,rfl,hs,G,SG,xok,yok,q⟩:=h
 have hu:=hr.units
 refine'⟨_,?hh,?rr⟩
 case hh=>(exists aT ?_ ?_,fW PassesOwn.never rfl ?_ ?_ ?_,gN ?_,dS ?_,aA (pv 1) ?_,aA (pv 2) aI,bL sc__law_let_due.nd (aQ 3) (Or.inr rfl) (Or.inl rfl),aY ?_,cG ?_ ?_ cF,bY (qD hu) ?_ ?_ (bO _),kJ rfl ?_ (eU ["_law_one","_law_name"] 1 [3]) ?_ ?_ ?_ ?_ ?_ ?_ ?_,(by exact⟨rfl,Qd,Qd,(show∀y:Str×NameKind,y∈_->y.2=NameKind.free->(aW jY).names.lookup y.1=some .cell\/(aW jY).names.lookup y.1=some .free from Qd)⟩),Qd,Qc,gN ?_,aV bK (pv 0) aL (λ _ _=>rfl),4,bL ?_ (aQ 0) (Or.inl rfl) (Or.inr rfl),(by exact(show(["_law_one","_law_name"]:List Str).Nodup from Qd)),fH Qc,4,jZ ?_,bY eI ?_ (pv 1) (bO _),aV ?_ (pv 0) aL (λ _ _=>rfl),(by exact(show cW _ (fV K)from bK)),4,(pv 0),gO aI,aY ?_,bI ?_,dS ?_,aA cQ ?_,aA (pv 3) aI,aT ?_ ?_,lX sc__law_let_due.nd (aQ 4) (Or.inl rfl) rfl ?_ (eU ["_law_wait","_law_card","_law_other"] 1 [1,2]) ?_ ?_ ?_ ?_ ?_ ?_ ?_,(by exact⟨rfl,Qd,Qd,(show∀y:Str×NameKind,y∈_->y.2=NameKind.free->(aW jY).names.lookup y.1=some .cell\/(aW jY).names.lookup y.1=some .free from Qd)⟩),Qd,Qc,gN ?_,aV bK (pv 0) aL (λ _ _=>rfl),4,bL ?_ (aQ 0) (Or.inl rfl) (Or.inr rfl),(by exact(show(["_law_wait","_law_card","_law_other"]:List Str).Nodup from Qd)),fH Qc,4,jZ ?_,bY (pZ hu) ?_ ?_ (bO _),dS ?_,aA ?_ ?_,aV ?_ (pv 0) aL (λ _ _=>rfl),(by exact(show cW _ (fV K)from bK)),aA ?_ aI,aV ?_ (pv 0) aL (λ _ _=>rfl),(by exact(show cW _ (fV K)from bK)),dS ?_,aA (pv 1) ?_,aA (pv 2) aI,4,(pv 0),aT ?_ ?_,cG ?_ ?_ cF,bY eI ?_ ?_ (bO _),bG cU rfl T.b_len PySem.boot_len ?_,aA (pv 4) aI,bG cU rfl T.b_len PySem.boot_len ?_,aA ?_ aI,aV bK (pv 0) aL (λ _ _=>rfl),aY ?_,bI ?_,dS ?_,aA cQ ?_,aA (pv 1) aI,aY ?_,bI ?_,dS ?_,aA ?_ ?_,aV bK (pv 0) aL (λ _ _=>rfl),aA ?_ ?_,aV bK (pv 0) aL (λ _ _=>rfl),aA ?_ aI,fF lB rfl T.b_tuple eX ?_,aA (pv 4) aI)
 obtain⟨a,ba,ca,wa,cv,wv,rfl,ha,hba,hca,hcs,hwa,hws,ec,ew⟩:=Sd.view hs
 have ic:=SG.nc
 have iw:=SG.nw
 refine⟨_,rfl,_,rfl,by show 2<=sizeLine;decide,λ t ht=>?_⟩
 have e1:aG [] H (aD H t (.tup [.str x,.str y])):=aG.new ht _
 have h1:(aD H t (.tup [.str x,.str y])) t=some (.tup [.str x,.str y]):=aR
 generalize aD H t (.tup [.str x,.str y])=H1 at e1 h1⊢
 have gone:∀i:Nat,∀z:Str,[x,y][i]? =some z->(∀j z',j<i->[x,y][j]? =some z'->sd.cd? z'≠none)->sd.cd? z=none->dM sd x y= .tuple [.str "NoCard",.str z]:=λ i z hz pass hn=>by
  match i,hz with
  |0,hz=>
   have:x=z:=by simpa using hz
   subst this
   unfold dM
   rw[hn]
  | 1,hz=>
   have:y=z:=by simpa using hz
   subst this
   have:=pass 0 x Qc rfl
   unfold dM
   cases hx:sd.cd? x with
   |none=>exact absurd hx this
   |some c=>
    dsimp only
    rw[hn]
  |k+2,hz=>exact nomatch hz
 refine⟨t,rfl,⟨_,aM.of h1⟩,qZ (xs:=[x,y].map V.str) (λ i σ H2=>∃x3 x4:Option V,σ=[some (V.ref a),some (V.str x),some (V.str y),x3,x4]/\aG [] H1 H2/\∀j z',j<i->[x,y][j]? =some z'->sd.cd? z'≠none) ⟨_,_,rfl,aG.refl,λ j z h=>absurd h (Nat.not_lt_zero _)⟩ ?_ ?_ ?_⟩
 ·rintro i σ H2 hi ⟨x3,x4,rfl,e2,_⟩
  exact aM.of (e2.tup Qb h1)
 ·rintro i v σ H2 hv ⟨x3,x4,rfl,e2,pass⟩
  rw[List.getElem?_map]at hv
  obtain⟨nme,hnm,rfl⟩:=Option.map_eq_some_iff.mp hv
  have e02:=e1.trans e2
  refine⟨_,rfl,a,_,_,.ref ca,rfl,rfl,aM.of (e02.tup Qb ha),rfl,ca,rfl,⟨cv,aM.of (e02.tup Qb hca)⟩,kR (lN (ys:=cv)) (λ i xs H3=>aG [] H2 H3/\aJ [] H3 (((sd.cs.take i).filter λ c=>c.nm==nme).map Cd.d) xs) ⟨aG.refl,rfl⟩ (λ _ _ _ h=>aM.of (h.1.tup Qb (e02.tup Qb hca))) ?_ ?_⟩
  ·rintro i y2 xs H3 hy hi ⟨e,hxs⟩
   obtain⟨c,hc,hdy⟩:=hcs.nth hy
   have hdy2:=aE.ext (e02.trans e) hdy
   obtain⟨b,rfl,hb⟩:=Cd.view hdy2
   have tk:sd.cs.take (i+1)=sd.cs.take i++[c]:=by rw[List.take_add_one,hc];rfl
   refine⟨_,rfl,b,_,_,.str c.nm,rfl,rfl,aM.of hb,rfl,_,rfl,rfl,_,rfl,?_⟩
   have small:xs.length<1000:=by
    rw[hxs.length,List.length_map]
    have:=List.length_filter_le (λ c:Cd=>c.nm==nme) (sd.cs.take i)
    rw[List.length_take]at this
    omega
   refine bU (λ cc=>?_) (λ cc=>?_)
   ·have ck:c.nm=nme:=by simpa using cc
    refine⟨_,rfl,cM Qa,nx hi ⟨e,?_⟩⟩
    rw[tk,List.filter_append,List.map_append]
    refine aJ.append hxs ?_
    have:([c].filter λ c=>c.nm==nme)=[c]:=by simp[ck]
    rw[this]
    exact⟨_,_,rfl,hdy2,rfl⟩
   ·have ck:¬c.nm=nme:=by simpa using cc
    refine nx hi ⟨e,?_⟩
    rw[tk,List.filter_append,List.map_append]
    have:([c].filter λ c=>c.nm==nme)=[]:=by simp[ck]
    rw[this,List.map_nil,List.append_nil]
    exact hxs
  rintro xs H3 ⟨e3,hxs⟩ t3 ht3
  rw[show cv.length=sd.cs.length from Qa,List.take_length]at hxs
  have e4:aG [] H3 (aD H3 t3 (.lst xs)):=aG.new ht3 _
  have h4:(aD H3 t3 (.lst xs)) t3=some (.lst xs):=aR
  generalize aD H3 t3 (.lst xs)=H4 at e4 h4⊢
  refine⟨by show 0<=sizeLine;decide,λ t5 ht5=>?_⟩
  have e5:aG [] H4 (aD H4 t5 (.lst [])):=aG.new ht5 _
  have h5:(aD H4 t5 (.lst [])) t5=some (.lst []):=aR
  generalize aD H4 t5 (.lst [])=H5 at e5 h5⊢
  replace hxs:=aJ.ext (e4.trans e5) hxs
  replace h4:=e5.lst Qb h4
  have E25:=e3.trans (e4.trans e5)
  have shF:Sh 2 (.list ((sd.cs.filter λ c=>c.nm==nme).map Cd.d)):=Sh.lst λ d hd=>by
   obtain⟨c,hc,rfl⟩:=List.mem_map.mp hd
   exact Xo G SG (List.mem_filter.mp hc).1
  refine⟨.list ((sd.cs.filter λ c=>c.nm==nme).map Cd.d),.list [],⟨t3,xs,rfl,Qb,h4,hxs⟩,⟨t5,[],rfl,Qb,h5,rfl⟩,shF.shaped,rfl,_,rfl,?_⟩
  have fh:=rC (p:=λ c:Cd=>c.nm==nme) sd.cs
  replace fh:(sd.cs.filter λ c=>c.nm==nme)[0]? =sd.cd? nme:=fh
  cases hF:(sd.cs.filter λ c=>c.nm==nme)with
  |nil=>
   rw[hF]at fh
   have hn:sd.cd? nme=none:=fh.symm
   refine bU (λ _=>?_) (λ cc=>absurd rfl cc)
   exact⟨_,rfl,by show 2<=sizeLine;decide,λ t6 ht6=>q _ _ (e02.trans (E25.trans (aG.new ht6 _))) (by rw[gone i nme hnm pass hn];exact⟨t6,_,rfl,Qb,aR,_,_,rfl,rfl,_,_,rfl,rfl,rfl⟩)⟩
  | cons c r=>
   rw[hF]at fh
   have hc:sd.cd? nme=some c:=fh.symm
   refine bU (λ cc=>nomatch cc) (λ _=>?_)
   refine⟨_,_,rfl,e2.trans E25,λ j z' hj hz'=>?_⟩
   by_cases k:j=i
   ·subst k
    rw[hnm]at hz'
    rw[<-Option.some.inj hz',hc]
    exact λ z=>nomatch z
   ·exact pass j z' Qa hz'
 ·rintro σ H2 ⟨x3,x4,rfl,e2,pass⟩
  obtain⟨c,hc⟩:=Option.ne_none_iff_exists'.mp (pass 0 x (show 0<2 from Qc) rfl)
  obtain⟨o,ho⟩:=Option.ne_none_iff_exists'.mp (pass 1 y (show 1<2 from Qc) rfl)
  have e02:=e1.trans e2
  have hwa2:H2 wa=some (.tup wv):=e02.tup Qb hwa
  have hws2:=aJ.ext e02 hws
  refine⟨_,rfl,a,_,_,.ref wa,rfl,rfl,aM.of (e02.tup Qb ha),rfl,wa,rfl,⟨wv,aM.of hwa2⟩,kR (lN (ys:=wv)) (λ i xs H3=>aG [] H2 H3/\aJ [] H3 (((sd.ws.take i).filter λ t=>t.cd !=x||t.ot !=y).map Wt.d) xs) ⟨aG.refl,rfl⟩ (λ _ _ _ h=>aM.of (h.1.tup Qb hwa2)) ?_ ?_⟩
  ·rintro i z xs H3 hz hi ⟨e,hxs⟩
   obtain⟨t',ht',hdz⟩:=hws2.nth hz
   have hdz2:=aE.ext e hdz
   obtain⟨b,rfl,hb⟩:=Wt.view hdz2
   have tk:sd.ws.take (i+1)=sd.ws.take i++[t']:=by rw[List.take_add_one,ht'];rfl
   refine⟨_,rfl,b,_,_,.str t'.cd,rfl,rfl,aM.of hb,rfl,_,rfl,b,_,_,.str t'.ot,rfl,rfl,aM.of hb,rfl,by show 2<=sizeLine;decide,λ t1 ht1=>?_⟩
   have f1:aG [] H3 (aD H3 t1 (.tup [.str t'.cd,.str t'.ot])):=aG.new ht1 _
   have g1:(aD H3 t1 (.tup [.str t'.cd,.str t'.ot])) t1=some (.tup [.str t'.cd,.str t'.ot]):=aR
   generalize aD H3 t1 (.tup [.str t'.cd,.str t'.ot])=H4 at f1 g1⊢
   refine⟨_,rfl,_,rfl,by show 2<=sizeLine;decide,λ t2 ht2=>?_⟩
   have f2:aG [] H4 (aD H4 t2 (.tup [.str x,.str y])):=aG.new ht2 _
   have g2:(aD H4 t2 (.tup [.str x,.str y])) t2=some (.tup [.str x,.str y]):=aR
   generalize aD H4 t2 (.tup [.str x,.str y])=H5 at f2 g2⊢
   have f12:=f1.trans f2
   obtain⟨n1,n2,_,_⟩:=SG.w t' (List.mem_of_getElem? ht')
   obtain⟨c1,hc1,ec1⟩:=n1
   obtain⟨c2,hc2,ec2⟩:=n2
   have sh2:∀u v:Str,PySem.PyData.strOk u=true->PySem.PyData.strOk v=true->Sh 1 (.tuple [.str u,.str v]):=λ u v h1 h2=>Sh.tup λ d hd=>by
    simp only[List.mem_cons,List.not_mem_nil,or_false]at hd
    rcases hd with rfl|rfl
    ·exact⟨h1,Nat.le_refl _⟩
    ·exact⟨h2,Nat.le_refl _⟩
   have s1:=sh2 t'.cd t'.ot (by rw[<-ec1];exact(iG (SG.cn c1 hc1)).1) (by rw[<-ec2];exact(iG (SG.cn c2 hc2)).1)
   have s2:=sh2 x y xok yok
   refine⟨.tuple [.str t'.cd,.str t'.ot],.tuple [.str x,.str y],⟨t1,_,rfl,Qb,f2.tup Qb g1,_,_,rfl,rfl,_,_,rfl,rfl,rfl⟩,⟨t2,_,rfl,Qb,g2,_,_,rfl,rfl,_,_,rfl,rfl,rfl⟩,s1.shaped,s2.shaped,_,rfl,?_⟩
   have ev:(!PyData.eqv (.tuple [.str t'.cd,.str t'.ot]) (.tuple [.str x,.str y]))=(t'.cd !=x||t'.ot !=y):=by
    simp only[PyData.eqv,PyData.eqvAll,Bool.and_true]
    cases h1:t'.cd==x<;>cases h2:t'.ot==y<;>simp[bne,h1,h2]
   rw[ev]
   have small:xs.length<1000:=by
    rw[hxs.length,List.length_map]
    have:=List.length_filter_le (λ t:Wt=>t.cd !=x||t.ot !=y) (sd.ws.take i)
    rw[List.length_take]at this
    omega
   refine bU (λ cc=>?_) (λ cc=>?_)
   ·refine⟨_,rfl,cM Qa,nx hi ⟨e.trans f12,?_⟩⟩
    rw[tk,List.filter_append,List.map_append]
    refine aJ.append (aJ.ext f12 hxs) ?_
    have:([t'].filter λ t=>t.cd !=x||t.ot !=y)=[t']:=by rw[List.filter_cons,if_pos cc];rfl
    rw[this]
    exact⟨_,_,rfl,aE.ext f12 hdz2,rfl⟩
   ·refine nx hi ⟨e.trans f12,?_⟩
    rw[tk,List.filter_append,List.map_append]
    have:([t'].filter λ t=>t.cd !=x||t.ot !=y)=[]:=by rw[List.filter_cons,if_neg cc];rfl
    rw[this,List.map_nil,List.append_nil]
    exact aJ.ext f12 hxs
  rintro xs H3 ⟨e3,hxs⟩ t3 ht3
  rw[show wv.length=sd.ws.length from Qa,List.take_length]at hxs
  have e4:aG [] H3 (aD H3 t3 (.lst xs)):=aG.new ht3 _
  have h4:(aD H3 t3 (.lst xs)) t3=some (.lst xs):=aR
  generalize aD H3 t3 (.lst xs)=H4 at e4 h4⊢
  have E04:=e02.trans (e3.trans e4)
  have hxs4:=aJ.ext e4 hxs
  have hxl:xs.length=(Sd.less sd x y).length:=by rw[hxs.length,List.length_map];rfl
  refine⟨_,rfl,t3,xs,rfl,.inl (aN.of h4),_,rfl,a,_,_,.ref wa,rfl,rfl,aM.of (E04.tup Qb ha),rfl,wa,wv,rfl,.inr (aM.of (E04.tup Qb hwa)),rfl,_,rfl,?_⟩
  have el:dM sd x y=if(Sd.less sd x y).length=sd.ws.length then .tuple [.str "NoWait",.str x]else Sd.d {sd with ws:=Sd.less sd x y}:=by
   unfold dM
   rw[hc]
   dsimp only
   rw[ho]
  refine bU (λ cc=>?_) (λ cc=>?_)
  ·have ee:(Sd.less sd x y).length=sd.ws.length:=by
    have:=of_decide_eq_true cc
    injection this with this
    rw[hxl,ew]at this
    omega
   rw[if_pos ee]at el
   exact⟨_,rfl,by show 2<=sizeLine;decide,λ t6 ht6=>q _ _ (E04.trans (aG.new ht6 _)) (by rw[el];exact⟨t6,_,rfl,Qb,aR,_,_,rfl,rfl,_,_,rfl,rfl,rfl⟩)⟩
  ·have ee:¬(Sd.less sd x y).length=sd.ws.length:=λ z=>cc (decide_eq_true (by rw[hxl,ew,z]))
   rw[if_neg ee]at el
   refine⟨_,rfl,a,_,_,.ref ba,rfl,rfl,aM.of (E04.tup Qb ha),rfl,_,rfl,a,_,_,.ref ca,rfl,rfl,aM.of (E04.tup Qb ha),rfl,_,rfl,t3,xs,rfl,.inl ⟨aN.of h4,λ t5 ht5=>?_⟩⟩
   have e5:aG [] H4 (aD H4 t5 (.tup xs)):=aG.new ht5 _
   have h5:(aD H4 t5 (.tup xs)) t5=some (.tup xs):=aR
   generalize aD H4 t5 (.tup xs)=H5 at e5 h5⊢
   refine⟨by show 3<=sizeLine;decide,λ t6 ht6=>?_⟩
   have e6:aG [] H5 (aD H5 t6 (.tup [.ref ba,.ref ca,.ref t5])):=aG.new ht6 _
   have E6:=E04.trans (e5.trans e6)
   refine q _ _ E6 ?_
   rw[el]
   exact⟨t6,_,rfl,Qb,aR,.ref ba,_,rfl,⟨ba,_,rfl,Qb,E6.tup Qb hba,aJ.ints _⟩,.ref ca,_,rfl,⟨ca,_,rfl,Qb,E6.tup Qb hca,aJ.ext E6 hcs⟩,.ref t5,_,rfl,⟨t5,xs,rfl,Qb,e6.tup Qb h5,aJ.ext (e5.trans e6) hxs4⟩,rfl⟩
end
def Du(j:Nat):List Str:=match j with
 |0=>["card"]
 |4=>["card"]
 |_=>[]
def jS(j:Nat):Str:=match j with
 |0=>"NoCard"
 |_=>"NoWait"
structure xD(K:PySem.W.Frag)(Cs:List Addr):Prop where
 len:Cs.length=5
 kind:∀C∈Cs,mI K C=true
 kit:∀(i j:Nat) (C D:Addr),Cs[i]? =some C->Cs[j]? =some D->kitOne K (.ref C) (.ref D)=some (i==j)
 val:∀C∈Cs,kitOne K (.ref C) (.type "ValueError")=some true
 att:∀(i:Nat) (C:Addr) (f:Str),Cs[i]? =some C->f∈Du i->dO K C f=true
structure Fe(K:PySem.W.Frag)(mg:Str->Option Value)(Cs:List Addr):Prop where
 b_isinstance:mg "isinstance" =none
 b_ValueError:mg "ValueError" =none
 c_NoCard:∀h:0<Cs.length,∃u,mg "NoCard" =some u/\bA (.ref Cs[0]) u
 c_NoLane:∀h:1<Cs.length,∃u,mg "NoLane" =some u/\bA (.ref Cs[1]) u
 c_Past:∀h:2<Cs.length,∃u,mg "Past" =some u/\bA (.ref Cs[2]) u
 c_TooMany:∀h:3<Cs.length,∃u,mg "TooMany" =some u/\bA (.ref Cs[3]) u
 c_NoWait:∀h:4<Cs.length,∃u,mg "NoWait" =some u/\bA (.ref Cs[4]) u
def ib(j i:Nat):V:=.bl (j==i)
def jF(j:Nat):List V:=[ib j 0,ib j 1,ib j 2,ib j 3,ib j 4]
def yY:List V:=[.str "NoCard",.str "NoLane",.str "Past",.str "TooMany",.str "NoWait"]
theorem Gx:∀j:Nat,j=0\/j=4->gC yY (j:Int)=some (.str (jS j)):=λ j h=>by
 rcases h with rfl|rfl<;>rfl
theorem Db(j:Nat):(jF j).all eS=true:=rfl
theorem Tw:∀j,j=0\/j=4->(jF j).countP (λ x=>dZ x (.bl true))=1:=λ j h=>by
 rcases h with rfl|rfl<;>rfl
theorem Tv:∀j,j=0\/j=4->Dv (.bl true) (jF j) j:=λ j hj=>by
 have hx:(jF j)[j]? =some (.bl true):=by
  rcases hj with rfl|rfl<;>rfl
 refine⟨⟨_,hx,rfl⟩,λ m x hm hmx=>?_⟩
 have hm0:(jF j)[m]? =some (.bl (j==m)):=by
  have h:m=0\/m=1\/m=2\/m=3:=by omega
  rcases h with rfl|rfl|rfl|rfl<;>rfl
 rw[hm0]at hmx
 obtain rfl:=Option.some.inj hmx
 have hne:(j==m)=false:=by
  rw[beq_eq_false_iff_ne]
  omega
 rw[hne]
 rfl
def tK(Cs:List Addr):Sp:=λ vs H Q _=>∃(e:Addr) (j:Nat) (C d:Addr) (x:Str),vs=[.ref e]/\(j=0\/j=4)/\Cs[j]? =some C/\H e=some (cA e C (some d))/\H d=some (.xd [("card",.str x)])/\∀u H',aG [] H H'->aE [] H' (.tuple [.str (jS j),.str x]) u->Q u H'
section
variable{P:Program}{w:World}{K:PySem.W.Frag}{mg:Str->Option Value}{base:Heap}{Cs:List Addr}
abbrev uT:Stmt:=top 36
theorem sc__law_wait_refusal:bW ["_law_e","_law_some","_law_word"] ["_law_e"] (aW uT):=⟨rfl,rfl,rfl,Qd,rfl,Qd,Qd⟩
theorem Pb{f:Addr}{fd:FuncData}(F:bR K "_law_wait_refusal" "_law_wait_refusal" uT f fd)(T:Fe K mg Cs)(Xc:xD K Cs):pB P w K mg base bP 2 f fd ["_law_e"] (tK Cs):=by
 refine F.okH sc__law_wait_refusal (λ vs H Q E h=>?_) (λ cdv A outer s H vs Q E hr h=>?_)
 ·obtain⟨e,j,C,d,x,rfl,_⟩:=h
  rfl
 obtain⟨e,j,C,d,x,rfl,hj,hC,he,hd,q⟩:=h
 have hC10:=Xc.len
 have hmem:C∈Cs:=List.mem_of_getElem? hC
 have kC:=Xc.kind C hmem
 have kt:∀i (hi:i<5),kitOne K (.ref C) (.ref (Cs[i]' Qa))=some (j==i):=λ i hi=>Xc.kit j i C _ hC (List.getElem?_eq_getElem Qa)
 refine'⟨_,?hh,?rr⟩
 case hh=>(exists aT ?_ ?_,bH sc__law_wait_refusal.nd (aQ 1) (Or.inl rfl) ?_,gO ?_,aA ?_ ?_,bG mO rfl T.b_isinstance eM ?_,aA (pv 0) ?_,aA ?_ aI,kK (T.c_NoCard Qa),aA ?_ ?_,bG mO rfl T.b_isinstance eM ?_,aA (pv 0) ?_,aA ?_ aI,kK (T.c_NoLane Qa),aA ?_ aI,bG mO rfl T.b_isinstance eM ?_,aA (pv 0) ?_,aA ?_ aI,kK (T.c_Past Qa),aT ?_ ?_,bH sc__law_wait_refusal.nd (aQ 1) (Or.inl rfl) ?_,bJ Bj (pv 1) ?_,gO ?_,aA ?_ ?_,bG mO rfl T.b_isinstance eM ?_,aA (pv 0) ?_,aA ?_ aI,kK (T.c_TooMany Qa),aA ?_ aI,bG mO rfl T.b_isinstance eM ?_,aA (pv 0) ?_,aA ?_ aI,kK (T.c_NoWait Qa),aT ?_ ?_,cG ?_ ?_ cF,PW.pt ?_,lW ?_ ?_,bY kL ?_ aL (bO _),jB PySem.F.plainAttrs_list PySem.F.slot_list_count PySem.F.type_list_count Bq (pv 1) ?_,aA jC aI,lV ?_,iY ?_,iC ?_,bG mO rfl T.b_isinstance eM ?_,aA (pv 0) ?_,aA (gP (v:=.ty "ValueError") rfl T.b_ValueError AH rfl) aI,aY ?_,bI ?_,dS ?_,aA cQ aI,aT ?_ ?_,bH sc__law_wait_refusal.nd (aQ 2) (Or.inl rfl) ?_,aV ix_list ?_ ?_ (λ _ _=>rfl),gO ?_,aA cQ ?_,aA cQ ?_,aA cQ ?_,aA cQ ?_,aA cQ aI,jB PySem.F.plainAttrs_list PySem.F.slot_list_index PySem.F.type_list_index Rw (pv 1) ?_,aA jC aI,aT ?_ ?_,cG ?_ ?_ cF,bY eI (pv 2) cQ (bO _),aY ?_,bI ?_,dS ?_,aA (pv 2) aI,aT ?_ ?_,cG ?_ ?_ cF,bY eI (pv 2) cQ (bO _),aY ?_,bI ?_,dS ?_,aA (pv 2) ?_,aA ?_ aI,Bc (pv 0),aY ?_,bI ?_,dS ?_,aA (pv 2) ?_,aA ?_ aI,Bc (pv 0))
 refine⟨_,rfl,e,C,d,_,_,_,_,rfl,he,hd,kC,rfl,kt 0 Qc,_,rfl,e,C,d,_,_,_,_,rfl,he,hd,kC,rfl,kt 1 Qc,_,rfl,e,C,d,_,_,_,_,rfl,he,hd,kC,rfl,kt 2 Qc,by show 3<=sizeLine;decide,λ a0 ha0=>?_⟩
 have exB0:aG [] H (aD H a0 (.lst [.bl (j==0),.bl (j==1),.bl (j==2)])):=aG.new ha0 _
 have atB0:(aD H a0 (.lst [.bl (j==0),.bl (j==1),.bl (j==2)])) a0=some (.lst [.bl (j==0),.bl (j==1),.bl (j==2)]):=aR
 generalize aD H a0 (.lst [.bl (j==0),.bl (j==1),.bl (j==2)])=B0 at exB0 atB0⊢
 replace he:=exB0.old _ _ Qb he (by intro ps z;cases z)
 replace hd:=exB0.old _ _ Qb hd (by intro ps z;cases z)
 have ex:=exB0
 have atS:=atB0
 show eH _ _ _ [_,_,_] _
 refine⟨_,rfl,_,rfl,e,C,d,_,_,_,_,rfl,he,hd,kC,rfl,kt 3 Qc,_,rfl,e,C,d,_,_,_,_,rfl,he,hd,kC,rfl,kt 4 Qc,by show 2<=sizeLine;decide,λ a1 ha1=>?_⟩
 have exB1:aG [] B0 (aD B0 a1 (.lst [.bl (j==3),.bl (j==4)])):=aG.new ha1 _
 have atB1:(aD B0 a1 (.lst [.bl (j==3),.bl (j==4)])) a1=some (.lst [.bl (j==3),.bl (j==4)]):=aR
 generalize aD B0 a1 (.lst [.bl (j==3),.bl (j==4)])=B1 at exB1 atB1⊢
 replace he:=exB1.old _ _ Qb he (by intro ps z;cases z)
 replace hd:=exB1.old _ _ Qb hd (by intro ps z;cases z)
 replace ex:=ex.trans exB1
 replace atS:=exB1.lst Qb atS
 refine⟨a0,a1,[.bl (j==0),.bl (j==1),.bl (j==2)],[.bl (j==3),.bl (j==4)],rfl,rfl,atS,atB1,by show 5<=sizeLine;decide,λ p1 hp1=>?_⟩
 have exC1:aG [] B1 (aD B1 p1 (.lst ([.bl (j==0),.bl (j==1),.bl (j==2)]++[.bl (j==3),.bl (j==4)]))):=aG.new hp1 _
 have atC1:(aD B1 p1 (.lst ([.bl (j==0),.bl (j==1),.bl (j==2)]++[.bl (j==3),.bl (j==4)]))) p1=some (.lst ([.bl (j==0),.bl (j==1),.bl (j==2)]++[.bl (j==3),.bl (j==4)])):=aR
 generalize aD B1 p1 (.lst ([.bl (j==0),.bl (j==1),.bl (j==2)]++[.bl (j==3),.bl (j==4)]))=C1 at exC1 atC1⊢
 replace he:=exC1.old _ _ Qb he (by intro ps z;cases z)
 replace hd:=exC1.old _ _ Qb hd (by intro ps z;cases z)
 replace ex:=ex.trans exC1
 replace atS:=atC1
 replace atS:C1 p1=some (.lst (jF j)):=atS
 show eH _ _ _ [_,_,_] _
 refine⟨_,rfl,.inl ⟨rfl,_,aN.of atS⟩,p1,jF j,.bl true,rfl,rfl,aN.of atS,rfl,Db j,rfl,_,rfl,?_⟩
 rw[Tw j hj]
 refine cZ ?_
 refine⟨_,rfl,e,C,d,_,_,_,_,rfl,he,hd,kC,rfl,Xc.val C hmem,_,rfl,cZ ?_⟩
 show eH _ _ _ [_,_,_] _
 refine⟨by show 5<=sizeLine;decide,λ aw haw=>?_⟩
 have exW:aG [] C1 (aD C1 aw (.lst [.str "NoCard",.str "NoLane",.str "Past",.str "TooMany",.str "NoWait"])):=aG.new haw _
 have atW:(aD C1 aw (.lst [.str "NoCard",.str "NoLane",.str "Past",.str "TooMany",.str "NoWait"])) aw=some (.lst [.str "NoCard",.str "NoLane",.str "Past",.str "TooMany",.str "NoWait"]):=aR
 generalize aD C1 aw (.lst [.str "NoCard",.str "NoLane",.str "Past",.str "TooMany",.str "NoWait"])=W at exW atW⊢
 replace he:=exW.old _ _ Qb he (by intro ps z;cases z)
 replace hd:=exW.old _ _ Qb hd (by intro ps z;cases z)
 replace ex:=ex.trans exW
 replace atS:=exW.lst Qb atS
 refine⟨_,rfl,.inl ⟨rfl,_,aN.of atS⟩,p1,jF j,.bl true,j,rfl,rfl,(aN.of atS),rfl,Db j,Tv j hj,?_⟩
 refine⟨aw,yY,_,.str (jS j),rfl,rfl,aN.of atW,Gx j hj,?_⟩
 have hat:=λ f hf=>Xc.att j C f hC hf
 clear Xc kt hC hmem kC hC10 atS atW
 generalize W=HZ at ex he hd⊢
 show eH _ _ _ [_,_,_] _
 have fin:∀t,HZ t=none->Q (.ref t) (aD HZ t (.tup [.str (jS j),.str x])):=λ t ht=>q _ _ (ex.trans (aG.new ht _)) ⟨t,_,rfl,Qb,aR,_,_,rfl,rfl,_,_,rfl,rfl,rfl⟩
 rcases hj with rfl|rfl
 all_goals
  refine⟨_,rfl,rfl,_,rfl,bU (λ cc=>absurd cc Qd) (λ _=>?_)⟩
  show eH _ _ _ [_,_,_] _
  refine⟨_,rfl,rfl,_,rfl,bU (λ cc=>absurd cc Qd) (λ _=>?_)⟩
  exact⟨_,rfl,_,rfl,e,C,d,_,.str x,rfl,he,hd,hat "card" Qc,rfl,by show 2<=sizeLine;decide,λ t ht=>fin t ht⟩
structure Fg(K:PySem.W.Frag)(mg:Str->Option Value)(CE:Addr):Prop where
 d_LaneError:mg "LaneError" =some (.ref CE)
 x_LaneError:oN K CE=true
def tH(ts:List Addr):Sp:=λ vs H Q _=>∃(p:Pl) (s:Sd) (u:V) (x y:Str),vs=[u,.str x,.str y]/\aE [] H s.d u/\dP p/\SdG p s/\x.length<=1000/\y.length<=1000/\Tb ts H/\∀r H',aG [] H H'->aE [] H' (dM s x y) r->Q r H'
variable{ts:List Addr}{CC CW CE:Addr}
abbrev uU:Stmt:=top 37
theorem sc__law_told:bW ["_law_stand_here","_law_card","_law_other","_law_told_here","_law_e"] ["_law_stand_here","_law_card","_law_other"] (aW uU):=⟨rfl,rfl,rfl,Qd,rfl,Qd,Qd⟩
theorem Ox{f:Addr}{fd:FuncData}(F:bR K "_law_told" "_law_told" uU f fd)(T:Fg K mg CE)(Xm:∀C∈Cs,PySem.W.mroIn K C (.ref CE)=some true)(c0:Cs[0]? =some CC)(c4:Cs[4]? =some CW)(xU:dQ P w K mg base "without_waits" 5 ["stand","card","other"] (tR CC CW ts))(yC:sJ P w K mg base "_law_wait_refusal" 2 ["_law_e"] (tK Cs)):
  bE P w K mg base bP 6 f fd ["_law_stand_here","_law_card","_law_other"] (tH ts):=by
 refine F.ok sc__law_told (λ vs H Q E h=>?_) (λ cdv A outer s H vs Q E hr h=>?_)
 ·obtain⟨p,sd,u,x,y,rfl,_⟩:=h
  rfl
 obtain⟨p,sd,u,x,y,rfl,hs,G,SG,hx,hy,tb,q⟩:=h
 refine'⟨_,?hh,?rr⟩
 case hh=>(exists aT ?_ ?_,bH sc__law_told.nd (aQ 3) (Or.inl rfl) Ob,aT ?_ ?_,Nj ?_ ?_ sc__law_told.nd (aQ 4) T.d_LaneError T.x_LaneError,2,aY ?_,bH sc__law_told.nd (aQ 3) (Or.inl rfl) ?_,fY Gf xU hr ?_ rfl ?_,aA (pv 0) ?_,aA (pv 1) ?_,aA (pv 2) aI,Qc,1,aY ?_,bH sc__law_told.nd (aQ 3) (Or.inl rfl) ?_,Oe yC (bT.mark hr) ?_ rfl ?_,aA (pv 4) aI,Qc,aY ?_,bI (pv 3))
 have iw:=SG.nw
 have n0:sd.cd? x=none->dM sd x y= .tuple [.str (jS 0),.str x]:=λ hn=>by
  unfold dM
  rw[hn]
  rfl
 have n1:∀c,sd.cd? x=some c->sd.cd? y=none->dM sd x y= .tuple [.str (jS 0),.str y]:=λ c hc hn=>by
  unfold dM
  rw[hc]
  dsimp only
  rw[hn]
  rfl
 have n4:∀c o,sd.cd? x=some c->sd.cd? y=some o->(Sd.less sd x y).length=sd.ws.length->dM sd x y= .tuple [.str (jS 4),.str x]:=λ c o hc ho he=>by
  unfold dM
  rw[hc]
  dsimp only
  rw[ho]
  dsimp only
  rw[if_pos he]
  rfl
 refine⟨_,rfl,_,rfl,_,rfl,sd,u,x,y,rfl,hs,hx,hy,Qa,tb,λ hn ex dx H2 e2 he2 hdx2 e' C' h1 h2=>?_,λ c hc hn ex dx H2 e2 he2 hdx2 e' C' h1 h2=>?_,λ c o hc ho hne ex dx H2 e2 he2 hdx2 e' C' h1 h2=>?_,?_⟩
 ·cases h1
  obtain⟨rfl,_⟩:=wN (Option.some.inj (he2.symm.trans h2))
  refine⟨Xm _ (List.mem_of_getElem? c0),?_⟩
  refine⟨_,rfl,ex,0,_,dx,x,rfl,.inl rfl,c0,he2,hdx2,λ u H3 e3 fu=>?_⟩
  exact⟨_,rfl,q _ H3 (e2.trans e3) (by rw[n0 hn];exact fu)⟩
 ·cases h1
  obtain⟨rfl,_⟩:=wN (Option.some.inj (he2.symm.trans h2))
  refine⟨Xm _ (List.mem_of_getElem? c0),?_⟩
  refine⟨_,rfl,ex,0,_,dx,y,rfl,.inl rfl,c0,he2,hdx2,λ u H3 e3 fu=>?_⟩
  exact⟨_,rfl,q _ H3 (e2.trans e3) (by rw[n1 c hc hn];exact fu)⟩
 ·cases h1
  obtain⟨rfl,_⟩:=wN (Option.some.inj (he2.symm.trans h2))
  refine⟨Xm _ (List.mem_of_getElem? c4),?_⟩
  refine⟨_,rfl,ex,4,_,dx,x,rfl,.inr rfl,c4,he2,hdx2,λ u H3 e3 fu=>?_⟩
  exact⟨_,rfl,q _ H3 (e2.trans e3) (by rw[n4 c o hc ho hne];exact fu)⟩
 ·intro c o r H2 hc ho hne e2 hr2
  refine⟨_,rfl,q r H2 e2 ?_⟩
  unfold dM
  rw[hc]
  dsimp only
  rw[ho]
  dsimp only
  rw[if_neg hne]
  exact hr2
end
theorem Rk{p:Pl}{s:Sd}(G:dP p)(SG:SdG p s){c:Cd}(hc:c∈s.cs):nm c.kd=true:=by
 obtain⟨_,k',hk',_⟩:=SG.c c hc
 rw[<-(fO hk').2];exact(G.kn k' (fO hk').1).1
theorem wJ{x:Str}(h:PySem.PyData.strOk x=true):iJ (.str x):=.inl ⟨_,rfl,h⟩
theorem rB{x:Str}(h:nm x=true):iJ (.str x):=wJ (iG h).1
theorem wK(i:Int):iJ (.int i):=.inr (.inl ⟨_,rfl⟩)
theorem Vq(b:Bool):iJ (.bool b):=.inr (.inr ⟨_,rfl⟩)
theorem kO{d:PyData}(h:iJ d):∀n,eQ n d
 |0=>h
 |_+1=>.inl h
theorem kN{n:Nat}{ds:List PyData}(hl:ds.length<=100)(h:∀e∈ds,eQ n e):eQ (n+1) (.tuple ds):=.inr ⟨ds,.inl rfl,hl,h⟩
theorem Rc{c:Cd}(h1:nm c.nm=true)(h2:nm c.kd=true)(n:Nat):eQ (n+1) c.d:=kN (by show 4<=100;decide) λ d hd=>by
 simp only[List.mem_cons,List.not_mem_nil,or_false]at hd
 rcases hd with rfl|rfl|rfl|rfl
 ·exact kO (rB h1) n
 ·exact kO (rB h2) n
 ·exact kO (wK _) n
 ·exact kO (Vq _) n
theorem Bm{s:Sd}(hb:s.bs.length<=100)(hc:s.cs.length<=100)(hw:s.ws.length<=100)(h1:∀c∈s.cs,nm c.nm=true/\nm c.kd=true)(h2:∀w∈s.ws,nm w.cd=true/\nm w.ot=true):eQ 3 s.d:=kN (by show 3<=100;decide) λ d hd=>by
 simp only[List.mem_cons,List.not_mem_nil,or_false]at hd
 rcases hd with rfl|rfl|rfl
 ·exact kN (by rw[List.length_map];exact hb) λ e he=>by
   obtain⟨i,_,rfl⟩:=List.mem_map.mp he
   exact kO (wK _) _
 ·exact kN (by rw[List.length_map];exact hc) λ e he=>by
   obtain⟨c,hc,rfl⟩:=List.mem_map.mp he
   exact Rc (h1 c hc).1 (h1 c hc).2 0
 ·refine kN (by rw[List.length_map];exact hw) λ e he=>?_
  obtain⟨w,hw,rfl⟩:=List.mem_map.mp he
  refine kN (by show 3<=100;decide) λ d hd=>?_
  simp only[List.mem_cons,List.not_mem_nil,or_false]at hd
  rcases hd with rfl|rfl|rfl
  ·exact rB (h2 w hw).1
  ·exact wK _
  ·exact rB (h2 w hw).2
theorem lT{p:Pl}{s:Sd}(G:dP p)(SG:SdG p s):(∀c∈s.cs,nm c.nm=true/\nm c.kd=true)/\∀w∈s.ws,nm w.cd=true/\nm w.ot=true:=by
 refine⟨λ c hc=>⟨SG.cn c hc,Rk G SG hc⟩,λ w hw=>?_⟩
 obtain⟨⟨c,hc,e1⟩,⟨d,hd,e2⟩,_⟩:=SG.w w hw
 exact⟨e1▸SG.cn c hc,e2▸SG.cn d hd⟩
theorem Lk{p:Pl}{s:Sd}(G:dP p)(SG:SdG p s):eQ 3 s.d:=by
 have l6:=G.l6
 have nb:=SG.nb
 have nc:=SG.nc
 have nw:=SG.nw
 exact Bm Qa Qa Qa (lT G SG).1 (lT G SG).2
theorem vN:∀{n:Nat} {d:PyData},eQ n d->Sh n d
 |0,d,h=>wI h
 |n+1,d,h=>by
  rcases h with h|⟨ds,rfl|rfl,_,hd⟩
  ·exact(wI h).more (Nat.zero_le _)
  ·exact Sh.tup λ e he=>vN (hd e he)
  ·exact Sh.lst λ e he=>vN (hd e he)
theorem Ra{x y:Str}(hx:PySem.PyData.strOk x=true)(hy:PySem.PyData.strOk y=true):eQ 3 (.tuple [.str x,.str y]):=kN (by show 2<=100;decide) λ d hd=>by
 simp only[List.mem_cons,List.not_mem_nil,or_false]at hd
 rcases hd with rfl|rfl
 ·exact kO (wJ hx) _
 ·exact kO (wJ hy) _
theorem vT{s:Sd}{x y:Str}{w:Wt}(h:w∈Sd.less s x y):w∈s.ws:=(List.mem_filter.mp h).1
theorem Gi{p:Pl}{s:Sd}(G:dP p)(SG:SdG p s){ws:List Wt}(hl:ws.length<=100)(hm:∀w∈ws,w∈s.ws):eQ 3 (Sd.d {s with ws:=ws}):=by
 have l6:=G.l6
 have nb:=SG.nb
 have nc:=SG.nc
 exact Bm (show s.bs.length<=100 from Qa) (show s.cs.length<=100 from Qa) hl (lT G SG).1 λ w hw=>(lT G SG).2 w (hm w hw)
theorem Ca(s:Sd)(x y:Str):(∃k z,(k= "NoCard"\/k= "NoWait")/\(z=x\/z=y)/\dM s x y= .tuple [.str k,.str z])\/dM s x y=Sd.d {s with ws:=Sd.less s x y}:=by
 unfold dM
 cases s.cd? x with
 |none=>exact .inl ⟨_,_,.inl rfl,.inl rfl,rfl⟩
 | some c=>
  dsimp only
  cases s.cd? y with
  |none=>exact .inl ⟨_,_,.inl rfl,.inr rfl,rfl⟩
  |some o=>
   dsimp only
   by_cases h:(Sd.less s x y).length=s.ws.length
   ·rw[if_pos h];exact .inl ⟨_,_,.inr rfl,.inl rfl,rfl⟩
   ·rw[if_neg h];exact .inr rfl
theorem pH{l:List Wt}(h:l.Pairwise gD):l.Nodup:=h.imp fun{a b} z e=>by
 subst e
 exact List.lt_irrefl _ z
theorem Cb{a b:List Wt}(ha:a.Nodup)(hb:b.Nodup)(h:∀w∈a,w∈b):a.length<=b.length:=by
 classical
 have:a.Perm (b.filter λ w=>decide (w∈a)):=(List.perm_ext_iff_of_nodup ha (hb.sublist List.filter_sublist)).mpr λ w=>by
  rw[List.mem_filter,decide_eq_true_iff]
  exact⟨λ k=>⟨h w k,k⟩,λ k=>k.2⟩
 rw[this.length_eq]
 exact List.length_filter_le _ _
structure xH(K:PySem.W.Frag)(mg:Str->Option Value):Prop extends Txt K mg where
 b_str:mg "str" =none
def tJ(ts:List Addr):Sp:=λ vs H Q _=>∃(p:Pl) (s:Sd) (v u:V) (x y:Str),vs=[v,u,.str x,.str y]/\aE [] H p.d v/\aE [] H s.d u/\dP p/\Fj p s/\PySem.PyData.strOk x=true/\PySem.PyData.strOk y=true/\x.length<=1000/\y.length<=1000/\Tb ts H/\∀H',aG [] H H'->Q (.bl true) H'
section
variable{P:Program}{w:World}{K:PySem.W.Frag}{mg:Str->Option Value}{base:Heap}{ts:List Addr}
abbrev uW:Stmt:=top 38
theorem sc__law_right:bW ["_law_plan_here","_law_stand_here","_law_card","_law_other","_law_kept","_law_due","_law_found","_law_wait"] ["_law_plan_here","_law_stand_here","_law_card","_law_other"] (aW uW):=⟨rfl,rfl,rfl,Qd,rfl,Qd,Qd⟩
theorem Pa{f:Addr}{fd:FuncData}(F:bR K "_law_right" "_law_right" uW f fd)(T:xH K mg)(yI:bF P w K mg base "_law_let_due" 1 ["_law_stand_here","_law_card","_law_other"] tQ)(yD:bF P w K mg base "_law_told" 6 ["_law_stand_here","_law_card","_law_other"] (tH ts))(pC:bF P w K mg base "_law_same" 4 ["_law_found","_law_due"] (nM 4))(xV:bF P w K mg base "with_wait" 10 ["plan","stand","card","lane","other"] tG):bE P w K mg base bP 11 f fd ["_law_plan_here","_law_stand_here","_law_card","_law_other"] (tJ ts):=by
 refine F.ok sc__law_right (λ vs H Q E h=>?_) (λ cdv A outer s H vs Q E hr h=>?_)
 ·obtain⟨p,sd,v,u,x,y,rfl,_⟩:=h
  rfl
 obtain⟨p,sd,v,u,x,y,rfl,hp,hs,G,SU,xok,yok,hx,hy,tb,q⟩:=h
 have hu:=hr.units
 have SG:=SU.toSdG
 refine'⟨_,?hh,?rr⟩
 case hh=>(exists aT ?_ ?_,bH sc__law_right.nd (aQ 4) (Or.inl rfl) ?_,dS ?_,aA ?_ ?_,aV bK (pv 1) aL (λ _ _=>rfl),aA ?_ ?_,aV bK (pv 1) aL (λ _ _=>rfl),aA ?_ aI,fF lB rfl T.b_tuple eX ?_,aA ?_ aI,fF Xy rfl T.b_list rM ?_,aA ?_ aI,aV bK (pv 1) aL (λ _ _=>rfl),aT ?_ ?_,bH sc__law_right.nd (aQ 5) (Or.inl rfl) ?_,bD yI hr ?_ rfl ?_,aA (pv 1) ?_,aA (pv 2) ?_,aA (pv 3) aI,Qc,aT ?_ ?_,bH sc__law_right.nd (aQ 6) (Or.inl rfl) ?_,bD yD hr ?_ rfl ?_,aA (pv 1) ?_,aA (pv 2) ?_,aA (pv 3) aI,Qc,aT ?_ ?_,cG ?_ ?_ cF,PW.pt ?_,lW ?_ ?_,iY ?_,iC ?_,bD pC hr ?_ rfl ?_,aA (pv 6) ?_,aA (pv 5) aI,(by first|decide|exact Nat.le_refl _),lV ?_,bY (pZ hu) (pv 1) (pv 4) (bO _),aY ?_,bI jC,aT ?_ ?_,cG ?_ ?_ cF,iY ?_,iC ?_,bG iM rfl T.b_isinstance eM ?_,aA ?_ ?_,aV bK (pv 5) aL (λ _ _=>rfl),aA (gP (v:=.ty "str") rfl T.b_str AE rfl) aI,aT ?_ ?_,fW PassesOwn.never rfl ?_ ?_ ?_,gN ?_,aV bK (pv 1) aL (λ _ _=>rfl),bL sc__law_right.nd (aQ 7) (Or.inl rfl) (Or.inl rfl),aY ?_,bH sc__law_right.nd (aQ 6) (Or.inl rfl) ?_,bD xV hr ?_ rfl ?_,aA (pv 0) ?_,aA (pv 6) ?_,aA ?_ ?_,aV bK (pv 7) aL (λ _ _=>rfl),aA ?_ ?_,aV bK (pv 7) aL (λ _ _=>rfl),aA ?_ aI,aV bK (pv 7) aL (λ _ _=>rfl),Qc,aY ?_,bI ?_,iF (qD hu) (pv 6) (pv 1) (bO _),aY ?_,bI jC)
 obtain⟨a,ba,ca,wa,cv,wv,rfl,ha,hba,hca,hcs,hwa,hws,ec,ew⟩:=Sd.view hs
 refine⟨_,rfl,a,_,_,.ref ba,rfl,rfl,aM.of ha,rfl,_,rfl,a,_,_,.ref ca,rfl,rfl,aM.of ha,rfl,_,rfl,a,_,_,.ref wa,rfl,rfl,aM.of ha,rfl,wa,wv,rfl,.inr (aM.of hwa),λ l hl=>?_⟩
 have e1:aG [] H (aD H l (.lst wv)):=aG.new hl _
 have h1:(aD H l (.lst wv)) l=some (.lst wv):=aR
 generalize aD H l (.lst wv)=H1 at e1 h1⊢
 refine⟨l,wv,rfl,.inl ⟨aN.of h1,λ t ht=>?_⟩⟩
 have e2:aG [] H1 (aD H1 t (.tup wv)):=aG.new ht _
 have h2:(aD H1 t (.tup wv)) t=some (.tup wv):=aR
 generalize aD H1 t (.tup wv)=H2 at e2 h2⊢
 refine⟨by show 3<=sizeLine;decide,λ t3 ht3=>?_⟩
 have e3:aG [] H2 (aD H2 t3 (.tup [.ref ba,.ref ca,.ref t])):=aG.new ht3 _
 have h3:(aD H2 t3 (.tup [.ref ba,.ref ca,.ref t])) t3=some (.tup [.ref ba,.ref ca,.ref t]):=aR
 generalize aD H2 t3 (.tup [.ref ba,.ref ca,.ref t])=H3 at e3 h3⊢
 have E3:=e1.trans (e2.trans e3)
 have fk:aE [] H3 sd.d (.ref t3):=⟨t3,_,rfl,Qb,h3,.ref ba,_,rfl,⟨ba,_,rfl,Qb,E3.tup Qb hba,aJ.ints _⟩,.ref ca,_,rfl,⟨ca,_,rfl,Qb,E3.tup Qb hca,aJ.ext E3 hcs⟩,.ref t,_,rfl,⟨t,wv,rfl,Qb,e3.tup Qb h2,aJ.ext E3 hws⟩,rfl⟩
 have shS:Sh 3 sd.d:=vN (Lk G SG)
 show eH _ _ _ [_,_,_,_,_,_,_,_] _
 refine⟨_,rfl,_,rfl,_,rfl,p,sd,_,x,y,rfl,aE.ext E3 hs,G,SG,xok,yok,λ r1 H4 e4 fr1=>?_⟩
 have E4:=E3.trans e4
 show eH _ _ _ [_,_,_,_,_,_,_,_] _
 refine⟨_,rfl,_,rfl,_,rfl,p,sd,_,x,y,rfl,aE.ext E4 hs,G,SG,hx,hy,E4.tb tb Qb,λ r2 H5 e5 fr2=>?_⟩
 have E5:=E4.trans e5
 have ok3:eQ 3 (dM sd x y):=by
  rcases Ca sd x y with⟨k,z,hk,hz,e⟩|e
  ·rw[e]
   exact Ra (by rcases hk with rfl|rfl<;>decide+kernel) (by rcases hz with rfl|rfl<;>assumption)
  ·rw[e]
   have:=List.length_filter_le (λ t:Wt=>t.cd !=x||t.ot !=y) sd.ws
   have nw:=SG.nw
   exact Gi G SG (show(Sd.less sd x y).length<=100 by unfold Sd.less;omega) λ w hw=>vT hw
 show eH _ _ _ [_,_,_,_,_,_,_,_] _
 refine⟨_,rfl,_,rfl,_,_,_,rfl,fr2,aE.ext e5 fr1,ok3,λ H6 e6=>?_⟩
 have E6:=E5.trans e6
 refine⟨_,rfl,cZ ?_⟩
 refine⟨_,rfl,_,rfl,sd.d,sd.d,aE.ext E6 hs,aE.ext (e4.trans (e5.trans e6)) fk,shS.shaped,shS.shaped,_,rfl,?_⟩
 rw[shS.refl]
 refine cZ ?_
 show eH _ _ _ [_,_,_,_,_,_,_,_] _
 have fd1:=aE.ext (e5.trans e6) fr1
 have fd2:=aE.ext e6 fr2
 rcases Ca sd x y with⟨k,z,hk,hz,el⟩|el
 ·rw[el]at fd1
  obtain⟨b,ys,rfl,_,hb,y1,_,rfl,g1,y2,_,rfl,_,rfl⟩:=fd1
  have g1:aE [] H6 (.str k) y1:=g1
  refine⟨_,rfl,b,_,_,y1,rfl,rfl,aM.of hb,rfl,_,_,_,_,rfl,g1.ty,Cm _,_,rfl,cZ ?_⟩
  exact q _ E6
 ·rw [el]at fd1 fd2
  obtain⟨b,ys,rfl,_,hb,y1,_,rfl,g1,y2,_,rfl,_,y3,_,rfl,_,rfl⟩:=fd1
  have g1:aE [] H6 (.tuple (sd.bs.map .int)) y1:=g1
  refine⟨_,rfl,b,_,_,y1,rfl,rfl,aM.of hb,rfl,_,_,_,_,rfl,g1.ty,Cm _,_,rfl,mK ?_⟩
  have hwa6:H6 wa=some (.tup wv):=E6.tup Qb hwa
  have hws6:=aJ.ext E6 hws
  have hp6:=aE.ext E6 hp
  refine⟨_,rfl,a,_,_,.ref wa,rfl,rfl,aM.of (E6.tup Qb ha),rfl,wa,rfl,⟨wv,aM.of hwa6⟩,qZ (xs:=wv) (λ i σ H7=>∃(ws:List Wt) (r:V) (x7:Option V),σ=[some v,some (V.ref a),some (V.str x),some (V.str y),some (V.ref t3),some (V.ref b),some r,x7]/\aG [] H6 H7/\ws.Pairwise gD/\(∀w,w∈ws↔w∈Sd.less sd x y\/w∈sd.ws.take i)/\aE [] H7 (Sd.d {sd with ws:=ws}) r) ⟨_,_,_,rfl,aG.refl,SU.rise.filter _,λ w=>by simp[Sd.less],fd2⟩ ?_ ?_ ?_⟩
  ·rintro i σ H7 hi ⟨ws,r,x7,rfl,e7,_⟩
   exact aM.of (e7.tup Qb hwa6)
  ·rintro i vw σ H7 hv ⟨ws,r,x7,rfl,e7,rise,mem,fr⟩
   obtain⟨tw,htw,hdz⟩:=hws6.nth hv
   have htm:tw∈sd.ws:=List.mem_of_getElem? htw
   obtain⟨bw,rfl,hbw⟩:=Wt.view (aE.ext e7 hdz)
   obtain⟨n1,n2,l0,l1⟩:=SG.w tw htm
   obtain⟨c,hc⟩:=Option.isSome_iff_exists.mp (rK n1)
   obtain⟨o,ho⟩:=Option.isSome_iff_exists.mp (rK n2)
   have sub:∀w∈ws,w∈sd.ws:=λ w hw=>by
    rcases(mem w).mp hw with h|h
    ·exact vT h
    ·exact List.mem_of_mem_take h
   have nw:=SG.nw
   have len:=Cb (pH rise) (pH SU.rise) sub
   have hh:(decide (p.lane c<tw.ln)||decide (p.lane o=p.n))=true:=by
    have:=SU.hold tw htm
    unfold Sd.hold at this
    rw[hc]at this
    dsimp only at this
    unfold Sd.out at this
    rw[ho]at this
    exact this
   have room:tw∈ws\/ws.length<60:=by
    by_cases hin:tw∈ws
    ·exact .inl hin
    ·refine .inr ?_
     have:=Cb (List.nodup_cons.mpr ⟨hin,pH rise⟩) (pH SU.rise) (λ w hw=>by
      rcases List.mem_cons.mp hw with rfl|h
      ·exact htm
      ·exact sub w h)
     rw[List.length_cons]at this
     omega
   have SO:mU p {sd with ws:=ws}:=⟨SG.ok.nb,SG.ok.nc,SG.ok.c,show ws.length<=900 from Qa,λ w hw=>SG.ok.w w (sub w hw)⟩
   obtain⟨c1,hc1,ec1⟩:=n1
   obtain⟨c2,hc2,ec2⟩:=n2
   have tk:sd.ws.take (i+1)=sd.ws.take i++[tw]:=by rw[List.take_add_one,htw];rfl
   refine⟨_,rfl,_,rfl,_,rfl,bw,_,_,.str tw.cd,rfl,rfl,aM.of hbw,rfl,_,rfl,bw,_,_,.int tw.ln,rfl,rfl,aM.of hbw,rfl,_,rfl,bw,_,_,.str tw.ot,rfl,rfl,aM.of hbw,rfl,p,{sd with ws:=ws},_,_,tw.cd,tw.ot,tw.ln,c,o,rfl,aE.ext e7 hp6,fr,by rw[<-ec1];exact fZ (SG.cn c1 hc1),by rw[<-ec2];exact fZ (SG.cn c2 hc2),G.ok,SO,hc,ho,l0,l1,hh,show ws.length<=60 from Qa,rise,room,λ ws' r' H8 e8 rise' mem' fr'=>?_⟩
   refine⟨ws',r',_,rfl,e7.trans e8,rise',λ w=>?_,fr'⟩
   rw[mem' w]
   show w∈ws\/w=tw↔_
   rw[mem w,tk,List.mem_append,List.mem_singleton,or_assoc]
  ·rintro σ H7 ⟨ws,r,x7,rfl,e7,rise,mem,fr⟩
   have all:ws=sd.ws:=Gh rise SU.rise λ w=>by
    rw[mem w,show wv.length=sd.ws.length from Qa,List.take_length]
    exact⟨λ h=>h.elim vT id,.inr⟩
   rw[all]at fr
   refine⟨_,rfl,_,rfl,sd.d,sd.d,fr,aE.ext (E6.trans e7) hs,shS.shaped,shS.shaped,?_⟩
   rw[shS.refl]
   exact q H7 (E6.trans e7)
end
theorem Vv{H H':Hp}{p:Addr}{o:HO}(h:H p=none)(e:aG [p] (aD H p o) H'):aG [] H H':=by
 refine⟨λ b u _ q n=>?_,λ b ps _ q=>?_⟩
 ·have hb:=fN q h
  exact e.old b u (by simpa using hb) (by rw[aU hb];exact q) n
 ·have hb:=fN q h
  exact e.tab b ps (by simpa using hb) (by rw[aU hb];exact q)
theorem Ft:PySem.PyData.strOk ("zzzzzzzz" :Str)=true/\Str.length ("zzzzzzzz" :Str)<=1000:=by decide+kernel
def pR(ts:List Addr)(K:PySem.W.Frag):Sp:=λ vs H Q _=>∃(a:Addr) (ns:List Int),vs=[.ref a]/\aN K H a (ns.map V.int)/\ns.length<=63/\Tb ts H/\∀H',Q (.bl true) H'
section
variable{P:Program}{w:World}{K:PySem.W.Frag}{mg:Str->Option Value}{base:Heap}{ts:List Addr}
abbrev nP:Stmt:=top 39
theorem sc_law:bW ["_law_script","_law_k","_law_held","_law_plan_here","_law_stand_here","_law_names","_law_turn","_law_card","_law_other","_law_lane_here"] ["_law_script"] (aW nP):=⟨rfl,rfl,rfl,Qd,rfl,Qd,Qd⟩
theorem Pn{f:Addr}{fd:FuncData}(F:bR K "law" "law" nP f fd)(T:xH K mg)(yK:bF P w K mg base "_law_digits" 1 ["_law_script","_law_k"] (uA K))(bS:bF P w K mg base "_law_take" 1 ["_law_held","_law_many"] jV)(yH:bF P w K mg base "_law_plan" 3 ["_law_held"] tL)
  (iQ:bF P w K mg base "_law_words" 2 ["_law_held","_law_many"] nL) (yE:bF P w K mg base "_law_stand" 4 ["_law_held","_law_plan_here","_law_most"] tU) (yG:bF P w K mg base "_law_right" 11 ["_law_plan_here","_law_stand_here","_law_card","_law_other"] (tJ ts)):bE P w K mg base bP 12 f fd ["_law_script"] (pR ts K):=by
 refine F.ok sc_law (λ vs H Q E h=>?_) (λ cdv A outer s H vs Q E hr h=>?_)
 ·obtain⟨a,ns,rfl,_⟩:=h
  rfl
 obtain⟨a,ns,rfl,hS,h63,tb,q⟩:=h
 have hu:=hr.units
 refine'⟨_,?hh,?rr⟩
 case hh=>(exists aT ?_ ?_,fW PassesOwn.never rfl ?_ ?_ ?_,jA rfl T.b_range ?_,aA ?_ aI,bJ dY ?_ aL,bG (Xx rfl) rfl T.b_min AI ?_,aA aL ?_,aA ?_ aI,bG cU rfl T.b_len PySem.boot_len ?_,aA (pv 0) aI,bL sc_law.nd (aQ 1) (Or.inl rfl) (Or.inl rfl),aT ?_ ?_,bH sc_law.nd (aQ 2) (Or.inl rfl) ?_,bD yK hr ?_ rfl ?_,aA (pv 0) ?_,aA (pv 1) aI,Qc,aT ?_ ?_,bH sc_law.nd (aQ 3) (Or.inl rfl) ?_,bD yH hr ?_ rfl ?_,aA (pv 2) aI,Qc,aT ?_ ?_,bH sc_law.nd (aQ 4) (Or.inl rfl) ?_,bD yE hr ?_ rfl ?_,aA (pv 2) ?_,aA (pv 3) ?_,aA ?_ aI,aV cB ?_ ?_ (λ _ _=>rfl),iE ?_,aA aL ?_,aA aL ?_,aA aL aI,bD bS hr ?_ rfl ?_,aA (pv 2) ?_,aA aL aI,Qc,Qc,aT ?_ ?_,bH sc_law.nd (aQ 5) (Or.inl rfl) ?_,bJ vM ?_ ?_,bJ vM ?_ ?_,bJ On ?_ aL,kJ rfl ?_ (eU ["_law_one"] 1 []) ?_ ?_ ?_ ?_ ?_ ?_ ?_,(by exact⟨rfl,Qd,Qd,(show∀y:Str×NameKind,y∈_->y.2=NameKind.free->(aW nP).names.lookup y.1=some .cell\/(aW nP).names.lookup y.1=some .free from Qd)⟩),Qd,Qc,gN ?_,aV cB (pv 4) aL (λ _ _=>rfl),4,bL ?_ (aQ 0) (Or.inl rfl) (Or.inr rfl),(by exact(show(["_law_one"]:List Str).Nodup from Qd)),fH Qc,4,kA,4,aV cB (pv 0) aL (λ _ _=>rfl),bD iQ hr ?_ rfl ?_,aA (pv 2) ?_,aA aL aI,Qc,iE ?_,aA cQ aI,aY ?_,fW PassesOwn.never rfl ?_ ?_ ?_,jA rfl T.b_range ?_,aA aL aI,bL sc_law.nd (aQ 6) (Or.inl rfl) (Or.inl rfl),aT ?_ ?_,bH sc_law.nd (aQ 7) (Or.inl rfl) ?_,aV cB (pv 5) ?_ (λ _ _=>rfl),bD bS hr ?_ rfl ?_,aA (pv 2) ?_,aA ?_ aI,bG jH rfl T.b_len PySem.boot_len ?_,aA (pv 5) aI,Qc,aT ?_ ?_,bH sc_law.nd (aQ 8) (Or.inl rfl) ?_,aV cB (pv 5) ?_ (λ _ _=>rfl),bD bS hr ?_ rfl ?_,aA (pv 2) ?_,aA ?_ aI,bG jH rfl T.b_len PySem.boot_len ?_,aA (pv 5) aI,Qc,aT ?_ ?_,cG ?_ ?_ cF,PW.pt ?_,Nf ?_ ?_,bY eI ?_ aL (bO _),bD bS hr ?_ rfl ?_,aA (pv 2) ?_,aA aL aI,Qc,Nd ?_,bY (pZ hu) ?_ ?_ (bO _),aV cB (pv 4) aL (λ _ _=>rfl),iD aI,aY ?_,lY ?_ ?_,aV cB ?_ ?_ (λ _ _=>rfl),aV cB (pv 4) aL (λ _ _=>rfl),bD bS hr ?_ rfl ?_,aA (pv 2) ?_,aA ?_ aI,bG jH rfl T.b_len PySem.boot_len ?_,aA ?_ aI,aV cB (pv 4) aL (λ _ _=>rfl),Qc,mB rfl ?_,dL ?_ ?_,bL sc_law.nd (aQ 7) (Or.inl rfl) (Or.inl rfl),dL ?_ ?_,bL sc_law.nd (aQ 9) (Or.inl rfl) (Or.inl rfl),dL ?_ lZ,bL sc_law.nd (aQ 8) (Or.inl rfl) (Or.inl rfl),aY ?_,cG ?_ ?_ cF,iY ?_,iC ?_,bD yG hr ?_ rfl ?_,aA (pv 3) ?_,aA (pv 4) ?_,aA (pv 7) ?_,aA (pv 8) aI,Qc,aY ?_,bI jC,aY ?_,bI jC)
 have hl:(ns.map V.int).length=ns.length:=List.length_map _
 refine⟨_,rfl,a,_,rfl,.inl hS,_,_,rfl,_,_,rfl,rfl,?_⟩
 have j0:1<=(if(((ns.map V.int).length:Nat):Int)<8 then(((ns.map V.int).length:Nat):Int)else 8)+1:=by
  split<;>omega
 have j1:(if(((ns.map V.int).length:Nat):Int)<8 then(((ns.map V.int).length:Nat):Int)else 8)+1<=9:=by
  split<;>omega
 refine⟨_,rfl,Int.le_trans Qc j0,Int.lt_of_le_of_lt j1 Qc,kX (λ i σ H2=>∃(x1 x2 x3 x4 x5 x6 x7 x8 x9:Option V),σ=[some (V.ref a),x1,x2,x3,x4,x5,x6,x7,x8,x9]/\aG [] H H2) ⟨_,_,_,_,_,_,_,_,_,rfl,aG.refl⟩ ?_ ?_⟩
 ·rintro i σ H2 hi ⟨x1,x2,x3,x4,x5,x6,x7,x8,x9,rfl,e⟩
  have hi2:i<9:=Nat.lt_of_lt_of_le hi (Int.toNat_le.mpr j1)
  refine⟨_,rfl,_,rfl,a,ns,_,rfl,e.sql Qb hS,h63,Qa,Qa,λ pp n hp=>?_⟩
  have tb2:=e.tb tb Qb
  obtain⟨z,ez⟩:∃z:Zn,z=⟨[pp],pp,ts⟩:=⟨_,rfl⟩
  have zp:z.p=pp:=by rw[ez]
  have zt:z.ts=ts:=by rw[ez]
  have c:Cz z (aD H2 pp (.lst [.int n])):=by
   rw[ez]
   exact⟨Qb,λ b hb=>⟨[.int n],by rw[List.mem_singleton.mp hb];exact aR⟩,⟨n,aR⟩,(aG.new (ex:=[]) hp (.lst [.int n])).tb tb2 Qb⟩
  have fin:∀H9,aX z (aD H2 pp (.lst [.int n])) H9->aG [] H H9:=λ H9 s9=>by
   rw[ez]at s9
   exact e.trans (Vv hp s9.ext)
  rw[<-zp]
  rw[<-zp]at c fin
  generalize aD H2 z.p (.lst [.int n])=H3 at c fin⊢
  refine⟨_,rfl,z,rfl,c,λ p v H4 G s4 fp=>?_⟩
  show eH _ _ _ [_,_,_,_,_,_,_,_,_,_] _
  refine⟨_,rfl,_,rfl,z,[.int 5,.int 9,.int 30],⟨_,_,rfl,rfl,_,_,rfl,rfl,_,_,rfl,rfl,rfl⟩,(by show 3<=1000;decide),s4.cz,λ v5 H5 s5 f5=>?_⟩
  refine⟨_,rfl,z,3,rfl,s5.cz,Qc,Qc,λ t6 H6 t60 t61 s6=>?_⟩
  obtain⟨mm,hmm,m0,m1⟩:∃mm:Int,([.int 5,.int 9,.int 30]:List PyData)[t6.toNat]? =some (.int mm)/\0<=mm/\mm<=30:=by
   rcases(show t6=0\/t6=1\/t6=2 from Qa)with rfl|rfl|rfl
   ·exact⟨5,rfl,Qc,Qc⟩
   ·exact⟨9,rfl,Qc,Qc⟩
   ·exact⟨30,rfl,Qc,Qc⟩
  refine⟨z,_,_,_,.inr (f5.stp s6),rfl,t60,hmm,λ vm hvm=>?_⟩
  obtain rfl:vm= .int mm:=hvm
  have s46:=s4.trans (s5.trans s6)
  refine⟨z,p,v,mm,rfl,s6.cz,fp.stp (s5.trans s6),G,m0,m1,λ sd u H14 SU s7 fu=>?_⟩
  have SG:=SU.toSdG
  replace fp:=fp.stp (s5.trans (s6.trans s7))
  have b7:=s46.trans s7
  clear s4 s5 s6 f5 s46 c
  show eH _ _ _ [_,_,_,_,_,_,_,_,_,_] _
  have c14:=s7.cz
  refine⟨_,rfl,z,_,_,_,.inl fu,rfl,Qc,rfl,λ cw gc=>?_⟩
  obtain⟨ca,cv,rfl,nca,hca,hcs⟩:=gc
  have ec:cv.length=sd.cs.length:=by rw[hcs.length,List.length_map]
  have ic:=SG.nc
  refine⟨ca,rfl,⟨cv,aM.of hca⟩,mG (lN (ys:=cv)) (λ i xs H2=>aG [] H14 H2/\xs=(((sd.cs.take i).map (·.nm)).map V.str)) ⟨aG.refl,rfl⟩ (λ _ _ _ h=>aM.of (h.1.tup Qb hca)) ?_ ?_⟩
  ·rintro i y xs H2 hy hi ⟨e,rfl⟩
   obtain⟨c,hc,hdy⟩:=hcs.nth hy
   have tk:sd.cs.take (i+1)=sd.cs.take i++[c]:=by rw[List.take_add_one,hc];rfl
   refine⟨_,rfl,⟨[],z.p,[]⟩,_,_,.str c.nm,.inl (aE.ext e (aE.less Qb hdy)),rfl,Qc,rfl,λ vn hvn=>?_⟩
   obtain rfl:vn= .str c.nm:=hvn
   refine⟨?_,nx hi ⟨e,?_⟩⟩
   ·rw[List.length_map,List.length_map,List.length_take]
    exact cM Qa
   ·rw[tk,List.map_append,List.map_append]
    rfl
  rintro xs H15 ⟨e15,rfl⟩ th hth
  rw[ec,List.take_length]
  have e16:aG [] H15 (aD H15 th (.lst ((sd.cs.map (·.nm)).map V.str))):=aG.new hth _
  have h16:(aD H15 th (.lst ((sd.cs.map (·.nm)).map V.str))) th=some (.lst ((sd.cs.map (·.nm)).map V.str)):=aR
  generalize aD H15 th (.lst ((sd.cs.map (·.nm)).map V.str))=H16 at e16 h16⊢
  have s16:aX z H14 H16:=aX.of c14 (e15.trans e16)
  have n16:th∉z.ex:=(c14.ext e15).free hth
  refine⟨th,4,(sd.cs.map (·.nm)).map V.str,rfl,rfl,h16,Qc,Qc,?_,λ tp htp=>?_⟩
  ·rw[List.length_map,List.length_map]
   refine Nat.le_trans ?_ gM
   show sd.cs.length*4<=1000
   omega
  obtain⟨n4,en4⟩:∃n4:List Str,n4=(List.replicate 4 (sd.cs.map (·.nm))).flatten:=⟨_,rfl⟩
  have efl:(List.replicate (4:Int).toNat ((sd.cs.map (·.nm)).map V.str)).flatten=n4.map V.str:=by
   rw[en4,List.map_flatten,List.map_replicate]
   rfl
  rw[efl]
  have l4:n4.length<=120:=by
   rw[en4,Cc,List.length_map]
   omega
  have m4:∀x∈n4,∃c∈sd.cs,c.nm=x:=λ x hx=>by
   rw[en4]at hx
   obtain⟨l,hl,hx⟩:=List.mem_flatten.mp hx
   rw[(List.mem_replicate.mp hl).2]at hx
   exact List.mem_map.mp hx
  clear efl en4
  have e17:aG [] H16 (aD H16 tp (.lst (n4.map V.str))):=aG.new htp _
  have h17:(aD H16 tp (.lst (n4.map V.str))) tp=some (.lst (n4.map V.str)):=aR
  have n17:tp∉z.ex:=s16.cz.free htp
  generalize aD H16 tp (.lst (n4.map V.str))=H17 at e17 h17⊢
  have s17:aX z H14 H17:=s16.trans (aX.of s16.cz e17)
  have f17:aE z.ex H17 (.list (n4.map .str)) (.ref tp):=⟨tp,_,rfl,n17,h17,aJ.strs _⟩
  refine⟨_,rfl,z,2,rfl,Qc,Qc,s17.cz,λ ns2 v18 H18 hn2 hnd2 hm2 s18 f18=>?_⟩
  refine⟨z,_,_,f17.stp s18,f18,?_,s18.cz,λ v19 H19 s19 f19=>?_⟩
  ·rw[List.length_map,List.length_map]
   omega
  refine⟨z,[.str "zzzzzzzz"],⟨_,_,rfl,rfl,rfl⟩,(by show 1<=1000;decide),s19.cz,λ v20 H20 s20 f20=>?_⟩
  refine⟨z,_,_,f19.stp s20,f20,?_,s20.cz,λ v21 H21 s21 f21=>?_⟩
  ·rw[List.length_append,List.length_map,List.length_map]
   show n4.length+ns2.length+1<=1000
   omega
  have b21:=s17.trans (s18.trans (s19.trans (s20.trans s21)))
  obtain⟨nl,enl⟩:∃nl:List Str,nl=n4++ns2++[("zzzzzzzz" :Str)]:=⟨_,rfl⟩
  replace f21:aE z.ex H21 (.list (nl.map .str)) v21:=by rw[enl,List.map_append,List.map_append];exact f21
  have hnl:∀x∈nl,PySem.PyData.strOk x=true/\x.length<=1000:=λ x hx=>by
   rw[enl]at hx
   rcases List.mem_append.mp hx with hx|hx
   ·rcases List.mem_append.mp hx with hx|hx
    ·obtain⟨c,hc,rfl⟩:=m4 x hx
     exact⟨(iG (SG.cn c hc)).1,fZ (SG.cn c hc)⟩
    ·exact⟨(iG (hm2 x hx)).1,fZ (hm2 x hx)⟩
   ·rw[List.mem_singleton.mp hx]
    exact Ft
  have hlen:0<nl.length/\nl.length<=200:=by
   rw[enl,List.length_append,List.length_append]
   show 0<n4.length+ns2.length+1/\n4.length+ns2.length+1<=200
   omega
  have ln:(((nl.map PyData.str).length:Nat):Int)=nl.length:=by rw[List.length_map]
  have pick:∀t:Int,0<=t->t<(((nl.map PyData.str).length:Nat):Int)->∃x,(nl.map PyData.str)[t.toNat]? =some (.str x)/\PySem.PyData.strOk x=true/\x.length<=1000:=λ t t0 t1=>by
   have hlt:t.toNat<nl.length:=by omega
   exact⟨nl[t.toNat],by rw[List.getElem?_map,List.getElem?_eq_getElem hlt];rfl,hnl _ (List.getElem_mem hlt)⟩
  replace fp:=fp.stp b21
  replace fu:=fu.stp b21
  have b7':=b7.trans b21
  clear f17 f18 f19 f20 s16 s17 s18 s19 s20 s21 b21 b7 e15 e16 e17 h16 h17 hcs hca enl m4
  have c21:=b7'.cz
  have ew:sd.ws.length<=60:=SG.nw
  refine⟨_,rfl,Qc,Qc,kX (λ i σ H5=>∃y1 y6 y7 y8 y9:Option V,σ=[some (V.ref a),y1,some (V.ref z.p),some v,some u,some v21,y6,y7,y8,y9]/\aX z H21 H5) ⟨_,_,_,_,_,rfl,aX.refl c21⟩ ?_ ?_⟩
  ·rintro i σ H22 hi ⟨y1,y6,y7,y8,y9,rfl,s22⟩
   refine⟨_,rfl,_,rfl,_,rfl,z,_,_,rfl,.inr (f21.stp s22),?_⟩
   refine⟨z,_,rfl,s22.cz,Qa,Qa,λ t1 H23 t10 t11 s23=>?_⟩
   obtain⟨x,hx,X1,X3⟩:=pick t1 t10 t11
   refine⟨z,_,_,_,.inr (f21.stp (s22.trans s23)),rfl,t10,hx,λ vx hvx=>?_⟩
   obtain rfl:vx= .str x:=hvx
   show eH _ _ _ [_,_,_,_,_,_,_,_,_,_] _
   have s223:=s22.trans s23
   refine⟨_,rfl,_,rfl,_,rfl,z,_,_,rfl,.inr (f21.stp s223),?_⟩
   refine⟨z,_,rfl,s223.cz,Qa,Qa,λ t2 H24 t20 t21 s24=>?_⟩
   obtain⟨y,hy,X2,X4⟩:=pick t2 t20 t21
   refine⟨z,_,_,_,.inr (f21.stp (s223.trans s24)),rfl,t20,hy,λ vy hvy=>?_⟩
   obtain rfl:vy= .str y:=hvy
   show eH _ _ _ [_,_,_,_,_,_,_,_,_,_] _
   have s224:=s223.trans s24
   refine⟨_,rfl,z,2,rfl,s224.cz,Qc,Qc,λ t3 H25 t30 t31 s25=>?_⟩
   have s225:=s224.trans s25
   refine⟨rfl,_,rfl,bU (λ cc=>?_) (λ cc=>cZ ?_)⟩
   ·refine⟨_,rfl,z,_,_,.tuple (sd.ws.map Wt.d),.inl (fu.stp s225),rfl,Qc,rfl,λ w1 g1=>?_⟩
    refine⟨z,[],rfl,(by show 0<=1000;decide),s225.cz,λ v26 H26 s26 f26=>?_⟩
    have s226:=s225.trans s26
    have shW:Sh 2 (.tuple (sd.ws.map Wt.d)):=Sh.tup λ d hd=>by
     obtain⟨w,hw,rfl⟩:=List.mem_map.mp hd
     obtain⟨h1,h2⟩:=(lT G SG).2 w hw
     refine Sh.tup λ d hd=>?_
     simp only[List.mem_cons,List.not_mem_nil,or_false]at hd
     rcases hd with rfl|rfl|rfl
     ·exact lS h1
     ·exact pV _
     ·exact lS h2
    refine⟨_,_,aE.less Qb (g1.stp s26),aE.less Qb f26,shW.shaped,rfl,_,rfl,bU (λ cc2=>?_) (λ cc2=>?_)⟩
    ·have hws:0<sd.ws.length:=by
      cases hw:sd.ws with
      |nil=>rw[hw]at cc2;exact absurd cc2 Qc
      |cons b l=>rw[List.length_cons];omega
     refine⟨_,rfl,z,_,_,.tuple (sd.ws.map Wt.d),.inl (fu.stp s226),rfl,Qc,rfl,λ w2 g2=>?_⟩
     refine⟨_,rfl,_,rfl,z,_,_,.tuple (sd.ws.map Wt.d),.inl (fu.stp s226),rfl,Qc,rfl,λ w3 g3=>?_⟩
     refine⟨z,_,_,rfl,.inl g3,?_⟩
     have lw:(((sd.ws.map Wt.d).length:Nat):Int)=sd.ws.length:=by rw[List.length_map]
     refine⟨z,_,rfl,s226.cz,Qa,Qa,λ t4 H27 t40 t41 s27=>?_⟩
     have hlt:t4.toNat<sd.ws.length:=by omega
     refine⟨z,_,_,_,.inl (g2.stp s27),rfl,t40,by rw[List.getElem?_map,List.getElem?_eq_getElem hlt];rfl,λ vw hvw=>?_⟩
     have s227:=s226.trans s27
     obtain⟨bw,rfl,hbw⟩:=Wt.view (ex:=[]) (aE.less Qb hvw)
     obtain⟨h1,h2⟩:=(lT G SG).2 _ (List.getElem_mem hlt)
     generalize sd.ws[t4.toNat]=tw at hbw h1 h2⊢
     replace X1:=(iG h1).1
     replace X2:=(iG h2).1
     replace X3:=fZ h1
     replace X4:=fZ h2
     refine⟨bw,_,rfl,aM.of hbw,rfl,_,_,rfl,_,_,rfl,_,_,rfl,rfl,?_⟩
     refine⟨_,rfl,_,rfl,_,rfl,_,rfl,p,sd,_,_,tw.cd,tw.ot,rfl,aE.less Qb (fp.stp (s227)),aE.less Qb (fu.stp (s227)),G,SU,X1,X2,X3,X4,zt▸(s227).cz.tb,λ H9 e9=>?_⟩
     refine⟨_,rfl,cZ ?_⟩
     exact⟨_,_,_,_,_,rfl,s227.trans (aX.of s227.cz e9)⟩
    ·refine⟨_,rfl,_,rfl,_,rfl,_,rfl,p,sd,_,_,x,y,rfl,aE.less Qb (fp.stp (s226)),aE.less Qb (fu.stp (s226)),G,SU,X1,X2,X3,X4,zt▸(s226).cz.tb,λ H9 e9=>?_⟩
     refine⟨_,rfl,cZ ?_⟩
     exact⟨_,_,_,_,_,rfl,s226.trans (aX.of s226.cz e9)⟩
   ·refine⟨_,rfl,_,rfl,_,rfl,_,rfl,p,sd,_,_,x,y,rfl,aE.less Qb (fp.stp (s225)),aE.less Qb (fu.stp (s225)),G,SU,X1,X2,X3,X4,zt▸(s225).cz.tb,λ H9 e9=>?_⟩
    refine⟨_,rfl,cZ ?_⟩
    exact⟨_,_,_,_,_,rfl,s225.trans (aX.of s225.cz e9)⟩
  ·rintro σ H5 ⟨y1,y6,y7,y8,y9,rfl,s5⟩
   exact⟨_,_,_,_,_,_,_,_,_,rfl,fin H5 (b7'.trans s5)⟩
 ·rintro σ H2 ⟨x1,x2,x3,x4,x5,x6,x7,x8,x9,rfl,e⟩
  exact q H2
end
end K14
namespace L2
open PySem PySem.Spec PyProof.Rows PySem.W
structure mZ(K:Frag)(mg:Str->Option Value)(base h:Heap):Prop where
 X:K.In h
 G:h.Ns mainGlobals mg
 B:iR mg base
@[elab_as_elim] theorem Hf{motive:List Value->Prop}{us:List Value}(h:us.length=1)(k:∀a0,motive [a0]):motive us:=by
 match us,h with
 |[a0],_=>exact k _
@[elab_as_elim] theorem zM{motive:List Value->Prop}{us:List Value}(h:us.length=2)(k:∀a0 a1,motive [a0,a1]):motive us:=by
 match us,h with
 |[a0,a1],_=>exact k _ _
@[elab_as_elim] theorem He{motive:List Value->Prop}{us:List Value}(h:us.length=3)(k:∀a0 a1 a2,motive [a0,a1,a2]):motive us:=by
 match us,h with
 |[a0,a1,a2],_=>exact k _ _ _
@[elab_as_elim] theorem Hd{motive:List Value->Prop}{us:List Value}(h:us.length=4)(k:∀a0 a1 a2 a3,motive [a0,a1,a2,a3]):motive us:=by
 match us,h with
 |[a0,a1,a2,a3],_=>exact k _ _ _ _
@[elab_as_elim] theorem Hc{motive:List Value->Prop}{us:List Value}(h:us.length=5)(k:∀a0 a1 a2 a3 a4,motive [a0,a1,a2,a3,a4]):motive us:=by
 match us,h with
 |[a0,a1,a2,a3,a4],_=>exact k _ _ _ _ _
def Df(K:Frag)(x:Str)(st:Stmt)(f:Addr)(fd:FuncData):Prop:=nsIn K mainGlobals x=some (some (.ref f))/\bR K x x st f fd
section
variable{P:Program}{w:World}{K:Frag}{mg:Str->Option Value}{base h:Heap}{x:Str}{st:Stmt}{f:Addr}{fd:FuncData}{k:Nat}{ps:List Str}{sp:Sp}
theorem Df.ok(d:Df K x st f fd)(Z:mZ K mg base h)(F:bE P w K mg base bP k f fd ps sp)(b:∀(kV doc pm:Value) (an:Option Addr) (cdv ct:Value) (us:List Value),us.length=ps.length->bindArgs (PySem.W.fnOf x x (eT st) (dG st) (aW st) .none kV doc pm an cdv ct) ⟨us,[]⟩=pure (ps.zip us)):bF P w K mg base x k ps sp:=
 ⟨f,fd,F,PySem.W.mg_of Z.X Z.G d.1,d.2.kp,d.2.binds b⟩
theorem Df.okX(d:Df K x st f fd)(Z:mZ K mg base h)(F:bE P w K mg base (fD P w) k f fd ps sp)(b:∀(kV doc pm:Value) (an:Option Addr) (cdv ct:Value) (us:List Value),us.length=ps.length->bindArgs (PySem.W.fnOf x x (eT st) (dG st) (aW st) .none kV doc pm an cdv ct) ⟨us,[]⟩=pure (ps.zip us)):dQ P w K mg base x k ps sp:=
 ⟨f,fd,F,PySem.W.mg_of Z.X Z.G d.1,d.2.kp,d.2.binds b⟩
theorem Df.okH(d:Df K x st f fd)(Z:mZ K mg base h)(F:pB P w K mg base bP k f fd ps sp)(b:∀(kV doc pm:Value) (an:Option Addr) (cdv ct:Value) (us:List Value),us.length=ps.length->bindArgs (PySem.W.fnOf x x (eT st) (dG st) (aW st) .none kV doc pm an cdv ct) ⟨us,[]⟩=pure (ps.zip us)):sJ P w K mg base x k ps sp:=
 ⟨f,fd,F,PySem.W.mg_of Z.X Z.G d.1,d.2.kp,d.2.binds b⟩
end
def qJ(K:Frag)(x:Str):Bool:=match nsIn K mainGlobals x with
 |some none=>true
 |_=>false
theorem Rg{K:Frag}{x:Str}(h:qJ K x=true):nsIn K mainGlobals x=some none:=by
 unfold qJ at h
 split at h
 ·rename_i e;exact e
 ·exact nomatch h
theorem Rj{K:Frag}{mg:Str->Option Value}{base h:Heap}{bs:List Str}(Z:mZ K mg base h)(hb:bs.all (qJ K)=true):∀x∈bs,mg x=none:=λ x hx=>PySem.W.mg_none_of Z.X Z.G (Rg (List.all_eq_true.mp hb x hx))
structure jP(P:Program)(K:Frag)(n q:Str)(st:Stmt)(fs:List Str)(C f cc cda:Addr):Prop where
 g:nsIn K mainGlobals n=some (some (.ref C))
 i:PySem.W.findIn K (.ref C) "__init__" =some (some (.ref f))
 fn:∃(oc:Value) (od:Option Addr) (kV doc pm:Value) (an:Option Addr) (ct:Value) (osl:Array (Option Value)),K.lookup f=some ⟨oc,od,.func (ksFn "__init__" q (eT st) (dG st) (aW st) .none kV doc pm an (.ref cda) ct cc),osl⟩
 code:PySem.W.codeIn K (.ref cda) q=true
 file:∃(ccl:Value) (cdd:Option Addr) (vs:Array Value) (ccs:Array (Option Value)) (x:Str) (tf:Tok),K.lookup cda=some ⟨ccl,cdd,.fields vs,ccs⟩/\(vs[2]?:Option Value)=some (.str x tf)/\((P.main.file:Str)==x)=true
 cell:∃(cl:Value) (cld:Option Addr) (csl:Array (Option Value)),K.lookup cc=some ⟨cl,cld,.cell (some (.ref C)),csl⟩
 isf:PySem.W.isFn K (.ref f)=true
 kp:PySem.W.keepIn K (.ref C)=true
 mkx:oM K C=true
 all:oO K C=true
 at':fs.all (λ x=>dO K C x)=true
 rs:fU K C=true
theorem Vw{P:Program}{K:Frag}{n q:Str}{st:Stmt}{fs:List Str}{C f cc cda:Addr}{oc kV doc pm ct ccl cl:Value}{od an cdd cld:Option Addr}{osl ccs csl:Array (Option Value)}{vs:Array Value}{x:Str}{tf:Tok}(g:nsIn K mainGlobals n=some (some (.ref C)))(i:PySem.W.findIn K (.ref C) "__init__" =some (some (.ref f)))
  (lf:K.lookup f=some ⟨oc,od,.func (ksFn "__init__" q (eT st) (dG st) (aW st) .none kV doc pm an (.ref cda) ct cc),osl⟩) (co:PySem.W.codeIn K (.ref cda) q=true) (lk:K.lookup cda=some ⟨ccl,cdd,.fields vs,ccs⟩) (hv:(vs[2]?:Option Value)=some (.str x tf)) (hf:((P.main.file:Str)==x)=true) (le:K.lookup cc=some ⟨cl,cld,.cell (some (.ref C)),csl⟩)
  (fn:PySem.W.isFn K (.ref f)=true) (kp:PySem.W.keepIn K (.ref C)=true) (mk:oM K C=true) (al:oO K C=true) (at':fs.all (λ x=>dO K C x)=true) (rs:fU K C=true):jP P K n q st fs C f cc cda:=
 ⟨g,i,⟨_,_,_,_,_,_,_,_,lf⟩,co,⟨_,_,_,_,_,_,lk,hv,hf⟩,⟨_,_,_,le⟩,fn,kp,mk,al,at',rs⟩
theorem jP.at{P:Program}{K:Frag}{n q:Str}{st:Stmt}{fs:List Str}{C f cc cda:Addr}(e:jP P K n q st fs C f cc cda)(x:Str)(h:x∈fs):dO K C x=true:=List.all_eq_true.mp e.at' x h
theorem jP.ok{P:Program}{w:World}{K:Frag}{mg:Str->Option Value}{base h:Heap}{n q:Str}{st:Stmt}{fs:List Str}{C f cc cda:Addr}(e:jP P K n q st fs C f cc cda)(Z:mZ K mg base h)(sup:mg "super" =none)(top:(P.main.scope.names.lookup ("super" :Str)).isSome=false)
  (F:∀fd,rW P K mg q st C f cc cda fd->bE P w K mg base bP 2 f fd ("self" ::fs) (gK C fs)) (b:∀(kV doc pm:Value) (an:Option Addr) (ct:Value) (us:List Value),us.length=fs.length+1->bindArgs (ksFn "__init__" q (eT st) (dG st) (aW st) .none kV doc pm an (.ref cda) ct cc) ⟨us,[]⟩=pure ((("self" :Str)::fs).zip us)):
  oY P w K mg base n C 2 ("self" ::fs) (gK C fs):=by
 obtain⟨oc,od,kV,doc,pm,an,ct,osl,lk⟩:=e.fn
 exact⟨f,_,⟨e.mkx,e.i,e.isf,e.kp⟩,F _ ⟨⟨oc,od,kV,doc,pm,an,ct,osl,rfl,lk⟩,e.code,e.file,e.cell,sup,top,e.all⟩,PySem.W.mg_of Z.X Z.G e.g,.all λ us hl=>b kV doc pm an ct us hl⟩
end L2
namespace K14
open PySem L2 PyProof.Rows
abbrev gR:List Str:=["without_waits"]
abbrev ixs:List Nat:=[0,1,2,3,4]
theorem wB{i:Nat}(h:i<5):i∈ixs:=by
 have:i=0\/i=1\/i=2\/i=3\/i=4:=by omega
 rcases this with rfl|rfl|rfl|rfl|rfl<;>decide
def vW(K:PySem.W.Frag)(Cs:List Addr)(i j:Nat):Bool:=match Cs[i]?,Cs[j]? with
 |some C,some D=>PySem.W.kitOne K (.ref C) (.ref D)==some (i==j)
 |_,_=>true
def wY(K:PySem.W.Frag)(Cs:List Addr)(i:Nat):Bool:=match Cs[i]? with
 |some C=>(Du i).all λ f=>dO K C f
 |none=>true
theorem Gg{K:PySem.W.Frag}{Cs:List Addr}(len:Cs.length=5)(h1:Cs.all (λ C=>mI K C&&PySem.W.kitOne K (.ref C) (.type "ValueError")==some true)=true)(h2:ixs.all (λ i=>ixs.all λ j=>vW K Cs i j)=true)(h3:ixs.all (λ i=>wY K Cs i)=true):xD K Cs:=by
 have lt {i:Nat} {C:Addr} (h:Cs[i]? =some C):i<5:=len▸(List.getElem?_eq_some_iff.mp h).1
 have g (C:Addr) (hC:C∈Cs):=List.all_eq_true.mp h1 C hC
 refine⟨len,λ C hC=>?_,λ i j C D hi hj=>?_,λ C hC=>?_,λ i C f hi hf=>?_⟩
 ·have:=g C hC
  rw[Bool.and_eq_true]at this
  exact this.1
 ·have h:=List.all_eq_true.mp (List.all_eq_true.mp h2 i (wB (lt hi))) j (wB (lt hj))
  unfold vW at h
  rw[hi,hj]at h
  exact eq_of_beq h
 ·have:=g C hC
  rw[Bool.and_eq_true]at this
  exact eq_of_beq this.2
 ·have h:=List.all_eq_true.mp h3 i (wB (lt hi))
  unfold wY at h
  rw[hi]at h
  exact List.all_eq_true.mp h f hf
theorem AU{l:PySem.W.OpenLaw}{w:World}{K:PySem.W.Frag}{h:Heap}{mg:Str->Option Value}{fa:Addr}(X:K.In h)(G:h.Ns mainGlobals mg)(hfa:mg "law" =some (.ref fa))
  {t0:Tok} {t1:Tok}
  {f0 f1 f2 f3 f4 f5 f6 f7 f8 f10 f11 f12 f13 f14 f15 f16 f17 f18 f19 f20 f21 f22 f23 f24 f25:Addr} {g0 g1 g2 g3 g4 g5 g6 g7 g8 g10 g11 g12 g13 g14 g15 g16 g17 g18 g19 g20 g21 g22 g23 g24 g25:FuncData}
  (d0:Df K "kind_of" uP f0 g0)
  (d1:Df K "way_of" uL f1 g1)
  (d2:Df K "lane_at" uO f2 g2)
  (d3:Df K "card_of" uS f3 g3)
  (d4:Df K "lane_of" uN f4 g4)
  (d5:Df K "is_out" uQ f5 g5)
  (d6:Df K "may_wait_at" uM f6 g6)
  (d7:Df K "holds" uR f7 g7)
  (d8:Df K "with_wait" uK f8 g8)
  {f9:Addr} {od9 an9:Option Addr} {sl9:Array (Option Value)} {oc9 kV9 dc9 pm9 ct9:Value} {cx9 tp9:Addr} {cc9:Value} {cdd9:Option Addr} {vs9:Array Value} {csl9:Array (Option Value)} (a9:PySem.W.nsIn K mainGlobals "without_waits" =some (some (.ref f9))) (l9:K.lookup f9=some ⟨oc9,od9,.func (PySem.W.fnOf "without_waits" "without_waits" (eT fT) (dG fT) (aW fT) .none kV9 dc9 pm9 an9 (.ref cx9) ct9),sl9⟩) (c9:PySem.W.codeIn K (.ref cx9) "without_waits" =true) (k9:PySem.W.keepIn K (.ref f9)=true) (lc9:K.lookup cx9=some ⟨cc9,cdd9,.fields vs9,csl9⟩) (h119:(vs9[11]?:Option Value)=some (.ref tp9)) (tI9:PySem.W.tabIn K "without_waits" =some (cx9,tp9)) (hd9:PySem.W.codeHdIn K cx9 tp9=true)
  (d10:Df K "_law_take" uV f10 g10)
  (d11:Df K "_law_digits" uY f11 g11)
  (d12:Df K "_law_words" iA f12 g12)
  (d13:Df K "_law_bound" uZ f13 g13)
  (d14:Df K "_law_plan" jX f14 g14)
  (d15:Df K "_law_kind" nS f15 g15)
  (d16:Df K "_law_lane" uX f16 g16)
  (d17:Df K "_law_room" nR f17 g17)
  (d18:Df K "_law_bars" nV f18 g18)
  (d19:Df K "_law_stand" nQ f19 g19)
  (d20:Df K "_law_same" lU f20 g20)
  (d21:Df K "_law_let_due" jY f21 g21)
  (d22:Df K "_law_wait_refusal" uT f22 g22)
  (d23:Df K "_law_told" uU f23 g23)
  (d24:Df K "_law_right" uW f24 g24)
  (d25:Df K "law" nP f25 g25)
  {CE CL CP CM CC CK CW:Addr}
  (qE:PySem.W.nsIn K mainGlobals "LaneError" =some (some (.ref CE)))
  (qL:PySem.W.nsIn K mainGlobals "NoLane" =some (some (.ref CL)))
  (qP:PySem.W.nsIn K mainGlobals "Past" =some (some (.ref CP)))
  (qM:PySem.W.nsIn K mainGlobals "TooMany" =some (some (.ref CM)))
  {fiC ccC caC fiK ccK caK fiW ccW caW:Addr}
  (eC:jP l.prog K "NoCard" "NoCard.__init__" Ao ["card"] CC fiC ccC caC)
  (eK:jP l.prog K "NoKind" "NoKind.__init__" An ["kind"] CK fiK ccK caK)
  (eW:jP l.prog K "NoWait" "NoWait.__init__" Am ["card"] CW fiW ccW caW)
  (topS:(l.prog.main.scope.names.lookup ("super" :Str)).isSome=false)
  (xE:oN K CE=true)
  (xk:[CC,CL,CP,CM,CW].all (λ C=>mI K C&&PySem.W.kitOne K (.ref C) (.type "ValueError")==some true)=true)
  (xi:ixs.all (λ i=>ixs.all λ j=>vW K [CC,CL,CP,CM,CW] i j)=true)
  (xa:ixs.all (λ i=>wY K [CC,CL,CP,CM,CW] i)=true)
  (xmm:[CC,CL,CP,CM,CW].all (λ C=>PySem.W.mroIn K C (.ref CE)==some true)=true)
  (zz:(["len","range","sorted","set","zip","tuple","list","isinstance","ValueError","int","bool","all","min","super","str"]:List Str).all (qJ K)=true)
  (gl0:PySem.W.nsIn K mainGlobals "YARD" =some (some (.int (-1) t0)))
  (gl1:PySem.W.nsIn K mainGlobals "MOST_WAITS" =some (some (.int 60 t1)))
  :
  ∃fd:FuncData,(∀(s:Shared) (v:Value),BindsTo s fd ⟨[v],[]⟩ [("_law_script",v)])/\∀base:Heap,K.In base->base.Ns mainGlobals mg->iR mg base->bE l.prog w K mg base bP 12 fa fd ["_law_script"] (pR (jU K gR) K):=by
 have e:=hfa.symm.trans (PySem.W.mg_of X G d25.1)
 cases e
 have F9:jO K "without_waits" "without_waits" fT f9 _ cx9:=⟨⟨_,_,_,_,_,_,_,_,rfl,l9,c9⟩,k9⟩
 have et:jU K gR=[tp9]:=by
  unfold jU gR
  simp only[List.filterMap_cons,List.filterMap_nil,tI9,Option.map]
 rw[et]
 refine⟨g25,λ s v=>?_,λ base kb nb hbm=>?_⟩
 ·obtain⟨_,_,_,_,_,_,_,_,_,e,_,_⟩:=d25.2.ex
  rw[e]
  exact .of_eq rfl
 have Z:mZ K mg base h:=⟨X,G,hbm⟩
 have zn:=Rj Z zz
 let ts:List Addr:=[tp9]
 have hte:∀t∈ts,t∉([]:List Addr):=λ _ _ h=>nomatch h
 have T:Txt K mg:=by constructor<;>exact zn _ Qb
 have TS:xH K mg:=⟨T,zn _ Qb⟩
 have TP:rR K mg:=⟨zn _ Qb,⟨_,PySem.W.mg_of X G gl0,⟨_,rfl⟩⟩⟩
 have TW:Fd K mg:=⟨zn _ Qb,zn _ Qb,zn _ Qb,⟨_,PySem.W.mg_of X G gl1,⟨_,rfl⟩⟩⟩
 have TQ:Ff K mg:=⟨zn _ Qb,zn _ Qb⟩
 have TC:Fe K mg [CC,CL,CP,CM,CW]:=⟨zn _ Qb,zn _ Qb,λ _=>⟨_,PySem.W.mg_of X G eC.g,rfl⟩,λ _=>⟨_,PySem.W.mg_of X G qL,rfl⟩,λ _=>⟨_,PySem.W.mg_of X G qP,rfl⟩,λ _=>⟨_,PySem.W.mg_of X G qM,rfl⟩,λ _=>⟨_,PySem.W.mg_of X G eW.g,rfl⟩⟩
 have TL:Fg K mg CE:=⟨PySem.W.mg_of X G qE,xE⟩
 have Xc:xD K [CC,CL,CP,CM,CW]:=Gg rfl xk xi xa
 have xm:∀C∈[CC,CL,CP,CM,CW],PySem.W.mroIn K C (.ref CE)=some true:=λ C hC=>eq_of_beq (List.all_eq_true.mp xmm C hC)
 have xQ:=eC.ok Z (w:=w) (zn _ Qb) topS (λ _ F=>Pw F (eC.at _ Qb)) Qi
 have xP:=eK.ok Z (w:=w) (zn _ Qb) topS (λ _ F=>Pu F (eK.at _ Qb)) Qi
 have xO:=eW.ok Z (w:=w) (zn _ Qb) topS (λ _ F=>Pt F (eW.at _ Qb)) Qi
 have xZ:dQ l.prog w K mg base "kind_of" 4 ["plan","kind"] (tY CK):=d0.okX Z (Pr d0.2 xP eK.rs) Qg
 have xW:dQ l.prog w K mg base "way_of" 5 ["plan","kind"] (tF CK):=d1.okX Z (Ow d1.2  xZ) Qg
 have xY:bF l.prog w K mg base "lane_at" 6 ["plan","kind","place"] tT:=d2.ok Z (Pq d2.2 TP xW) Qh
 have gH:dQ l.prog w K mg base "card_of" 4 ["stand","card"] (nO CC):=d3.okX Z (Pz d3.2 xQ eC.rs) Qg
 have nA:dQ l.prog w K mg base "lane_of" 7 ["plan","stand","card"] (pS CC):=d4.okX Z (Pp d4.2  gH xY) Qh
 have yA:dQ l.prog w K mg base "is_out" 8 ["plan","stand","card"] (tN CC):=d5.okX Z (Ps d5.2 TP nA) Qh
 have xX:bF l.prog w K mg base "may_wait_at" 1 ["plan","lane"] tO:=d6.ok Z (Pc d6.2 TP) Qg
 have yB:bF l.prog w K mg base "holds" 9 ["plan","stand","wait"] tZ:=d7.ok Z (Px d7.2  nA yA) Qh
 have xV:bF l.prog w K mg base "with_wait" 10 ["plan","stand","card","lane","other"] tG:=d8.ok Z (Ov d8.2 TW gH xX yB) Ql
 have xU:dQ l.prog w K mg base "without_waits" 5 ["stand","card","other"] (tR CC CW ts):=⟨f9,_,Ot F9 TQ (PySem.W.codeHd_of_K kb hd9) hbm (show tp9∈ts by simp[ts])  hte xO eW.rs gH,PySem.W.mg_of X G a9,k9,F9.fn.binds Qh⟩
 have bS:bF l.prog w K mg base "_law_take" 1 ["_law_held","_law_many"] jV:=d10.ok Z (Oy d10.2  ) Qg
 have yK:bF l.prog w K mg base "_law_digits" 1 ["_law_script","_law_k"] (uA K):=d11.ok Z (Py d11.2 T) Qg
 have iQ:bF l.prog w K mg base "_law_words" 2 ["_law_held","_law_many"] nL:=d12.ok Z (Os d12.2 T bS) Qg
 have lL:bF l.prog w K mg base "_law_bound" 2 ["_law_held"] pT:=d13.ok Z (Pk d13.2  bS) Qj
 have yH:bF l.prog w K mg base "_law_plan" 3 ["_law_held"] tL:=d14.ok Z (Pf d14.2 T bS iQ lL) Qj
 have yJ:bF l.prog w K mg base "_law_kind" 1 ["_law_plan_here","_law_name"] tW:=d15.ok Z (Ph d15.2  ) Qg
 have hJ:bF l.prog w K mg base "_law_lane" 2 ["_law_plan_here","_law_one"] nN:=d16.ok Z (Pg d16.2 T yJ) Qg
 have yF:bF l.prog w K mg base "_law_room" 3 ["_law_plan_here","_law_bounds","_law_cards","_law_kind_here","_law_lane_here"] tV:=d17.ok Z (Pe d17.2 T hJ) Ql
 have yL:bF l.prog w K mg base "_law_bars" 3 ["_law_plan_here","_law_cards","_law_wait"] tX:=d18.ok Z (Pm d18.2 T hJ) Qh
 have yE:bF l.prog w K mg base "_law_stand" 4 ["_law_held","_law_plan_here","_law_most"] tU:=d19.ok Z (Pd d19.2 T bS lL iQ hJ yF yL) Qh
 have pC:bF l.prog w K mg base "_law_same" 4 ["_law_found","_law_due"] (nM 4):=En d20.2 T (PySem.W.mg_of X G d20.1) d20.2.kp (d20.2.binds Qg) 4
 have yI:bF l.prog w K mg base "_law_let_due" 1 ["_law_stand_here","_law_card","_law_other"] tQ:=d21.ok Z (Pj d21.2 T) Qh
 have yC:sJ l.prog w K mg base "_law_wait_refusal" 2 ["_law_e"] (tK [CC,CL,CP,CM,CW]):=d22.okH Z (Pb (Cs:=[CC,CL,CP,CM,CW]) d22.2 TC Xc) Qj
 have yD:bF l.prog w K mg base "_law_told" 6 ["_law_stand_here","_law_card","_law_other"] (tH ts):=d23.ok Z (Ox (Cs:=[CC,CL,CP,CM,CW]) d23.2 TL xm rfl rfl xU yC) Qh
 have yG:bF l.prog w K mg base "_law_right" 11 ["_law_plan_here","_law_stand_here","_law_card","_law_other"] (tJ ts):=d24.ok Z (Pa d24.2 TS yI yD pC xV) Qm
 exact Pn d25.2 TS yK bS yH iQ yE yG
theorem Hy{K:PySem.W.Frag}
  {f9:Addr} {od9 an9:Option Addr} {sl9:Array (Option Value)} {oc9 kV9 dc9 pm9 ct9:Value} {cx9 tp9:Addr} {cc9:Value} {cdd9:Option Addr} {vs9:Array Value} {csl9:Array (Option Value)} (a9:PySem.W.nsIn K mainGlobals "without_waits" =some (some (.ref f9))) (l9:K.lookup f9=some ⟨oc9,od9,.func (PySem.W.fnOf "without_waits" "without_waits" (eT fT) (dG fT) (aW fT) .none kV9 dc9 pm9 an9 (.ref cx9) ct9),sl9⟩) (lc9:K.lookup cx9=some ⟨cc9,cdd9,.fields vs9,csl9⟩) (h119:(vs9[11]?:Option Value)=some (.ref tp9)) (tI9:PySem.W.tabIn K "without_waits" =some (cx9,tp9)) (n9:K.lookup tp9=none)
  :∀y∈gR,∀c P,PySem.W.tabIn K y=some (c,P)->K.lookup P=none:=by
 intro y hy c P e
 simp only[gR,List.mem_cons,List.not_mem_nil,or_false]at hy
 rcases hy with rfl
 ·rw[tI9]at e
  cases e
  exact n9
theorem Gz{l:PySem.W.OpenLaw}{q:Program}{loose:List Str}{XP:(Str->Option Value)->Heap->Prop}{YP:World->Heap->Prop}{d:DefRec}{K:Params->PySem.W.Frag}(hn:l.most=some 63)(hdf:d.params.defaults=[])
  (hY:∀(w:World) (h:Heap),YP w h->(K w.params).In h)
  (hgn:∀y∈gR,((recsOf q).find? (λ e=>e.name==y)).isSome=true)
  (hT:∀(w:World) (h:Heap),(K w.params).In h->∀y∈gR,∀c P,PySem.W.tabIn (K w.params) y=some (c,P)->(K w.params).lookup P=none)
  (F:∀(w:World) (mg:Str->Option Value) (fa:Addr) (h:Heap),(K w.params).In h->h.Ns mainGlobals mg->mg d.name=some (.ref fa)->
   ∃fd:FuncData,(∀(s:Shared) (u:Value),BindsTo s fd ⟨[u],[]⟩ [("_law_script",u)])/\∀base:Heap,(K w.params).In base->base.Ns mainGlobals mg->iR mg base->bE l.prog w (K w.params) mg base bP 12 fa fd ["_law_script"] (pR (jU (K w.params) gR) (K w.params))):
  PySem.W.WalkO q loose XP YP l.row.toRowW d [] (λ f vs=>PySem.call f vs):=
 L2.Gy (n:=63) (k:=12) (x:= "_law_script") (CX:=λ _=>bP) (sp:=λ w=>pR (jU (K w.params) gR) (K w.params)) gR hn Qc hdf ⟨rfl,Qc,Qc⟩ hY hgn hT F
  (λ w H a ns hl hO hS=>⟨a,ns,rfl,hS,hl,λ P hP=>⟨#[],hO.2 P hP,by trivial⟩,λ _=>rfl⟩) λ _ _ _ _ _ z=>z
end K14
def PySem.W.Fast.tw8473853947343329814:Unit:=()
def PySem.W.Fast.tw5861991919878651280:Unit:=()
def PySem.W.Fast.tw134749614100856744:Unit:=()
def PySem.W.Fast.tw7726954197717153141:Unit:=()
def PySem.W.Fast.tw11958265897767137816:Unit:=()
def PySem.W.Fast.tw9240192030980200245:Unit:=()
def PySem.W.Fast.tw12800907697844595895:Unit:=()
def PySem.W.Fast.tw15738502075553420012:Unit:=()
def PySem.W.Fast.tw9162846073391227670:Unit:=()
def PySem.W.Fast.tw13717642542797604203:Unit:=()
def PySem.W.Fast.tw11016971202218245944:Unit:=()
def PySem.W.Fast.tw6472313768172460977:Unit:=()
def PySem.W.Fast.tw2229166097302406941:Unit:=()
def PySem.W.Fast.tw329450761675901440:Unit:=()
def PySem.W.Fast.tw15354293922349679196:Unit:=()
def PySem.W.Fast.tw10770697298758031046:Unit:=()
def PySem.W.Fast.tw8935660764147360112:Unit:=()
def PySem.W.Fast.tw13319978478022935715:Unit:=()
def PySem.W.Fast.tw8558163237855655192:Unit:=()
def PySem.W.Fast.tw15153095025461383564:Unit:=()
def PySem.W.Fast.tw13573102669748690751:Unit:=()
def PySem.W.Fast.tw352109308972952697:Unit:=()
def PySem.W.Fast.tw18178842349356812895:Unit:=()
def PySem.W.Fast.tw7950124898245606836:Unit:=()
def PySem.W.Fast.tw890082331973755098:Unit:=()
def PySem.W.Fast.tw4613519130068167749:Unit:=()
def PySem.W.Fast.tw13061173318115428340:Unit:=()
def PySem.W.Fast.tw11744804410785508009:Unit:=()
def PySem.W.Fast.tw13039752602564100921:Unit:=()
def PySem.W.Fast.tw12451910936144782265:Unit:=()
def PySem.W.Fast.tw13771964089208673796:Unit:=()
def PySem.W.Fast.tw10760398517519636006:Unit:=()
def PySem.W.Fast.tw14809611652040462532:Unit:=()
def PySem.W.Fast.tw6650303419443880657:Unit:=()
def PySem.W.Fast.tw6094390237227296249:Unit:=()
def PySem.W.Fast.tw12506197024334748334:Unit:=()
def PySem.W.Fast.tw16521391590798570197:Unit:=()
def PySem.W.Fast.tw6679113118519492356:Unit:=()
def PySem.W.Fast.tw2772399162074366288:Unit:=()
def PySem.W.Fast.tw16316708169941686250:Unit:=()
def PySem.W.Fast.tw6137334071905838100:Unit:=()
def PySem.W.Fast.tw13232010648349393605:Unit:=()
def PySem.W.Fast.tw12329647669493383512:Unit:=()
def PySem.W.Fast.tw1272894726383784150:Unit:=()
def PySem.W.Fast.tw13542078458744533299:Unit:=()
def PySem.W.Fast.tw2019640158121640664:Unit:=()
def PySem.W.Fast.tw5842254513921381487:Unit:=()
def PySem.W.Fast.tw3869494195351427551:Unit:=()
def PySem.W.Fast.tw3984789890908996921:Unit:=()
def PySem.W.Fast.tw7933896174726589829:Unit:=()
def PySem.W.Fast.tw4359071529406991863:Unit:=()
def PySem.W.Fast.tw5654833696239963308:Unit:=()
def PySem.W.Fast.tw1729503762623032387:Unit:=()
def PySem.W.Fast.tw13685479732382383394:Unit:=()
def PySem.W.Fast.tw12749601844878571444:Unit:=()
def PySem.W.Fast.tw9458914252960172484:Unit:=()
def PySem.W.Fast.tw18255739223581711243:Unit:=()
def PySem.W.Fast.tw5473320290070075369:Unit:=()
def PySem.W.Fast.tw1620547163478299365:Unit:=()
def PySem.W.Fast.tw1698102122911350079:Unit:=()
def PySem.W.Fast.tw14039886921275188991:Unit:=()
def PySem.W.Fast.tw6348627407304531855:Unit:=()
def PySem.W.Fast.tw9552655416571236243:Unit:=()
def PySem.W.Fast.tw4688287678825470725:Unit:=()
def PySem.W.Fast.tw13020758265532495591:Unit:=()
def PySem.W.Fast.tw16276186461098760756:Unit:=()
def PySem.W.Fast.tw7464327771192230683:Unit:=()
def PySem.W.Fast.tw11987794917820030161:Unit:=()
def PySem.W.Fast.tw445166389254144800:Unit:=()
def PySem.W.Fast.tw9119782258441637312:Unit:=()
def PySem.W.Fast.tw14025850736305083090:Unit:=()
def PySem.W.Fast.tw14955052725241164853:Unit:=()
def PySem.W.Fast.tw10776569876487842600:Unit:=()
def PySem.W.Fast.tw16169996647272475496:Unit:=()
def PySem.W.Fast.tw11088192696946346930:Unit:=()
def PySem.W.Fast.tw5657134491787689083:Unit:=()
def PySem.W.Fast.tw8200220177493907890:Unit:=()
def PySem.W.Fast.tw8241441590117489483:Unit:=()
def PySem.W.Fast.tw17672208979418925506:Unit:=()
def PySem.W.Fast.tw5909401687568243926:Unit:=()
def PySem.W.Fast.tw1500212062612297420:Unit:=()
def PySem.W.Fast.tw11416470667867277137:Unit:=()
def PySem.W.Fast.tw12911321117496751139:Unit:=()
def PySem.W.Fast.tw17679464392247680864:Unit:=()
def PySem.W.Fast.tw18292133032734465325:Unit:=()
def PySem.W.Fast.tw9481814775587167316:Unit:=()
def PySem.W.Fast.tw3229035724814099522:Unit:=()
def PySem.W.Fast.tw9311013586810548153:Unit:=()
def PySem.W.Fast.tw16530937209560563962:Unit:=()
def PySem.W.Fast.tw9345875332405703030:Unit:=()
def PySem.W.Fast.tw5997878443905851210:Unit:=()
def PySem.W.Fast.tw7789988845569247598:Unit:=()
def PySem.W.Fast.tw14180954446583852694:Unit:=()
def PySem.W.Fast.tw18119163872735863372:Unit:=()
def PySem.W.Fast.tw14203655989744864266:Unit:=()
def PySem.W.Fast.tw15019007958630565375:Unit:=()
def PySem.W.Fast.tw14937372230805150747:Unit:=()
def PySem.W.Fast.tw8332164457594515268:Unit:=()
def PySem.W.Fast.tw8870662463881229350:Unit:=()
def PySem.W.Fast.tw3830767078292247538:Unit:=()
def PySem.W.Fast.tw7065294586049796964:Unit:=()
def PySem.W.Fast.tw15890895298486451887:Unit:=()
def PySem.W.Fast.tw14011745464966429985:Unit:=()
def PySem.W.Fast.tw17010529077000282791:Unit:=()
def PySem.W.Fast.tw2028894746748538029:Unit:=()
def PySem.W.Fast.tw10530793922336784758:Unit:=()
def PySem.W.Fast.tw11701459489884571177:Unit:=()
def PySem.W.Fast.tw12177648489310474422:Unit:=()
def PySem.W.Fast.tw8178561356109075779:Unit:=()
def PySem.W.Fast.tw4038203947494576140:Unit:=()
def PySem.W.Fast.tw6829047073546602117:Unit:=()
def PySem.W.Fast.tw6867408525416797469:Unit:=()
def PySem.W.Fast.tw8695892131115623032:Unit:=()
def PySem.W.Fast.tw439100406108707397:Unit:=()
def PySem.W.Fast.tw16148503250589080896:Unit:=()
def PySem.W.Fast.tw4779345524462927346:Unit:=()
def PySem.W.Fast.tw14330039753489908326:Unit:=()
def PySem.W.Fast.tw8788544814388684908:Unit:=()
def PySem.W.Fast.tw8493858842727139779:Unit:=()
def PySem.W.Fast.tw1662785070523037197:Unit:=()
def PySem.W.Fast.tw5457319108530495284:Unit:=()
def PySem.W.Fast.tw11301693874410898700:Unit:=()
def PySem.W.Fast.tw7107812513373212771:Unit:=()
def PySem.W.Fast.tw14877829643461136451:Unit:=()
def PySem.W.Fast.tw4038757558908394034:Unit:=()
def PySem.W.Fast.tw3310274128860801311:Unit:=()
def PySem.W.Fast.tw15006818784778116565:Unit:=()
def PySem.W.Fast.tw16665958738845019924:Unit:=()
def PySem.W.Fast.tw2471274821014822647:Unit:=()
def PySem.W.Fast.tw7169080942444316203:Unit:=()
def PySem.W.Fast.tw8722772015790333651:Unit:=()
def PySem.W.Fast.tw4206623264248063868:Unit:=()
def PySem.W.Fast.tw14399004485844850174:Unit:=()
def PySem.W.Fast.tw12164442341812569622:Unit:=()
def PySem.W.Fast.tw13910302442056184953:Unit:=()
def PySem.W.Fast.tw11779007616205165399:Unit:=()
def PySem.W.Fast.tw15556449367791052301:Unit:=()
def PySem.W.Fast.tw14279648547692626260:Unit:=()
def PySem.W.Fast.tw9450724522018053136:Unit:=()
def PySem.W.Fast.tw16375792180695000607:Unit:=()
def PySem.W.Fast.tw14651824960662175310:Unit:=()
def PySem.W.Fast.tw10984798466426474350:Unit:=()
def PySem.W.Fast.tw2074297374661549480:Unit:=()
def PySem.W.Fast.tw4302328245518130268:Unit:=()
def PySem.W.Fast.tw8684013807132075719:Unit:=()
def PySem.W.Fast.tw15662139282670801998:Unit:=()
def PySem.W.Fast.tw8281025882005740689:Unit:=()
def PySem.W.Fast.tw631836843643543934:Unit:=()
def PySem.W.Fast.tw11366851889136121746:Unit:=()
def PySem.W.Fast.tw16676764174297592272:Unit:=()
def PySem.W.Fast.tw6103397647611660479:Unit:=()
def PySem.W.Fast.tw12606302671384436133:Unit:=()
def PySem.W.Fast.tw18392272464654145350:Unit:=()
def PySem.W.Fast.tw2091340576624310355:Unit:=()
def PySem.W.Fast.tw8457033531697556167:Unit:=()
def PySem.W.Fast.tw16568692002773945930:Unit:=()
def PySem.W.Fast.tw227382350499082885:Unit:=()
def PySem.W.Fast.tw636531560733276989:Unit:=()
def PySem.W.Fast.tw8747637434887399398:Unit:=()
def PySem.W.Fast.tw13713174299288796341:Unit:=()
def PySem.W.Fast.tw485601555823855567:Unit:=()
def PySem.W.Fast.tw17749690340599070245:Unit:=()
def PySem.W.Fast.tw10104240548607740686:Unit:=()
def PySem.W.Fast.tw12495064879781276450:Unit:=()
def PySem.W.Fast.tw5034712610932577328:Unit:=()
def PySem.W.Fast.tw6746867905879195868:Unit:=()
def PySem.W.Fast.tw6074843128942692307:Unit:=()
def PySem.W.Fast.tw10714982569876881959:Unit:=()
def PySem.W.Fast.tw14554657449162633108:Unit:=()
def PySem.W.Fast.tw15480163908133668836:Unit:=()
def PySem.W.Fast.tw2284215598532339040:Unit:=()
def PySem.W.Fast.tw541891331804319685:Unit:=()
def PySem.W.Fast.tw8943456265611413978:Unit:=()
def PySem.W.Fast.tw15545778646072520645:Unit:=()
def PySem.W.Fast.tw742248351872091334:Unit:=()
def PySem.W.Fast.tw16264559604455616016:Unit:=()
def PySem.W.Fast.tw9961574591302544124:Unit:=()
def PySem.W.Fast.tw233063691009841927:Unit:=()
def PySem.W.Fast.tw4893632094918971943:Unit:=()
def PySem.W.Fast.tw17775672672009890970:Unit:=()
def PySem.W.Fast.tw7362742036378605398:Unit:=()
open PySem PySem.W PyProof.Rows
set_option maxRecDepth 100000 in
set_option maxHeartbeats 0 in
theorem PySem.Challenge.cw_cardlanes_k14_without_waits_holds : PySem.Challenge.rw_cardlanes_k14_without_waits.Holds := by
 w_on;o_law;k_head;(case hw=>w_witness2)
 k_fill
 refine K14.Gz (l:=PySem.Challenge.rw_cardlanes_k14_without_waits) rfl rfl (fun w h Y=>PySem.W.kIn_of Y) ?G ?T ?F
 case F=>
  intro w mg fa h KX G hmg
  refine' K14.AU KX G hmg ?d0 ?d1 ?d2 ?d3 ?d4 ?d5 ?d6 ?d7 ?d8 ?a9 ?l9 ?c9 ?k9 ?lc9 ?h119 ?tI9 ?hd9 ?d10 ?d11 ?d12 ?d13 ?d14 ?d15 ?d16 ?d17 ?d18 ?d19 ?d20 ?d21 ?d22 ?d23 ?d24 ?d25 ?qE ?qL ?qP ?qM ?eC ?eK ?eW ?topS ?xE ?xk ?xi ?xa ?xmm ?zz ?gl0 ?gl1
  (case d0=>exists Qf)
  (case d1=>exists Qf)
  (case d2=>exists Qf)
  (case d3=>exists Qf)
  (case d4=>exists Qf)
  (case d5=>exists Qf)
  (case d6=>exists Qf)
  (case d7=>exists Qf)
  (case d8=>exists Qf)
  (case a9=>k_is)
  (case l9=>k_is)
  (case c9=>k_is)
  (case k9=>k_is)
  (case lc9=>k_is)
  (case h119=>rfl)
  (case tI9=>kernel_rfl)
  (case hd9=>kernel_rfl)
  (case d10=>exists Qf)
  (case d11=>exists Qf)
  (case d12=>exists Qf)
  (case d13=>exists Qf)
  (case d14=>exists Qf)
  (case d15=>exists Qf)
  (case d16=>exists Qf)
  (case d17=>exists Qf)
  (case d18=>exists Qf)
  (case d19=>exists Qf)
  (case d20=>exists Qf)
  (case d21=>exists Qf)
  (case d22=>exists Qf)
  (case d23=>exists Qf)
  (case d24=>exists Qf)
  (case d25=>exists Qf)
  (case qE=>k_is)
  (case qL=>k_is)
  (case qP=>k_is)
  (case qM=>k_is)
  (case eC=>exists Qk)
  (case eK=>exists Qk)
  (case eW=>exists Qk)
  (case topS=>kernel_rfl)
  (case xE=>kernel_rfl)
  (case xk=>kernel_rfl)
  (case xi=>kernel_rfl)
  (case xa=>kernel_rfl)
  (case xmm=>kernel_rfl)
  (case zz=>kernel_rfl)
  (case gl0=>k_is)
  (case gl1=>k_is)
 case T=>
  intro w h KX
  refine' K14.Hy ?a9 ?l9 ?lc9 ?h119 ?tI9 ?n9
  (case a9=>k_is)
  (case l9=>k_is)
  (case lc9=>k_is)
  (case h119=>rfl)
  (case tI9=>kernel_rfl)
  (case n9=>kernel_rfl)
 case G=>decide+kernel
