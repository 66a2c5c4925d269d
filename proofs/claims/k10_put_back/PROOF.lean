import PyProof.Rows.All
import Wide.All
import OpenK.AllK
import Wide.FinOn
import Lean
import PyProof.EqAt
import PyProof.EqKinds
import PyProof.TupleCall
import KE.KNest
import KE.KNestM
import KE.KSortTup
import PyProof.CollectWalk
import PyProof.IsRules
import PyProof.Rows.SetFrom
import PyProof.Rows.SortKeyStr
import PyProof.Rows.SortStr
import PyProof.SetKind
import PyProof.TupleOfGen
import PySem.Challenge.RW_cardlanes_k10_put_back
set_option Elab.async false
set_option linter.all false
set_option maxRecDepth 100000
set_option maxHeartbeats 4000000
set_option hygiene false
local macro_rules (kind:=ident)|i=>match i.getId with|.str .anonymous s=>if s.front=='Q' then match s with| "Qa"=>`((by omega))| "Qd"=>`((by decide+kernel))| "Qc"=>`((by decide))| "Qb"=>`((by simp))| "Qm"=>`((show Str.empty.length<=0 from Qd))| "Ql"=>`((show _<=100 from Qd))| "Qi"=>`((model prog w))| "Qh"=>`(Value->Shared->Prop)| "Qf"=>`(PySem.W.Frag)| "Qj"=>`(List (Addr×Obj))| "Qk"=>`(Str->Option Value)| "Qe"=>`((aE ?_ ?_))| "Qg"=>`((pO ?_ ?_))| "Qu"=>`((λ _ _ _ _ _ _ us hl=>Ip hl λ _=>rfl))| "Qp"=>`((λ _ _ _ _ _ _ us hl=>Au hl λ _ _=>rfl))| "Qo"=>`((λ _ _ _ _ _ _ us hl=>At hl λ _ _ _=>rfl))| "Qs"=>`((λ _ _ _ _ _ _ us hl=>As hl λ _ _ _ _=>rfl))| "Qw"=>`((λ _ _ _ _ _ _ us hl=>Io hl λ _ _ _ _ _=>rfl))| "Qr"=>`((λ _ _ _ _ _ us hl=>Au hl λ _ _=>rfl))| "Qv"=>`((λ _ _ _ _ _ us hl=>At hl λ _ _ _=>rfl))| "Qx"=>`((λ _ _ _ _ _ us hl=>As hl λ _ _ _ _=>rfl))| "Qn"=>`((by refine'⟨?zd0,L2.AE ?zd1 ?zd2 ?zd3⟩;(case zd0=>k_is);(case zd1=>k_is);(case zd2=>k_is);(case zd3=>k_is)))| "Qq"=>`((by refine' L2.AQ ?ze0 ?ze1 ?ze2 ?ze3 ?ze4 ?ze5 ?ze6 ?ze7 ?ze8 ?ze9 ?ze10 ?ze11 ?ze12 ?ze13;(case ze0=>k_is);(case ze1=>k_is);(case ze2=>k_is);(case ze3=>k_is);(case ze4=>k_is);(case ze5=>rfl);(case ze6=>kernel_rfl);(case ze7=>k_is);(case ze8=>k_is);(case ze9=>k_is);(case ze10=>kernel_rfl);(case ze11=>kernel_rfl);(case ze12=>kernel_rfl);(case ze13=>kernel_rfl)))|_=>Lean.Macro.throwUnsupported else Lean.Macro.throwUnsupported|_=>Lean.Macro.throwUnsupported
set_option hygiene true
local macro_rules| `(tactic|omega)=>`(tactic|first|lia|omega (config:={}))
open Lean Parser in
local macro_rules| `(tactic|exists $ts,*)=>do
  let mut st:List (TSyntax `tactic):=[]
  for t0 in ts.getElems.reverse do
    let mut t:Syntax:=t0
    for _ in[0:9]do
      if t.isIdent then
        if let some v←expandMacro? t then t:=v
      if t.isOfKind ``Term.paren then t:=t[1]
    if let some k:=t.isNatLit? then
      let c::r:=st|Macro.throwUnsupported
      let mut c:=c
      for _ in[0:k]do c← `(tactic|(intro _; $c))
      st:=c::r
    else if t.isOfKind ``Term.byTactic then
      let s:TSyntax ``Tactic.tacticSeq:=⟨t[1]⟩
      st:=(← `(tactic|($s)))::st
    else
      let (u,gs)←(t.replaceM fun s=>if s.isOfKind ``Term.syntheticHole then do
          let g:=mkIdent (.mkSimple s!"g{t0.raw.getPos?.map (·.byteIdx)}_{(← get).size}")
          modify (·.push g)
          return some (s.setArg 1 g)
        else return none:StateT (Array Ident) MacroM Syntax).run #[]
      let u:Term:=⟨u⟩
      let mut a← `(tactic|refine' $u)
      for g in gs do
        let c::r:=st|Macro.throwUnsupported
        st:=r
        a← `(tactic|($a;case $g:ident=> $c:tactic))
      st:=a::st
  let[a]:=st|Macro.throwUnsupported
  return a
namespace L2
open PySem PySem.Spec PyProof.Rows
abbrev eT:=Sum Int Str
def nQ:eT->Value->Bool
 |.inl k,v=>Value.isInt k v
 |.inr x,v=>Value.isStrOf x v
def Vx(w:World):eT->Int
 |.inl k=>hashInt k
 |.inr x=>hashStr w x
theorem jM:∀{k:eT} {v:Value},nQ k v=true->(∃i t,k=Sum.inl i/\v=Value.int i t)\/(∃x t,k=Sum.inr x/\v=Value.str x t)
 |.inl i,v,h=>by
  obtain⟨t,e⟩:=Value.isInt_shape (k:=i) (v:=v) h
  exact .inl ⟨i,t,rfl,e⟩
 |.inr x,v,h=>by
  obtain⟨t,e⟩:=Value.isStrOf_shape (x:=x) (v:=v) h
  exact .inr ⟨x,t,rfl,e⟩
theorem Vw(i:Int)(t:Tok):nQ (.inl i) (.int i t)=true:=by simp[nQ,Value.isInt]
theorem Vv(x:Str)(t:Tok):nQ (.inr x) (.str x t)=true:=by simp[nQ,Value.isStrOf]
theorem Vu(a b:Int):decide ((Sum.inl a:eT)=Sum.inl b)=(a==b):=by
 by_cases e:a=b
 ·subst e;simp
 ·have h:¬(Sum.inl a:eT)=Sum.inl b:=λ q=>e (Sum.inl.inj q)
  rw[decide_eq_false h]
  exact(beq_eq_false_iff_ne.mpr e).symm
theorem Vr(a b:Str):decide ((Sum.inr a:eT)=Sum.inr b)=decide (a=b):=by
 by_cases e:a=b
 ·subst e;simp
 ·have h:¬(Sum.inr a:eT)=Sum.inr b:=λ q=>e (Sum.inr.inj q)
  rw[decide_eq_false h,decide_eq_false e]
theorem Vt(a:Int)(b:Str):decide ((Sum.inl a:eT)=Sum.inr b)=false:=decide_eq_false (λ q=>nomatch q)
theorem Vs(a:Str)(b:Int):decide ((Sum.inr a:eT)=Sum.inl b)=false:=decide_eq_false (λ q=>nomatch q)
def nK(prog:Program)(w:World):PySem.KeyKind prog w eT where
 is:=nQ
 hash:=Vx w
 inj:=λ v a b ha hb=>by
  rcases jM ha with⟨i,t,rfl,rfl⟩|⟨x,t,rfl,rfl⟩
  ·rcases jM hb with⟨j,u,rfl,e⟩|⟨y,u,rfl,e⟩
   ·injection e with e1 _;rw[e1]
   ·exact nomatch e
  ·rcases jM hb with⟨j,u,rfl,e⟩|⟨y,u,rfl,e⟩
   ·exact nomatch e
   ·injection e with e1 _;rw[e1]
 byValue:=λ k v h=>by
  rcases jM h with⟨i,t,rfl,rfl⟩|⟨x,t,rfl,rfl⟩<;>rfl
 pyHash:=λ hv h=>by
  rcases jM hv with⟨i,t,rfl,rfl⟩|⟨x,t,rfl,rfl⟩
  ·exact wpAny_pyHash_int h
  ·exact wpAny_pyHash_str h
 eqBool:=λ hu hv h=>by
  rcases jM hu with⟨i,t,rfl,rfl⟩|⟨x,t,rfl,rfl⟩
  ·rcases jM hv with⟨j,u,rfl,rfl⟩|⟨y,u,rfl,rfl⟩
   ·rw[Vu]at h;exact wpAny_eqBool_int h
   ·rw[Vt]at h;exact SeqAt.EqAt.int_str i t y u _ _ _ _ h
  ·rcases jM hv with⟨j,u,rfl,rfl⟩|⟨y,u,rfl,rfl⟩
   ·rw[Vs]at h;exact SeqAt.EqAt.str_int x t j u _ _ _ _ h
   ·rw[Vr]at h;exact wpAny_eqBool_str h
 «strs»:=λ k x t v h=>by
  rcases jM h with⟨i,u,rfl,e⟩|⟨y,u,rfl,e⟩
  ·exact nomatch e
  ·injection e with e1 _
   subst e1
   cases v<;>rfl
theorem Tu(prog:Program)(w:World)(i:Int)(t:Tok):(nK prog w).is (.inl i) (.int i t)=true:=Vw i t
theorem Dp(prog:Program)(w:World)(x:Str)(t:Tok):(nK prog w).is (.inr x) (.str x t)=true:=Vv x t
inductive V where
 |non|bl (b:Bool)|int (i:Int)|str (x:Str)|byt (b:Array UInt8)|flt (b:UInt64)|ref (a:Addr)|ty (n:String)
 deriving DecidableEq
def bE:V->Value->Prop
 |.non,u=>u=Value.none
 |.bl b,u=>u=Value.bool b
 |.int i,u=>∃t,u=Value.int i t
 |.str x,u=>∃t,u=Value.str x t
 |.byt b,u=>∃t,u=Value.bytes b t
 |.flt b,u=>∃t,u=Value.float b t
 |.ref a,u=>u=Value.ref a
 |.ty n,u=>u=Value.type n
abbrev aW:List V->List Value->Prop:=Paired bE
theorem aW.length{xs:List V}{us:List Value}(r:aW xs us):xs.length=us.length:=Paired.length r
theorem aW.get:∀{xs:List V} {us:List Value} {i:Nat} {x:V},aW xs us->xs[i]? =some x->∃u,us[i]? =some u/\bE x u
 |_,_,_,_,.nil,e=>by simp at e
 |_,_,0,_,.cons r _,e=>by simp at e;subst e;exact⟨_,rfl,r⟩
 |_,_,i+1,x,.cons _ t,e=>by
  obtain⟨u,h1,h2⟩:=aW.get (i:=i) (x:=x) t (by simpa using e)
  exact⟨u,by simpa using h1,h2⟩
theorem aW.set{x:V}{u:Value}(r:bE x u):∀{xs:List V} {us:List Value} (i:Nat),aW xs us->aW (xs.set i x) (us.set i u)
 |_,_,_,.nil=>.nil
 |_,_,0,.cons _ t=>.cons r t
 |_,_,i+1,.cons q t=>.cons q (aW.set r i t)
theorem aW.append:∀{xs ys:List V} {us ws:List Value},aW xs us->aW ys ws->aW (xs++ys) (us++ws)
 |_,_,_,_,.nil,s=>s
 |_,_,_,_,.cons r t,s=>.cons r (aW.append t s)
theorem aW.take:∀{xs:List V} {us:List Value} (n:Nat),aW xs us->aW (xs.take n) (us.take n)
 |_,_,0,_=>.nil
 |_,_,_+1,.nil=>.nil
 |_,_,n+1,.cons r t=>.cons r (aW.take n t)
theorem aW.drop:∀{xs:List V} {us:List Value} (n:Nat),aW xs us->aW (xs.drop n) (us.drop n)
 |_,_,0,r=>r
 |_,_,_+1,.nil=>.nil
 |_,_,n+1,.cons _ t=>aW.drop n t
def oC:Option V->Option Value->Prop
 |some v,some u=>bE v u
 |none,none=>True
 |_,_=>False
def KV{κ:Type}:List (κ×V)->List (κ×Value)->Prop:=Paired λ (p:κ×V) (q:κ×Value)=>p.1=q.1/\bE p.2 q.2
def kV:eT->V
 |.inl i=>.int i
 |.inr x=>.str x
inductive HO where
 |lst (xs:List V)
 |tup (xs:List V)
 |dK (kvs:List (eT×V))|dT (kvs:List (List eT×V))
 |set (S:Int->Bool) (n:Nat)
 |ins (C dx:Addr) (fs:List (Str×V))
 |own (x:Addr)
 |xd (fs:List (Str×V))
 |met (f x:Addr)
 |rng (lo hi:Int)
 |frz (o:Obj) (u:HO)
 |tbl (ps:Array Value)
 |ext (φ:Heap->Prop)
abbrev Hp:=Addr->Option HO
def aA(H:Hp)(a:Addr)(o:HO):Hp:=λ b=>if b=a then some o else H b
theorem aP{H:Hp}{a:Addr}{o:HO}:aA H a o a=some o:=by unfold aA;rw[if_pos rfl]
theorem aR{H:Hp}{a b:Addr}{o:HO}(h:b≠a):aA H a o b=H b:=by unfold aA;rw[if_neg h]
theorem uU{H:Hp}{a:Addr}{o u:HO}:aA (aA H a o) a u=aA H a u:=by
 funext b;unfold aA;split<;>rfl
theorem gO{H:Hp}{a b:Addr}{o:HO}(h:H a=some o)(h':H b=none):a≠b:=by
 intro e;subst e;rw[h]at h';cases h'
section
variable(P:Program)(w:World)
def cT(H:Hp)(h:Heap)(a:Addr):HO->Prop
 |.lst xs=>xs.length<=sizeLine/\∃(its:List Value) (n:Nat),aW xs its/\h.get? a=some {cls:=.type "list",data:=.seq its.toArray n}
 |.tup xs=>xs.length<=sizeLine/\∃its:List Value,aW xs its/\IsTup h a its.toArray/\∃o,h.get? a=some o/\o.dict=none
 |.dK kvs=>kvs.length<=sizeLine/\(a==sysModules)=false/\∃vs,KV kvs vs/\h.DictOf (nK P w) a vs
 | .dT kvs=>kvs.length<=sizeLine/\(a==sysModules)=false/\∃xs:List (List eT×Addr×Value),
   Paired (λ (p:List eT×V) (q:List eT×Addr×Value)=>p.1=q.1/\H q.2.1=some (.tup (p.1.map kV))/\bE p.2 q.2.2) kvs xs/\
   ∃o es ep,h.get? a=some o/\o.ExactDict/\o.data= .dict es ep/\es.toList=xs.map (entryOfKey (tupleKind (nK P w)))/\(xs.map (·.1)).Nodup
 |.set S n=>h.SetOf (intKind P w) a S n
 | .ins C dx fs=>H dx=some (.own a)/\fs.length<=1000/\dx≠a/\h.get? a=some (PySem.W.instObj C dx)/\
   ∃mA,h.Ns1 dx mA/\(∀f,oC (fs.lookup f) (mA f))/\PySem.Within mA (fs.map (·.1))
 |.own _=>∃o,h.get? a=some o
 |.xd fs=>∃mA,h.Ns1 a mA/\∀f,oC (fs.lookup f) (mA f)
 |.rng lo hi=>∃t u v,h.get? a=some {cls:=.type "range",data:=.fields #[.int lo t,.int hi u,.int 1 v]}
 |.frz o u=>h.get? a=some o/\cT H h a u
 |.tbl ps=>h.get? a=some {cls:=.none,data:=.fields ps}
 |.met f x=>h.get? a=some (PySem.W.methodObj (.ref f) (.ref x))
 |.ext φ=>φ h/\(∃o,h.get? a=some o)/\∀h1 h2:Heap,φ h1->(∀o,h1.get? a=some o->h2.get? a=some o)->φ h2
def bW(H:Hp)(h:Heap):Prop:=∀a o,H a=some o->cT P w H h a o
end
section
variable{P:Program}{w:World}{H H':Hp}{h h':Heap}{a:Addr}{o:HO}
theorem cT.lt(x:cT P w H h a o):a<h.objs.size:=by
 cases o with
 |lst xs=>obtain⟨_,_,_,_,e⟩:=x;exact Heap.lt_size e
 |tup xs=>obtain⟨_,_,_,p,_⟩:=x;exact p.lt
 |dK kvs=>obtain⟨_,_,_,_,o,_,_,e,_⟩:=x;exact Heap.lt_size e
 |dT kvs=>obtain⟨_,_,_,_,o,_,_,e,_⟩:=x;exact Heap.lt_size e
 |set S n=>obtain⟨o,_,_,_,e,_⟩:=x;exact Heap.lt_size e
 |ins C dx fs=>obtain⟨_,_,_,e,_⟩:=x;exact Heap.lt_size e
 |own y=>obtain⟨_,e⟩:=x;exact Heap.lt_size e
 |xd fs=>obtain⟨_,⟨_,_,_,e,_⟩,_⟩:=x;exact Heap.lt_size e
 |rng lo hi=>obtain⟨_,_,_,e⟩:=x;exact Heap.lt_size e
 |frz ob u=>obtain⟨e,_⟩:=x;exact Heap.lt_size e
 |tbl ps=>exact Heap.lt_size (show h.get? a=some _ from x)
 |met f y=>exact Heap.lt_size (show h.get? a=some _ from x)
 |ext φ=>obtain⟨_,⟨_,e⟩,_⟩:=x;exact Heap.lt_size e
theorem Paired.mapP{α β:Type}{F G:α->β->Prop}:∀{l₁:List α} {l₂:List β},Paired F l₁ l₂->(∀a b,F a b->G a b)->Paired G l₁ l₂
 |_,_,.nil,_=>.nil
 |_,_,.cons r t,f=>.cons (f _ _ r) (Paired.mapP t f)
theorem cT.stay(x:cT P w H h a o)(k:∀b u,(b=a\/H b=some (.own a))->h.get? b=some u->h'.get? b=some u)
  (ho:∀b,H b=some (.own a)->H' b=some (.own a)) (ht:∀b xs,H b=some (.tup xs)->H' b=some (.tup xs)):cT P w H' h' a o:=by
 induction o with
 |lst xs=>obtain⟨z,its,n,r,e⟩:=x;exact⟨z,its,n,r,k _ _ (.inl rfl) e⟩
 |tup xs=>obtain⟨z,its,r,⟨ob,e,c⟩,od,e2,hd⟩:=x;exact⟨z,its,r,⟨ob,k _ _ (.inl rfl) e,c⟩,od,k _ _ (.inl rfl) e2,hd⟩
 |dK kvs=>obtain⟨z,y,vs,r,ob,es,ep,e,c⟩:=x;exact⟨z,y,vs,r,ob,es,ep,k _ _ (.inl rfl) e,c⟩
 |dT kvs=>
  obtain⟨z,y,xs,r,ob,es,ep,e,c⟩:=x
  exact⟨z,y,xs,Paired.mapP r λ p q z=>⟨z.1,ht _ _ z.2.1,z.2.2⟩,ob,es,ep,k _ _ (.inl rfl) e,c⟩
 |set S n=>obtain⟨ob,es,ep,t,e,c⟩:=x;exact⟨ob,es,ep,t,k _ _ (.inl rfl) e,c⟩
 |ins C dx fs=>
  obtain⟨d,z,ne,e,mA,⟨od,es,ep,e2,c⟩,r⟩:=x
  exact⟨ho _ d,z,ne,k _ _ (.inl rfl) e,mA,⟨od,es,ep,k _ _ (.inr d) e2,c⟩,r⟩
 |own y=>obtain⟨ob,e⟩:=x;exact⟨ob,k _ _ (.inl rfl) e⟩
 |xd fs=>obtain⟨mA,⟨od,es,ep,e,c⟩,r⟩:=x;exact⟨mA,⟨od,es,ep,k _ _ (.inl rfl) e,c⟩,r⟩
 |rng lo hi=>obtain⟨t,u,v,e⟩:=x;exact⟨t,u,v,k _ _ (.inl rfl) e⟩
 |frz ob u ih=>obtain⟨e,q⟩:=x;exact⟨k _ _ (.inl rfl) e,ih q⟩
 |tbl ps=>
  have e:h.get? a=some {cls:=.none,data:=.fields ps}:=x
  show h'.get? a=some {cls:=.none,data:=.fields ps}
  exact k a _ (.inl rfl) e
 |met f y=>
  have e:h.get? a=some (PySem.W.methodObj (.ref f) (.ref y)):=x
  show h'.get? a=some (PySem.W.methodObj (.ref f) (.ref y))
  exact k a _ (.inl rfl) e
 |ext φ=>obtain⟨p,⟨o,e⟩,st⟩:=x;exact⟨st _ _ p λ o q=>k _ _ (.inl rfl) q,⟨o,k _ _ (.inl rfl) e⟩,st⟩
theorem bW.lt(x:bW P w H h)(e:H a=some o):a<h.objs.size:=(x a o e).lt
theorem bW.fresh(x:bW P w H h)(e:h.objs.size<=a):H a=none:=by
 cases q:H a with
 |none=>rfl
 |some u=>exact absurd (Nat.lt_of_lt_of_le (x.lt q) e) (Nat.lt_irrefl _)
theorem bW.kept(x:bW P w H h)(k:∀b u,h.get? b=some u->h'.get? b=some u):bW P w H h':=λ a o e=>
 (x a o e).stay (λ b u _ q=>k b u q) (λ _ q=>q) λ _ _ q=>q
theorem bW.laid(x:bW P w H h)(k:∀b u,h.get? b=some u->h'.get? b=some u)(hp:h.objs.size<=a)(new:cT P w (aA H a o) h' a o):bW P w (aA H a o) h':=λ b u e=>by
 have hn:=x.fresh hp
 by_cases hb:b=a
 ·subst hb;rw[aP]at e;cases e;exact new
 ·rw[aR hb]at e
  exact(x b u e).stay (λ c v _ q=>k c v q) (λ c q=>by rw[aR (gO q hn)];exact q) λ c xs q=>by rw[aR (gO q hn)];exact q
end
def Rd(H:Hp)(a:Addr)(u:HO):Prop:=H a=some u\/∃o,H a=some (.frz o u)
theorem Rd.of{H:Hp}{a:Addr}{u:HO}(h:H a=some u):Rd H a u:=.inl h
theorem Rd.ok{P:Program}{w:World}{H:Hp}{h:Heap}{a:Addr}{u:HO}(r:Rd H a u)(x:bW P w H h):cT P w H h a u:=by
 rcases r with r|⟨o,r⟩
 ·exact x a u r
 ·obtain⟨_,q⟩:=x a _ r
  exact q
def iY:Option HO->Prop
 |some (.lst _)=>True
 |some (.dK _)=>True
 |some (.dT _)=>True
 |some (.set _ _)=>True
 |some (.ins _ _ _)=>True
 |some (.ext _)=>True
 |_=>False
section
variable{P:Program}{w:World}{H:Hp}{h h':Heap}{x e:Addr}{o':HO}
theorem bW.write(ok:bW P w H h)(mu:iY (H x))(he:e=x\/H e=some (.own x))(k:∀b u,b≠e->h.get? b=some u->h'.get? b=some u)(heo:∃u,h'.get? e=some u)
  (new:cT P w (aA H x o') h' x o'):bW P w (aA H x o') h':=λ b u q=>by
 have nown:∀c y,H c=some (.own y)->c≠x:=λ c y r z=>by subst z;rw[r]at mu;exact mu
 have ntup:∀c xs,H c=some (.tup xs)->c≠x:=λ c xs r z=>by subst z;rw[r]at mu;exact mu
 by_cases hb:b=x
 ·subst hb;rw[aP]at q;cases q;exact new
 ·rw[aR hb]at q
  by_cases hbe:b=e
  ·have q':H b=some (.own x):=by
    rcases he with z|z
    ·exact absurd (hbe.trans z) hb
    ·rw[hbe];exact z
   rw[q]at q';cases q'
   obtain⟨v,hv⟩:=heo
   exact⟨v,by rw[hbe];exact hv⟩
  ·refine(ok b u q).stay (λ c v hc r=>k c v ?_ r) (λ c r=>by rw[aR (nown c b r)];exact r) λ c xs r=>by rw[aR (ntup c xs r)];exact r
   rcases hc with rfl|hc
   ·exact hbe
   ·rintro rfl
    rcases he with z|z
    ·exact nown c b hc z
    ·rw[hc]at z;cases z;exact hb rfl
end
structure Un(fs ex:List Addr)(H H':Hp)(h h':Heap):Prop where
 keep:∀b o,h.get? b=some o->H b=none->b∉fs->b∉ex->h'.get? b=some o
 slot:∀b o,h.get? b=some o->H b=none->b∈fs->b∉ex->∃sl,h'.get? b=some {o with slots:=sl}
 free:∀b o,h.get? b=some o->H b=none->b∉ex->H' b=none
 there:∀b o,h.get? b=some o->b∉ex->∃o',h'.get? b=some o'
 tups:∀b xs,H b=some (.tup xs)->H' b=some (.tup xs)
 frzs:∀b o u,H b=some (.frz o u)->H' b=some (.frz o u)
 tbls:∀b ps,H b=some (.tbl ps)->∃more,H' b=some (.tbl (ps++more))
section
variable{fs fs' ex ex':List Addr}{H H1 H2:Hp}{h h1 h2 h':Heap}{a x e:Addr}{o:HO}
theorem Un.any(u:Un fs ex H H1 h h1){b:Addr}{ob:Obj}(q:h.get? b=some ob)(n:H b=none)(hx:b∉ex):∃sl,h1.get? b=some {ob with slots:=sl}:=by
 by_cases hb:b∈fs
 ·exact u.slot b ob q n hb hx
 ·exact⟨ob.slots,u.keep b ob q n hb hx⟩
theorem Un.trans(a:Un fs ex H H1 h h1)(b:Un fs ex H1 H2 h1 h2):Un fs ex H H2 h h2 where
 keep:=λ c ob q n hc hx=>b.keep c ob (a.keep c ob q n hc hx) (a.free c ob q n hx) hc hx
 slot:=λ c ob q n hc hx=>by
  obtain⟨sl,e1⟩:=a.slot c ob q n hc hx
  obtain⟨sl',e2⟩:=b.slot c _ e1 (a.free c ob q n hx) hc hx
  exact⟨sl',e2⟩
 free:=λ c ob q n hx=>by
  obtain⟨o',e1⟩:=a.there c ob q hx
  exact b.free c o' e1 (a.free c ob q n hx) hx
 there:=λ c ob q hx=>by
  obtain⟨o',e1⟩:=a.there c ob q hx
  exact b.there c o' e1 hx
 tups:=λ c xs q=>b.tups c xs (a.tups c xs q)
 frzs:=λ c ob xs q=>b.frzs c ob xs (a.frzs c ob xs q)
 tbls:=λ c ps q=>by
  obtain⟨m1,e1⟩:=a.tbls c ps q
  obtain⟨m2,e2⟩:=b.tbls c _ e1
  exact⟨m1++m2,by rw[e2,Array.append_assoc]⟩
theorem Un.kept(k:∀b u,h.get? b=some u->h'.get? b=some u):Un fs ex H H h h':=
 ⟨λ b ob q _ _ _=>k b ob q,λ b ob q _ _ _=>⟨ob.slots,k b ob q⟩,λ _ _ _ n _=>n,λ b ob q _=>⟨ob,k b ob q⟩,λ _ _ q=>q,λ _ _ _ q=>q,λ _ ps q=>⟨#[],by rw[q];simp⟩⟩
theorem Un.refl:Un fs ex H H h h:=Un.kept λ _ _ q=>q
theorem Un.laid(k:∀b u,h.get? b=some u->h'.get? b=some u)(hp:h.objs.size<=a)(hn:H a=none):Un fs ex H (aA H a o) h h' where
 keep:=λ b u q _ _ _=>k b u q
 slot:=λ b u q _ _ _=>⟨u.slots,k b u q⟩
 free:=λ b u q n _=>by rw[aR (Nat.ne_of_lt (Nat.lt_of_lt_of_le (Heap.lt_size q) hp))];exact n
 there:=λ b u q _=>⟨u,k b u q⟩
 tups:=λ b xs q=>by rw[aR (gO q hn)];exact q
 frzs:=λ b u xs q=>by rw[aR (gO q hn)];exact q
 tbls:=λ b ps q=>⟨#[],by rw[aR (gO q hn),q];simp⟩
theorem Un.write(mu:iY (H x))(he:e=x\/H e=some (.own x))(k:∀b u,b≠e->h.get? b=some u->h'.get? b=some u)(heo:∃u,h'.get? e=some u):Un fs ex H (aA H x o) h h':=by
 have hx:∀b,H b=none->b≠x:=λ b n z=>by subst z;rw[n]at mu;exact mu
 have hb:∀b,H b=none->b≠e:=λ b n z=>by
  subst z
  rcases he with r|r
  ·exact hx b n r
  ·rw[n]at r;cases r
 have hm:∀b u,H b=some u->¬iY (some u)->b≠x:=λ b u q nm z=>by subst z;rw[q]at mu;exact nm mu
 refine⟨λ b u q n _ _=>k b u (hb b n) q,λ b u q n _ _=>⟨u.slots,k b u (hb b n) q⟩,λ b u q n _=>by rw[aR (hx b n)];exact n,λ b u q _=>?_,
  λ b xs q=>by rw[aR (hm b _ q λ z=>z)];exact q,λ b u xs q=>by rw[aR (hm b _ q λ z=>z)];exact q,λ b ps q=>⟨#[],by rw[aR (hm b _ q λ z=>z),q];simp⟩⟩
 by_cases hbe:b=e
 ·subst hbe;exact heo
 ·exact⟨u,k b u hbe q⟩
theorem Un.mono(u:Un fs ex H H1 h h1)(hs:∀b∈fs,b∈fs')(hx:∀b∈ex,b∈ex'):Un fs' ex' H H1 h h1:=
 ⟨λ b ob q n hb he=>u.keep b ob q n (λ z=>hb (hs b z)) λ z=>he (hx b z),λ _ _ q n _ he=>u.any q n λ z=>he (hx _ z),λ b ob q n he=>u.free b ob q n λ z=>he (hx b z),λ b ob q he=>u.there b ob q λ z=>he (hx b z),u.tups,u.frzs,u.tbls⟩
end
def rE(h:Heap)(H:Hp):List Addr:=(List.range h.objs.size).filter λ a=>(H a).isSome
def iR(h:Heap)(H:Hp):Heap:=PySem.W.hideAll h (rE h H)
theorem Xu(h:Heap)(H:Hp):(iR h H).objs.size=h.objs.size:=PySem.W.hideAll_size _ _
theorem Xv{h:Heap}{H:Hp}{b:Addr}{o:Obj}(e:h.get? b=some o)(n:H b=none):(iR h H).get? b=some o:=
 PySem.W.hideAll_get _ e λ hm=>by
  have q:(H b).isSome=true:=(List.mem_filter.mp hm).2
  rw[n]at q;simp at q
theorem Te{h:Heap}{H:Hp}{b:Addr}{o:Obj}(e:(iR h H).get? b=some o):h.get? b=some o/\H b=none:=by
 have e':h.get? b=some o:=PySem.W.of_hideAll (rE h H) e
 refine⟨e',?_⟩
 cases q:H b with
 |none=>rfl
 |some x=>
  have hm:b∈rE h H:=List.mem_filter.mpr ⟨List.mem_range.mpr (Heap.lt_size e'),by simp[q]⟩
  have z:(iR h H).get? b=none:=PySem.W.hideAll_none (rE h H) hm
  rw[z]at e;cases e
def CS(g h:Heap)(L:Addr):List (Addr×Obj):=(List.range h.objs.size).filterMap λ a=>if a=L\/(g.get? a).isSome=true then none else(h.get? a).map λ o=>(a,o)
def rest(g h:Heap)(L d:Addr):List (Addr×Obj):=(CS g h L).filter λ p=>decide (p.1≠d)
structure Mod(K:Qf)(mg:Qk)(base:Heap):Prop where
 kin:K.In base
 glob:base.Ns mainGlobals mg
 blt:∃mb,base.Ns builtinsNs mb/\∀x:Str,x≠ "__name__"->mb x=bootBuiltins x
 nolimit:base.NoLimit
structure Cx where
 prog:Program
 w:World
 K:PySem.W.Frag
 mg:Str->Option Value
 base:Heap
 A:Around
 N:List Str
 s₀:Shared
 H₀:Hp
 env:Env
 outer:List Env
 stack:List Env
 ex:List Addr
 fn:Str->Bool
 calm:Bool
 pn:List (Addr×Obj)
 xe:Value->Shared->Prop
def cC(l:List Env):List Addr:=l.filterMap (·.frame)
abbrev Cx.fs(X:Cx):List Addr:=cC X.outer
def yJ(sc:Scope)(x:Str):Prop:=sc.names.lookup x=some .local\/sc.names.lookup x=some .cell\/sc.names.lookup x=some .free
def qS(sc:Scope)(x:Str):Prop:=sc.names.lookup x=some .local\/sc.names.lookup x=some .cell
def DA(env:Env)(h:Heap)(m:Qk)(x:Str)(u:Value):Prop:=
 (env.kindOf x=some .local/\m x=some u)\/((env.kindOf x=some .cell\/env.kindOf x=some .free)/\∃c,env.cells.lookup x=some c/\h.IsCell c (some u))
structure Cx.Ok(X:Cx):Prop where
 mod:Mod X.K X.mg X.base
 kind:X.env.scope.kind= .function
 glob:X.env.globals=mainGlobals
 blt:X.env.builtins=builtinsNs
 above:X.s₀.heap.objs.size<=X.env.locals
 inj:∀x y c,X.env.cells.lookup x=some c->X.env.cells.lookup y=some c->x=y
 has:∀x,(X.env.kindOf x=some .cell\/X.env.kindOf x=some .free)->∃c,X.env.cells.lookup x=some c
 cab:∀x c,X.fn x=true->X.env.cells.lookup x=some c->X.s₀.heap.objs.size<=c
 hd:X.calm=true->X.A.handled=none
 frames:X.A.frames=some X.stack
 stk:X.stack=X.outer\/(X.stack=X.env::X.outer/\X.env.frame=some X.env.locals)
 exf:∀b∈X.ex,b≠X.env.locals/\∀x c,X.env.cells.lookup x=some c->c≠b
 bs:∀b o,X.base.get? b=some o->X.s₀.heap.get? b=some o/\X.H₀ b=none
 bsz:X.base.objs.size<=X.s₀.heap.objs.size
 noex:∀b o,X.base.get? b=some o->b∉X.ex
 exfs:∀b∈X.ex,b∉X.fs
 funs:X.s₀.heap.FunFrames X.base X.outer
 frf:∀b∈X.fs,X.H₀ b=none
def fZ(g₀ g:Array GenState):Prop:=AllBare g/\g₀.size<=g.size
structure aB(X:Cx)(pins:Qj)(σ:List (Option V))(H:Hp)(s:Shared):Prop where
 ok:X.Ok
 os:s.os=X.s₀.os
 bare:fZ X.s₀.gens s.gens
 base:Un X.fs X.ex X.H₀ H X.s₀.heap s.heap
 loc:∃m,s.heap.Ns X.env.locals m/\∀(i:Nat) (x:Str) (v:V),X.N[i]? =some x->σ[i]? =some (some v)->yJ X.env.scope x->∃u,bE v u/\DA X.env s.heap m x u
 cell:∀x c,X.env.cells.lookup x=some c->∃v,s.heap.IsCell c v
 free:H X.env.locals=none
 freeC:∀x c,X.env.cells.lookup x=some c->H c=none
 pin:∀p∈X.pn++pins,s.heap.get? p.1=some p.2/\H p.1=none/\p.1≠X.env.locals/\p.1∉X.fs/\∀v,p.2.data≠ .cell v
 hok:bW X.prog X.w H s.heap
 len:σ.length=X.N.length
section
variable{X:Cx}{pins:Qj}{σ:List (Option V)}{H H':Hp}{s:Shared}{h':Heap}
theorem Cx.Ok.nofr(ok:X.Ok){b:Addr}{o:Obj}(e:X.base.get? b=some o):b∉X.fs:=λ hb=>by
 have:=(ok.funs.mem hb).1
 rw[e]at this;cases this
theorem aB.bs(I:aB X pins σ H s):∀b o,X.base.get? b=some o->s.heap.get? b=some o/\H b=none:=λ b o e=>
 ⟨I.base.keep b o (I.ok.bs b o e).1 (I.ok.bs b o e).2 (I.ok.nofr e) (I.ok.noex b o e),I.base.free b o (I.ok.bs b o e).1 (I.ok.bs b o e).2 (I.ok.noex b o e)⟩
theorem aB.bk(I:aB X pins σ H s):∀b o,X.base.get? b=some o->s.heap.get? b=some o:=λ b o e=>(I.bs b o e).1
theorem aB.mod(I:aB X pins σ H s):Mod X.K X.mg X.base:=I.ok.mod
theorem aB.kIn(I:aB X pins σ H s):X.K.In s.heap:=I.ok.mod.kin.keeps I.bk
theorem aB.nolimit(I:aB X pins σ H s):s.heap.NoLimit:=I.ok.mod.nolimit.keeps I.bk
theorem aB.fr(I:aB X pins σ H s):∃m,Fr X.base X.env.locals s.heap m:=
 let⟨m,hn,_⟩:=I.loc
 ⟨m,hn,I.bk,Nat.le_trans I.ok.bsz I.ok.above⟩
theorem aB.lt(I:aB X pins σ H s):X.env.locals<s.heap.objs.size:=let⟨_,hn,_⟩:=I.loc;hn.lt
theorem aB.sz(I:aB X pins σ H s):X.s₀.heap.objs.size<=s.heap.objs.size:=Nat.le_trans I.ok.above (Nat.le_of_lt I.lt)
theorem aB.nofs(I:aB X pins σ H s){a:Addr}(h:s.heap.objs.size<=a):a∉X.fs:=λ hb=>by
 obtain⟨_,o,ho,_⟩:=I.ok.funs.mem hb
 exact absurd (Nat.lt_of_lt_of_le (Heap.lt_size ho) (Nat.le_trans I.sz h)) (Nat.lt_irrefl _)
theorem aB.cne(I:aB X pins σ H s):∀x c,X.env.cells.lookup x=some c->c≠X.env.locals:=λ x c e z=>by
 obtain⟨v,o,ho,hd⟩:=I.cell x c e
 obtain⟨m,⟨o',es,ep,ho',hd',_⟩,_⟩:=I.loc
 rw[z,ho']at ho;cases ho;rw[hd']at hd;cases hd
theorem aB.funs(I:aB X pins σ H s):s.heap.FunFrames X.base X.outer:=by
 have all:∀(l:List Env),(∀b∈cC l,b∈X.fs)->X.s₀.heap.FunFrames X.base l->s.heap.FunFrames X.base l:=by
  intro l
  induction l with
  |nil=>intro _ _;trivial
  |cons env r ih=>
   intro hs hl
   obtain⟨hk,⟨L,o,hf,hn,ho,hd⟩,hr⟩:=hl
   have hL:L∈X.fs:=hs L (by unfold cC;rw[List.filterMap_cons,hf];exact List.mem_cons_self)
   obtain⟨sl,e⟩:=I.base.slot L o ho (I.ok.frf L hL) hL λ z=>I.ok.exfs L z hL
   exact⟨hk,⟨L,_,hf,hn,e,hd⟩,ih (λ b hb=>hs b (by unfold cC;rw[List.filterMap_cons,hf];exact List.mem_cons_of_mem _ hb)) hr⟩
 exact all X.outer (λ _ hb=>hb) I.ok.funs
theorem aB.stack(I:aB X pins σ H s):s.heap.FunFrames X.base X.stack:=by
 rcases I.ok.stk with e|⟨e,hf⟩
 ·rw[e];exact I.funs
 ·rw[e]
  obtain⟨m,hn,_⟩:=I.loc
  refine .cons (by rw[I.ok.kind];decide) hf hn ?_ I.funs
  exact Heap.get?_none_of_le (Nat.le_trans I.ok.bsz I.ok.above)
theorem aB.stkSub(I:aB X pins σ H s):∀b∈cC X.stack,b∈X.env.locals::X.fs:=λ b hb=>by
 rcases I.ok.stk with e|⟨e,hf⟩
 ·rw[e]at hb;exact List.mem_cons_of_mem _ hb
 ·rw[e]at hb
  unfold cC at hb
  rw[List.filterMap_cons,hf]at hb
  exact hb
theorem aB.stkFree(I:aB X pins σ H s):∀b∈cC X.stack,H b=none:=λ b hb=>by
 rcases List.mem_cons.mp (I.stkSub b hb)with e|hb
 ·rw[e];exact I.free
 ·obtain⟨_,o,ho,_⟩:=I.ok.funs.mem hb
  exact I.base.free b o ho (I.ok.frf b hb) λ z=>I.ok.exfs b z hb
theorem aB.step{g':Array GenState}{t':Nat}{d':Drawn}{ch:List Addr}(I:aB X pins σ H s)
  (hch:∀b∈ch,(b∈X.ex\/X.s₀.heap.objs.size<=b)/\b≠X.env.locals/\(∀x c,X.env.cells.lookup x=some c->c≠b)/\∀p∈X.pn++pins,p.1≠b)
  (keep:∀b o,b≠X.env.locals->b∉X.fs->b∉ch->s.heap.get? b=some o->H b=none->h'.get? b=some o)
  (slot:∀b o,b≠X.env.locals->b∈X.fs->b∉ch->s.heap.get? b=some o->H b=none->∃sl,h'.get? b=some {o with slots:=sl}) (free:∀b o,b∉ch->s.heap.get? b=some o->H b=none->H' b=none)
  (there:∀b o,b∉ch->s.heap.get? b=some o->∃o',h'.get? b=some o')
  (tups:∀b xs,H b=some (.tup xs)->H' b=some (.tup xs)) (frzs:∀b o u,H b=some (.frz o u)->H' b=some (.frz o u)) (tbls:∀b ps,H b=some (.tbl ps)->∃more,H' b=some (.tbl (ps++more)))
  (ns:∀m,s.heap.Ns X.env.locals m->h'.Ns X.env.locals m) (hok:bW X.prog X.w H' h') (hg:fZ s.gens g'):
  aB X pins σ H' {s with heap:=h',gens:=g',drawn:=d',toks:=t'}:=by
 have neL:∀b o,X.s₀.heap.get? b=some o->b≠X.env.locals:=λ b o e=>Nat.ne_of_lt (Nat.lt_of_lt_of_le (Heap.lt_size e) I.ok.above)
 have neC:∀b o,X.s₀.heap.get? b=some o->b∉X.ex->b∉ch:=λ b o e hx hb=>by
  rcases(hch b hb).1 with z|z
  ·exact hx z
  ·exact absurd (Nat.lt_of_lt_of_le (Heap.lt_size e) z) (Nat.lt_irrefl _)
 have cellK:∀x c,X.env.cells.lookup x=some c->∀v,s.heap.IsCell c v->h'.IsCell c v:=λ x c e v ⟨o,ho,hd⟩=>by
  have nch:c∉ch:=λ z=>(hch c z).2.2.1 x c e rfl
  by_cases hc:c∈X.fs
  ·obtain⟨sl,q⟩:=slot c o (I.cne x c e) hc nch ho (I.freeC x c e)
   exact⟨_,q,hd⟩
  ·exact⟨o,keep c o (I.cne x c e) hc nch ho (I.freeC x c e),hd⟩
 refine⟨I.ok,I.os,⟨hg.1,Nat.le_trans I.bare.2 hg.2⟩,⟨λ b o e n hb hx=>?_,λ b o e n hb hx=>?_,λ b o e n hx=>?_,λ b o e hx=>?_,λ b xs e=>tups b xs (I.base.tups b xs e),λ b o xs e=>frzs b o xs (I.base.frzs b o xs e),λ b ps e=>?_⟩,?_,λ x c e=>?_,?_,λ x c e=>?_,λ p hp=>?_,hok,I.len⟩
 ·exact keep b o (neL b o e) hb (neC b o e hx) (I.base.keep b o e n hb hx) (I.base.free b o e n hx)
 ·obtain⟨sl,e1⟩:=I.base.slot b o e n hb hx
  obtain⟨sl',e2⟩:=slot b _ (neL b o e) hb (neC b o e hx) e1 (I.base.free b o e n hx)
  exact⟨sl',e2⟩
 ·obtain⟨o',e1⟩:=I.base.there b o e hx
  exact free b o' (neC b o e hx) e1 (I.base.free b o e n hx)
 ·obtain⟨o',e1⟩:=I.base.there b o e hx
  exact there b o' (neC b o e hx) e1
 ·obtain⟨m1,e1⟩:=I.base.tbls b ps e
  obtain⟨m2,e2⟩:=tbls b _ e1
  exact⟨m1++m2,by rw[e2,Array.append_assoc]⟩
 ·obtain⟨m,hn,hl⟩:=I.loc
  refine⟨m,ns m hn,λ i x v e1 e2 e3=>?_⟩
  obtain⟨u,r,l⟩:=hl i x v e1 e2 e3
  refine⟨u,r,?_⟩
  rcases l with l|⟨k,c,e,z⟩
  ·exact .inl l
  ·exact .inr ⟨k,c,e,cellK x c e _ z⟩
 ·obtain⟨v,z⟩:=I.cell x c e
  exact⟨v,cellK x c e v z⟩
 ·obtain⟨m,⟨o,_,_,ho,_⟩,_⟩:=I.loc
  exact free _ o (λ z=>(hch _ z).2.1 rfl) ho I.free
 ·obtain⟨v,o,ho,hd⟩:=I.cell x c e
  exact free c o (λ z=>(hch c z).2.2.1 x c e rfl) ho (I.freeC x c e)
 ·obtain⟨e,n,ne,nf,d⟩:=I.pin p hp
  have nch:p.1∉ch:=λ z=>(hch p.1 z).2.2.2 p hp rfl
  exact⟨keep p.1 p.2 ne nf nch e n,free p.1 p.2 nch e n,ne,nf,d⟩
theorem aB.un{t':Nat}(I:aB X pins σ H s)(u:Un X.fs [] H H' s.heap h')(hok:bW X.prog X.w H' h'):aB X pins σ H' {s with heap:=h',toks:=t'}:=by
 obtain⟨m,⟨o,es,ep,ho,r⟩,_⟩:=id I.loc
 obtain⟨sl,hL⟩:=u.any ho I.free Qb
 exact I.step (g':=s.gens) (d':=s.drawn) (ch:=[]) (λ _ z=>nomatch z) (λ b o _ hb _ e n=>u.keep b o e n hb Qb) (λ b o _ hb _ e n=>u.slot b o e n hb Qb) (λ b o _ e n=>u.free b o e n Qb) (λ b o _ e=>u.there b o e Qb) u.tups u.frzs u.tbls (λ m' hm=>by
  obtain⟨o',es',ep',ho',r'⟩:=hm
  rw[ho]at ho';cases ho'
  exact⟨_,es',ep',hL,r'⟩) hok ⟨I.bare.1,Nat.le_refl _⟩
theorem aB.call{g':Array GenState}{t':Nat}{d':Drawn}{ch:List Addr}(I:aB X pins σ H s)(u:Un (cC X.stack) ch H H' s.heap h')(hok:bW X.prog X.w H' h')(hg:fZ s.gens g')
  (hch:∀b∈ch,(b∈X.ex\/X.s₀.heap.objs.size<=b)/\b≠X.env.locals/\(∀x c,X.env.cells.lookup x=some c->c≠b)/\∀p∈X.pn++pins,p.1≠b):
  aB X pins σ H' {s with heap:=h',gens:=g',drawn:=d',toks:=t'}:=by
 obtain⟨m,⟨o,es,ep,ho,r⟩,_⟩:=id I.loc
 obtain⟨sl,hL⟩:=u.any ho I.free λ z=>(hch _ z).2.1 rfl
 exact I.step (ch:=ch) hch (λ b o hL hb hc e n=>u.keep b o e n (λ z=>(List.mem_cons.mp (I.stkSub b z)).elim hL hb) hc) (λ b o _ _ hc e n=>u.any e n hc) (λ b o hc e n=>u.free b o e n hc) (λ b o hc e=>u.there b o e hc) u.tups u.frzs u.tbls (λ m' hm=>by
  obtain⟨o',es',ep',ho',r'⟩:=hm
  rw[ho]at ho';cases ho'
  exact⟨_,es',ep',hL,r'⟩) hok hg
theorem aB.turned{t':Nat}{it:Addr}(I:aB X pins σ H s)(k:∀b o,b≠it->s.heap.get? b=some o->h'.get? b=some o)(hn:H it=none)(hL:it≠X.env.locals)
  (h1:it∈X.ex\/X.s₀.heap.objs.size<=it) (h2:∀x c,X.env.cells.lookup x=some c->c≠it) (h3:∀p∈X.pn++pins,p.1≠it):aB X pins σ H {s with heap:=h',toks:=t'}:=by
 have nit:∀b u,H b=some u->b≠it:=λ b u e z=>by rw[z,hn]at e;cases e
 refine I.step (g':=s.gens) (d':=s.drawn) (ch:=[it]) (λ b hb=>?_) (λ b o _ _ hc e _=>k b o (λ z=>hc (by simp[z])) e) (λ b o _ _ hc e _=>⟨o.slots,k b o (λ z=>hc (by simp[z])) e⟩) (λ _ _ _ _ n=>n)
  (λ b o hc e=>⟨o,k b o (λ z=>hc (by simp[z])) e⟩) (λ _ _ e=>e) (λ _ _ _ e=>e) (λ b ps e=>⟨#[],by rw[e];simp⟩) (λ m hm=>?_) (λ b u e=>?_) ⟨I.bare.1,Nat.le_refl _⟩
 ·have e:b=it:=by simpa using hb
  subst e
  exact⟨h1,hL,h2,h3⟩
 ·obtain⟨o,es,ep,ho,r⟩:=hm
  exact⟨o,es,ep,k _ o (Ne.symm hL) ho,r⟩
 ·refine(I.hok b u e).stay (λ c v hc q=>k c v ?_ q) (λ _ q=>q) λ _ _ q=>q
  rcases hc with z|z
  ·rw[z];exact nit b u e
  ·exact nit c _ z
theorem aB.tok(I:aB X pins σ H s)(t:Nat):aB X pins σ H {s with toks:=t}:=I.un (h':=s.heap) (t':=t) Un.refl I.hok
theorem aB.kept{t':Nat}(I:aB X pins σ H s)(k:∀b u,s.heap.get? b=some u->h'.get? b=some u):aB X pins σ H {s with heap:=h',toks:=t'}:=I.un (Un.kept k) (I.hok.kept k)
theorem aB.laid{a:Addr}{o:HO}{t':Nat}(I:aB X pins σ H s)(k:∀b u,s.heap.get? b=some u->h'.get? b=some u)(hp:s.heap.objs.size<=a)(new:cT X.prog X.w (aA H a o) h' a o):
  aB X pins σ (aA H a o) {s with heap:=h',toks:=t'}:=I.un (Un.laid k hp (I.hok.fresh hp)) (I.hok.laid k hp new)
theorem aB.write{x e:Addr}{o:HO}{t':Nat}(I:aB X pins σ H s)(mu:iY (H x))(he:e=x\/H e=some (.own x))(k:∀b u,b≠e->s.heap.get? b=some u->h'.get? b=some u)(heo:∃u,h'.get? e=some u)
  (new:cT X.prog X.w (aA H x o) h' x o):aB X pins σ (aA H x o) {s with heap:=h',toks:=t'}:=I.un (Un.write mu he k heo) (I.hok.write mu he k heo new)
theorem aB.weak{σ':List (Option V)}(I:aB X pins σ H s)(hl:σ'.length=σ.length)(w:∀(i:Nat) v,σ'[i]? =some (some v)->σ[i]? =some (some v)):aB X pins σ' H s:=
 ⟨I.ok,I.os,I.bare,I.base,let⟨m,hn,hl'⟩:=I.loc;⟨m,hn,λ i x v e1 e2 e3=>hl' i x v e1 (w i v e2) e3⟩,I.cell,I.free,I.freeC,I.pin,I.hok,hl.trans I.len⟩
theorem aB.pins_of{pins':Qj}(I:aB X pins σ H s)(h:∀p∈pins',s.heap.get? p.1=some p.2/\H p.1=none/\p.1≠X.env.locals/\p.1∉X.fs/\∀v,p.2.data≠ .cell v):aB X pins' σ H s:=
 ⟨I.ok,I.os,I.bare,I.base,I.loc,I.cell,I.free,I.freeC,λ p hp=>(List.mem_append.mp hp).elim (λ z=>I.pin p (List.mem_append_left _ z)) (h p),I.hok,I.len⟩
theorem xF{N:List Str}(hN:N.Nodup){i j:Nat}{x:Str}(a:N[i]? =some x)(b:N[j]? =some x):i=j:=by
 obtain⟨h1,e1⟩:=List.getElem?_eq_some_iff.mp a
 obtain⟨h2,e2⟩:=List.getElem?_eq_some_iff.mp b
 exact(List.getElem_inj hN).mp (e1.trans e2.symm)
theorem Bh{M:Model}{A:Around}{E:Qh}{i:Nat}{x:Str}{v:V}{u:Value}{Q:Unit->Shared->Prop}(I:aB X pins σ H s)(hN:X.N.Nodup)(hi:X.N[i]? =some x)(hx:qS X.env.scope x)(r:bE v u)
  (h:∀s',aB X pins (σ.set i (some v)) H s'->(∃a,Heap.SameBut a s.heap s'.heap/\(a=X.env.locals\/X.env.cells.lookup x=some a))->Q () s') (hf:X.fn x=true\/X.env.scope.names.lookup x=some .local:=by first|exact .inl rfl|exact .inr rfl|assumption):wpAny M A (storeName X.env x u) Q E s:=by
 obtain⟨m,hn,hl⟩:=id I.loc
 have hcls:(X.env.scope.kind== .class||(X.env.scope.kind== .module&&X.env.locals !=X.env.globals))=false:=by rw[I.ok.kind];rfl
 have hiσ:i<σ.length:=by rw[I.len];exact(List.getElem?_eq_some_iff.mp hi).1
 have cne:=I.cne
 have tracked:∀{a:Addr} {h':Heap},(∃o,s.heap.get? a=some o/\H a=none)->Heap.SameBut a s.heap h'->bW X.prog X.w H h':=fun{a h'} ha hs b ob e=>by
  obtain⟨_,_,hfree⟩:=ha
  refine(I.hok b ob e).stay (λ c w' hc q=>(hs.2 c ?_).trans q) (λ _ q=>q) λ _ _ q=>q
  rintro rfl
  rcases hc with rfl|hc
  ·rw[hfree]at e;cases e
  ·rw[hfree]at hc;cases hc
 rcases hx with hk|hk
 ·refine wpAny_storeName_local hk hn (λ h' hn' hs=>?_) hcls
  obtain⟨oL,_,_,hoL,_⟩:=id hn
  refine h _ ⟨I.ok,I.os,I.bare,⟨λ b o e n hb hx=>?_,λ b o e n hb hx=>?_,I.base.free,λ b o e hx=>?_,I.base.tups,I.base.frzs,I.base.tbls⟩,⟨_,hn',λ j y v' e1 e2 e3=>?_⟩,λ y c e=>?_,I.free,I.freeC,λ p hp=>?_,tracked ⟨oL,hoL,I.free⟩ hs,by simpa using I.len⟩ ⟨_,hs,.inl rfl⟩
  ·exact(hs.2 b (Nat.ne_of_lt (Nat.lt_of_lt_of_le (Heap.lt_size e) I.ok.above))).trans (I.base.keep b o e n hb hx)
  ·obtain⟨sl,e1⟩:=I.base.slot b o e n hb hx
   exact⟨sl,(hs.2 b (Nat.ne_of_lt (Nat.lt_of_lt_of_le (Heap.lt_size e) I.ok.above))).trans e1⟩
  ·obtain⟨o',e1⟩:=I.base.there b o e hx
   exact⟨o',(hs.2 b (Nat.ne_of_lt (Nat.lt_of_lt_of_le (Heap.lt_size e) I.ok.above))).trans e1⟩
  ·by_cases hj:j=i
   ·subst hj
    rw[hi]at e1;cases e1
    rw[List.getElem?_set_self hiσ]at e2
    cases e2
    exact⟨u,r,.inl ⟨hk,Qb⟩⟩
   ·rw[List.getElem?_set_ne (Ne.symm hj)]at e2
    obtain⟨u',r',q⟩:=hl j y v' e1 e2 e3
    refine⟨u',r',?_⟩
    rcases q with⟨k,e⟩|⟨k,c,e,z⟩
    ·refine .inl ⟨k,?_⟩
     have:y≠x:=λ e=>hj (xF hN e1 (e▸hi))
     simp[this,e]
    ·exact .inr ⟨k,c,e,z.sameBut hs (cne y c e)⟩
  ·obtain⟨w',z⟩:=I.cell y c e
   exact⟨w',z.sameBut hs (cne y c e)⟩
  ·obtain⟨e,n,ne,nf,d⟩:=I.pin p hp
   exact⟨(hs.2 p.1 ne).trans e,n,ne,nf,d⟩
 ·have hfn:X.fn x=true:=by
   rcases hf with z|z
   ·exact z
   ·rw[z]at hk;cases hk
  obtain⟨c,hc⟩:=I.ok.has x (.inl hk)
  obtain⟨w',z⟩:=I.cell x c hc
  refine wpAny_storeName_cell I.ok.kind hk hc z (λ h' hc' hs=>?_)
  obtain⟨oc,hoc,hocd⟩:=id z
  refine h {s with heap:=h'} ⟨I.ok,I.os,I.bare,⟨λ b o e n hb hx=>?_,λ b o e n hb hx=>?_,I.base.free,λ b o e hx=>?_,I.base.tups,I.base.frzs,I.base.tbls⟩,⟨m,hn.sameBut hs (Ne.symm (cne x c hc)),λ j y v' e1 e2 e3=>?_⟩,λ y c' e=>?_,I.free,I.freeC,λ p hp=>?_,tracked ⟨oc,hoc,I.freeC x c hc⟩ hs,by simpa using I.len⟩ ⟨c,hs,.inr hc⟩
  ·exact(hs.2 b (Nat.ne_of_lt (Nat.lt_of_lt_of_le (Heap.lt_size e) (I.ok.cab x c hfn hc)))).trans (I.base.keep b o e n hb hx)
  ·obtain⟨sl,e1⟩:=I.base.slot b o e n hb hx
   exact⟨sl,(hs.2 b (Nat.ne_of_lt (Nat.lt_of_lt_of_le (Heap.lt_size e) (I.ok.cab x c hfn hc)))).trans e1⟩
  ·obtain⟨o',e1⟩:=I.base.there b o e hx
   exact⟨o',(hs.2 b (Nat.ne_of_lt (Nat.lt_of_lt_of_le (Heap.lt_size e) (I.ok.cab x c hfn hc)))).trans e1⟩
  ·by_cases hj:j=i
   ·subst hj
    rw[hi]at e1;cases e1
    rw[List.getElem?_set_self hiσ]at e2
    cases e2
    exact⟨u,r,.inr ⟨.inl hk,c,hc,hc'⟩⟩
   ·rw[List.getElem?_set_ne (Ne.symm hj)]at e2
    obtain⟨u',r',q⟩:=hl j y v' e1 e2 e3
    refine⟨u',r',?_⟩
    rcases q with q|⟨k,c',e,z'⟩
    ·exact .inl q
    ·refine .inr ⟨k,c',e,z'.sameBut hs ?_⟩
     rintro rfl
     exact hj (xF hN e1 (I.ok.inj _ _ _ e hc▸hi))
  ·by_cases hcc:c'=c
   ·subst hcc;exact⟨_,hc'⟩
   ·obtain⟨w2,z2⟩:=I.cell y c' e
    exact⟨w2,z2.sameBut hs hcc⟩
  ·obtain⟨e,n,ne,nf,d⟩:=I.pin p hp
   refine⟨(hs.2 p.1 ?_).trans e,n,ne,nf,d⟩
   intro q
   rw[q,hoc]at e
   have q':oc=p.2:=Option.some.inj e
   exact d w' (by rw[<-q'];exact hocd)
theorem vE{M:Model}{A:Around}{E:Qh}{i:Nat}{x:Str}{v:V}{u:Value}{Q:Unit->Shared->Prop}(I:aB X pins σ H s)(hN:X.N.Nodup)(hi:X.N[i]? =some x)(hx:qS X.env.scope x)(r:bE v u)
  (h:∀s',aB X pins (σ.set i (some v)) H s'->Q () s') (hf:X.fn x=true\/X.env.scope.names.lookup x=some .local:=by first|exact .inl rfl|exact .inr rfl|assumption):wpAny M A (storeName X.env x u) Q E s:=
 Bh I hN hi hx r (λ s' I' _=>h s' I') hf
theorem aB.call'{s':Shared}{ch:List Addr}(I:aB X pins σ H s)(ho:s'.os=s.os)(u:Un (cC X.stack) ch H H' s.heap s'.heap)(hok:bW X.prog X.w H' s'.heap)(hg:fZ s.gens s'.gens)
  (hch:∀b∈ch,(b∈X.ex\/X.s₀.heap.objs.size<=b)/\b≠X.env.locals/\(∀x c,X.env.cells.lookup x=some c->c≠b)/\∀p∈X.pn++pins,p.1≠b):aB X pins σ H' s':=by
 obtain⟨h',g',d',t',o'⟩:=s'
 have e:o'=s.os:=ho
 subst e
 exact I.call (g':=g') (t':=t') (d':=d') u hok hg hch
end
abbrev XK:=Value->Option Addr->Hp->Prop
abbrev St:=List (Option V)
abbrev VK:=V->Hp->Prop
abbrev TE:=St->Hp->VK->Prop
abbrev TT:=St->Hp->(Bool->Hp->Prop)->Prop
abbrev TA:=St->Hp->(List V->Hp->Prop)->Prop
structure iJ where
 nx:St->Hp->Prop
 rt:VK
 bk:St->Hp->Prop:=λ _ _=>False
 ct:St->Hp->Prop:=λ _ _=>False
abbrev TS:=iJ->St->Hp->Prop
def EP(X:Cx)(pins:Qj)(σ:St)(Q:VK)(u:Value)(s':Shared):Prop:=∃v H',aB X pins σ H' s'/\bE v u/\Q v H'
def TP(X:Cx)(pins:Qj)(σ:St)(Q:Bool->Hp->Prop)(b:Bool)(s':Shared):Prop:=∃H',aB X pins σ H' s'/\Q b H'
def AP(X:Cx)(pins:Qj)(σ:St)(Q:List V->Hp->Prop)(us:List Value)(s':Shared):Prop:=∃vs H',aB X pins σ H' s'/\aW vs us/\Q vs H'
def SP(X:Cx)(pins:Qj)(D:iJ)(f:Flow)(s':Shared):Prop:=
 match f with
 |.next=>∃σ' H',aB X pins σ' H' s'/\D.nx σ' H'
 |.brk=>∃σ' H',aB X pins σ' H' s'/\D.bk σ' H'
 |.cont=>∃σ' H',aB X pins σ' H' s'/\D.ct σ' H'
 |.ret u=>∃v σ' H',aB X pins σ' H' s'/\bE v u/\D.rt v H'
def PE(X:Cx)(e:Expr)(t:TE):Prop:=
 ∀(pins:Qj) (s:Shared) (σ:St) (H:Hp) (Q:VK),aB X pins σ H s->t σ H Q->wpAny (model X.prog X.w) X.A (eval e X.env) (EP X pins σ Q) X.xe s
def PT(X:Cx)(e:Expr)(t:TT):Prop:=
 ∀(pins:Qj) (s:Shared) (σ:St) (H:Hp) (Q:Bool->Hp->Prop),aB X pins σ H s->t σ H Q->wpAny (model X.prog X.w) X.A (isTrue e X.env (eval e X.env)) (TP X pins σ Q) X.xe s
def PW(X:Cx)(e:Expr)(t:TT):Prop:=
 ∀(whole:Sem Value) (pins:Qj) (s:Shared) (σ:St) (H:Hp) (Q:Bool->Hp->Prop),aB X pins σ H s->t σ H Q->wpAny (model X.prog X.w) X.A (isTrue e X.env whole) (TP X pins σ Q) X.xe s
theorem PW.pt{X:Cx}{e:Expr}{t:TT}(h:PW X e t):PT X e t:=h _
def PA(X:Cx)(es:List Expr)(t:TA):Prop:=
 ∀(pos:Pos) (pins:Qj) (s:Shared) (σ:St) (H:Hp) (Q:List V->Hp->Prop),aB X pins σ H s->t σ H Q->wpAny (model X.prog X.w) X.A (spliced (backTo pos (starEach es X.env))) (AP X pins σ Q) X.xe s
def PS(X:Cx)(st:Stmt)(t:TS):Prop:=
 ∀(pins:Qj) (s:Shared) (σ:St) (H:Hp) (D:iJ),aB X pins σ H s->t D σ H->wpAny (model X.prog X.w) X.A (exec st X.env) (SP X pins D) X.xe s
def eJ(X:Cx)(st:List Stmt)(t:TS):Prop:=
 ∀(pins:Qj) (s:Shared) (σ:St) (H:Hp) (D:iJ),aB X pins σ H s->t D σ H->wpAny (model X.prog X.w) X.A (execs st X.env) (SP X pins D) X.xe s
theorem aU{α:Type}{t:Sem α}{Q Q':α->Shared->Prop}{M:Model}{A:Around}{E:Qh}{s:Shared}(h:wpAny M A t Q E s)(hQ:∀a s,Q a s->Q' a s):wpAny M A t Q' E s:=wpAny_mono h hQ λ _ _ x=>x
section
variable{X:Cx}
def Bb(i:Nat):TE:=λ σ H Q=>∃v,σ[i]? =some (some v)/\Q v H
def tC(v:V):TE:=λ _ H Q=>Q v H
theorem Pm{i:Nat}{x:Str}{pos:Pos}(hN:X.N[i]? =some x)(hv:yJ X.env.scope x)(hd:(x==("__debug__" :Str))=false:=by decide)(hcd:(x==("__classdict__" :Str))=false:=by decide):PE X (.Name x pos) (Bb i):=by
 intro pins s σ H Q I h
 obtain⟨v,e,h⟩:=h
 obtain⟨m,hn,hl⟩:=I.loc
 obtain⟨u,r,l⟩:=hl i x v hN e hv
 have fin:EP X pins σ Q u s:=⟨v,H,I,r,h⟩
 rcases l with⟨hk,hm⟩|⟨hk,c,hc,hcell⟩
 ·exact wpAny_Name (wpAny_loadName_local I.ok.kind hk hn hm fin) hd
 ·rcases hk with hk|hk
  ·exact wpAny_Name (wpAny_loadName_cell I.ok.kind hk hc hcell fin) hd
  ·exact wpAny_Name (wpAny_loadName_free I.ok.kind hk hc hcell fin hcd) hd
theorem aK{i j pos}:PE X (.Constant (.int i) j pos) (tC (.int i)):=λ _ _ _ H _ I h=>wpAny_Constant_int ⟨.int i,H,I.tok _,⟨_,rfl⟩,h⟩
theorem jK{b j pos}:PE X (.Constant (.bool b) j pos) (tC (.bl b)):=λ _ _ _ H _ I h=>Constant_bool ⟨.bl b,H,I,rfl,h⟩
theorem Pq{j pos}:PE X (.Constant .none j pos) (tC .non):=λ _ _ _ H _ I h=>Constant_none ⟨.non,H,I,rfl,h⟩
theorem bJ{x j pos}:PE X (.Constant (.str x) j pos) (tC (.str x)):=λ _ _ _ H _ I h=>Calls.Constant_str ⟨.str x,H,I.tok _,⟨_,rfl⟩,h⟩
def Gl(X:Cx)(x:Str):Prop:=X.env.kindOf x=some .globalImplicit
theorem nM{E:Qh}{pins:Qj}{s:Shared}{σ:St}{H:Hp}{x:Str}{u:Value}{pos:Pos}{Q:Qh}(I:aB X pins σ H s)(hg:Gl X x)(hm:X.mg x=some u)(h:Q u s)
  (hd:(x==("__debug__" :Str))=false:=by decide):wpAny (model X.prog X.w) X.A (eval (.Name x pos) X.env) Q E s:=
 Calls.Name_function_global I.ok.kind hg (Calls.loadGlobal_global (by rw[I.ok.glob];exact I.mod.glob.keeps I.bk) hm h) hd
theorem mE{E:Qh}{pins:Qj}{s:Shared}{σ:St}{H:Hp}{x:Str}{u:Value}{pos:Pos}{Q:Qh}(I:aB X pins σ H s)(hg:Gl X x)(hm:X.mg x=none)(hv:bootBuiltins x=some u)(h:Q u s)
  (hn:x≠ "__name__" :=by decide) (hd:(x==("__debug__" :Str))=false:=by decide):wpAny (model X.prog X.w) X.A (eval (.Name x pos) X.env) Q E s:=by
 obtain⟨mb,h1,h2⟩:=I.mod.blt
 exact Calls.Name_function_global I.ok.kind hg (Calls.loadGlobal_builtin (by rw[I.ok.glob];exact I.mod.glob.keeps I.bk) hm (by rw[I.ok.blt];exact h1.keeps I.bk) ((h2 x hn).trans hv) h) hd
theorem Pr{x:Str}{v:V}{u:Value}{pos:Pos}(hg:Gl X x)(hm:X.mg x=some u)(r:bE v u)(hd:(x==("__debug__" :Str))=false:=by decide):PE X (.Name x pos) (tC v):=
 λ _ _ _ H _ I h=>nM I hg hm ⟨v,H,I,r,h⟩ hd
theorem iQ{x:Str}{v:V}{u:Value}{pos:Pos}(hg:Gl X x)(hm:X.mg x=none)(hv:bootBuiltins x=some u)(r:bE v u)(hn:x≠ "__name__" :=by decide)(hd:(x==("__debug__" :Str))=false:=by decide):PE X (.Name x pos) (tC v):=
 λ _ _ _ H _ I h=>mE I hg hm hv ⟨v,H,I,r,h⟩ hn hd
variable{a b:Expr}{ta tb:TE}{pos:Pos}
def tB(t:TE):TT:=λ σ H Q=>t σ H λ x H1=>∃c,x= .bl c/\Q c H1
theorem fS{e:Expr}{t:TE}(h:PE X e t)(he:∀whole,isTrue e X.env whole=(do let v←whole;standAt e.pos;holding [v] (truthy v)):=by intro _;rfl):PT X e (tB t):=by
  intro pins s σ H Q I hw
  refine isTrue_plain (aU (h pins s σ H _ I hw) λ v s1 ⟨x,H1,I1,r1,q1⟩=>?_) (he _)
  obtain⟨d,rfl,q⟩:=q1
  cases r1
  exact wpAny_truthy_bool ⟨H1,I1,q⟩
variable{tA tB':TT}{rest:List Expr}
def Lp(t u:TT):TT:=λ σ H Q=>t σ H λ c H1=>if c=true then u σ H1 Q else Q false H1
def Ku(t u:TT):TT:=λ σ H Q=>t σ H λ c H1=>if c=true then Q true H1 else u σ H1 Q
def Kv(t:TT):TT:=λ σ H Q=>t σ H λ c H1=>Q (!c) H1
theorem wX(ha:PT X a tA):PW X (.BoolOp .And [a] pos) tA:=by
 intro wh pins s σ H Q I h
 refine isTrue_and (aU (ha pins s σ H Q I h) λ c s1 e=>?_)
 cases c with
 |true=>exact isTrue_and_nil e
 |false=>exact e
theorem sJ(ha:PT X a tA):PW X (.BoolOp .Or [a] pos) tA:=by
 intro wh pins s σ H Q I h
 refine isTrue_or (aU (ha pins s σ H Q I h) λ c s1 e=>?_)
 cases c with
 |false=>exact isTrue_or_nil e
 |true=>exact e
theorem sL(ha:PT X a tA)(hb:PW X (.BoolOp .And (b::rest) pos) tB'):PW X (.BoolOp .And (a::b::rest) pos) (Lp tA tB'):=by
 intro wh pins s σ H Q I h
 refine isTrue_and (aU (ha pins s σ H _ I h) λ c s1 ⟨H1,I1,q1⟩=>?_)
 cases c with
 |true=>exact hb wh pins s1 σ H1 Q I1 q1
 |false=>exact⟨H1,I1,q1⟩
theorem sK(ha:PT X a tA)(hb:PW X (.BoolOp .Or (b::rest) pos) tB'):PW X (.BoolOp .Or (a::b::rest) pos) (Ku tA tB'):=by
 intro wh pins s σ H Q I h
 refine isTrue_or (aU (ha pins s σ H _ I h) λ c s1 ⟨H1,I1,q1⟩=>?_)
 cases c with
 |true=>exact⟨H1,I1,q1⟩
 |false=>exact hb wh pins s1 σ H1 Q I1 q1
theorem jH(ha:PT X a tA):PT X (.UnaryOp .Not a pos) (Kv tA):=by
 intro pins s σ H Q I h
 exact isTrue_not (ha pins s σ H (λ c H1=>Q (!c) H1) I h)
def Lo(ta tb:TE):TE:=λ σ H Q=>ta σ H λ x H1=>∃c,x= .bl c/\if c=true then tb σ H1 Q else Q (.bl false) H1
theorem xA{op}{t:TE}(h:PE X a t):PE X (.BoolOp op [a] pos) t:=λ pins s σ H Q I hw=>BoolOp_one (h pins s σ H Q I hw)
theorem xB(ha:PE X a ta)(hb:PE X (.BoolOp .And (b::rest) pos) tb):PE X (.BoolOp .And (a::b::rest) pos) (Lo ta tb):=by
 intro pins s σ H Q I h
 refine BoolOp_and (aU (ha pins s σ H _ I h) λ v s1 ⟨x,H1,I1,r1,q1⟩=>?_)
 obtain⟨c,rfl,q1⟩:=q1
 cases r1
 refine wpAny_truthy_bool ?_
 cases c with
 |true=>exact hb pins s1 σ H1 Q I1 q1
 |false=>exact⟨.bl false,H1,I1,rfl,q1⟩
def Lg(t:TT)(ta tb:TE):TE:=λ σ H Q=>t σ H λ c H1=>if c=true then ta σ H1 Q else tb σ H1 Q
theorem Dc{c:Expr}(hc:PT X c tA)(ha:PE X a ta)(hb:PE X b tb):PE X (.IfExp c a b pos) (Lg tA ta tb):=by
 intro pins s σ H Q I h
 refine wpAny_IfExp (aU (hc pins s σ H _ I h) λ d s1 ⟨H1,I1,q1⟩=>?_)
 cases d with
 |true=>exact ha pins s1 σ H1 Q I1 q1
 |false=>exact hb pins s1 σ H1 Q I1 q1
end
def aQ(K:Qf)(H:Hp)(a:Addr)(xs:List V):Prop:=
 Rd H a (.lst xs)\/
  ∃(o:Obj) (its:Array Value) (n:Nat),K.lookup a=some o/\o.cls= .type "list"/\o.dict=none/\o.data= .seq its n/\its.size<=sizeLine/\aW xs its.toList
def aJ(K:Qf)(H:Hp)(a:Addr)(xs:List V):Prop:=
 Rd H a (.tup xs)\/
  ∃(o:Obj) (its:Array Value) (n:Nat),K.lookup a=some o/\o.cls= .type "tuple"/\o.data= .seq its n/\its.size<=sizeLine/\aW xs its.toList
def CU:Value->Option V
 |.none=>some .non
 |.bool b=>some (.bl b)
 |.int i _=>some (.int i)
 |.str x _=>some (.str x)
 |.bytes b _=>some (.byt b)
 |.float b _=>some (.flt b)
 |.ref a=>some (.ref a)
 |.type n=>some (.ty n)
 |_=>none
theorem bE.abs{x:V}{u:Value}(r:bE x u):CU u=some x:=by
 cases x with
 |non=>cases r;rfl
 |bl _=>cases r;rfl
 |int _=>obtain⟨t,rfl⟩:=r;rfl
 |str _=>obtain⟨t,rfl⟩:=r;rfl
 |byt _=>obtain⟨t,rfl⟩:=r;rfl
 |flt _=>obtain⟨t,rfl⟩:=r;rfl
 |ref _=>cases r;rfl
 |ty _=>cases r;rfl
theorem bE.inj{x y:V}{u:Value}(r:bE x u)(q:bE y u):x=y:=Option.some.inj (r.abs.symm.trans q.abs)
theorem aW.inj:∀{xs ys:List V} {us:List Value},aW xs us->aW ys us->xs=ys
 |_,_,_,.nil,.nil=>rfl
 |_,_,_,.cons r t,.cons r' t'=>by rw[r.inj r',aW.inj t t']
section
variable{X:Cx}{pins:Qj}{σ:St}{H:Hp}{s:Shared}{a:Addr}{xs ys:List V}
theorem aQ.of{K:Qf}(h:H a=some (.lst xs)):aQ K H a xs:=.inl (.inl h)
theorem aJ.of{K:Qf}(h:H a=some (.tup xs)):aJ K H a xs:=.inl (.inl h)
theorem aB.list(I:aB X pins σ H s)(h:aQ X.K H a xs):∃its:List Value,aW xs its/\PlainL s.heap a its.toArray/\xs.length<=sizeLine:=by
 rcases h with h|⟨o,its,n,hk,hc,hd,hs,hz,r⟩
 ·obtain⟨z,its,n,r,e⟩:=h.ok I.hok
  exact⟨its,r,⟨_,n,e,rfl,rfl,rfl⟩,z⟩
 ·refine⟨its.toList,r,⟨o,n,I.kIn a o hk,hc,hd,by simpa using hs⟩,?_⟩
  have e:=r.length
  simp only[Array.length_toList]at e
  omega
theorem aB.tuple(I:aB X pins σ H s)(h:aJ X.K H a xs):∃its:List Value,aW xs its/\IsTup s.heap a its.toArray/\xs.length<=sizeLine:=by
 rcases h with h|⟨o,its,n,hk,hc,hs,hz,r⟩
 ·obtain⟨z,its,r,p,_⟩:=h.ok I.hok
  exact⟨its,r,p,z⟩
 ·refine⟨its.toList,r,⟨o,I.kIn a o hk,hc,n,by simpa using hs⟩,?_⟩
  have e:=r.length
  simp only[Array.length_toList]at e
  omega
theorem aB.list_inj(I:aB X pins σ H s)(h:aQ X.K H a xs)(h':aQ X.K H a ys):xs=ys:=by
 obtain⟨its,r,⟨o,n,e,_,_,d⟩,_⟩:=I.list h
 obtain⟨its',r',⟨o',n',e',_,_,d'⟩,_⟩:=I.list h'
 rw[e]at e';cases e'
 rw[d]at d'
 injection d' with d1 _
 have:its=its':=by simpa using congrArg Array.toList d1
 subst this
 exact r.inj r'
theorem aB.tuple_inj(I:aB X pins σ H s)(h:aJ X.K H a xs)(h':aJ X.K H a ys):xs=ys:=by
 obtain⟨its,r,⟨o,e,_,n,d⟩,_⟩:=I.tuple h
 obtain⟨its',r',⟨o',e',_,n',d'⟩,_⟩:=I.tuple h'
 rw[e]at e';cases e'
 rw[d]at d'
 injection d' with d1 _
 have:its=its':=by simpa using congrArg Array.toList d1
 subst this
 exact r.inj r'
end
abbrev Cx.wish(X:Cx)(E:Qh):Cx:={X with xe:=E}
abbrev Cx.nox(X:Cx):Cx:=X.wish λ _ _=>False
theorem Cx.Ok.wish{X:Cx}(ok:X.Ok)(E:Qh):(X.wish E).Ok:=
 ⟨ok.mod,ok.kind,ok.glob,ok.blt,ok.above,ok.inj,ok.has,ok.cab,ok.hd,ok.frames,ok.stk,ok.exf,ok.bs,ok.bsz,ok.noex,ok.exfs,ok.funs,ok.frf⟩
theorem Cx.Ok.unwish{X:Cx}{E:Qh}(ok:(X.wish E).Ok):X.Ok:=
 ⟨ok.mod,ok.kind,ok.glob,ok.blt,ok.above,ok.inj,ok.has,ok.cab,ok.hd,ok.frames,ok.stk,ok.exf,ok.bs,ok.bsz,ok.noex,ok.exfs,ok.funs,ok.frf⟩
section
variable{X:Cx}{pins:Qj}{σ:St}{H:Hp}{s:Shared}{E:Qh}
theorem aB.wish(I:aB X pins σ H s)(E:Qh):aB (X.wish E) pins σ H s:=⟨I.ok.wish E,I.os,I.bare,I.base,I.loc,I.cell,I.free,I.freeC,I.pin,I.hok,I.len⟩
theorem aB.unwish(I:aB (X.wish E) pins σ H s):aB X pins σ H s:=⟨I.ok.unwish,I.os,I.bare,I.base,I.loc,I.cell,I.free,I.freeC,I.pin,I.hok,I.len⟩
theorem SP.unwish{D:iJ}{f:Flow}{s':Shared}(h:SP (X.wish E) pins D f s'):SP X pins D f s':=by
 cases f with
 |next=>obtain⟨σ',H',I,q⟩:=h;exact⟨σ',H',I.unwish,q⟩
 |brk=>obtain⟨σ',H',I,q⟩:=h;exact⟨σ',H',I.unwish,q⟩
 |cont=>obtain⟨σ',H',I,q⟩:=h;exact⟨σ',H',I.unwish,q⟩
 |ret u=>obtain⟨v,σ',H',I,r,q⟩:=h;exact⟨v,σ',H',I.unwish,r,q⟩
theorem PE.nox{e:Expr}{t:TE}(h:PE X.nox e t):PE X e t:=λ pins s σ H Q I hw=>
 wpAny_mono (h pins s σ H Q (I.wish _) hw) (λ _ _ ⟨v,H',I',r,q⟩=>⟨v,H',I'.unwish,r,q⟩) λ _ _ z=>False.elim z
theorem PT.nox{e:Expr}{t:TT}(h:PT X.nox e t):PT X e t:=λ pins s σ H Q I hw=>
 wpAny_mono (h pins s σ H Q (I.wish _) hw) (λ _ _ ⟨H',I',q⟩=>⟨H',I'.unwish,q⟩) λ _ _ z=>False.elim z
theorem eJ.nox{st:List Stmt}{t:TS}(h:eJ X.nox st t):eJ X st t:=λ pins s σ H D I hw=>
 wpAny_mono (h pins s σ H D (I.wish _) hw) (λ _ _ q=>q.unwish) λ _ _ z=>False.elim z
end
section
variable{X:Cx}{st:Stmt}{rest:List Stmt}{t u:TS}{e:Expr}{te:TE}{pos:Pos}
def Ky:TS:=λ D σ H=>D.nx σ H
def eM(t u:TS):TS:=λ D σ H=>t {D with nx:=u D} σ H
theorem bR:eJ X [] Ky:=λ _ _ σ H _ I h=>wpAny_execs_nil ⟨σ,H,I,h⟩
theorem pO(h1:PS X st t)(h2:eJ X rest u):eJ X (st::rest) (eM t u):=by
 intro pins s σ H D I h
 refine wpAny_execs_cons (aU (h1 pins s σ H {D with nx:=u D} I h) λ f s1 q=>?_)
 cases f with
 |next=>
  obtain⟨σ',H',I',q⟩:=q
  exact h2 pins s1 σ' H' D I' q
 |ret v=>exact q
 |brk=>exact q
 |cont=>exact q
theorem aV(h1:PS X st t):eJ X [st] t:=by
 intro pins s σ H D I h
 refine wpAny_execs_cons (aU (h1 pins s σ H D I h) λ f s1 q=>?_)
 cases f with
 |next=>exact wpAny_execs_nil q
 |ret v=>exact q
 |brk=>exact q
 |cont=>exact q
theorem aB.quiet{pins:Qj}{σ:St}{H:Hp}{s:Shared}(I:aB X pins σ H s):interactive X.env=false:=by simp[interactive,I.ok.kind]
def Lj(te:TE):TS:=λ D σ H=>te σ H λ _ H1=>D.nx σ H1
theorem lO(he:PE X e te)(hs:swapsWith e none pos.line X.env=pure false:=by rfl):PS X (.Expr e pos) (Lj te):=by
 intro pins s σ H D I h
 exact wpAny_Expr_any (aU (he pins s σ H _ I h) λ v s1 ⟨x,H1,I1,r1,q1⟩=>⟨σ,H1,I1,q1⟩) I.quiet hs
def Kr(te:TE):TS:=λ D σ H=>te σ H D.rt
theorem bF(he:PE X e te):PS X (.Return (some e) pos) (Kr te):=by
 intro pins s σ H D I h
 exact wpAny_Return_some (aU (he pins s σ H _ I h) λ v s1 ⟨x,H1,I1,r1,q1⟩=>⟨x,σ,H1,I1,r1,q1⟩)
def Kq:TS:=λ D _ H=>D.rt .non H
theorem Pa:PS X (.Return none pos) Kq:=λ _ _ σ H _ I h=>wpAny_Return_none ⟨.non,σ,H,I,rfl,h⟩
def Lf(c:TT)(t u:TS):TS:=λ D σ H=>c σ H λ b H1=>if b=true then t D σ H1 else u D σ H1
theorem bS{c:Expr}{a b:List Stmt}{tc:TT}(hc:PT X c tc)(ha:eJ X a t)(hb:eJ X b u):PS X (.If c a b pos) (Lf tc t u):=by
 intro pins s σ H D I h
 refine wpAny_If (aU (hc pins s σ H _ I h) λ d s1 ⟨H1,I1,q1⟩=>?_)
 cases d with
 |true=>exact ha pins s1 σ H1 D I1 q1
 |false=>exact hb pins s1 σ H1 D I1 q1
end
abbrev TG:=V->St->Hp->(St->Hp->Prop)->Prop
abbrev iH:=List V->St->Hp->(St->Hp->Prop)->Prop
def PG(X:Cx)(target:Expr)(t:TG):Prop:=
 ∀(pins:Qj) (s:Shared) (σ:St) (H:Hp) (v:V) (u:Value) (Q:St->Hp->Prop),aB X pins σ H s->bE v u->t v σ H Q->
  wpAny (model X.prog X.w) X.A (assign target X.env u) (λ _ s'=>∃σ' H',aB X pins σ' H' s'/\Q σ' H') X.xe s
def qR(X:Cx)(ts:List Expr)(t:iH):Prop:=
 ∀(pins:Qj) (s:Shared) (σ:St) (H:Hp) (vs:List V) (us:List Value) (Q:St->Hp->Prop),aB X pins σ H s->aW vs us->t vs σ H Q->
  wpAny (model X.prog X.w) X.A (assignInOrder ((assignEach ts X.env).map (·.2)) us) (λ _ s'=>∃σ' H',aB X pins σ' H' s'/\Q σ' H') X.xe s
abbrev yM:=V->V->V->Hp->(Hp->Prop)->Prop
def Ha(X:Cx)(t:yM):Prop:=
 ∀(pins:Qj) (s:Shared) (σ:St) (H:Hp) (o i v:V) (ov iv u:Value) (Q:Hp->Prop),aB X pins σ H s->bE o ov->bE i iv->bE v u->t o i v H Q->
  wpAny (model X.prog X.w) X.A (setItem ov iv u) (λ _ s'=>∃H',aB X pins σ H' s'/\Q H') X.xe s
section
variable{X:Cx}{pos:Pos}
def qA(i:Nat):TG:=λ v σ H Q=>Q (σ.set i (some v)) H
theorem bI{i:Nat}{x:Str}(hN:X.N.Nodup)(hi:X.N[i]? =some x)(hx:qS X.env.scope x)(hf:X.fn x=true\/X.env.scope.names.lookup x=some .local:=by first|exact .inl rfl|exact .inr rfl|assumption):PG X (.Name x pos) (qA i):=by
 intro pins s σ H v u Q I r h
 exact wpAny_assign_Name (vE I hN hi hx r (λ s' I'=>⟨_,H,I',h⟩) hf)
def Ey:iH:=λ vs σ H Q=>vs=[]/\Q σ H
def Ez(t:TG)(u:iH):iH:=λ vs σ H Q=>∃v r,vs=v::r/\t v σ H λ σ' H'=>u r σ' H' Q
theorem kN:qR X [] Ey:=by
 intro pins s σ H vs us Q I r h
 obtain⟨e,h⟩:=h
 subst e
 cases r
 exact assignInOrder_nil ⟨σ,H,I,h⟩
theorem cK{e:Expr}{es:List Expr}{t:TG}{u:iH}(h1:PG X e t)(h2:qR X es u)
  (hs:(assignEach (e::es) X.env).map (·.2)=assign e X.env::(assignEach es X.env).map (·.2):=by rfl):qR X (e::es) (Ez t u):=by
 intro pins s σ H vs us Q I r h
 obtain⟨v,vr,e1,h⟩:=h
 subst e1
 cases r with
 |cons r rr=>
  rw[hs]
  refine assignInOrder_cons (aU (h1 pins s σ H _ _ _ I r h) λ _ s1 ⟨σ1,H1,I1,q1⟩=>?_)
  exact h2 pins s1 σ1 H1 _ _ Q I1 rr q1
def xQ(K:Qf)(n:Nat)(t:iH):TG:=λ v σ H Q=>∃a xs,v= .ref a/\aJ K H a xs/\xs.length=n/\t xs σ H Q
theorem lT{es:List Expr}{k:Nat}{t:iH}{n:Nat}(hc:X.calm=true)(h:qR X es t)
  (hn:(assignEach es X.env).length=n:=by rfl) (hst:(assignEach es X.env).findIdx? (·.1)=none:=by rfl):PG X (.Tuple es k pos) (xQ X.K n t):=by
 intro pins s σ H v u Q I r hw
 obtain⟨a,xs,e1,hq,hl,hw⟩:=hw
 subst e1
 cases r
 obtain⟨its,rv,ht,hz⟩:=I.tuple hq
 refine assign_Tuple_tuple (I.ok.hd hc) ht (by simp[hn,<-hl,rv.length]) hst λ h' hx=>?_
 have I1:aB X pins σ H {s with heap:=h'}:=I.kept (t':=s.toks) λ b o e=>hx b o (Nat.ne_of_lt (Heap.lt_size e)) e
 exact h pins _ σ H xs _ Q I1 (by simpa using rv) hw
def AD(to ti:TE)(t:yM):TG:=λ v σ H Q=>to σ H λ o H1=>ti σ H1 λ i H2=>t o i v H2 λ H3=>Q σ H3
theorem Pk{o i:Expr}{to ti:TE}{t:yM}(ho:PE X o to)(hi:PE X i ti)(hs:Ha X t)
  (ha:∀v,assign (.Subscript o i pos) X.env v=(do
   let ov<-holding [v] (eval o X.env)
   let iv<-holding [v,ov] (eval i X.env)
   standAt pos
   holding [v,ov,iv] (setItem ov iv v)
   release [v,ov,iv] []):=by intro _;rfl):PG X (.Subscript o i pos) (AD to ti t):=by
 intro pins s σ H v u Q I r h
 rw[ha]
 refine wpAny_bind (wpAny_holding (aU (ho pins s σ H _ I h) λ ov s1 ⟨x,H1,I1,r1,q1⟩=>?_))
 refine wpAny_bind (wpAny_holding (aU (hi pins s1 σ H1 _ I1 q1) λ iv s2 ⟨y,H2,I2,r2,q2⟩=>?_))
 refine wpAny_bind (wpAny_standAt (wpAny_bind (wpAny_holding (aU (hs pins s2 σ H2 x y v ov iv u _ I2 r1 r2 r q2) λ _ s3 ⟨H3,I3,q3⟩=>?_))))
 exact wpAny_release ⟨σ,H3,I3,q3⟩
def vD(te:TE)(g:TG):TS:=λ D σ H=>te σ H λ x H1=>g x σ H1 D.nx
theorem nH{tg e:Expr}{te:TE}{g:TG}(he:PE X e te)(hg:PG X tg g)(hs:swapsWithSole [tg] e pos.line X.env=pure false:=by rfl)(hw:swappedStores [tg] e X.env=pure none:=by rfl)
  (h1:(assignEach [tg] X.env).map (·.2)=[assign tg X.env]:=by rfl):PS X (.Assign [tg] e pos) (vD te g):=by
 intro pins s σ H D I h
 refine wpAny_Assign_stores (aU (he pins s σ H _ I h) λ v s1 ⟨x,H1,I1,r1,q1⟩=>?_) hs hw
 rw[h1]
 exact aU (hg pins s1 σ H1 x v _ I1 r1 q1) λ _ s2 q=>q
theorem bG{i:Nat}{x:Str}{e:Expr}{te:TE}{pos':Pos}(hN:X.N.Nodup)(hi:X.N[i]? =some x)(hx:qS X.env.scope x)(he:PE X e te)(hs:swapsWith e (some (.Name x pos')) pos.line X.env=pure false:=by rfl)(hf:X.fn x=true\/X.env.scope.names.lookup x=some .local:=by first|exact .inl rfl|exact .inr rfl|assumption):
  PS X (.Assign [.Name x pos'] e pos) (vD te (qA i)):=by
 intro pins s σ H D I h
 refine wpAny_Assign_Name (aU (he pins s σ H _ I h) λ v s1 ⟨y,H1,I1,r1,q1⟩=>?_) hs
 exact vE I1 hN hi hx r1 (λ s2 I2=>⟨_,H1,I2,q1⟩) hf
end
section
variable{X:Cx}{pos:Pos}
end
structure It where
 go:Nat->Hp->Prop
 yld:Nat->Hp->V->Hp->Prop
 stop:Nat->Hp->Prop
def fE(X:Cx)(pins:Qj)(H:Hp)(b:Addr):Prop:=
 H b=none/\b≠X.env.locals/\b∉X.fs/\(b∈X.ex\/X.s₀.heap.objs.size<=b)/\(∀x c,X.env.cells.lookup x=some c->c≠b)/\∀p∈X.pn++pins,p.1≠b
theorem aB.fpOk{X:Cx}{pins:Qj}{σ:St}{H H':Hp}{s:Shared}{b:Addr}(I:aB X pins σ H s)(hb:s.heap.objs.size<=b)(hn:H' b=none):fE X pins H' b:=by
 refine⟨hn,Nat.ne_of_gt (Nat.lt_of_lt_of_le I.lt hb),I.nofs hb,.inr (Nat.le_trans I.sz hb),λ x c e z=>?_,λ p hp z=>?_⟩
 ·obtain⟨v,q⟩:=I.cell x c e
  exact absurd (Nat.lt_of_lt_of_le q.lt (by rw[z];exact hb)) (Nat.lt_irrefl _)
 ·exact absurd (Nat.lt_of_lt_of_le (Heap.lt_size (I.pin p hp).1) (by rw[z];exact hb)) (Nat.lt_irrefl _)
structure jS(P:Program)(w:World)(K:Qf)(tg:Expr)(J:It)(fp:List Addr)(it:Addr)(tn:Nat->Heap->Prop):Prop where
 mem:it∈fp
 obj:∀i h,tn i h->∀b∈fp,∃o,h.get? b=some o/\∀v,o.data≠ .cell v
 keep:∀i h h',tn i h->(∀b∈fp,∀o,h.get? b=some o->h'.get? b=some o)->tn i h'
 item:∀(X:Cx),X.prog=P->X.w=w->X.K=K->X.calm=true->∀(i:Nat) (pins:Qj) (s:Shared) (σ:St) (H:Hp) (E:Qh),aB X pins σ H s->(∀b∈fp,fE X pins H b)->tn i s.heap->J.go i H->
  wpAny (model P w) X.A (pyNext (.ref it)) (λ r s1=>∃u,r=some u/\
   wpAny (model P w) X.A (letOwnedTupleGo tg (.ref it) u) (λ _ s2=>∃x H',aB X pins σ H' s2/\bE x u/\J.yld i H x H'/\tn (i+1) s2.heap/\∀b∈fp,H' b=none) E s1) E s
 done:∀(X:Cx),X.prog=P->X.w=w->X.K=K->X.calm=true->∀(i:Nat) (pins:Qj) (s:Shared) (σ:St) (H:Hp) (E:Qh),aB X pins σ H s->(∀b∈fp,fE X pins H b)->tn i s.heap->J.stop i H->
  wpAny (model P w) X.A (pyNext (.ref it)) (λ r s1=>r=none/\aB X pins σ H s1) E s
 self:∀(A:Around) (i:Nat) (s:Shared) (Q:Qh) (E:Qh),tn i s.heap->Q (.ref it) s->wpAny (model P w) A (pyIter (.ref it)) Q E s
abbrev TI:=St->Hp->(It->Hp->Prop)->Prop
def yP(X:Cx)(pins:Qj)(σ:St)(tg:Expr)(R:It->Hp->Prop)(itv:Value)(s2:Shared):Prop:=
 ∃(it:Addr) (fp:List Addr) (tn:Nat->Heap->Prop) (J:It) (H':Hp),itv= .ref it/\aB X pins σ H' s2/\jS X.prog X.w X.K tg J fp it tn/\tn 0 s2.heap/\(∀b∈fp,fE X pins H' b)/\R J H'
def PI(X:Cx)(tg iter:Expr)(wi:TI):Prop:=
 ∀(pins:Qj) (s:Shared) (σ:St) (H:Hp) (R:It->Hp->Prop),aB X pins σ H s->wi σ H R->
  wpAny (model X.prog X.w) X.A (eval iter X.env) (λ v s1=>wpAny (model X.prog X.w) X.A (pyIter v) (yP X pins σ tg R) X.xe s1) X.xe s
theorem tN{M:Model}{A:Around}{E:Value→Shared→Prop}{s:Shared}{tg:Expr}{it:Addr}{u:Value}{o:Obj}{n:String}{vs:Array Value}{Q:Unit→Shared→Prop}(ho:s.heap.get? it=some o)(hc:o.cls= .type n)(hd:o.data= .fields vs)
    (hn:["enumerate", "zip", "dict_itemiterator", "dict_reverseitemiterator", "odict_iterator", "itertools.zip_longest", "itertools.pairwise"].contains n=false) (hQ:Q () s):wpAny M A (letOwnedTupleGo tg (.ref it) u) Q E s:=by
  unfold letOwnedTupleGo
  cases tg <;>first
    |exact wpAny_pure hQ
    |(cases u<;>first
        |exact wpAny_pure hQ
        | (refine wpAny_bind (wpAny_load ho ?_)
           rw[hc,hd]
           show wpAny M A (if(["enumerate", "zip", "dict_itemiterator", "dict_reverseitemiterator", "odict_iterator", "itertools.zip_longest", "itertools.pairwise"].contains n&&vs[0]? ==some (rawInt _))=true then _ else _) Q E s
           rw[if_neg (by intro h;rw[hn,Bool.false_and]at h;cases h)]
           exact wpAny_pure hQ))
def oG(K:Qf)(a:Addr):It:=
 ⟨λ i H=>∃xs x,aQ K H a xs/\xs[i]? =some x,λ i H x H'=>H'=H/\∀xs,aQ K H a xs->xs[i]? =some x,λ i H=>∃xs,aQ K H a xs/\xs.length<=i⟩
def oF(K:Qf)(a:Addr):It:=
 ⟨λ i H=>∃xs x,aJ K H a xs/\xs[i]? =some x,λ i H x H'=>H'=H/\∀xs,aJ K H a xs->xs[i]? =some x,λ i H=>∃xs,aJ K H a xs/\xs.length<=i⟩
def mT(lo:Int)(n:Nat):It:=⟨λ i _=>i<n,λ i H x H'=>H'=H/\x= .int (lo+i),λ i _=>n<=i⟩
theorem Ka{P:Program}{w:World}{K:Qf}{tg:Expr}(a it:Addr):jS P w K tg (oG K a) [it] it (λ i h=>h.IsListIter it a i) where
 mem:=by simp
 obj:=λ i h st b hb=>by
  have e:b=it:=by simpa using hb
  subst e
  obtain⟨o,e,c,d⟩:=st
  exact⟨o,e,λ v z=>by rw[d]at z;cases z⟩
 keep:=λ i h h' st k=>st.at λ o e=>k it Qb o e
 item:=by
  intro X hP hw hK hc i pins s σ H E I hf st hg
  subst hP hw hK
  obtain⟨xs,x,hq,hx⟩:=hg
  obtain⟨its,rv,p,hz⟩:=I.list hq
  obtain⟨u,hu,ru⟩:=rv.get hx
  obtain⟨f0,f1,f2,f3,f4,f5⟩:=hf it Qb
  refine wpAny_pyNext_list_item st p.isList (x:=u) (by simpa using hu) λ h' st' sb=>?_
  have I1:aB X pins σ H {s with heap:=h'}:=I.turned (t':=s.toks) (λ b o hb e=>(sb.2 b hb).trans e) f0 f1 f3 f4 f5
  obtain⟨o,e,c,d⟩:=id st'
  exact⟨u,rfl,tN (s:={s with heap:=h'}) e c d Qc ⟨x,H,I1,ru,⟨rfl,λ ys hy=>by rw[I.list_inj hy hq];exact hx⟩,st',λ b hb=>(hf b hb).1⟩⟩
 done:=by
  intro X hP hw hK hc i pins s σ H E I hf st hg
  subst hP hw hK
  obtain⟨xs,hq,hx⟩:=hg
  obtain⟨its,rv,p,hz⟩:=I.list hq
  obtain⟨f0,f1,f2,f3,f4,f5⟩:=hf it Qb
  have hl:=rv.length
  exact wpAny_pyNext_list_end (I.ok.hd hc) st p.isList (by simp;omega) λ h' eb=>⟨rfl,I.turned (t':=s.toks) (λ b o hb e=>eb b o hb e) f0 f1 f3 f4 f5⟩
 self:=λ _ _ _ _ _ st h=>wpAny_pyIter_listiter st h
theorem Iy{P:Program}{w:World}{K:Qf}{tg:Expr}(a it:Addr):jS P w K tg (oF K a) [it] it (λ i h=>h.IsTupleIter it a i) where
 mem:=by simp
 obj:=λ i h st b hb=>by
  have e:b=it:=by simpa using hb
  subst e
  obtain⟨o,e,c,d⟩:=st
  exact⟨o,e,λ v z=>by rw[d]at z;cases z⟩
 keep:=λ i h h' st k=>st.at λ o e=>k it Qb o e
 item:=by
  intro X hP hw hK hc i pins s σ H E I hf st hg
  subst hP hw hK
  obtain⟨xs,x,hq,hx⟩:=hg
  obtain⟨its,rv,p,hz⟩:=I.tuple hq
  obtain⟨u,hu,ru⟩:=rv.get hx
  obtain⟨f0,f1,f2,f3,f4,f5⟩:=hf it Qb
  refine wpAny_pyNext_tuple_item st (show s.heap.IsTuple a its.toArray from p) (x:=u) (by simpa using hu) λ h' st' sb=>?_
  have I1:aB X pins σ H {s with heap:=h'}:=I.turned (t':=s.toks) (λ b o hb e=>(sb.2 b hb).trans e) f0 f1 f3 f4 f5
  obtain⟨o,e,c,d⟩:=id st'
  exact⟨u,rfl,tN (s:={s with heap:=h'}) e c d Qc ⟨x,H,I1,ru,⟨rfl,λ ys hy=>by rw[I.tuple_inj hy hq];exact hx⟩,st',λ b hb=>(hf b hb).1⟩⟩
 done:=by
  intro X hP hw hK hc i pins s σ H E I hf st hg
  subst hP hw hK
  obtain⟨xs,hq,hx⟩:=hg
  obtain⟨its,rv,p,hz⟩:=I.tuple hq
  obtain⟨f0,f1,f2,f3,f4,f5⟩:=hf it Qb
  have hl:=rv.length
  exact wpAny_pyNext_tuple_end (I.ok.hd hc) st (show s.heap.IsTuple a its.toArray from p) (by simp;omega) λ h' eb=>⟨rfl,I.turned (t':=s.toks) (λ b o hb e=>eb b o hb e) f0 f1 f3 f4 f5⟩
 self:=λ _ _ _ _ _ st h=>wpAny_pyIter_tupleiter st h
theorem Iz{P:Program}{w:World}{K:Qf}{tg:Expr}(it:Addr)(lo:Int)(n:Nat):jS P w K tg (mT lo n) [it] it (λ i h=>IsRangeIter h it (lo+(i:Nat)*1) ((n:Int)-(i:Nat)) 1) where
 mem:=by simp
 obj:=λ i h st b hb=>by
  have e:b=it:=by simpa using hb
  subst e
  exact⟨_,st,λ v z=>by
   have z':Data.fields _=Data.cell v:=z
   cases z'⟩
 keep:=λ i h h' st k=>k it Qb _ st
 item:=by
  intro X hP hw hK hc i pins s σ H E I hf st hg
  subst hP hw hK
  obtain⟨f0,f1,f2,f3,f4,f5⟩:=hf it Qb
  have W:=Walks.range (prog:=X.prog) (w:=X.w) (I.ok.hd hc) it lo 1 n
  refine W.item i s _ _ hg st λ v h' tk hv st' kk=>?_
  obtain⟨t,rfl⟩:=hv
  have I1:aB X pins σ H {s with heap:=h',toks:=tk}:=I.turned (λ b o hb e=>kk b o (by simpa using hb) e) f0 f1 f3 f4 f5
  refine⟨_,rfl,tN (s:={s with heap:=h',toks:=tk}) (n:= "range_iterator") st' rfl rfl Qc ⟨.int (lo+i),H,I1,⟨t,?_⟩,⟨rfl,rfl⟩,st',λ b hb=>(hf b hb).1⟩⟩
  rw[Int.mul_one]
 done:=by
  intro X hP hw hK hc i pins s σ H E I hf st hg
  subst hP hw hK
  obtain⟨f0,f1,f2,f3,f4,f5⟩:=hf it Qb
  exact wpAny_pyNext_range_end (I.ok.hd hc) st (by have:n<=i:=hg;omega) λ h' eb=>⟨rfl,I.turned (t':=s.toks) (λ b o hb e=>eb b o hb e) f0 f1 f3 f4 f5⟩
 self:=λ _ _ _ _ _ st h=>wpAny_pyIter_rangeiter st h
section
variable{X:Cx}{tg:Expr}
def Xt(K:Qf)(tl:TE):TI:=λ σ H R=>tl σ H λ x H1=>∃a,x= .ref a/\(∃xs,aQ K H1 a xs)/\R (oG K a) H1
def Xq(K:Qf)(tl:TE):TI:=λ σ H R=>tl σ H λ x H1=>∃a,x= .ref a/\(∃xs,aJ K H1 a xs)/\R (oF K a) H1
theorem nI{l:Expr}{tl:TE}(hl:PE X l tl):PI X tg l (Xt X.K tl):=by
 intro pins s σ H R I h
 refine aU (hl pins s σ H _ I h) λ v s1 ⟨x,H1,I1,r1,q1⟩=>?_
 obtain⟨a,e,⟨xs,hq⟩,q⟩:=q1
 subst e
 cases r1
 obtain⟨its,rv,p,hz⟩:=I1.list hq
 refine wpAny_pyIter_list p.isList ?_
 refine⟨s1.heap.objs.size,[s1.heap.objs.size],_,_,H1,rfl,I1.kept (t':=s1.toks) λ b o e=>Heap.get?_push_of_some _ e,Ka a _,⟨_,Heap.get?_push_size _ rfl,rfl,rfl⟩,λ b hb=>?_,q⟩
 have e:b=s1.heap.objs.size:=by simpa using hb
 subst e
 exact I1.fpOk (Nat.le_refl _) (I1.hok.fresh (Nat.le_refl _))
theorem fL{l:Expr}{tl:TE}(hl:PE X l tl):PI X tg l (Xq X.K tl):=by
 intro pins s σ H R I h
 refine aU (hl pins s σ H _ I h) λ v s1 ⟨x,H1,I1,r1,q1⟩=>?_
 obtain⟨a,e,⟨xs,hq⟩,q⟩:=q1
 subst e
 cases r1
 obtain⟨its,rv,p,hz⟩:=I1.tuple hq
 refine wpAny_pyIter_tuple (show s1.heap.IsTuple a its.toArray from p) ?_
 refine⟨s1.heap.objs.size,[s1.heap.objs.size],_,_,H1,rfl,I1.kept (t':=s1.toks) λ b o e=>Heap.get?_push_of_some _ e,Iy a _,⟨_,Heap.get?_push_size _ rfl,rfl,rfl⟩,λ b hb=>?_,q⟩
 have e:b=s1.heap.objs.size:=by simpa using hb
 subst e
 exact I1.fpOk (Nat.le_refl _) (I1.hok.fresh (Nat.le_refl _))
theorem Nq{pins:Qj}{σ:St}{H:Hp}{s:Shared}{R:It->Hp->Prop}{E:Qh}{lo hi:Int}{t u v:Tok}{tk:Nat}(I:aB X pins σ H s)(h1: -(2^62)<=lo)(h2:lo<2^62)(h3: -(2^62)<=hi)(h4:hi<2^62)
  (q:R (mT lo (hi-lo).toNat) H):wpAny (model X.prog X.w) X.A (pyIter (.ref s.heap.objs.size)) (yP X pins σ tg R) E {s with heap:=s.heap.push {cls:=.type "range",data:=.fields #[.int lo t,.int hi u,.int 1 v]},toks:=tk}:=by
 refine wpAny_pyIter_range (IsRange.new ..) (small_one h1 h2 h3 h4) ?_
 have I1:aB X pins σ H {s with heap:=s.heap.push {cls:=.type "range",data:=.fields #[.int lo t,.int hi u,.int 1 v]},toks:=tk}:=I.kept λ b o e=>Heap.get?_push_of_some _ e
 refine⟨(s.heap.push {cls:=.type "range",data:=.fields #[.int lo t,.int hi u,.int 1 v]}).objs.size,[(s.heap.push {cls:=.type "range",data:=.fields #[.int lo t,.int hi u,.int 1 v]}).objs.size],_,_,H,rfl,
  I1.kept (t':=tk) λ b o e=>Heap.get?_push_of_some _ e,Iz _ lo (hi-lo).toNat,?_,λ b hb=>?_,q⟩
 ·have e1:lo+((0:Nat):Int)*1=lo:=by simp
  have e2:(((hi-lo).toNat:Nat):Int)-((0:Nat):Int)=Builtin.Range.rangeSize lo hi 1:=by rw[rangeSize_one];split<;>omega
  show IsRangeIter _ _ (lo+((0:Nat):Int)*1) ((((hi-lo).toNat:Nat):Int)-((0:Nat):Int)) 1
  rw[e1,e2]
  exact Heap.get?_push_size _ rfl
 ·have e:b=(s.heap.push {cls:=.type "range",data:=.fields #[.int lo t,.int hi u,.int 1 v]}).objs.size:=by simpa using hb
  subst e
  exact I1.fpOk (Nat.le_refl _) (I1.hok.fresh (Nat.le_refl _))
def Xs(ta:TA):TI:=λ σ H R=>ta σ H λ vs H1=>∃j:Int,vs=[.int j]/\-(2^62)<=j/\j<2^62/\R (mT 0 j.toNat) H1
theorem lS{a:Expr}{ta:TA}{p pos:Pos}(hg:Gl X "range")(hm:X.mg "range" =none)(ha:PA X [a] ta)(hs:starEach [a] X.env=[(false,eval a X.env)]:=by rfl):PI X tg (.Call (.Name "range" p) [a] [] pos) (Xs ta):=by
 intro pins s σ H R I h
 refine Call_ (mE I hg hm boot_range (PyProof.Rows.callWith_type1 (aU (ha pos pins s σ H _ I h) λ us s1 ⟨vs,H1,I1,r1,q1⟩=>?_) hs rfl))
 obtain⟨j,e,q1,q2,q⟩:=q1
 subst e
 cases r1 with
 |cons r rr=>
  cases rr
  obtain⟨t,rfl⟩:=r
  exact call_range_1 (Nq I1 Qa Qa q1 q2 (by simpa using q))
def Lh(wi:TI)(g:TG)(tb:TS):TS:=λ D σ H=>wi σ H λ J H1=>∃W:Nat->Nat->St->Hp->Prop,(∃m,W 0 m σ H1)/\∀i m σ H,W i m σ H->
 (J.stop i H/\D.nx σ H)\/(J.go i H/\∃N:St->Hp->Prop,(∀σ' H',N σ' H'->∃m',m'<m/\W (i+1) m' σ' H')/\∀x H',J.yld i H x H'->g x σ H' λ σ2 H2=>tb {D with nx:=N,ct:=N,bk:=D.nx} σ2 H2)
def lR(fp:List Addr)(h:Heap):List (Addr×Obj):=fp.filterMap λ b=>(h.get? b).map λ o=>(b,o)
theorem nL{fp:List Addr}{h:Heap}{b:Addr}{o:Obj}(hb:b∈fp)(e:h.get? b=some o):(b,o)∈lR fp h:=List.mem_filterMap.mpr ⟨b,hb,by rw[e];rfl⟩
theorem Td{fp:List Addr}{h:Heap}{p:Addr×Obj}(hp:p∈lR fp h):p.1∈fp/\h.get? p.1=some p.2:=by
 obtain⟨b,hb,e⟩:=List.mem_filterMap.mp hp
 cases q:h.get? b with
 |none=>rw[q]at e;cases e
 |some o=>
  rw[q]at e
  have e':(b,o)=p:=Option.some.inj e
  subst e'
  exact⟨hb,q⟩
theorem aB.pinned{pins:Qj}{σ:St}{H:Hp}{s:Shared}{fp:List Addr}(I:aB X pins σ H s)(hf:∀b∈fp,fE X pins H b)(ho:∀b∈fp,∃o,s.heap.get? b=some o/\∀v,o.data≠ .cell v):aB X (pins++lR fp s.heap) σ H s:=
 I.pins_of λ p hp=>(List.mem_append.mp hp).elim (λ z=>I.pin p (List.mem_append_right _ z)) λ z=>by
  obtain⟨hb,e⟩:=Td z
  obtain⟨f0,f1,f2,_⟩:=hf p.1 hb
  obtain⟨o,e',d⟩:=ho p.1 hb
  rw[e]at e';cases e'
  exact⟨e,f0,f1,f2,d⟩
theorem aB.unpinned{pins pl:Qj}{σ:St}{H:Hp}{s:Shared}(I:aB X (pins++pl) σ H s):aB X pins σ H s:=I.pins_of λ p hp=>I.pin p (List.mem_append_right _ (List.mem_append_left _ hp))
theorem iA{iter:Expr}{body:List Stmt}{wi:TI}{g:TG}{tb:TS}{pos:Pos}(hp:PassesOwn (model X.prog X.w) X.A X.env X.xe)(hc:X.calm=true)(hi:PI X tg iter wi)(hg:PG X tg g)(hb:eJ X body tb)
  (hs:∀x,foldedSetIterable iter X.env x=pure x:=by intro _;rfl):PS X (.For tg iter body [] pos) (Lh wi g tb):=by
 intro pins s σ H D I h
 refine wpAny_For (aU (hi pins s σ H _ I h) λ v s1 h1=>aU h1 λ itv s2 h2=>?_) hs
 obtain⟨it,fp,tn,J,H2,e,I2,T,st2,f2,W,⟨m0,w0⟩,turn⟩:=h2
 subst e
 have stat:∀{H':Hp},(∀b∈fp,H' b=none)->∀b∈fp,fE X pins H' b:=λ hn b hb=>⟨hn b hb,(f2 b hb).2⟩
 refine codeAny_forLoop_any (λ n s'=>∃i σ' H',aB X pins σ' H' s'/\tn i s'.heap/\(∀b∈fp,H' b=none)/\W i n σ' H') ?_ m0 ⟨0,σ,H2,I2,st2,λ b hb=>(f2 b hb).1,w0⟩
 rintro n s3 ⟨i,σ3,H3,I3,st3,fr3,w3⟩
 rcases turn i n σ3 H3 w3 with⟨stop,qn⟩|⟨go,N,hN,step⟩
 ·refine wpAny_passesOwn hp (aU (T.done X rfl rfl rfl hc i pins s3 σ3 H3 X.xe I3 (stat fr3) st3 stop) λ r s4 ⟨hr,I4⟩=>?_)
  subst hr
  exact wpAny_execs_nil ⟨σ3,H3,I4,qn⟩
 ·refine wpAny_passesOwn hp (aU (T.item X rfl rfl rfl hc i pins s3 σ3 H3 X.xe I3 (stat fr3) st3 go) λ r s4 ⟨u,hr,h4⟩=>?_)
  subst hr
  refine wpAny_passesOwn hp (aU h4 λ _ s5 ⟨x,H5,I5,r5,y5,st5,fr5⟩=>?_)
  have I5':=I5.pinned (stat fr5) (T.obj _ _ st5)
  refine wpAny_passesOwn hp (aU (hg _ s5 σ3 H5 x u _ I5' r5 (step x H5 y5)) λ _ s6 ⟨σ6,H6,I6,q6⟩=>?_)
  refine wpAny_passesOwn hp (aU (hb _ s6 σ6 H6 _ I6 q6) λ f s7 q7=>?_)
  have again:∀{σ7:St} {H7:Hp},aB X (pins++lR fp s5.heap) σ7 H7 s7->N σ7 H7->∃m,m<n/\∃i σ' H',aB X pins σ' H' s7/\tn i s7.heap/\(∀b∈fp,H' b=none)/\W i m σ' H':=fun{σ7 H7} I7 n7=>by
   obtain⟨m',hm,w7⟩:=hN σ7 H7 n7
   refine⟨m',hm,i+1,σ7,H7,I7.unpinned,T.keep _ _ _ st5 λ b hb o e=>(I7.pin (b,o) (List.mem_append_right _ (List.mem_append_right _ (nL hb e)))).1,λ b hb=>?_,w7⟩
   obtain⟨o,e,d⟩:=T.obj _ _ st5 b hb
   exact(I7.pin (b,o) (List.mem_append_right _ (List.mem_append_right _ (nL hb e)))).2.1
  cases f with
  |next=>obtain⟨σ7,H7,I7,n7⟩:=q7;exact again I7 n7
  |cont=>obtain⟨σ7,H7,I7,n7⟩:=q7;exact again I7 n7
  |brk=>obtain⟨σ7,H7,I7,q7⟩:=q7;exact⟨σ7,H7,I7.unpinned,q7⟩
  |ret v=>obtain⟨x7,σ7,H7,I7,r7,q7⟩:=q7;exact⟨x7,σ7,H7,I7.unpinned,r7,q7⟩
end
theorem Fb{K:Qf}{a:Addr}{xs:List V}{g:TG}{tb:TS}{D:iJ}{σ:St}{H:Hp}(Pv:Nat->St->Hp->Prop)(h0:Pv 0 σ H)(hl:∀i σ H,i<=xs.length->Pv i σ H->aQ K H a xs)
  (hs:∀i x σ H,xs[i]? =some x->Pv i σ H->g x σ H λ σ2 H2=>tb {D with nx:=Pv (i+1),ct:=Pv (i+1),bk:=D.nx} σ2 H2) (hd:∀σ H,Pv xs.length σ H->D.nx σ H):
  ∃W:Nat->Nat->St->Hp->Prop,(∃m,W 0 m σ H)/\∀i m σ H,W i m σ H->
   ((oG K a).stop i H/\D.nx σ H)\/((oG K a).go i H/\∃N:St->Hp->Prop,(∀σ' H',N σ' H'->∃m',m'<m/\W (i+1) m' σ' H')/\∀x H',(oG K a).yld i H x H'->g x σ H' λ σ2 H2=>tb {D with nx:=N,ct:=N,bk:=D.nx} σ2 H2):=by
 refine⟨λ i m σ H=>m=xs.length-i/\i<=xs.length/\Pv i σ H,⟨xs.length,Qb,Nat.zero_le _,h0⟩,?_⟩
 rintro i m σ H ⟨rfl,hi,p⟩
 have q:=hl i σ H hi p
 by_cases hlt:i<xs.length
 ·refine .inr ⟨⟨xs,xs[i],q,by simp[hlt]⟩,Pv (i+1),λ σ' H' p'=>⟨xs.length-(i+1),Qa,rfl,hlt,p'⟩,λ x H' y=>?_⟩
  obtain⟨e,y⟩:=y
  subst e
  exact hs i x σ _ (y xs q) p
 ·have e:i=xs.length:=by omega
  subst e
  exact .inl ⟨⟨xs,q,Nat.le_refl _⟩,hd σ H p⟩
theorem tR{K:Qf}{a:Addr}{xs:List V}{g:TG}{tb:TS}{D:iJ}{σ:St}{H:Hp}(Pv:Nat->St->Hp->Prop)(h0:Pv 0 σ H)(hl:∀i σ H,i<=xs.length->Pv i σ H->aJ K H a xs)
  (hs:∀i x σ H,xs[i]? =some x->Pv i σ H->g x σ H λ σ2 H2=>tb {D with nx:=Pv (i+1),ct:=Pv (i+1),bk:=D.nx} σ2 H2) (hd:∀σ H,Pv xs.length σ H->D.nx σ H):
  ∃W:Nat->Nat->St->Hp->Prop,(∃m,W 0 m σ H)/\∀i m σ H,W i m σ H->
   ((oF K a).stop i H/\D.nx σ H)\/((oF K a).go i H/\∃N:St->Hp->Prop,(∀σ' H',N σ' H'->∃m',m'<m/\W (i+1) m' σ' H')/\∀x H',(oF K a).yld i H x H'->g x σ H' λ σ2 H2=>tb {D with nx:=N,ct:=N,bk:=D.nx} σ2 H2):=by
 refine⟨λ i m σ H=>m=xs.length-i/\i<=xs.length/\Pv i σ H,⟨xs.length,Qb,Nat.zero_le _,h0⟩,?_⟩
 rintro i m σ H ⟨rfl,hi,p⟩
 have q:=hl i σ H hi p
 by_cases hlt:i<xs.length
 ·refine .inr ⟨⟨xs,xs[i],q,by simp[hlt]⟩,Pv (i+1),λ σ' H' p'=>⟨xs.length-(i+1),Qa,rfl,hlt,p'⟩,λ x H' y=>?_⟩
  obtain⟨e,y⟩:=y
  subst e
  exact hs i x σ _ (y xs q) p
 ·have e:i=xs.length:=by omega
  subst e
  exact .inl ⟨⟨xs,q,Nat.le_refl _⟩,hd σ H p⟩
theorem nV{lo:Int}{n:Nat}{g:TG}{tb:TS}{D:iJ}{σ:St}{H:Hp}(Pv:Nat->St->Hp->Prop)(h0:Pv 0 σ H)
  (hs:∀i σ H,i<n->Pv i σ H->g (.int (lo+i)) σ H λ σ2 H2=>tb {D with nx:=Pv (i+1),ct:=Pv (i+1),bk:=D.nx} σ2 H2) (hd:∀σ H,Pv n σ H->D.nx σ H):
  ∃W:Nat->Nat->St->Hp->Prop,(∃m,W 0 m σ H)/\∀i m σ H,W i m σ H->
   ((mT lo n).stop i H/\D.nx σ H)\/((mT lo n).go i H/\∃N:St->Hp->Prop,(∀σ' H',N σ' H'->∃m',m'<m/\W (i+1) m' σ' H')/\∀x H',(mT lo n).yld i H x H'->g x σ H' λ σ2 H2=>tb {D with nx:=N,ct:=N,bk:=D.nx} σ2 H2):=by
 refine⟨λ i m σ H=>m=n-i/\i<=n/\Pv i σ H,⟨n,Qb,Nat.zero_le _,h0⟩,?_⟩
 rintro i m σ H ⟨rfl,hi,p⟩
 by_cases hlt:i<n
 ·refine .inr ⟨hlt,Pv (i+1),λ σ' H' p'=>⟨n-(i+1),Qa,rfl,hlt,p'⟩,λ x H' y=>?_⟩
  obtain⟨e,y⟩:=y
  subst e y
  exact hs i σ _ hlt p
 ·have e:i=n:=by omega
  subst e
  exact .inl ⟨Nat.le_refl _,hd σ H p⟩
abbrev R2:=V->V->Hp->VK->Prop
def cA(X:Cx)(f:Value->Value->Sem Value)(r:R2):Prop:=
 ∀(pins:Qj) (s:Shared) (σ:St) (H:Hp) (x y:V) (v u:Value) (Q:VK),aB X pins σ H s->bE x v->bE y u->r x y H Q->
  wpAny (model X.prog X.w) X.A (f v u) (EP X pins σ Q) X.xe s
def yK(X:Cx)(f:Value->Sem Value)(r:V->Hp->VK->Prop):Prop:=
 ∀(pins:Qj) (s:Shared) (σ:St) (H:Hp) (x:V) (v:Value) (Q:VK),aB X pins σ H s->bE x v->r x H Q->
  wpAny (model X.prog X.w) X.A (f v) (EP X pins σ Q) X.xe s
def dX(X:Cx)(f:Value)(r:List V->Hp->VK->Prop):Prop:=
 ∀(pins:Qj) (s:Shared) (σ:St) (H:Hp) (xs:List V) (us:List Value) (Q:VK),aB X pins σ H s->aW xs us->r xs H Q->
  wpAny (model X.prog X.w) X.A (call f us) (EP X pins σ Q) X.xe s
def rJ(r:R2)(ta tb:TE):TE:=λ σ H Q=>ta σ H λ x H1=>tb σ H1 λ y H2=>r x y H2 Q
def Kk(r:V->Hp->VK->Prop)(ta:TE):TE:=λ σ H Q=>ta σ H λ x H1=>r x H1 Q
def rI(C:Int->Int->Prop)(g:Int->Int->V):R2:=λ x y H Q=>∃i j,x= .int i/\y= .int j/\C i j/\Q (g i j) H
def kJ(g:Int->Int->V):R2:=λ x y H Q=>∃i j,x= .int i/\y= .int j/\Q (g i j) H
def rU(g:Int->V):V->Hp->VK->Prop:=λ x H Q=>∃i,x= .int i/\Q (g i) H
section
variable{X:Cx}{a b c:Expr}{ta tb tc:TE}{pos:Pos}
theorem yB(ha:PE X a ta)(hb:PE X b tb){pins:Qj}{s:Shared}{σ:St}{H:Hp}{R:V->V->Hp->Prop}(I:aB X pins σ H s)
  (h:ta σ H λ x H1=>tb σ H1 λ y H2=>R x y H2) {Q:Qh} {f:Value->Value->Sem Value}
  (hf:∀v u s2 x y H2,aB X pins σ H2 s2->bE x v->bE y u->R x y H2->wpAny (model X.prog X.w) X.A (f v u) Q X.xe s2):
  wpAny (model X.prog X.w) X.A (eval a X.env) (λ v s₁=>wpAny (model X.prog X.w) X.A (eval b X.env) (λ u s₂=>wpAny (model X.prog X.w) X.A (f v u) Q X.xe s₂) X.xe s₁) X.xe s:=by
 refine aU (ha pins s σ H _ I h) λ v s1 ⟨x,H1,I1,r1,q1⟩=>?_
 refine aU (hb pins s1 σ H1 _ I1 q1) λ u s2 ⟨y,H2,I2,r2,q2⟩=>?_
 exact hf v u s2 x y H2 I2 r1 r2 q2
theorem bK{op:Operator}{r:R2}(ho:cA X (binaryOp op) r)(ha:PE X a ta)(hb:PE X b tb):PE X (.BinOp a op b pos) (rJ r ta tb):=by
 intro pins s σ H Q I h
 exact wpAny_BinOp (yB ha hb I h λ v u s2 x y H2 I2 rx ry q=>ho pins s2 σ H2 x y v u Q I2 rx ry q)
theorem Pn{op:UnaryOp}{r:V->Hp->VK->Prop}(ho:yK X (unaryOp op) r)(ha:PE X a ta):PE X (.UnaryOp op a pos) (Kk r ta):=by
 intro pins s σ H Q I h
 exact UnaryOp_ (aU (ha pins s σ H _ I h) λ v s1 ⟨x,H1,I1,r1,q1⟩=>ho pins s1 σ H1 x v Q I1 r1 q1)
theorem sS{f:Value->Value->Sem Value}{C:Int->Int->Prop}{g:Int->Int->Int}
  (rule:∀(i j:Int) (t u:Tok) (s:Shared) (Q:Qh) (E:Qh),C i j->Q (.int (g i j) s.toks) {s with toks:=s.toks+1}->wpAny (model X.prog X.w) X.A (f (.int i t) (.int j u)) Q E s):
  cA X f (rI C λ i j=>.int (g i j)):=by
 intro pins s σ H x y v u Q I rx ry h
 obtain⟨i,j,rfl,rfl,hc,q⟩:=h
 obtain⟨t,rfl⟩:=rx
 obtain⟨t',rfl⟩:=ry
 exact rule i j t t' s _ _ hc ⟨.int (g i j),H,I.tok _,⟨_,rfl⟩,q⟩
theorem Di{f:Value->Value->Sem Value}{g:Int->Int->Int}
  (rule:∀(i j:Int) (t u:Tok) (s:Shared) (Q:Qh) (E:Qh),Q (.int (g i j) s.toks) {s with toks:=s.toks+1}->wpAny (model X.prog X.w) X.A (f (.int i t) (.int j u)) Q E s):
  cA X f (kJ λ i j=>.int (g i j)):=by
 intro pins s σ H x y v u Q I rx ry h
 obtain⟨i,j,rfl,rfl,q⟩:=h
 obtain⟨t,rfl⟩:=rx
 obtain⟨t',rfl⟩:=ry
 exact rule i j t t' s _ _ ⟨.int (g i j),H,I.tok _,⟨_,rfl⟩,q⟩
theorem sT{f:Value->Value->Sem Value}{g:Int->Int->Bool}
  (rule:∀(i j:Int) (t u:Tok) (s:Shared) (Q:Qh) (E:Qh),Q (.bool (g i j)) s->wpAny (model X.prog X.w) X.A (f (.int i t) (.int j u)) Q E s):
  cA X f (kJ λ i j=>.bl (g i j)):=by
 intro pins s σ H x y v u Q I rx ry h
 obtain⟨i,j,rfl,rfl,q⟩:=h
 obtain⟨t,rfl⟩:=rx
 obtain⟨t',rfl⟩:=ry
 exact rule i j t t' s _ _ ⟨.bl (g i j),H,I,rfl,q⟩
def DU(i j:Int):Prop:=0<j/\j<1073741824
def He(i j:Int):Prop:=0<=j/\j<=1000000/\i.natAbs<2^64
def zW(i j:Int):Prop:=(-(2^64)<i/\i<2^64)\/(-(2^64)<j/\j<2^64)
theorem zW.ok{i j:Int}(h:zW i j):IntMulOk i j:=by
 rcases h with⟨h1,h2⟩|⟨h1,h2⟩
 ·exact .of_left (intBits_le_64 h1 h2)
 ·exact .of_right (intBits_le_64 h1 h2)
theorem dZ:cA X (binaryOp .Add) (kJ λ i j=>.int (i+j)):=Di λ _ _ _ _ _ _ _ q=>add_int q
theorem pR:cA X (binaryOp .Sub) (kJ λ i j=>.int (i-j)):=Di λ _ _ _ _ _ _ _ q=>sub_int q
theorem lV:cA X (binaryOp .Mult) (rI zW λ i j=>.int (i*j)):=sS λ _ _ _ _ _ _ _ hc q=>mul_int q hc.ok
theorem Py:cA X (binaryOp .FloorDiv) (rI DU λ i j=>.int (i/j)):=sS λ i j _ _ _ _ _ hc q=>by
 have h1:(0:Int)<j:=hc.1
 have h2:j<1073741824:=hc.2
 exact floordiv_int Qa (by rw[Int.fdiv_eq_ediv_of_nonneg i Qa];exact q) (.inl (PyProof.noPylong_small Qa))
theorem sP:cA X (binaryOp .Mod) (rI (λ _ j=>0<j) λ i j=>.int (i%j)):=sS λ i j _ _ _ _ _ hc q=>by
 have h1:(0:Int)<j:=hc
 exact mod_int' Qa (by rw[Int.fmod_eq_emod_of_nonneg i Qa];exact q)
theorem De:cA X (binaryOp .Pow) (rI He λ i j=>.int (i^j.toNat)):=sS λ _ _ _ _ _ _ _ hc q=>pow_int_small hc.1 hc.2.1 hc.2.2 q
theorem Is{f:Value->Sem Value}{g:Int->Int}
  (rule:∀(i:Int) (t:Tok) (s:Shared) (Q:Qh) (E:Qh),Q (.int (g i) s.toks) {s with toks:=s.toks+1}->wpAny (model X.prog X.w) X.A (f (.int i t)) Q E s):
  yK X f (rU λ i=>.int (g i)):=by
 intro pins s σ H x v Q I rx h
 obtain⟨i,rfl,q⟩:=h
 obtain⟨t,rfl⟩:=rx
 exact rule i t s _ _ ⟨.int (g i),H,I.tok _,⟨_,rfl⟩,q⟩
theorem Ir:yK X (unaryOp .USub) (rU λ i=>.int (-i)):=Is λ _ _ _ _ _ q=>neg_int q
end
def Bt:V->V->Bool
 |.non,.non=>true|.non,.int _=>true|.int _,.non=>true|.non,.bl _=>true|.bl _,.non=>true|.non,.str _=>true|.str _,.non=>true
 |.int _,.int _=>true|.bl _,.bl _=>true|.str _,.str _=>true|.byt _,.byt _=>true
 |.int _,.str _=>true|.str _,.int _=>true|.bl _,.str _=>true|.str _,.bl _=>true
 |_,_=>false
def Ol:R2:=λ x y H Q=>Bt x y=true/\Q (.bl (decide (x=y))) H
def Od:R2:=λ x y H Q=>Bt x y=true/\Q (.bl (!decide (x=y))) H
theorem Fp{i j:Int}:decide (V.int i=V.int j)=(i==j):=by
 rw[Bool.eq_iff_iff]
 simp
theorem Fs{i j:Bool}:decide (V.bl i=V.bl j)=(i==j):=by
 rw[Bool.eq_iff_iff]
 simp
theorem Fo{i j:Str}:decide (V.str i=V.str j)=(i==j):=by
 rw[Bool.eq_iff_iff]
 simp
theorem Fq{i j:Array UInt8}:decide (V.byt i=V.byt j)=(i.toList==j.toList):=by
 rw[Bool.eq_iff_iff]
 cases i
 cases j
 simp
section
variable{X:Cx}{a b c:Expr}{ta tb tc:TE}{pos:Pos}
theorem cD{pins:Qj}{σ:St}{H:Hp}{s:Shared}{Q:VK}{k k':Bool}(I:aB X pins σ H s)(q:Q (.bl k) H)(e:k=k'):EP X pins σ Q (.bool k') s:=by
 subst e
 exact⟨.bl k,H,I,rfl,q⟩
theorem cG:cA X (compareOp .Eq) Ol:=by
 intro pins s σ H x y v u Q I rx ry h
 obtain⟨hs,q⟩:=h
 cases x with
 |non=>
  cases rx
  cases y with
  |non=>cases ry;exact PySem.EqNone.eq_none_none (cD I q Qb)
  |bl j=>cases ry;exact PySem.EqNone.eq_none_bool (cD I q Qb)
  |int j=>obtain⟨t',rfl⟩:=ry;exact PySem.EqNone.eq_none_int (cD I q Qb)
  |str j=>obtain⟨t',rfl⟩:=ry;exact PySem.EqNone.eq_none_str (cD I q Qb)
  |_=>exact absurd (show false=true from hs) Bool.false_ne_true
 |bl i=>
  cases rx
  cases y with
  |non=>cases ry;exact PySem.EqNone.eq_bool_none (cD I q Qb)
  |bl j=>cases ry;exact eq_bool (cD I q Fs)
  |str j=>obtain⟨t',rfl⟩:=ry;exact PySem.EqMixed.eq_bool_str (cD I q Qb)
  |_=>exact absurd (show false=true from hs) Bool.false_ne_true
 |int i=>
  obtain⟨t,rfl⟩:=rx
  cases y with
  |non=>cases ry;exact PySem.EqNone.eq_int_none (cD I q Qb)
  |int j=>obtain⟨t',rfl⟩:=ry;exact eq_int (cD I q Fp)
  |str j=>obtain⟨t',rfl⟩:=ry;exact PySem.EqMixed.eq_int_str (cD I q Qb)
  |_=>exact absurd (show false=true from hs) Bool.false_ne_true
 |str i=>
  obtain⟨t,rfl⟩:=rx
  cases y with
  |non=>cases ry;exact PySem.EqNone.eq_str_none (cD I q Qb)
  |bl j=>cases ry;exact PySem.EqMixed.eq_str_bool (cD I q Qb)
  |int j=>obtain⟨t',rfl⟩:=ry;exact PySem.EqMixed.eq_str_int (cD I q Qb)
  |str j=>obtain⟨t',rfl⟩:=ry;exact eq_str (cD I q Fo)
  |_=>exact absurd (show false=true from hs) Bool.false_ne_true
 |byt i=>
  obtain⟨t,rfl⟩:=rx
  cases y with
  |byt j=>obtain⟨t',rfl⟩:=ry;exact PySem.W.eq_bytes (cD I q Fq)
  |_=>exact absurd (show false=true from hs) Bool.false_ne_true
 |_=>cases y<;>exact absurd (show false=true from hs) Bool.false_ne_true
theorem pS:cA X (compareOp .NotEq) Od:=by
 intro pins s σ H x y v u Q I rx ry h
 obtain⟨hs,q⟩:=h
 cases x with
 |non=>
  cases rx
  cases y with
  |non=>cases ry;exact PySem.EqNone.ne_none_none (cD I q Qb)
  |bl j=>cases ry;exact PySem.EqNone.ne_none_bool (cD I q Qb)
  |int j=>obtain⟨t',rfl⟩:=ry;exact PySem.EqNone.ne_none_int (cD I q Qb)
  |str j=>obtain⟨t',rfl⟩:=ry;exact PySem.EqNone.ne_none_str (cD I q Qb)
  |_=>exact absurd (show false=true from hs) Bool.false_ne_true
 |bl i=>
  cases rx
  cases y with
  |non=>cases ry;exact PySem.EqNone.ne_bool_none (cD I q Qb)
  |bl j=>cases ry;exact ne_bool (cD I q (congrArg not Fs))
  |str j=>obtain⟨t',rfl⟩:=ry;exact PySem.EqMixed.ne_bool_str (cD I q Qb)
  |_=>exact absurd (show false=true from hs) Bool.false_ne_true
 |int i=>
  obtain⟨t,rfl⟩:=rx
  cases y with
  |non=>cases ry;exact PySem.EqNone.ne_int_none (cD I q Qb)
  |int j=>obtain⟨t',rfl⟩:=ry;exact ne_int (cD I q (congrArg not Fp))
  |str j=>obtain⟨t',rfl⟩:=ry;exact PySem.EqMixed.ne_int_str (cD I q Qb)
  |_=>exact absurd (show false=true from hs) Bool.false_ne_true
 |str i=>
  obtain⟨t,rfl⟩:=rx
  cases y with
  |non=>cases ry;exact PySem.EqNone.ne_str_none (cD I q Qb)
  |bl j=>cases ry;exact PySem.EqMixed.ne_str_bool (cD I q Qb)
  |int j=>obtain⟨t',rfl⟩:=ry;exact PySem.EqMixed.ne_str_int (cD I q Qb)
  |str j=>obtain⟨t',rfl⟩:=ry;exact ne_str (cD I q (congrArg not Fo))
  |_=>exact absurd (show false=true from hs) Bool.false_ne_true
 |byt i=>
  obtain⟨t,rfl⟩:=rx
  cases y with
  |byt j=>obtain⟨t',rfl⟩:=ry;exact PySem.W.ne_bytes (cD I q (congrArg not Fq))
  |_=>exact absurd (show false=true from hs) Bool.false_ne_true
 |_=>cases y<;>exact absurd (show false=true from hs) Bool.false_ne_true
theorem lW:cA X (compareOp .Lt) (kJ λ i j=>.bl (decide (i<j))):=sT λ _ _ _ _ _ _ _ q=>lt_int q
theorem nJ:cA X (compareOp .LtE) (kJ λ i j=>.bl (decide (i<=j))):=sT λ _ _ _ _ _ _ _ q=>le_int q
theorem Dh:cA X (compareOp .Gt) (kJ λ i j=>.bl (decide (j<i))):=sT λ _ _ _ _ _ _ _ q=>gt_int q
theorem lX:cA X (compareOp .GtE) (kJ λ i j=>.bl (decide (j<=i))):=sT λ _ _ _ _ _ _ _ q=>ge_int q
theorem cA.or{f:Value->Value->Sem Value}{r r':R2}(h:cA X f r)(h':cA X f r'):cA X f (λ x y H Q=>r x y H Q\/r' x y H Q):=by
 intro pins s σ H x y v u Q I rx ry q
 rcases q with q|q
 ·exact h pins s σ H x y v u Q I rx ry q
 ·exact h' pins s σ H x y v u Q I rx ry q
theorem bH(b:Expr){op:CmpOp}(h:op≠ .In:=by decide)(h2:op≠ .NotIn:=by decide):behindInMarks op b=false:=by
 have e1:(op==CmpOp.In)=false:=by cases op<;>first|rfl|exact absurd rfl h
 have e2:(op==CmpOp.NotIn)=false:=by cases op<;>first|rfl|exact absurd rfl h2
 cases b<;>simp[behindInMarks,e1,e2]
theorem iB{op:CmpOp}{r:R2}(ho:cA X (compareOp op) r)(ha:PE X a ta)(hb:PE X b tb)(hm:behindInMarks op b=false):PE X (.Compare a [op] [b] pos) (rJ r ta tb):=by
 intro pins s σ H Q I h
 exact wpAny_Compare1 (yB ha hb I h λ v u s2 x y H2 I2 rx ry q=>ho pins s2 σ H2 x y v u Q I2 rx ry q) hm
def Bc(t:TE):TT:=λ σ H Q=>t σ H λ x H'=>∃k,x= .bl k/\Q k H'
theorem bN{op:CmpOp}{r:R2}(ho:cA X (compareOp op) r)(ha:PE X a ta)(hb:PE X b tb)(hm:behindInMarks op b=false):PT X (.Compare a [op] [b] pos) (Bc (rJ r ta tb)):=by
 intro pins s σ H Q I h
 refine wpAny_isTrue_Compare1 (aU (ha pins s σ H _ I h) λ v s1 ⟨x,H1,I1,r1,q1⟩=>aU (hb pins s1 σ H1 _ I1 q1) λ u s2 ⟨y,H2,I2,r2,q2⟩=>
  aU (ho pins s2 σ H2 x y v u _ I2 r1 r2 q2) λ c s3 ⟨z,H3,I3,r3,k,e,q3⟩=>?_) hm
 subst e
 cases r3
 exact wpAny_truthy_bool ⟨H3,I3,q3⟩
def Lk(r r':R2)(ta tb tc:TE):TE:=λ σ H Q=>ta σ H λ x H1=>tb σ H1 λ y H2=>r x y H2 λ z H3=>∃k,z= .bl k/\
 (if k=true then tc σ H3 λ w' H4=>r' y w' H4 Q else Q (.bl false) H3)
theorem wZ{op op':CmpOp}{r r':R2}(ho:cA X (compareOp op) r)(ho':cA X (compareOp op') r')(ha:PE X a ta)(hb:PE X b tb)(hc:PE X c tc)
  (hm:lastMarks [op,op'] [b,c]=false:=by with_unfolding_all rfl):PT X (.Compare a [op,op'] [b,c] pos) (Bc (Lk r r' ta tb tc)):=by
 intro pins s σ H Q I h
 refine isTrue_chain (aU (ha pins s σ H _ I h) λ v s1 ⟨x,H1,I1,r1,q1⟩=>test_link (aU (hb pins s1 σ H1 _ I1 q1) λ u s2 ⟨y,H2,I2,r2,q2⟩=>
  aU (ho pins s2 σ H2 x y v u _ I2 r1 r2 q2) λ d s3 ⟨z,H3,I3,r3,k,e,q3⟩=>?_)) hm
 subst e
 cases r3
 refine wpAny_truthy_bool ?_
 cases k with
 |false=>
  obtain⟨k',e',q'⟩:=q3
  cases e'
  exact ite_ff ⟨H3,I3,q'⟩
 |true=>
  refine ite_tt (test_last (aU (hc pins s3 σ H3 _ I3 q3) λ w' s4 ⟨z',H4,I4,r4,q4⟩=>aU (ho' pins s4 σ H4 y z' u w' _ I4 r2 r4 q4) λ d' s5 ⟨z2,H5,I5,r5,k2,e2,q5⟩=>?_))
  subst e2
  cases r5
  exact wpAny_truthy_bool ⟨H5,I5,q5⟩
theorem mD:(sizeLine:Nat)<2^63:=by rw[sizeLine_eq];decide
theorem sR:cA X (binaryOp .Add) (λ x y H Q=>∃i j,x= .str i/\y= .str j/\i.length+j.length<=sizeLine/\Q (.str (i++j)) H):=by
 intro pins s σ H x y v u Q I rx ry h
 obtain⟨i,j,rfl,rfl,hz,q⟩:=h
 obtain⟨t,rfl⟩:=rx
 obtain⟨t',rfl⟩:=ry
 exact add_str (λ t' tk=>⟨.str (i++j),H,I.tok _,⟨_,rfl⟩,q⟩) hz
theorem pA{x:V}{us:List Value}(r:aW [x] us):∃u,us=[u]/\bE x u:=by
 cases r with
 |cons r1 r2=>cases r2;exact⟨_,rfl,r1⟩
theorem Im{x y:V}{us:List Value}(r:aW [x,y] us):∃u w',us=[u,w']/\bE x u/\bE y w':=by
 cases r with
 |cons r1 r2=>
  cases r2 with
  |cons r3 r4=>cases r4;exact⟨_,_,rfl,r1,r3⟩
theorem BQ(hc:X.calm=true):dX X (.builtin "min") (λ xs H Q=>∃i j,xs=[.int i,.int j]/\Q (.int (if j<i then j else i)) H):=by
 intro pins s σ H xs us Q I r h
 obtain⟨i,j,rfl,q⟩:=h
 obtain⟨u,w',rfl,⟨t,rfl⟩,⟨t',rfl⟩⟩:=Im r
 refine min_two_ints (I.ok.hd hc) λ h' tk k=>⟨_,H,I.kept k,?_,q⟩
 by_cases hj:j<i
 ·rw[if_pos hj,if_pos hj];exact⟨_,rfl⟩
 ·rw[if_neg hj,if_neg hj];exact⟨_,rfl⟩
theorem Gb:dX X (.type "int") (λ xs H Q=>(∃i,xs=[.int i]/\Q (.int i) H)\/∃k,xs=[.bl k]/\Q (.int (if k then 1 else 0)) H):=by
 intro pins s σ H xs us Q I r h
 rcases h with⟨i,rfl,q⟩|⟨k,rfl,q⟩
 ·obtain⟨u,rfl,t,rfl⟩:=pA r
  exact call_int_int ⟨.int i,H,I,⟨_,rfl⟩,q⟩
 ·obtain⟨u,rfl,r1⟩:=pA r
  cases r1
  exact call_int_bool ⟨.int (if k then 1 else 0),H,I.tok _,⟨_,rfl⟩,q⟩
end
structure yR(h:Heap)(x dx C:Addr)(mA:Qk):Prop where
 obj:h.get? x=some (PySem.W.instObj C dx)
 ns:h.Ns1 dx mA
 ne:dx≠x
theorem tH{h:Heap}{dx:Addr}{mA:Qk}(n:h.Ns1 dx mA):∃od,h.get? dx=some od/\∀name,PySem.W.lookIn name od=some (mA name):=by
 obtain⟨o,es,ep,ho,hd,hk,_,hm⟩:=n
 refine⟨o,ho,λ name=>?_⟩
 have e:=hm name
 unfold nsFind findBy at e
 rw[<-Array.find?_toList]at e
 unfold PySem.W.lookIn
 rw[hd]
 dsimp only
 split
 ·rename_i y q
  rw[q]at e
  exact congrArg some e
 ·rename_i q
  rw[q]at e
  have a:es.toList.any (·.refKey)=false:=by
   rw[List.any_eq_false]
   intro y hy
   obtain⟨z,t,hkey⟩:=hk y (Array.mem_toList_iff.mp hy)
   simp[DictEntry.refKey,hkey]
  have a':¬es.toList.any (·.refKey)=true:=by rw[a];exact Bool.false_ne_true
  rw[if_neg a']
  exact congrArg some e
theorem yR.look{h:Heap}{x dx C:Addr}{mA:Qk}(I:yR h x dx C mA):∃od,PySem.W.InstAt h x (PySem.W.instObj C dx) C (some od)/\∀name,PySem.W.lookIn name od=some (mA name):=
 let⟨od,ho,hl⟩:=tH I.ns
 ⟨od,⟨I.obj,rfl,rfl,ho⟩,hl⟩
section
variable{prog:Program}{w:World}{A:Around}{E:Qh}{s:Shared}{K:Qf}{x dx C f:Addr}{mA:Qk}{name:Str}{v:Value}
end
def pN(f:Str)(v:V):List (Str×V)->List (Str×V)
 |[]=>[(f,v)]
 |(g,x)::r=>if g=f then(g,v)::r else(g,x)::pN f v r
theorem Dv(f g:Str)(v:V):∀fs:List (Str×V),(pN f v fs).lookup g=if g=f then some v else fs.lookup g
 | []=>by
  show List.lookup g [(f,v)]=_
  by_cases h:g=f
  ·have hb:(g==f)=true:=beq_iff_eq.mpr h
   simp only[List.lookup,hb,if_pos h]
  ·have hb:(g==f)=false:=beq_eq_false_iff_ne.mpr h
   simp only[List.lookup,hb,if_neg h]
 | (k,x)::r=>by
  have ih:=Dv f g v r
  rw[show pN f v ((k,x)::r)=(if k=f then(k,v)::r else(k,x)::pN f v r)from rfl]
  by_cases hk:k=f
  ·rw[if_pos hk]
   by_cases h:g=k
   ·have hb:(g==k)=true:=beq_iff_eq.mpr h
    simp only[List.lookup,hb,if_pos (h.trans hk)]
   ·have hb:(g==k)=false:=beq_eq_false_iff_ne.mpr h
    simp only[List.lookup,hb,if_neg (λ e:g=f=>h (e.trans hk.symm))]
  ·rw[if_neg hk]
   by_cases h:g=k
   ·have hb:(g==k)=true:=beq_iff_eq.mpr h
    simp only[List.lookup,hb,if_neg (λ e:g=f=>hk (h.symm.trans e))]
   ·have hb:(g==k)=false:=beq_eq_false_iff_ne.mpr h
    simp only[List.lookup,hb]
    exact ih
theorem Xw{v:V}{u:Value}(r:bE v u):PySem.W.handedIn u=true:=by
 cases v with
 |non=>cases(show u=Value.none from r);rfl
 |bl b=>cases(show u=Value.bool b from r);rfl
 |int i=>obtain⟨t,e⟩:=(show∃t,u=Value.int i t from r);cases e;rfl
 |str x=>obtain⟨t,e⟩:=(show∃t,u=Value.str x t from r);cases e;rfl
 |byt b=>obtain⟨t,e⟩:=(show∃t,u=Value.bytes b t from r);cases e;rfl
 |flt b=>obtain⟨t,e⟩:=(show∃t,u=Value.float b t from r);cases e;rfl
 |ref a=>cases(show u=Value.ref a from r);rfl
 |ty n=>cases(show u=Value.type n from r);rfl
section
variable{P:Program}{w:World}{H H':Hp}{h h':Heap}{a C dx:Addr}{fs fs':List (Str×V)}
theorem Xk(hok:bW P w H h)(e:H a=some (.ins C dx fs)):∃mA,yR h a dx C mA/\(∀f,oC (fs.lookup f) (mA f))/\PySem.Within mA (fs.map (·.1))/\fs.length<=1000/\H dx=some (.own a):=by
 obtain⟨d,z,ne,ob,mA,n,r,q⟩:=(show cT P w H h a (.ins C dx fs)from hok a _ e)
 exact⟨mA,⟨ob,n,ne⟩,r,q,z,d⟩
end
structure zI(K:Qf)(C:Addr):Prop where
 pg:PySem.W.plainGet K C Str.empty=true
 hd:PySem.W.hasDictIn K C=true
 po:PySem.W.plainOver K C=true
 sa:PySem.W.findIn K (.ref C) "__setattr__" =some (some (.builtin "object.__setattr__"))
theorem zI.get{K:Qf}{C:Addr}(c:zI K C)(f:Str):PySem.W.plainGet K C f=true:=c.pg
section
variable{X:Cx}{pins:Qj}{σ:St}{H:Hp}{s:Shared}{a C dx:Addr}{fs:List (Str×V)}{f:Str}{v:V}{A:Around}{E:Qh}
theorem aB.made(I:aB X pins σ H s):aB X pins σ (aA (aA H s.heap.objs.size (.own (s.heap.objs.size+1))) (s.heap.objs.size+1) (.ins C s.heap.objs.size []))
  {s with heap:=(s.heap.push PySem.W.emptyDict).push (PySem.W.instObj C s.heap.objs.size)}:=by
 have e1:(s.heap.push PySem.W.emptyDict).get? s.heap.objs.size=some PySem.W.emptyDict:=Heap.get?_push_size s.heap rfl
 have e2:((s.heap.push PySem.W.emptyDict).push (PySem.W.instObj C s.heap.objs.size)).get? (s.heap.objs.size+1)=some (PySem.W.instObj C s.heap.objs.size):=by
  have:=Heap.get?_push_size (s.heap.push PySem.W.emptyDict) (o:=PySem.W.instObj C s.heap.objs.size) rfl
  rwa[Heap.size_push]at this
 have e3:(s.heap.push PySem.W.emptyDict).Ns s.heap.objs.size (λ _=>none):=⟨PySem.W.emptyDict,#[],_,e1,rfl,(λ e he=>absurd he Qb),λ _=>rfl⟩
 have I1:=I.laid (a:=s.heap.objs.size) (o:=.own (s.heap.objs.size+1)) (h':=s.heap.push PySem.W.emptyDict) (t':=s.toks) (λ b u q=>Heap.get?_push_of_some _ q) (Nat.le_refl _) ⟨_,e1⟩
 refine I1.laid (a:=s.heap.objs.size+1) (o:=.ins C s.heap.objs.size []) (t':=s.toks) (λ b u q=>Heap.get?_push_of_some _ q) (Nat.le_of_eq (Heap.size_push _ _)) ?_
 have ne:s.heap.objs.size≠s.heap.objs.size+1:=Nat.ne_of_lt (Nat.lt_succ_self _)
 refine⟨by rw[aR ne,aP],Nat.zero_le _,ne,e2,λ _=>none,(Heap.Ns1.of_empty e3).at λ o q=>Heap.get?_push_of_some _ q,λ _=>True.intro,λ y hy=>absurd rfl hy⟩
theorem CI{prog:Program}{w:World}{env:Env}{e:Expr}{f:Str}{pos:Pos}{s:Shared}{Q:Qh}(hb:attributeBase e f env (eval e env)=eval e env)
  (h:wpAny Qi A (eval e env) (λ o s₁=>wpAny Qi A (getAttr o f true) Q E s₁) E s):wpAny Qi A (eval (.Attribute e f pos) env) Q E s:=
 Attribute_any_ h (by rw[arm_eval_Attribute,hb])
end
section
variable{X:Cx}{o e value:Expr}{f:Str}{pos pos' tpos:Pos}{ta tv:TE}
end
section
variable{X:Cx}{pins:Qj}{σ:St}{H:Hp}{s:Shared}{A:Around}{E:Qh}{Q:Qh}{c:Value}{b:Bool}
inductive fV(K:Qf)(H:Hp):V->Value->Prop where
 |non:fV K H .non (.type "NoneType")
 |bl (x:Bool):fV K H (.bl x) (.type "bool")
 |int (i:Int):fV K H (.int i) (.type "int")
 |str (x:Str):fV K H (.str x) (.type "str")
 |flt (x:UInt64):fV K H (.flt x) (.type "float")
 |lst {a:Addr} {xs:List V} (e:H a=some (.lst xs)):fV K H (.ref a) (.type "list")
 |frz {a:Addr} {o:Obj} {xs:List V} (e:H a=some (.frz o (.lst xs))):fV K H (.ref a) (.type "list")
 |tup {a:Addr} {xs:List V} (e:H a=some (.tup xs)):fV K H (.ref a) (.type "tuple")
 |dK {a:Addr} {kvs:List (eT×V)} (e:H a=some (.dK kvs)):fV K H (.ref a) (.type "dict")
 |dT {a:Addr} {kvs:List (List eT×V)} (e:H a=some (.dT kvs)):fV K H (.ref a) (.type "dict")
 | ins {a C dx:Addr} {fs:List (Str×V)} (e:H a=some (.ins C dx fs)) (cl:zI K C) (ha:PySem.W.findIn K (.ref C) "__class__" =some (some (.builtin "object.__class__")))
   (hn:PySem.W.specialIn K (.builtin "object.__class__") "__get__" =some (some (.builtin "getset_descriptor.__get__"))) (htk:PySem.W.takesIn K (.builtin "object.__class__")=some true)
   (hm:PySem.W.mroIn K C (.type "object")=some true):fV K H (.ref a) (.ref C)
theorem Xb{x:V}{u t:Value}(I:aB X pins σ H s)(rx:bE x u)(ty:fV X.K H x t)(e:PySem.W.kitOne X.K t c=some b)(h:∀tk,Q (.bool b) {s with toks:=tk}):
  wpAny (model X.prog X.w) A (call (.builtin "isinstance") [u,c]) Q E s:=by
 cases ty with
 |non=>cases(show u=Value.none from rx);exact PySem.W.kia_one PySem.W.kitx_none I.kIn True.intro e (λ z=>nomatch z) h
 |bl y=>cases(show u=Value.bool y from rx);exact PySem.W.kia_one PySem.W.kitx_bool I.kIn True.intro e (λ z=>nomatch z) h
 |int i=>obtain⟨t,q⟩:=(show∃t,u=Value.int i t from rx);cases q;exact PySem.W.kia_one PySem.W.kitx_int I.kIn True.intro e (λ z=>nomatch z) h
 |str y=>obtain⟨t,q⟩:=(show∃t,u=Value.str y t from rx);cases q;exact PySem.W.kia_one PySem.W.kitx_str I.kIn True.intro e (λ z=>nomatch z) h
 |flt y=>obtain⟨t,q⟩:=(show∃t,u=Value.float y t from rx);cases q;exact PySem.W.kia_one PySem.W.kitx_float I.kIn True.intro e (λ z=>nomatch z) h
 | @lst a xs ea=>
  cases(show u=Value.ref a from rx)
  obtain⟨_,_,n,_,h1⟩:=(show cT X.prog X.w H s.heap a (.lst xs)from I.hok a _ ea)
  exact PySem.W.kia_one PySem.W.kitx_list I.kIn ⟨_,h1,rfl⟩ e (λ z=>nomatch z) h
 | @frz a ob xs ea=>
  cases(show u=Value.ref a from rx)
  obtain⟨_,_,_,n,_,h1⟩:=(show cT X.prog X.w H s.heap a (.frz ob (.lst xs))from I.hok a _ ea)
  exact PySem.W.kia_one PySem.W.kitx_list I.kIn ⟨_,h1,rfl⟩ e (λ z=>nomatch z) h
 | @tup a xs ea=>
  cases(show u=Value.ref a from rx)
  obtain⟨_,_,_,p,_⟩:=(show cT X.prog X.w H s.heap a (.tup xs)from I.hok a _ ea)
  obtain⟨o,h1,h2,_⟩:=p
  exact PySem.W.kia_one PySem.W.kitx_tuple I.kIn ⟨o,h1,h2⟩ e (λ z=>nomatch z) h
 | @dK a kvs ea=>
  cases(show u=Value.ref a from rx)
  obtain⟨_,_,vs,_,p⟩:=(show cT X.prog X.w H s.heap a (.dK kvs)from I.hok a _ ea)
  obtain⟨o,es,ep,h1,h2,_⟩:=p
  exact PySem.W.kia_one PySem.W.kitx_dict I.kIn ⟨o,h1,h2.1⟩ e (λ z=>nomatch z) h
 | @dT a kvs ea=>
  cases(show u=Value.ref a from rx)
  obtain⟨_,_,xs,_,o,es,ep,h1,h2,_⟩:=(show cT X.prog X.w H s.heap a (.dT kvs)from I.hok a _ ea)
  exact PySem.W.kia_one PySem.W.kitx_dict I.kIn ⟨o,h1,h2.1⟩ e (λ z=>nomatch z) h
 | @ins a C dx fs ea cl ha hn htk hm=>
  cases(show u=Value.ref a from rx)
  obtain⟨mA,O,_⟩:=Xk I.hok ea
  obtain⟨od,J,_⟩:=O.look
  exact PySem.W.kia_one (PySem.W.kitx_own (cl.get _) cl.hd ha hn htk hm) I.kIn J e (λ z=>nomatch z) h
end
structure bV(k:Nat)(A:Around):Prop where
 hd:A.handled=none
 dp:A.depth+3*k+5<recursionLimit
 un:A.units+16*k+200<cLine
theorem bV.mono{j k:Nat}{A:Around}(r:bV k A)(h:j<=k):bV j A:=⟨r.hd,by have:=r.dp;omega,by have:=r.un;omega⟩
theorem bV.deeper{k:Nat}{A:Around}(r:bV (k+1) A)(env:Env):bV k (A.deeper env):=
 ⟨r.hd,by have:=r.dp;show A.depth+1+3*k+5<_;omega,by have:=r.un;show A.units+3+16*k+200<_;omega⟩
theorem bV.in1{k:Nat}{A:Around}(r:bV (k+1) A):bV k A.in1:=
 ⟨r.hd,by have:=r.dp;show A.depth+3*k+5<_;omega,by have:=r.un;show A.units+1+16*k+200<_;omega⟩
theorem Va{A:Around}{C:Addr}{us:List Value}{kw:List (Str×Value)}:(A.under (.builtin "type.__call__" ⟨.ref C::us,kw⟩)).depth=A.depth+1:=by
 first|rfl|simp[Around.under,Code.weight,Code.isCreation,Code.isGuard,Code.isCaller,Code.frames,Code.isFrame,guardIds]
theorem Ty{A:Around}{C:Addr}{us:List Value}{kw:List (Str×Value)}:(A.under (.builtin "type.__call__" ⟨.ref C::us,kw⟩)).units=A.units+1:=by
 first|rfl|simp[Around.under,Code.cUnits,Code.frames,Code.isFrame]
theorem bV.make{k:Nat}{A:Around}(r:bV (k+1) A)(C:Addr)(us:List Value)(kw:List (Str×Value)):bV k (A.under (.builtin "type.__call__" ⟨.ref C::us,kw⟩)):=
 ⟨r.hd,by have:=r.dp;rw[Va];omega,by have:=r.un;rw[Ty];omega⟩
theorem bV.depth{k:Nat}{A:Around}(r:bV k A):A.depth<recursionLimit:=by have:=r.dp;omega
theorem bV.units{k:Nat}{A:Around}(r:bV k A):A.units+64<cLine:=by have:=r.un;omega
def Kx:TA:=λ _ H Q=>Q [] H
def Bd(ta:TE)(tr:TA):TA:=λ σ H Q=>ta σ H λ x H1=>tr σ H1 λ xs H2=>Q (x::xs) H2
section
variable{X:Cx}{e:Expr}{es:List Expr}{te:TE}{t:TA}{pos:Pos}
theorem aG:PA X [] Kx:=λ _ _ _ _ H Q I h=>Calls.spliced_nil ⟨[],H,I,.nil,h⟩
theorem Pw(ha:PE X e te)(hr:PA X es t)(hs:starEach (e::es) X.env=(false,eval e X.env)::starEach es X.env:=by rfl):PA X (e::es) (Bd te t):=by
 intro pos pins s σ H Q I h
 rw[hs]
 show wpAny _ _ (spliced ((false,eval e X.env)::backTo pos (starEach es X.env))) _ _ s
 refine Calls.spliced_cons (aU (ha pins s σ H _ I h) λ u s1 ⟨x,H1,I1,r1,q1⟩=>?_)
 exact aU (hr pos pins s1 σ H1 _ I1 q1) λ us s2 ⟨xs,H2,I2,r2,q2⟩=>⟨x::xs,H2,I2,.cons r1 r2,q2⟩
def Kn(t:TA):TE:=λ σ H Q=>t σ H λ xs H1=>xs.length<=sizeLine/\∀p,H1 p=none->Q (.ref p) (aA H1 p (.tup xs))
def Lb(t:TA):TE:=λ σ H Q=>t σ H λ xs H1=>xs.length<=sizeLine/\∀p,H1 p=none->Q (.ref p) (aA H1 p (.lst xs))
theorem dF{x1}(h:PA X es t):PE X (.Tuple es x1 pos) (Kn t):=by
 intro pins s σ H Q I hq
 refine wpAny_Tuple_spliced (aU (h pos pins s σ H _ I hq) λ us s1 ⟨xs,H1,I1,r,z,q⟩=>⟨by rw[<-r.length];exact z,?_⟩)
 have hf:H1 s1.heap.objs.size=none:=I1.hok.fresh (Nat.le_refl _)
 refine⟨.ref s1.heap.objs.size,aA H1 s1.heap.objs.size (.tup xs),I1.laid (t':=s1.toks) (λ b u e=>Heap.get?_push_of_some _ e) (Nat.le_refl _) ?_,rfl,q _ hf⟩
 exact⟨z,us,r,⟨_,Heap.get?_push_size _ rfl,rfl,_,rfl⟩,_,Heap.get?_push_size _ rfl,rfl⟩
theorem gB(h:PA X es t):PE X (.List es pos) (Lb t):=by
 intro pins s σ H Q I hq
 refine wpAny_List_spliced (aU (h pos pins s σ H _ I hq) λ us s1 ⟨xs,H1,I1,r,z,q⟩=>⟨by rw[<-r.length];exact z,?_⟩)
 have hf:H1 s1.heap.objs.size=none:=I1.hok.fresh (Nat.le_refl _)
 refine⟨.ref s1.heap.objs.size,aA H1 s1.heap.objs.size (.lst xs),I1.laid (t':=s1.toks) (λ b u e=>Heap.get?_push_of_some _ e) (Nat.le_refl _) ?_,rfl,q _ hf⟩
 exact⟨z,us,0,r,Heap.get?_push_size _ rfl⟩
end
abbrev Sp:=List V->Hp->VK->XK->Prop
abbrev eL:=List Env->Hp->Shared->XK->Value->Shared->Prop
structure gY(P:Program)(w:World)(K:Qf)(mg:Qk)(base:Heap)(A:Around)(outer:List Env)(s:Shared)(H:Hp):Prop where
 frames:A.frames=some outer
 mod:Mod K mg base
 bs:∀b o,base.get? b=some o->s.heap.get? b=some o/\H b=none
 bsz:base.objs.size<=s.heap.objs.size
 funs:s.heap.FunFrames base outer
 frf:∀b∈cC outer,H b=none
 hok:bW P w H s.heap
 bare:AllBare s.gens
def CE(outer:List Env)(P:Program)(w:World)(H:Hp)(s:Shared)(Q:VK)(u:Value)(s':Shared):Prop:=
 ∃v H',s'.os=s.os/\fZ s.gens s'.gens/\Un (cC outer) [] H H' s.heap s'.heap/\bW P w H' s'.heap/\bE v u/\Q v H'
def CR(CX:eL)(outer:List Env)(P:Program)(w:World)(H:Hp)(s:Shared)(Q:VK)(E:XK)(r:Result)(s':Shared):Prop:=
 match r with
 |.ok (.ret u)=>CE outer P w H s Q u s'
 |.ok _=>False
 |.error e=>CX outer H s E e s'
structure bD(P:Program)(w:World)(K:Qf)(mg:Qk)(base:Heap)(CX:eL)(k:Nat)(f:Addr)(fd:FuncData)(ps:List Str)(sp:Sp):Prop where
 len:∀vs H Q E,sp vs H Q E->vs.length=ps.length
 run:∀(A:Around) (outer:List Env) (s:Shared) (H:Hp) (args:Args) (us:List Value) (vs:List V) (Q:VK) (E:XK),bV k A->gY P w K mg base A outer s H->BindsTo s fd args (ps.zip us)->aW vs us->sp vs H Q E->
  codeAny (model P w) A (.call (.ref f) args) (CR CX outer P w H s Q E) s
theorem bD.mono{P:Program}{w:World}{K:Qf}{mg:Qk}{base:Heap}{CX:eL}{j k:Nat}{f:Addr}{fd:FuncData}{ps:List Str}{sp:Sp}(F:bD P w K mg base CX j f fd ps sp)(h:j<=k):
  bD P w K mg base CX k f fd ps sp:=⟨F.len,λ A outer s H args us vs Q E hr=>F.run A outer s H args us vs Q E (hr.mono h)⟩
theorem bD.imp{P:Program}{w:World}{K:Qf}{mg:Qk}{base:Heap}{CX:eL}{k:Nat}{f:Addr}{fd:FuncData}{ps:List Str}{sp sp':Sp}(F:bD P w K mg base CX k f fd ps sp)
  (h:∀vs H Q E,sp' vs H Q E->sp vs H Q E):bD P w K mg base CX k f fd ps sp':=
 ⟨λ vs H Q E q=>F.len vs H Q E (h _ _ _ _ q),λ A outer s H args us vs Q E hr he hb hv hs=>F.run A outer s H args us vs Q E hr he hb hv (h _ _ _ _ hs)⟩
theorem gY.make{P:Program}{w:World}{K:Qf}{mg:Qk}{base:Heap}{A:Around}{outer:List Env}{s:Shared}{H:Hp}(e:gY P w K mg base A outer s H)(C:Addr)(us:List Value)(kw:List (Str×Value)):
  gY P w K mg base (A.under (.builtin "type.__call__" ⟨.ref C::us,kw⟩)) outer s H:=⟨by first|exact e.frames|(simpa[Around.under,Code.envs,Code.isFrame,pushEnvs]using e.frames),e.mod,e.bs,e.bsz,e.funs,e.frf,e.hok,e.bare⟩
theorem gY.in1{P:Program}{w:World}{K:Qf}{mg:Qk}{base:Heap}{A:Around}{outer:List Env}{s:Shared}{H:Hp}(e:gY P w K mg base A outer s H):
  gY P w K mg base A.in1 outer s H:=⟨e.frames,e.mod,e.bs,e.bsz,e.funs,e.frf,e.hok,e.bare⟩
section
variable{X:Cx}{pins:Qj}{σ:St}{H:Hp}{s s':Shared}
theorem aB.env0(I:aB X pins σ H s):gY X.prog X.w X.K X.mg X.base X.A X.stack s H:=
 ⟨I.ok.frames,I.ok.mod,I.bs,Nat.le_trans I.ok.bsz I.sz,I.stack,I.stkFree,I.hok,I.bare.1⟩
theorem aB.after{Q:VK}{u:Value}(I:aB X pins σ H s)(h:CE X.stack X.prog X.w H s Q u s'):EP X pins σ Q u s':=by
 obtain⟨v,H',os,bare,un,hok,r,q⟩:=h
 obtain⟨hh,g,d,t,os'⟩:=s'
 obtain rfl:os'=s.os:=os
 exact⟨v,H',I.call (h':=hh) (g':=g) (d':=d) (t':=t) (ch:=[]) un hok bare (λ b z=>absurd z Qb),r,q⟩
end
def vC(sp:Sp)(dvs:List V)(E:XK)(t:TA):TE:=λ σ H Q=>t σ H λ vs H1=>sp (vs++dvs) H1 Q E
def jB(K:Qf)(fd:FuncData)(ps:List Str)(ds:List Value):Prop:=
 ∀(s:Shared) (us:List Value),K.In s.heap->(us++ds).length=ps.length->BindsTo s fd ⟨us,[]⟩ (ps.zip (us++ds))
theorem jB.all{K:Qf}{fd:FuncData}{ps:List Str}(h:∀us:List Value,us.length=ps.length->bindArgs fd ⟨us,[]⟩=pure (ps.zip us)):jB K fd ps []:=λ s us _ hl=>by
 rw[List.append_nil]at hl⊢
 exact .of_eq (h us hl)
def yO(CX:eL)(X:Cx)(E:XK):Prop:=∀(pins:Qj) (σ:St) (H:Hp) (s:Shared) (e:Value) (s':Shared),aB X pins σ H s->CX X.stack H s E e s'->X.xe e s'
section
variable{X:Cx}{CX:eL}{k:Nat}{f C:Addr}{fd:FuncData}{ps:List Str}{sp:Sp}{dvs:List V}{ds:List Value}{E:XK}{x m:Str}{p pos apos:Pos}{e o:Expr}{es:List Expr}{ta:TE}{t:TA}
theorem Nj{pins:Qj}{σ:St}{H:Hp}{s:Shared}{Q:VK}{us:List Value}{vs:List V}(F:bD X.prog X.w X.K X.mg X.base CX k f fd ps sp)(hr:bV k X.A)(hb:jB X.K fd ps ds)(hd:aW dvs ds)(hx:yO CX X E)
  (I:aB X pins σ H s) (r:aW vs us) (h:sp (vs++dvs) H Q E):wpAny (model X.prog X.w) X.A (call (.ref f) us) (EP X pins σ Q) X.xe s:=by
 have r2:aW (vs++dvs) (us++ds):=r.append hd
 have hl:(us++ds).length=ps.length:=by rw[<-r2.length];exact F.len _ _ _ _ h
 refine wpAny_call (codeAny_mono (F.run X.A X.stack s H ⟨us,[]⟩ (us++ds) (vs++dvs) Q E hr I.env0 (hb s us I.kIn hl) r2 h) λ r s' hq=>?_)
 cases r with
 |error e=>exact hx pins σ H s e s' I hq
 |ok fl=>
  cases fl with
  |ret u=>exact I.after hq
  |next=>exact False.elim hq
  |brk=>exact False.elim hq
  |cont=>exact False.elim hq
theorem Pt(F:bD X.prog X.w X.K X.mg X.base CX k f fd ps sp)(hr:bV k X.A)(hg:Gl X x)(hm:X.mg x=some (.ref f))(hk:PySem.W.keepIn X.K (.ref f)=true)(hb:jB X.K fd ps ds)(hd:aW dvs ds)(hx:yO CX X E)
  (ha:PA X (e::es) t) (hdb:(x==("__debug__" :Str))=false:=by decide) (he:starEach (e::es) X.env=(false,eval e X.env)::starEach es X.env:=by rfl) (hpl:(backTo pos (starEach es X.env)).any (·.1)=false:=by rfl):
  PE X (.Call (.Name x p) (e::es) [] pos) (vC sp dvs E t):=by
 intro pins s σ H Q I h
 refine wpAny_Call_Name_kw (nM I hg hm ?_ hdb)
 refine PySem.W.callWith_K (h₀:=X.base) I.ok.mod.kin hk (aU (ha pos pins s σ H _ I h) λ us s1 ⟨vs,H1,I1,r,q⟩=>⟨I1.kIn,?_⟩) he hpl
 exact Nj F hr hb hd hx I1 r q
end
section
variable{X:Cx}{CX:eL}{k:Nat}{f C:Addr}{fd:FuncData}{ps ks:List Str}{sp:Sp}{E:XK}{x m:Str}{p pos apos kpos:Pos}{e o:Expr}{es:List Expr}{kws:List Keyword}{te ta:TE}{t tk:TA}{nm:Option Str}
variable{g:List Value->List Value->List Value}{gV:List V->List V->List V}
end
structure bT(N P:List Str)(sc:Scope):Prop where
 kind:sc.kind= .function
 co:sc.isCoroutine=false
 gen:sc.isGenerator=false
 nd:N.Nodup
 pre:N.take P.length=P
 par:∀x∈P,sc.names.lookup x=some .local\/sc.names.lookup x=some .cell
 nofree:∀y∈sc.names,y.2≠ .free
theorem Gi{kindOf:Str->Option NameKind}{x:Str}:∀{binds:List (Str×Value)} {m:Qk},(∀v,(x,v)∉binds)->bindL kindOf binds m x=m x
 |[],_,_=>rfl
 | (n,v)::r,m,h=>by
  unfold bindL
  rw[Gi λ w hw=>h w (List.mem_cons_of_mem _ hw)]
  split
  ·have:x≠n:=by rintro rfl;exact h v List.mem_cons_self
   simp[this]
  ·rfl
theorem Gj{kindOf:Str->Option NameKind}{x:Str}:∀{binds:List (Str×Value)} {m:Qk},(∀v,(x,v)∉binds)->bindC kindOf binds m x=m x
 |[],_,_=>rfl
 | (n,v)::r,m,h=>by
  unfold bindC
  rw[Gj λ w hw=>h w (List.mem_cons_of_mem _ hw)]
  split
  ·rfl
  ·have:x≠n:=by rintro rfl;exact h v List.mem_cons_self
   simp[this]
theorem xZ{kindOf:Str->Option NameKind}{x:Str}{v:Value}:∀{P:List Str} {vs:List Value} {i:Nat} {m:Qk},P.Nodup->P[i]? =some x->vs[i]? =some v->kindOf x=some .local->
  bindL kindOf (P.zip vs) m x=some v
 |[],_,_,_,_,h,_,_=>by simp at h
 |_::_,[],_,_,_,_,h,_=>by simp at h
 |p::P,w::vs,0,m,nd,h1,h2,hk=>by
  simp at h1 h2;subst h1;subst h2
  show bindL kindOf ((p,w)::P.zip vs) m p=_
  unfold bindL
  rw[Gi λ v hv=>(List.nodup_cons.mp nd).1 (List.of_mem_zip hv).1,if_pos hk]
  simp
 |p::P,w::vs,i+1,m,nd,h1,h2,hk=>by
  show bindL kindOf ((p,w)::P.zip vs) m x=_
  unfold bindL
  exact xZ (i:=i) (List.nodup_cons.mp nd).2 (by simpa using h1) (by simpa using h2) hk
theorem yA{kindOf:Str->Option NameKind}{x:Str}{v:Value}:∀{P:List Str} {vs:List Value} {i:Nat} {m:Qk},P.Nodup->P[i]? =some x->vs[i]? =some v->kindOf x≠some .local->
  bindC kindOf (P.zip vs) m x=some v
 |[],_,_,_,_,h,_,_=>by simp at h
 |_::_,[],_,_,_,_,h,_=>by simp at h
 |p::P,w::vs,0,m,nd,h1,h2,hk=>by
  simp at h1 h2;subst h1;subst h2
  show bindC kindOf ((p,w)::P.zip vs) m p=_
  unfold bindC
  rw[Gj λ v hv=>(List.nodup_cons.mp nd).1 (List.of_mem_zip hv).1,if_neg hk]
  simp
 |p::P,w::vs,i+1,m,nd,h1,h2,hk=>by
  show bindC kindOf ((p,w)::P.zip vs) m x=_
  unfold bindC
  exact yA (i:=i) (List.nodup_cons.mp nd).2 (by simpa using h1) (by simpa using h2) hk
def start(N:List Str)(vs:List V):St:=vs.map some++List.replicate (N.length-vs.length) none
def iE(CX:eL)(P:Program)(w:World)(K:Qf)(mg:Qk)(base:Heap)(N:List Str)(qual:Str)(scope:Scope)(f:Addr)(cd:Value)(A:Around)(outer:List Env)(s:Shared)(H:Hp)(E:XK):Cx where
 prog:=P
 w:=w
 K:=K
 mg:=mg
 base:=base
 A:=A.deeper (envOfC qual scope s.heap.objs.size f cd)
 N:=N
 s₀:=s
 H₀:=H
 env:=envOfC qual scope s.heap.objs.size f cd
 outer:=outer
 stack:=envOfC qual scope s.heap.objs.size f cd::outer
 ex:=[]
 calm:=true
 fn:=λ _=>true
 pn:=[]
 xe:=λ e s'=>wpAny (model P w) (A.deeper (envOfC qual scope s.heap.objs.size f cd)) (leaving (envOfC qual scope s.heap.objs.size f cd) e) (λ _ s''=>CX outer H s E e s'') (λ e' s''=>CX outer H s E e' s'') s'
theorem tZ{sc:Scope}{n:Nat}{x:Str}(h:sc.names.lookup x=some .cell):∃c,(cellsFrom n sc.names []).lookup x=some c:=by
 have q:=PySem.W.cellsFrom_some sc.names n [] (.inl h)
 exact Option.isSome_iff_exists.mp q
theorem Xe{CX:eL}{P:Program}{w:World}{K:Qf}{mg:Qk}{base:Heap}{N ps:List Str}{qual:Str}{scope:Scope}{f:Addr}{cd:Value}{A:Around}{outer:List Env}{s s1:Shared}{H:Hp}{E:XK}{us:List Value}{vs:List V}
  (S:bT N ps scope) (hd:A.handled=none) (e0:gY P w K mg base A outer s H) (hl:vs.length=ps.length) (r:aW vs us)
  (x:InCallC s s.heap.objs.size (bindL (envOfC qual scope s.heap.objs.size f cd).kindOf (ps.zip us) λ _=>none) (cellsFrom (s.heap.objs.size+1) scope.names []) (bindC (envOfC qual scope s.heap.objs.size f cd).kindOf (ps.zip us) λ _=>none) s1):
  aB (iE CX P w K mg base N qual scope f cd A outer s H E) [] (start N vs) H s1:=by
 have hpl:ps.length<=N.length:=by have:=congrArg List.length S.pre;rw[List.length_take]at this;omega
 obtain⟨h1,tk,rfl,hk⟩:=x.done
 have noA:∀b:Addr,b∉(iE CX P w K mg base N qual scope f cd A outer s H E).ex:=λ b z=>absurd (show b∈([]:List Addr)from z) Qb
 refine⟨⟨e0.mod,S.kind,rfl,rfl,Nat.le_refl _,λ y z c h1 h2=>?_,λ y hy=>?_,λ y c _ h=>?_,λ _=>hd,Around.frames_deeper e0.frames,.inr ⟨rfl,rfl⟩,λ b z=>absurd z (noA b),e0.bs,e0.bsz,λ b _ _=>noA b,λ b z=>absurd z (noA b),e0.funs,e0.frf⟩,
  rfl,⟨e0.bare,Nat.le_refl _⟩,Un.kept hk,⟨_,x.toInCall.ns,λ i y v h1 h2 h3=>?_⟩,λ y c h=>⟨_,x.cell y c h⟩,e0.hok.fresh (Nat.le_refl _),λ y c h=>?_,λ p hp=>absurd (show p∈([]:Qj)from hp) Qb,e0.hok.kept hk,?_⟩
 ·exact name_of_addr x.apart (PySem.mem_of_lookup h1) (PySem.mem_of_lookup h2)
 ·have hy:scope.names.lookup y=some .cell\/scope.names.lookup y=some .free:=hy
  rcases hy with hy|hy
  ·exact tZ hy
  ·exact absurd rfl (S.nofree _ (PySem.mem_of_lookup hy))
 ·exact Nat.le_of_lt (x.above y c (PySem.mem_of_lookup h))
 ·have hi:i<vs.length:=by
   unfold start at h2
   by_cases hi:i<vs.length
   ·exact hi
   ·rw[List.getElem?_append_right (by simpa using hi)]at h2
    rw[List.getElem?_replicate]at h2
    split at h2<;>cases h2
  have ha:vs[i]? =some v:=by
   unfold start at h2
   rw[List.getElem?_append_left (by simpa using hi),List.getElem?_map]at h2
   cases e:vs[i]? with
   |none=>rw[e]at h2;cases h2
   |some a=>rw[e]at h2;cases h2;rfl
  obtain⟨u,hu,rv⟩:=r.get ha
  have hp:ps[i]? =some y:=by
   rw[<-S.pre,List.getElem?_take_of_lt Qa];exact h1
  have ndP:ps.Nodup:=by rw[<-S.pre];exact S.nd.sublist (List.take_sublist _ _)
  refine⟨u,rv,?_⟩
  rcases S.par y (List.mem_of_getElem? hp)with k|k
  ·exact .inl ⟨k,xZ ndP hp hu k⟩
  ·obtain⟨c,e⟩:=tZ (n:=s.heap.objs.size+1) k
   refine .inr ⟨.inl k,c,e,?_⟩
   have q:=x.cell y c e
   rw[yA ndP hp hu (by show scope.names.lookup y≠_;rw[k];decide)]at q
   exact q
 ·exact e0.hok.fresh (Nat.le_of_lt (x.above y c (PySem.mem_of_lookup h)))
 ·unfold start
  show _=N.length
  rw[List.length_append,List.length_map,List.length_replicate]
  omega
theorem tT{CX:eL}{P:Program}{w:World}{K:Qf}{mg:Qk}{base:Heap}{k:Nat}{f:Addr}{name qual:Str}{params:Arguments}{body:List Stmt}{scope:Scope}{dV kV doc pm cdv ct oc:Value}{an od:Option Addr}
  {osl:Array (Option Value)} {N ps:List Str} {sp:Sp} (lk:K.lookup f=some ⟨oc,od,.func (PySem.W.fnOf name qual params body scope dV kV doc pm an cdv ct),osl⟩) (hcd:PySem.W.codeIn K cdv qual=true) (S:bT N ps scope)
  (len:∀vs H Q E,sp vs H Q E->vs.length=ps.length)
  (hbody:∀(A:Around) (outer:List Env) (s:Shared) (H:Hp) (vs:List V) (Q:VK) (E:XK),bV k (A.deeper (envOfC qual scope s.heap.objs.size f cdv))->sp vs H Q E->
   ∃t,eJ (iE CX P w K mg base N qual scope f cdv A outer s H E) body t/\t {nx:=λ _ H'=>Q .non H',rt:=Q} (start N vs) H):
  bD P w K mg base CX (k+1) f (PySem.W.fnOf name qual params body scope dV kV doc pm an cdv ct) ps sp:=by
 refine⟨len,λ A outer s H args us vs Q E hr e0 hb r hsp=>?_⟩
 have hl:=len _ _ _ _ hsp
 have KX:K.In s.heap:=e0.mod.kin.keeps λ b o e=>(e0.bs b o e).1
 have lim:s.heap.NoLimit:=e0.mod.nolimit.keeps λ b o e=>(e0.bs b o e).1
 have hkind:∀y∈ps.zip us,scope.names.lookup y.1=some .local\/(scope.names.lookup y.1=some .cell/\((cellsFrom (s.heap.objs.size+1) scope.names []).lookup y.1).isSome=true):=λ ⟨n,v⟩ hy=>by
  rcases S.par n (List.of_mem_zip hy).1 with q|q
  ·exact .inl q
  ·exact .inr ⟨q,PySem.W.cellsFrom_some _ _ _ (.inl q)⟩
 refine codeAny_call_function hr.depth (KX _ _ lk) rfl S.co S.gen rfl (PySem.W.codeRec_of KX hcd) (hb _ _ _ _ ?_)
 refine wpAny_newFunctionEnv_cells S.kind hkind λ env he s1 x=>?_
 subst he
 refine⟨lim.keeps x.toInCall.keep,codeAny_func ?_⟩
 obtain⟨t,ht,hq⟩:=hbody A outer s H vs Q E (hr.deeper _) hsp
 have I:aB (iE CX P w K mg base N qual scope f cdv A outer s H E) [] (start N vs) H s1:=Xe S hr.hd e0 hl r x
 refine wpAny_mono (ht [] s1 (start N vs) H _ I hq) (λ fl s' hs=>?_) λ e s' hs=>hs
 have fin:∀{σ':St} {H':Hp} {v:V} {u:Value},aB (iE CX P w K mg base N qual scope f cdv A outer s H E) [] σ' H' s'->bE v u->Q v H'->CE outer P w H s Q u s':=
  fun{σ' H' v u} J rv q=>⟨v,H',J.os,J.bare,J.base,J.hok,rv,q⟩
 cases fl with
 |ret u=>
  obtain⟨v,σ',H',J,rv,q⟩:=hs
  exact fin J rv q
 |next=>
  obtain⟨σ',H',J,q⟩:=hs
  exact fin (v:=V.non) (u:=Value.none) J rfl q
 |brk=>
  obtain⟨_,_,_,q⟩:=hs
  exact False.elim q
 |cont=>
  obtain⟨_,_,_,q⟩:=hs
  exact False.elim q
section
variable{X:Cx}{x:Str}{p pos:Pos}{e:Expr}{es:List Expr}{t:TA}{id T:String}{r:List V->Hp->VK->Prop}
def Be(r:List V->Hp->VK->Prop)(t:TA):TE:=λ σ H Q=>t σ H λ vs H1=>r vs H1 Q
theorem bL(hc:dX X (.builtin id) r)(hg:Gl X x)(hm:X.mg x=none)(hv:bootBuiltins x=some (.builtin id))(ha:PA X (e::es) t)(hn:x≠ "__name__" :=by decide)(hdb:(x==("__debug__" :Str))=false:=by decide)
  (he:starEach (e::es) X.env=(false,eval e X.env)::starEach es X.env:=by rfl) (hpl:(backTo pos (starEach es X.env)).any (·.1)=false:=by rfl):PE X (.Call (.Name x p) (e::es) [] pos) (Be r t):=by
 intro pins s σ H Q I h
 refine wpAny_Call_Name_kw (mE I hg hm hv ?_ hn hdb)
 exact PyProof.Rows.callWith_builtin1 (aU (ha pos pins s σ H _ I h) λ us s1 ⟨vs,H1,I1,r1,q1⟩=>hc pins s1 σ H1 vs us Q I1 r1 q1) he hpl
theorem iC(hc:dX X (.type T) r)(hg:Gl X x)(hm:X.mg x=none)(hv:bootBuiltins x=some (.type T))(ha:PA X (e::es) t)(hn:x≠ "__name__" :=by decide)(hdb:(x==("__debug__" :Str))=false:=by decide)
  (he:starEach (e::es) X.env=(false,eval e X.env)::starEach es X.env:=by rfl) (hpl:(backTo pos (starEach es X.env)).any (·.1)=false:=by rfl):PE X (.Call (.Name x p) (e::es) [] pos) (Be r t):=by
 intro pins s σ H Q I h
 refine wpAny_Call_Name_kw (mE I hg hm hv ?_ hn hdb)
 exact PyProof.Rows.callWith_type1 (aU (ha pos pins s σ H _ I h) λ us s1 ⟨vs,H1,I1,r1,q1⟩=>hc pins s1 σ H1 vs us Q I1 r1 q1) he hpl
end
end L2
namespace HT
open PySem PyProof.Rows
section
open PySem.SeqAt
open PySem.AutoSeq1 (wpAny_loadPart')
open PySem.MeetsSeq PySem.MeetsSeq2 PySem.MeetsSeq3
end
section
variable{prog:Program}{w:World}{A:Around}{E:Qh}{s:Shared}
theorem cat_tup{t b:Addr}{vs ws:List Value}{Q:Qh}(ht:IsTup s.heap t vs.toArray)(hb:IsTup s.heap b ws.toArray)(hv:vs≠[])
  (h1:ws=[]->Q (.ref t) s) (h2:ws≠[]->Q (.ref s.heap.objs.size) {s with heap:=s.heap.push {cls:=.type "tuple",data:=.seq (vs++ws).toArray}})
  (hsz:vs.length+ws.length<=sizeLine):wpAny Qi A (binaryOp .Add (.ref t) (.ref b)) Q E s:=by
 obtain⟨⟨cls,dd,data,sl⟩,ho,hc,n,hd⟩:=id ht
 obtain⟨⟨cls2,dd2,data2,sl2⟩,ho2,hc2,n2,hd2⟩:=id hb
 simp only at hc hd hc2 hd2
 subst hc hd hc2 hd2
 have e:vs.toArray++ws.toArray=(vs++ws).toArray:=by simp
 by_cases hw:ws=[]
 ·exact concat_meets ⟨_,ho,rfl⟩ ⟨_,ho2,rfl⟩ noFill_tuple_add seq_tuple_add PySem.F.slot_tuple_add PySem.F.entry_tuple_add (PySem.F.args_tuple_add_2 _ _)
   (tuple_addW1 t b vs.toArray ws.toArray n n2 dd dd2 sl sl2 (by simpa using hv) (by simp[hw])) ⟨ho,ho2,h1 hw⟩
 ·refine concat_meets ⟨_,ho,rfl⟩ ⟨_,ho2,rfl⟩ noFill_tuple_add seq_tuple_add PySem.F.slot_tuple_add PySem.F.entry_tuple_add (PySem.F.args_tuple_add_2 _ _)
   (tuple_addW2 t b vs.toArray ws.toArray n n2 dd dd2 sl sl2 (by simpa using hv) (by simpa using hw) (by rw[List.size_toArray,List.size_toArray];exact hsz)) ⟨ho,ho2,?_⟩
  rw[e]
  exact h2 hw
def sIx(n d:Nat):Option Int->Nat
 |none=>d
 |some v=>if v<0 then(v+(n:Int)).toNat else min v.toNat n
theorem sIx_none(n d:Nat):sIx n d none=d:=rfl
theorem sIx_nat(n d k:Nat):sIx n d (some (k:Int))=min k n:=by
 show(if(k:Int)<0 then((k:Int)+(n:Int)).toNat else min (k:Int).toNat n)=min k n
 rw[if_neg Qa,Int.toNat_natCast]
end
end HT
namespace L2
open PySem PySem.Spec PyProof.Rows
abbrev TO:=St->Hp->(Option Int->Hp->Prop)->Prop
def PO(X:Cx)(e:Option Expr)(t:TO):Prop:=
 ∀(pins:Qj) (s:Shared) (σ:St) (H:Hp) (Q:Option Int->Hp->Prop),aB X pins σ H s->t σ H Q->
  wpAny (model X.prog X.w) X.A (evalPart e X.env) (λ u s'=>∃o H',aB X pins σ H' s'/\IsPart u o/\Q o H') X.xe s
def Kw:TO:=λ _ H Q=>Q none H
def Kt(t:TE):TO:=λ σ H Q=>t σ H λ x H1=>∃i,x= .int i/\Q (some i) H1
section
variable{X:Cx}{e:Expr}{te:TE}{lo hi:Option Expr}{tl th:TO}{pos p2:Pos}
theorem lQ:PO X none Kw:=by
 intro pins s σ H Q I h
 rw[evalPart_none]
 exact wpAny_pure ⟨none,H,I,.none,h⟩
theorem lP(h:PE X e te):PO X (some e) (Kt te):=by
 intro pins s σ H Q I hw
 rw[evalPart_some]
 refine aU (h pins s σ H _ I hw) λ u s1 ⟨x,H1,I1,r1,q1⟩=>?_
 obtain⟨i,rfl,q⟩:=q1
 obtain⟨t,rfl⟩:=r1
 exact⟨some i,H1,I1,.int i t,q⟩
def lF(X:Cx)(r:V->Option Int->Option Int->Hp->VK->Prop):Prop:=
 ∀(pins:Qj) (s:Shared) (σ:St) (H:Hp) (x:V) (v vl vu:Value) (lo hi:Option Int) (sl:Addr) (Q:VK),aB X pins σ H s->bE x v->s.heap.IsSliceOf sl vl vu .none->IsPart vl lo->IsPart vu hi->r x lo hi H Q->
  ∃T id,typeLookup (.type T) "__getitem__" =pure (some (.builtin id))/\s.TypeIs v T/\wpAny (model X.prog X.w) X.A (getItem v (.ref sl)) (EP X pins σ Q) X.xe s
theorem lF.or{r r':V->Option Int->Option Int->Hp->VK->Prop}(h:lF X r)(h':lF X r'):lF X (λ x lo hi H Q=>r x lo hi H Q\/r' x lo hi H Q):=by
 intro pins s σ H x v vl vu lo hi sl Q I rx hs pl pu q
 rcases q with q|q
 ·exact h pins s σ H x v vl vu lo hi sl Q I rx hs pl pu q
 ·exact h' pins s σ H x v vl vu lo hi sl Q I rx hs pl pu q
def Kp(r:V->Option Int->Option Int->Hp->VK->Prop)(te:TE)(tl th:TO):TE:=λ σ H Q=>te σ H λ x H1=>tl σ H1 λ l H2=>th σ H2 λ u H3=>r x l u H3 Q
theorem lU{r:V->Option Int->Option Int->Hp->VK->Prop}(hr:lF X r)(he:PE X e te)(hl:PO X lo tl)(hu:PO X hi th):PE X (.Subscript e (.Slice lo hi none p2) pos) (Kp r te tl th):=by
 intro pins s σ H Q I h
 refine Subscript_ (aU (he pins s σ H _ I h) λ v s1 ⟨x,H1,I1,r1,q1⟩=>?_)
 refine wpAny_Slice (aU (hl pins s1 σ H1 _ I1 q1) λ vl s2 ⟨l,H2,I2,pl,q2⟩=>aU (hu pins s2 σ H2 _ I2 q2) λ vu s3 ⟨u,H3,I3,pu,q3⟩=>?_)
 rw[evalPart_none]
 refine wpAny_pure ?_
 have I4:aB X pins σ H3 {s3 with heap:=s3.heap.push {cls:=.type "slice",data:=.fields #[vl,vu,.none]}}:=I3.kept (t':=s3.toks) λ b ob q=>Heap.get?_push_of_some _ q
 obtain⟨T,id,hT,ht,hg⟩:=hr pins {s3 with heap:=s3.heap.push {cls:=.type "slice",data:=.fields #[vl,vu,.none]}} σ H3 x v vl vu l u s3.heap.objs.size Q I4 r1 (Heap.IsSliceOf.new ..) pl pu q3
 show wpAny (model X.prog X.w) X.A (subscriptTail e (.Slice lo hi none p2) v (.ref s3.heap.objs.size)) (EP X pins σ Q) X.xe {s3 with heap:=s3.heap.push {cls:=.type "slice",data:=.fields #[vl,vu,.none]}}
 exact tail_any (ops:=[.ref s3.heap.objs.size,v]) ht hT hg (by with_unfolding_all rfl)
def nY(xs:List V)(lo hi:Option Int):List V:=(xs.drop (HT.sIx xs.length 0 lo)).take (HT.sIx xs.length xs.length hi-HT.sIx xs.length 0 lo)
theorem AZ(xs:List V)(lo hi:Option Int):(nY xs lo hi).length<=xs.length:=by
 unfold nY
 rw[List.length_take,List.length_drop]
 omega
def Oo(K:Qf):R2:=λ x y H Q=>∃a b xs ys,x= .ref a/\y= .ref b/\aJ K H a xs/\aJ K H b ys/\xs≠[]/\xs.length+ys.length<=sizeLine/\
 (ys=[]->Q (.ref a) H)/\(ys≠[]->∀p,H p=none->Q (.ref p) (aA H p (.tup (xs++ys))))
theorem aW.nil_iff{xs:List V}{us:List Value}(r:aW xs us):us=[]↔xs=[]:=by
 cases r with
 |nil=>simp
 |cons _ _=>simp
theorem xC:cA X (binaryOp .Add) (Oo X.K):=by
 intro pins s σ H x y v u Q I rx ry h
 obtain⟨a,b,xs,ys,rfl,rfl,ha,hb,hx,hz,q1,q2⟩:=h
 cases rx
 cases ry
 obtain⟨its,r1,p1,_⟩:=I.tuple ha
 obtain⟨its2,r2,p2,_⟩:=I.tuple hb
 refine HT.cat_tup p1 p2 (λ z=>hx (r1.nil_iff.mp z)) (λ z=>⟨.ref a,H,I,rfl,q1 (r2.nil_iff.mp z)⟩) (λ z=>?_) (by rw[<-r1.length,<-r2.length];exact hz)
 refine⟨.ref s.heap.objs.size,_,I.laid (t':=s.toks) (o:=.tup (xs++ys)) (λ b ob q=>Heap.get?_push_of_some _ q) (Nat.le_refl _) ?_,rfl,q2 (λ w=>z (r2.nil_iff.mpr w)) _ (I.hok.fresh (Nat.le_refl _))⟩
 exact⟨by rw[List.length_append];exact hz,_,r1.append r2,IsTup.new _ _,_,Heap.get?_push_size _ rfl,rfl⟩
end
def mI(n:Nat)(i:Int):Option Nat:=if 0<=i then(if i<n then some i.toNat else none)else if-(n:Int)<=i then some (i+n).toNat else none
def iF{α:Type}(xs:List α)(i:Int):Option α:=(mI xs.length i).bind λ j=>xs[j]?
theorem Em{n:Nat}{i:Int}{j:Nat}(h:mI n i=some j):seqIndex? i n=some j/\j<n/\-(n:Int)<=i/\i<n:=by
 unfold mI at h
 by_cases h0:0<=i
 ·rw[if_pos h0]at h
  by_cases h1:i<n
  ·rw[if_pos h1]at h
   have e:i.toNat=j:=Option.some.inj h
   exact⟨by rw[seqIndex_of h0 h1,e],Qa,Qa,h1⟩
  ·rw[if_neg h1]at h;cases h
 ·rw[if_neg h0]at h
  by_cases h1: -(n:Int)<=i
  ·rw[if_pos h1]at h
   have e:(i+n).toNat=j:=Option.some.inj h
   exact⟨by rw[seqIndex_neg Qa h1,e],Qa,h1,Qa⟩
  ·rw[if_neg h1]at h;cases h
theorem yH{α:Type}{xs:List α}{i:Int}{v:α}(h:iF xs i=some v):∃j,seqIndex? i xs.length=some j/\xs[j]? =some v/\j<xs.length/\-(xs.length:Int)<=i/\i<xs.length:=by
 unfold iF at h
 cases e:mI xs.length i with
 |none=>rw[e]at h;cases h
 |some j=>
  rw[e]at h
  obtain⟨h1,h2,h3,h4⟩:=Em e
  exact⟨j,h1,h,h2,h3,h4⟩
theorem uD{α:Type}{xs:List α}{j:Nat}{v:α}(h:xs[j]? =some v):iF xs (j:Int)=some v:=by
 have hj:j<xs.length:=(List.getElem?_eq_some_iff.mp h).1
 have e:mI xs.length (j:Int)=some j:=by
  unfold mI
  rw[if_pos Qa,if_pos Qa];simp
 unfold iF;rw[e];exact h
def CV(b:Expr):Prop:=∀o i,subscripted b false o i=operate [o,i] (getItem o i)
def cQ(X:Cx)(r:R2):Prop:=
 ∀(value slice:Expr) (pins:Qj) (s:Shared) (σ:St) (H:Hp) (x y:V) (v u:Value) (Q:VK),aB X pins σ H s->bE x v->bE y u->r x y H Q->
  subscripted slice false v u=operate [v,u] (getItem v u)->wpAny (model X.prog X.w) X.A (subscriptTail value slice v u) (EP X pins σ Q) X.xe s
def iZ(X:Cx)(id:String)(r:V->List V->Hp->VK->Prop):Prop:=
 ∀(pins:Qj) (s:Shared) (σ:St) (H:Hp) (x:V) (xs:List V) (v:Value) (us:List Value) (Q:VK),aB X pins σ H s->bE x v->aW xs us->r x xs H Q->
  wpAny (model X.prog X.w) X.A (call (.builtin id) (v::us)) (EP X pins σ Q) X.xe s
section
variable{X:Cx}{a b:Expr}{ta tb:TE}{pos:Pos}
theorem cQ.or{r r':R2}(h:cQ X r)(h':cQ X r'):cQ X (λ x y H Q=>r x y H Q\/r' x y H Q):=by
 intro value slice pins s σ H x y v u Q I rx ry q hs
 rcases q with q|q
 ·exact h value slice pins s σ H x y v u Q I rx ry q hs
 ·exact h' value slice pins s σ H x y v u Q I rx ry q hs
theorem iZ.or{id:String}{r r':V->List V->Hp->VK->Prop}(h:iZ X id r)(h':iZ X id r'):iZ X id (λ x xs H Q=>r x xs H Q\/r' x xs H Q):=by
 intro pins s σ H x xs v us Q I rx rs q
 rcases q with q|q
 ·exact h pins s σ H x xs v us Q I rx rs q
 ·exact h' pins s σ H x xs v us Q I rx rs q
theorem aN{r:R2}(hr:cQ X r)(ha:PE X a ta)(hb:PE X b tb)(hs:CV b):PE X (.Subscript a b pos) (rJ r ta tb):=by
 intro pins s σ H Q I h
 exact Subscript_ (yB ha hb I h λ v u s2 x y H2 I2 rx ry q=>hr a b pins s2 σ H2 x y v u Q I2 rx ry q (hs _ _))
def Cn(K:Qf):R2:=λ x y H Q=>∃p xs i v,x= .ref p/\y= .int i/\aQ K H p xs/\iF xs i=some v/\Q v H
def fK(K:Qf):R2:=λ x y H Q=>∃p xs i v,x= .ref p/\y= .int i/\aJ K H p xs/\iF xs i=some v/\Q v H
def Of:R2:=λ x y H Q=>∃z i c,x= .str z/\y= .int i/\z.length<=sizeLine/\iF z.cps.toList i=some c/\Q (.str ⟨#[c]⟩) H
theorem ix_list:cQ X (Cn X.K):=by
 intro value slice pins s σ H x y v u Q I rx ry h hs
 obtain⟨p,xs,i,z,rfl,rfl,hq,he,q⟩:=h
 cases rx
 obtain⟨t,rfl⟩:=ry
 obtain⟨its,r,pl,hz⟩:=I.list hq
 obtain⟨j,h1,h2,h3,h4,h5⟩:=yH he
 obtain⟨w,ew,rw'⟩:=r.get h2
 have hl:=r.length
 have hn:=mD
 have fin:EP X pins σ Q w s:=⟨z,H,I,rw',q⟩
 by_cases h0:0<=i
 ·have hj:i.toNat=j:=by
   rw[seqIndex_of h0 h5]at h1
   exact Option.some.inj h1
  exact item_listR pl.isList h0 Qa (by rw[hj];simpa using ew) fin hs
 ·have hj:(i+(its.toArray.size:Int)).toNat=j:=by
   rw[seqIndex_neg Qa h4]at h1
   rw[List.size_toArray,<-hl]
   exact Option.some.inj h1
  exact subscriptTail_builtinR (x:=w) pl.isList.typeIs slot_list_getitem.lookup
   (wpAny_getItem_list_neg (Q:=λ r s'=>r=w/\EP X pins σ Q r s') pl.isList Qa (by rw[List.size_toArray]<;>omega) Qa (by rw[hj];simpa using ew) ⟨rfl,fin⟩) hs
theorem aX:cQ X (fK X.K):=by
 intro value slice pins s σ H x y v u Q I rx ry h hs
 obtain⟨p,xs,i,z,rfl,rfl,hq,he,q⟩:=h
 cases rx
 obtain⟨t,rfl⟩:=ry
 obtain⟨its,r,pl,hz⟩:=I.tuple hq
 obtain⟨j,h1,h2,h3,h4,h5⟩:=yH he
 obtain⟨w,ew,rw'⟩:=r.get h2
 have hl:=r.length
 have hn:=mD
 have fin:EP X pins σ Q w s:=⟨z,H,I,rw',q⟩
 exact subscriptTail_builtinR (x:=w) pl.typeIs slot_tuple_getitem.lookup
  (getItem_tuple (j:=j) (Q:=λ r s'=>r=w/\EP X pins σ Q r s') pl Qa Qa (by rw[List.size_toArray,<-hl];exact h1) (by simpa using ew) ⟨rfl,fin⟩) hs
theorem Vy:cQ X Of:=by
 intro value slice pins s σ H x y v u Q I rx ry h hs
 obtain⟨z,i,c,rfl,rfl,hz,he,q⟩:=h
 obtain⟨t,rfl⟩:=rx
 obtain⟨t',rfl⟩:=ry
 obtain⟨j,h1,h2,h3,h4,h5⟩:=yH he
 have hl:z.cps.toList.length=z.length:=by simp[Str.length]
 rw[hl]at h1 h4 h5
 have hn:=mD
 exact tail_any (typeIs_str s z t) slot_str_getitem.lookup (getItem_str (c:=c) (by
  have e1:decide (i< -(2^63:Int))=false:=decide_eq_false Qa
  have e2:decide (i≥2^63)=false:=decide_eq_false Qa
  rw[e1,e2,Bool.or_false]) (by rw[h1];simpa using h2) ⟨.str ⟨#[c]⟩,H,I.tok _,⟨_,rfl⟩,q⟩) hs
theorem Tx(its:List Value)(n j:Nat)(u:Value):Obj.mapSeq (·.setIfInBounds j u) {cls:=.type "list",data:=.seq its.toArray n}={cls:=.type "list",data:=.seq (its.set j u).toArray n}:=by
 simp[Obj.mapSeq]
theorem aB.lst{pins:Qj}{σ:St}{H:Hp}{s:Shared}{p:Addr}{xs:List V}(I:aB X pins σ H s)(h:H p=some (.lst xs)):
  ∃(its:List Value) (n:Nat),aW xs its/\s.heap.get? p=some {cls:=.type "list",data:=.seq its.toArray n}/\xs.length<=sizeLine:=by
 obtain⟨z,its,n,r,e⟩:=I.hok p _ h
 exact⟨its,n,r,e,z⟩
theorem aB.lstUpd{pins:Qj}{σ:St}{H:Hp}{s:Shared}{p:Addr}{xs ys:List V}{its its':List Value}{n n':Nat}{f:Obj->Obj}(I:aB X pins σ H s)(h:H p=some (.lst xs))
  (ho:s.heap.get? p=some {cls:=.type "list",data:=.seq its.toArray n}) (hf:f {cls:=.type "list",data:=.seq its.toArray n}={cls:=.type "list",data:=.seq its'.toArray n'}) (r:aW ys its') (hz:ys.length<=sizeLine) (t:Nat):
  aB X pins σ (aA H p (.lst ys)) {s with heap:=s.heap.update p f,toks:=t}:=by
 have e:(s.heap.update p f).get? p=some {cls:=.type "list",data:=.seq its'.toArray n'}:=by
  rw[Heap.get?_update_self f ho (by rw[hf]<;>rfl),hf]
 refine I.write (x:=p) (e:=p) (by rw[h];trivial) (.inl rfl) (λ b u hb q=>(Heap.get?_update_other _ _ (Ne.symm hb)).trans q) ⟨_,e⟩ ?_
 exact⟨hz,its',n',r,e⟩
def Ob:V->V->V->Hp->(Hp->Prop)->Prop:=λ o i v H Q=>∃p xs k j,o= .ref p/\i= .int k/\H p=some (.lst xs)/\mI xs.length k=some j/\Q (aA H p (.lst (xs.set j v)))
theorem Ml:Ha X Ob:=by
 intro pins s σ H o i v ov iv u Q I ro ri rv h
 obtain⟨p,xs,k,j,rfl,rfl,hp,hj,q⟩:=h
 cases ro
 obtain⟨t,rfl⟩:=ri
 obtain⟨its,n,r,ho,hz⟩:=I.lst hp
 obtain⟨h1,h2,h3,h4⟩:=Em hj
 have hl:=r.length
 have hn:=mD
 have I':aB X pins σ (aA H p (.lst (xs.set j v))) {s with heap:=s.heap.update p (Obj.mapSeq (·.setIfInBounds j u))}:=
  I.lstUpd hp ho (Tx its n j u) (r.set rv j) (by rw[List.length_set];exact hz) s.toks
 by_cases h0:0<=k
 ·have hk:k.toNat=j:=by
   rw[seqIndex_of h0 h4]at h1
   exact Option.some.inj h1
  exact PySem.W.ki_setAt ho h0 Qa (by rw[List.size_toArray,<-hl];exact h4) (by rw[hk];exact⟨_,I',q⟩)
 ·have hk:(k+(its.toArray.size:Int)).toNat=j:=by
   rw[seqIndex_neg Qa h3]at h1
   rw[List.size_toArray,<-hl]
   exact Option.some.inj h1
  exact PySem.W.ki_setBack ho Qa (by rw[List.size_toArray,<-hl];exact h3) Qa (by rw[hk];exact⟨_,I',q⟩)
theorem Mf(lo hi:Option Int)(n:Nat):(sliceBounds lo hi none n).1=((HT.sIx n 0 lo:Nat):Int)/\(sliceBounds lo hi none n).2.1=((HT.sIx n n hi:Nat):Int)/\(sliceBounds lo hi none n).2.2=1:=by
 refine⟨?_,?_,rfl⟩
 ·cases lo with
  |none=>simp[sliceBounds,HT.sIx]
  |some i=>
   simp only[sliceBounds,HT.sIx,Option.getD_none,show(1:Int)>0 from Qc,if_true]
   by_cases h:i<0
   ·simp only[h,if_true]<;>omega
   ·simp only[h,if_false]<;>omega
 ·cases hi with
  |none=>simp[sliceBounds,HT.sIx]
  |some i=>
   simp only[sliceBounds,HT.sIx,Option.getD_none,show(1:Int)>0 from Qc,if_true]
   by_cases h:i<0
   ·simp only[h,if_true]<;>omega
   ·simp only[h,if_false]<;>omega
theorem Mg(its:List Value)(lo hi:Option Int):slicePick its.toArray lo hi none=((its.drop (HT.sIx its.length 0 lo)).take (HT.sIx its.length its.length hi-HT.sIx its.length 0 lo)).toArray:=by
 obtain⟨h1,h2,h3⟩:=Mf lo hi its.toArray.size
 unfold slicePick
 rw[h1,h2,h3]
 simp only[sliceRange_one,pick_run,List.size_toArray]<;>rfl
def Nz(K:Qf):V->Option Int->Option Int->Hp->VK->Prop:=λ x lo hi H Q=>∃a xs,x= .ref a/\aQ K H a xs/\∀p,H p=none->Q (.ref p) (aA H p (.lst (nY xs lo hi)))
theorem Mh:lF X (Nz X.K):=by
 intro pins s σ H x v vl vu lo hi sl Q I rx hs pl pu h
 obtain⟨a,xs,rfl,hx,q⟩:=h
 cases rx
 obtain⟨its,r,ht,hz⟩:=I.list hx
 have hlen:=r.length
 refine⟨"list",_,slot_list_getitem.lookup,ht.isList.typeIs,?_⟩
 refine wpAny_getItem_list_slice ht.isList hs pl pu .none Qb ?_ (by rw[List.size_toArray]<;>omega)
 rw[Mg,<-hlen]
 refine⟨.ref s.heap.objs.size,_,I.laid (t':=s.toks) (o:=.lst (nY xs lo hi)) (λ b ob q=>Heap.get?_push_of_some _ q) (Nat.le_refl _) ?_,rfl,q _ (I.hok.fresh (Nat.le_refl _))⟩
 exact⟨Nat.le_trans (AZ xs lo hi) hz,_,0,(r.drop (HT.sIx xs.length 0 lo)).take (HT.sIx xs.length xs.length hi-HT.sIx xs.length 0 lo),Heap.get?_push_size _ rfl⟩
def fA:V->Bool
 |.non=>true
 |.bl _=>true
 |.int _=>true
 |.str _=>true
 |_=>false
def dB:V->V->Bool
 |.non,.non=>true
 |.bl a,.bl b=>a==b
 |.bl a,.int b=>(if a then 1 else 0)==b
 |.int a,.bl b=>a==(if b then 1 else 0)
 |.int a,.int b=>a==b
 |.str a,.str b=>a==b
 |_,_=>false
theorem AX{A:Around}{s:Shared}{y x:V}{u v:Value}(ry:bE y u)(rx:bE x v)(fy:fA y=true)(fx:fA x=true):SeqAt.EqAt A s u v (dB y x):=by
 cases y with
 |non=>
  cases ry
  cases x with
  |non=>cases rx;exact SeqAt.EqAt.same _
  |bl b=>cases rx;exact SeqAt.EqAt.none_bool b
  |int b=>obtain⟨t,rfl⟩:=rx;exact SeqAt.EqAt.none_int b t
  |str b=>obtain⟨t,rfl⟩:=rx;exact SeqAt.EqAt.none_str b t
  |_=>exact absurd (show false=true from fx) Bool.false_ne_true
 |bl a=>
  cases ry
  cases x with
  |non=>cases rx;exact SeqAt.EqAt.bool_none a
  |bl b=>cases rx;exact SeqAt.EqAt.bool_bool a b
  |int b=>obtain⟨t,rfl⟩:=rx;exact SeqAt.EqAt.bool_int a b t
  |str b=>obtain⟨t,rfl⟩:=rx;exact SeqAt.EqAt.bool_str a b t
  |_=>exact absurd (show false=true from fx) Bool.false_ne_true
 |int a=>
  obtain⟨t',rfl⟩:=ry
  cases x with
  |non=>cases rx;exact SeqAt.EqAt.int_none a t'
  |bl b=>cases rx;exact SeqAt.EqAt.int_bool a t' b
  |int b=>obtain⟨t,rfl⟩:=rx;exact SeqAt.EqAt.int_int a t' b t
  |str b=>obtain⟨t,rfl⟩:=rx;exact SeqAt.EqAt.int_str a t' b t
  |_=>exact absurd (show false=true from fx) Bool.false_ne_true
 |str a=>
  obtain⟨t',rfl⟩:=ry
  cases x with
  |non=>cases rx;exact SeqAt.EqAt.str_none a t'
  |bl b=>cases rx;exact SeqAt.EqAt.str_bool a t' b
  |int b=>obtain⟨t,rfl⟩:=rx;exact SeqAt.EqAt.str_int a t' b t
  |str b=>obtain⟨t,rfl⟩:=rx;exact SeqAt.EqAt.str_str a t' b t
  |_=>exact absurd (show false=true from fx) Bool.false_ne_true
 |_=>exact absurd (show false=true from fy) Bool.false_ne_true
def gT(x:V)(u:Value):Bool:=match u with
 |.none=>dB .non x
 |.bool b=>dB (.bl b) x
 |.int i _=>dB (.int i) x
 |.str z _=>dB (.str z) x
 |_=>false
theorem xT{x y:V}{u:Value}(r:bE y u)(f:fA y=true):gT x u=dB y x:=by
 cases y with
 |non=>cases r;rfl
 |bl b=>cases r;rfl
 |int i=>obtain⟨t,rfl⟩:=r;rfl
 |str z=>obtain⟨t,rfl⟩:=r;rfl
 |_=>exact absurd (show false=true from f) Bool.false_ne_true
theorem tG{A:Around}{s:Shared}{x:V}{v:Value}(rx:bE x v)(fx:fA x=true):∀{xs:List V} {us:List Value},aW xs us->xs.all fA=true->∀u∈us,SeqAt.EqAt A s u v (gT x u)
 |_,_,.nil,_=>λ u hu=>by cases hu
 |y::xs,u::us,.cons r t,f=>λ u' hu=>by
  rw[List.all_cons,Bool.and_eq_true]at f
  rcases List.mem_cons.mp hu with rfl|hu
  ·rw[xT r f.1];exact AX r rx f.1 fx
  ·exact tG rx fx t f.2 u' hu
theorem cY:dX X (.builtin "len") (λ xs H Q=>∃p ys,xs=[.ref p]/\(aQ X.K H p ys\/aJ X.K H p ys)/\Q (.int ys.length) H):=by
 intro pins s σ H xs us Q I r h
 obtain⟨p,ys,rfl,hq,q⟩:=h
 obtain⟨u,rfl,rx⟩:=pA r
 cases rx
 have hn:=mD
 rcases hq with hq|hq
 ·obtain⟨its,r',pl,hz⟩:=I.list hq
  have hlen:=r'.length
  exact Calls.call_len_list pl.isList (by simp only[List.size_toArray]<;>omega) ⟨.int ys.length,H,I.tok _,⟨s.toks+1,by rw[List.size_toArray,hlen]⟩,q⟩
 ·obtain⟨its,r',pl,hz⟩:=I.tuple hq
  have hlen:=r'.length
  exact len_tuple pl (by simp only[List.size_toArray]<;>omega) ⟨.int ys.length,H,I.tok _,⟨s.toks+1,by rw[List.size_toArray,hlen]⟩,q⟩
theorem BR:dX X (.builtin "len") (λ xs H Q=>∃z,xs=[.str z]/\z.length<=sizeLine/\Q (.int z.length) H):=by
 intro pins s σ H xs us Q I r h
 obtain⟨z,rfl,hz,q⟩:=h
 obtain⟨u,rfl,t,rfl⟩:=pA r
 have hn:=mD
 exact len_str Qa ⟨.int z.length,H,I.tok _,⟨_,rfl⟩,q⟩
theorem dX.or{f:Value}{r r':List V->Hp->VK->Prop}(h:dX X f r)(h':dX X f r'):dX X f (λ xs H Q=>r xs H Q\/r' xs H Q):=by
 intro pins s σ H xs us Q I rs q
 rcases q with q|q
 ·exact h pins s σ H xs us Q I rs q
 ·exact h' pins s σ H xs us Q I rs q
theorem qJ:dX X (.type "tuple") (λ xs H Q=>∃p ys,xs=[.ref p]/\((aQ X.K H p ys/\∀l,H l=none->Q (.ref l) (aA H l (.tup ys)))\/(aJ X.K H p ys/\Q (.ref p) H))):=by
 intro pins s σ H xs us Q I r h
 obtain⟨p,ys,rfl,h⟩:=h
 obtain⟨u,rfl,rx⟩:=pA r
 cases rx
 rcases h with⟨hq,q⟩|⟨hq,q⟩
 ·obtain⟨its,r',pl,hz⟩:=I.list hq
  have hlen:=r'.length
  refine call_tuple_list pl.isList (λ h' kp=>?_) (by simp only[List.size_toArray]<;>omega)
  have I1:aB X pins σ H {s with heap:=h'}:=I.kept (t':=s.toks) kp
  have I2:aB X pins σ (aA H h'.objs.size (.tup ys)) {s with heap:=h'.push {cls:=.type "tuple",data:=.seq its.toArray}}:=
   I1.laid (t':=s.toks) (λ b o e=>Heap.get?_push_of_some _ e) (Nat.le_refl _) (show cT X.prog X.w _ _ _ (.tup ys)from⟨hz,its,r',IsTup.new _ _,_,Heap.get?_push_size _ rfl,rfl⟩)
  exact⟨.ref h'.objs.size,_,I2,rfl,q _ (I1.hok.fresh (Nat.le_refl _))⟩
 ·obtain⟨its,r',pl,hz⟩:=I.tuple hq
  exact call_tuple_same pl ⟨.ref p,H,I,rfl,q⟩
def Av(K:Qf)(T:String)(x:V)(H:Hp):Prop:=match x with
 |.str _=>T= "str"
 |.int _=>T= "int"
 | .ref p=>(T= "list"/\∃xs,aQ K H p xs)\/(T= "tuple"/\∃o,K.lookup p=some o/\o.cls= .type "tuple"/\o.dict=none)\/
   (T= "dict"/\((∃kvs,H p=some (.dK kvs))\/∃kvs,H p=some (.dT kvs)))\/(T= "set"/\∃S n,H p=some (.set S n))
 |_=>False
theorem Iu{pins:Qj}{σ:St}{H:Hp}{s:Shared}{T:String}{x:V}{v:Value}(I:aB X pins σ H s)(r:bE x v)(ty:Av X.K T x H):
  s.TypeIs v T/\∀a,v= .ref a->∃ob,s.heap.get? a=some ob/\ob.dict=none:=by
 cases x with
 |str z=>
  obtain⟨t,rfl⟩:=r
  cases(show T= "str" from ty)
  exact⟨typeIs_str s z t,λ _ e=>nomatch e⟩
 |int i=>
  obtain⟨t,rfl⟩:=r
  cases(show T= "int" from ty)
  exact⟨typeIs_int s i t,λ _ e=>nomatch e⟩
 | ref p=>
  cases r
  rcases ty with⟨rfl,xs,hq⟩|⟨rfl,o,hk,hc,hd⟩|⟨rfl,hk⟩|⟨rfl,S,n,hk⟩
  ·obtain⟨its,_,pl,_⟩:=I.list hq
   refine⟨pl.isList.typeIs,λ a e=>?_⟩
   cases e
   obtain⟨o,n,e,c,hd,_⟩:=pl
   exact⟨o,e,hd⟩
  ·refine⟨⟨o,I.kIn p o hk,hc⟩,λ a e=>?_⟩
   cases e
   exact⟨o,I.kIn _ o hk,hd⟩
  ·have z:∃o,s.heap.get? p=some o/\o.ExactDict:=by
    rcases hk with⟨kvs,hk⟩|⟨kvs,hk⟩
    ·obtain⟨_,_,_,_,o,_,_,e,ex,_⟩:=I.hok p _ hk
     exact⟨o,e,ex⟩
    ·obtain⟨_,_,_,_,o,_,_,e,ex,_⟩:=I.hok p _ hk
     exact⟨o,e,ex⟩
   obtain⟨o,e,ex⟩:=z
   refine⟨⟨o,e,ex.1⟩,λ a e2=>?_⟩
   cases e2
   exact⟨o,e,ex.2.1⟩
  ·obtain⟨o,_,_,_,e,ex,_⟩:=I.hok p _ hk
   refine⟨⟨o,e,ex.1⟩,λ a e2=>?_⟩
   cases e2
   exact⟨o,e,ex.2.1⟩
 |_=>exact False.elim ty
def Ln(K:Qf)(T:String)(r:V->List V->Hp->VK->Prop)(to:TE)(t:TA):TE:=λ σ H Q=>to σ H λ x H1=>Av K T x H1/\t σ H1 λ xs H2=>r x xs H2 Q
variable{o e:Expr}{es:List Expr}{to:TE}{t:TA}{name:Str}{apos cpos:Pos}{T id:String}{r:V->List V->Hp->VK->Prop}
theorem jJ(pa:PlainAttrs T)(slot:Slot T name id)(hty:typeOf (.builtin id)=pure (.type "method_descriptor"))(hm:iZ X id r)(ho:PE X o to)(ha:PA X (e::es) t)
  (hbase:attributeBase o name X.env (eval o X.env)=eval o X.env:=by rfl)
  (hfew:((backTo cpos (starEach (e::es) X.env)).all (λ x=>!x.1)&&(backToKw cpos (keywordEach [] X.env)).all (λ x=>x.1.isSome)
   &&decide ((e::es).length+([]:List Keyword).length+(if([]:List Keyword).isEmpty then 0 else 1)<30))=true:=by rfl)
  (hline:(apos.endLine==cpos.line)=true:=by rfl) (hs:starEach (e::es) X.env=(false,eval e X.env)::starEach es X.env:=by rfl) (hplain:(backTo cpos (starEach es X.env)).any (·.1)=false:=by rfl):
  PE X (.Call (.Attribute o name apos) (e::es) [] cpos) (Ln X.K T r to t):=by
 intro pins s σ H Q I h
 refine wpAny_Call_method_late hbase hfew hline rfl (aU (ho pins s σ H _ I h) λ v s1 ⟨x,H1,I1,r1,ty,q1⟩=>?_)
 obtain⟨h1,h2⟩:=Iu I1 r1 ty
 refine⟨T,id,pa,slot,hty,h1,h2,?_⟩
 have hA:=ha cpos pins s1 σ H1 _ I1 q1
 rw[hs]at hA⊢
 refine Calls.callWith_builtin (by show(false||(backTo cpos (starEach es X.env)).any (·.1))=false;rw[hplain]<;>rfl) (Calls.evalArgs_plain ?_)
 exact aU hA λ us s2 ⟨vs,H2,I2,r2,q2⟩=>hm pins s2 σ H2 x vs v us Q I2 r1 r2 q2
end
def CZ(X:Cx)(id:String)(r:V->List V->Hp->VK->Prop):Prop:=
 ∀(pins:Qj) (s:Shared) (σ:St) (H:Hp) (x:V) (xs:List V) (v:Value) (us:List Value) (Q:VK),aB X pins σ H s->bE x v->aW xs us->r x xs H Q->
  wpAny (model X.prog X.w) X.A (call (.builtin id) (v::us)) (EP X pins σ Q) X.xe s
theorem aW.one:∀{x:V} {us:List Value},aW [x] us->∃u,us=[u]/\bE x u
 |_,_,.cons r .nil=>⟨_,rfl,r⟩
theorem aW.two:∀{x y:V} {us:List Value},aW [x,y] us->∃u v,us=[u,v]/\bE x u/\bE y v
 | _,_,_,h=>by
  cases h with
  |cons r t=>
   cases t with
   |cons q u=>cases u;exact⟨_,_,rfl,r,q⟩
theorem aW.zero:∀{us:List Value},aW [] us->us=[]
 |_,.nil=>rfl
theorem aW.dropLast{xs:List V}{us:List Value}(h:aW xs us):aW xs.dropLast us.dropLast:=by
 induction h with
 |nil=>exact .nil
 |cons r t ih=>
  cases t with
  |nil=>exact .nil
  |cons q t'=>exact .cons r ih
theorem aW.eraseIdx:∀{xs:List V} {us:List Value} (i:Nat),aW xs us->aW (xs.eraseIdx i) (us.eraseIdx i)
 |_,_,_,.nil=>.nil
 |_,_,0,.cons _ t=>t
 |_,_,i+1,.cons r t=>.cons r (aW.eraseIdx i t)
theorem aW.reverse{xs:List V}{us:List Value}(h:aW xs us):aW xs.reverse us.reverse:=by
 induction h with
 |nil=>exact .nil
 |cons r t ih=>rw[List.reverse_cons,List.reverse_cons];exact aW.append ih (.cons r .nil)
section
variable{X:Cx}{pins:Qj}{σ:St}{H:Hp}{s:Shared}{l b:Addr}{xs ys zs:List V}
theorem aB.lset{its its':List Value}{n:Nat}{f:Array Value->Array Value}{t':Nat}(I:aB X pins σ H s)(hH:H l=some (.lst xs))
  (e:s.heap.get? l=some {cls:=.type "list",data:=.seq its.toArray n}) (hf:f its.toArray=its'.toArray) (hv:aW ys its') (hz:ys.length<=sizeLine):
  aB X pins σ (aA H l (.lst ys)) {s with heap:=s.heap.update l (Obj.mapSeq f),toks:=t'}:=by
 have q:=PySem.IsL.update e f
 rw[hf]at q
 refine I.write (x:=l) (e:=l) (by rw[hH];exact trivial) (.inl rfl) (λ b' u hb hu=>(Heap.get?_update_other s.heap (Obj.mapSeq f) (Ne.symm hb)).trans hu) ⟨_,q⟩ ?_
 exact⟨hz,its',_,hv,q⟩
theorem aB.lnew{its:List Value}{t':Nat}(I:aB X pins σ H s)(hv:aW ys its)(hz:ys.length<=sizeLine):
  aB X pins σ (aA H s.heap.objs.size (.lst ys)) {s with heap:=s.heap.push {cls:=.type "list",data:=.seq its.toArray},toks:=t'}:=
 I.laid (λ _ _ q=>Heap.get?_push_of_some _ q) (Nat.le_refl _) ⟨hz,its,0,hv,Heap.get?_push_size _ rfl⟩
theorem aB.fresh(I:aB X pins σ H s):H s.heap.objs.size=none:=I.hok.fresh (Nat.le_refl _)
theorem aB.lstM(I:aB X pins σ H s)(hH:H l=some (.lst xs)):xs.length<=sizeLine/\∃(its:List Value) (n:Nat),aW xs its/\xs.length=its.length/\s.heap.get? l=some {cls:=.type "list",data:=.seq its.toArray n}:=by
 obtain⟨z,its,n,r,e⟩:=I.hok l _ hH
 exact⟨z,its,n,r,r.length,e⟩
end
section
variable{X:Cx}
def Os:V->List V->Hp->VK->Prop:=λ x vs H Q=>∃l xs y,x= .ref l/\vs=[y]/\H l=some (.lst xs)/\xs.length<sizeLine/\Q .non (aA H l (.lst (xs++[y])))
theorem sZ:CZ X "list.append" Os:=by
 intro pins s σ H x vs v us Q I rx rv h
 obtain⟨l,xs,y,rfl,rfl,hH,hz,q⟩:=h
 cases rx
 obtain⟨u,rfl,ru⟩:=rv.one
 obtain⟨z,its,n,r,hl,e⟩:=I.lstM hH
 refine call_meets F.slot_list_append ⟨_,e,rfl⟩ F.entry_list_append (F.args_list_append_2 _ _) (PySem.list_append l its.toArray n u (by rw[List.size_toArray];omega)) ⟨e,?_⟩
 refine⟨.non,_,I.lset (its':=its++[u]) hH e Qb (r.append (.cons ru .nil)) ?_,rfl,q⟩
 rw[List.length_append,List.length_singleton]
 omega
def Oq:R2:=λ x y H Q=>∃l b xs zs,x= .ref l/\y= .ref b/\H l=some (.lst xs)/\H b=some (.lst zs)/\xs.length+zs.length<=sizeLine/\∀p,H p=none->Q (.ref p) (aA H p (.lst (xs++zs)))
theorem sQ:cA X (binaryOp .Add) Oq:=by
 intro pins s σ H x y v u Q I rx ry h
 obtain⟨l,b,xs,zs,rfl,rfl,hH,hB,hz,q⟩:=h
 cases rx
 cases ry
 obtain⟨z,its,n,r,hl,e⟩:=I.lstM hH
 obtain⟨z2,its2,n2,r2,hl2,e2⟩:=I.lstM hB
 refine PySem.P.add_list e e2 ?_ (by rw[List.size_toArray,List.size_toArray];omega)
 have ea:its.toArray++its2.toArray=(its++its2).toArray:=by simp
 rw[ea]
 exact⟨.ref _,_,I.lnew (t':=s.toks) (r.append r2) (by rw[List.length_append];omega),rfl,q _ I.fresh⟩
end
section
variable{prog:Program}{w:World}{A:Around}{E:Qh}{s:Shared}
end
section
variable{X:Cx}
end
end L2
namespace Att
open PySem PySem.W PySem.Calls PyProof.Rows
theorem Xi{P:Params}{h:Heap}:∀(ns:List Int) (vs:List Value),WellAll P h vs (ns.map WData.int)->IntsAre vs ns:=by
 intro ns
 induction ns with
 |nil=>
  intro vs w
  rw[List.map_nil]at w
  cases w
  exact .nil
 | cons n ns ih=>
  intro vs w
  rw[List.map_cons]at w
  cases w with
  |cons a b=>
   cases a
   exact .cons _ _ (ih _ b)
theorem Mv{l:OpenLaw}{n:Nat}(hn:l.most=some n){P:Params}{h:Heap}{args:List WData}{vals:List Value}
  (hpre:l.row.toRowW.claim.pre args=true) (hwl:WellAll P h vals args):
  ∃a vs ns,vals=[Value.ref a]/\args=[WData.list (ns.map WData.int)]/\h.get? a=some {cls:=.type "list",data:=.seq vs.toArray}/\IntsAre vs ns/\ns.length<=n:=by
 have hsh:WShape.hasAll [] args [.list .int]=true:=(pre_splitW hpre).1
 have hc:l.pre.holds [] {args:=args}=true:=(pre_splitW hpre).2
 obtain⟨d,r,rfl,h1,h2⟩:=hasAllW_cons hsh
 obtain rfl:=hasAllW_nil h2
 obtain⟨xs,rfl,h3⟩:=hasW_list h1
 obtain⟨ns,rfl⟩:=items_int h3
 have hlen:ns.length<=n:=by
  unfold OpenLaw.pre at hc
  have h4:(WTm.not (.lt (.lit (.int (n:Int))) (.len (.arg 0)))).holds [] {args:=[.list (ns.map .int)]}=true:=by
   have h4:=(holds_andW hc).1
   rw[hn]at h4
   exact h4
  have h5:=condW_of h4 (w_not (w_lt w_lit (w_len_list (w_arg rfl))))
  rw[List.length_map]at h5
  refine Nat.le_of_not_lt λ q=>?_
  have q':(n:Int)<((ns.length:Nat):Int):=by omega
  first
   |(rw[decide_eq_true q']at h5;exact absurd h5 Qc)
   |(simp at h5;omega)
 cases hwl with
 |cons w1 w2=>
  cases w2
  cases w1 with
  |list ho hall=>exact⟨_,_,ns,rfl,rfl,ho,Xi ns _ hall,hlen⟩
theorem Pb(l:OpenLaw)(args:List WData):l.row.toRowW.claim.post args (.bool true) args=true:=
 postW_of (r:=l.row.toRowW) (X:=(true==true))
  (show WShape.has [] (.bool true) .bool=true by first|rfl|decide|simp[WShape.has,WShape.arms,WShape.armsAll])
  (show(WTm.eq .res (.lit (.bool true))).value [] {args:=args,res:=some (.bool true),after:=args}=some (.bool (true==true))from w_eq_bool (w_res rfl) w_lit) rfl
theorem attach_call{l:OpenLaw}{n:Nat}{q:Program}{loose:List Str}{XP:(Str->Option Value)->Heap->Prop}{YP:World->Heap->Prop}{d:DefRec}
  (hn:l.most=some n) (hdf:d.params.defaults=[])
  (call:∀(w:World) (s₀ s₁:Shared) (mg mb:Qk) (fa:Addr) (o:Obj) (pm cd doc:Value) (a:Addr) (vs:List Value) (ns:List Int),
   Ground q loose [] XP w s₀ mg mb s₁.heap->YP w s₁.heap->
   s₁.heap.get? fa=some o->o.data= .func (docDef d.name d.params d.body d.scope pm cd doc)->s₁.heap.CodeRec cd d.name->mg d.name=some (.ref fa)->
   s₁.heap.get? a=some {cls:=.type "list",data:=.seq vs.toArray}->IntsAre vs ns->ns.length<=n->s₁.gens= #[]->
   codeAny (model l.prog w) callerA (.call (.ref fa) ⟨[.ref a],[]⟩) (λ r s'=>r= .ok (.ret (.bool true))/\OldK s₁.heap s'.heap/\s'.os=s₁.os/\AllBare s'.gens) s₁):
  WalkO q loose XP YP l.row.toRowW d [] (λ f vs=>PySem.call f vs):=by
 intro w s₀ s₁ mg mb G Y fa o pm cd doc dV kV ho hd hcd hD hmg hg args vals as hpre hlay hrd hwl hlo
 obtain rfl:dV= .none:=Dflts.none hD hdf
 obtain rfl:kV= .none:=Dflts.noKw hD
 obtain⟨a,vs,ns,rfl,rfl,hobj,hints,hlen⟩:=Mv hn hpre hwl
 refine enter_call (codeAny_mono (call w s₀ s₁ mg mb fa o pm cd doc a vs ns G Y ho (fd_plain hd) hcd hmg hobj hints hlen hg) λ r s' hq=>?_)
 obtain⟨rfl,h2,h3,h4⟩:=hq
 exact⟨.inl ⟨.bool true,.bool true,[],rfl,λ _=>rfl,.bool true,Pb l _,λ _=>⟨List.Pairwise.nil,λ _ hm=>(nomatch hm)⟩⟩,h2,h3,h4⟩
section
variable{prog:Program}{w:World}{A:Around}{E:Qh}{s:Shared}{K:Frag}
end
end Att
namespace L2
open PySem PySem.Spec PyProof.Rows
theorem Aq:∀{vs:List Value} {ns:List Int},IntsAre vs ns->aW (ns.map V.int) vs
 |_,_,.nil=>.nil
 |_,_,.cons n t h=>.cons ⟨t,rfl⟩ (Aq h)
def fT(s:Stmt):Arguments:=match s with
 |.FunctionDef _ a _ _ _ _ _ _ _ _=>a
 |_=>{posonlyargs:=[],args:=[],vararg:=none,kwonlyargs:=[],kw_defaults:=[],kwarg:=none,defaults:=[]}
def eE(s:Stmt):List Stmt:=match s with
 |.FunctionDef _ _ b _ _ _ _ _ _ _=>b
 |_=>[]
def aT(s:Stmt):Scope:=match s with
 |.FunctionDef _ _ _ _ _ _ sc _ _ _=>sc
 |_=>{kind:=.function,names:=[],isGenerator:=false,isCoroutine:=false}
abbrev bM:eL:=λ _ _ _ _ _ _=>False
abbrev E0:XK:=λ _ _ _=>False
theorem Pu{X:Cx}:yO bM X E0:=λ _ _ _ _ _ _ _ h=>h.elim
structure bO(K:Qf)(x qual:Str)(st:Stmt)(f:Addr)(fd:FuncData):Prop where
 ex:∃(oc:Value) (od:Option Addr) (kV doc pm:Value) (an:Option Addr) (cdv ct:Value) (osl:Array (Option Value)),
  fd=PySem.W.fnOf x qual (fT st) (eE st) (aT st) .none kV doc pm an cdv ct/\K.lookup f=some ⟨oc,od,.func fd,osl⟩/\PySem.W.codeIn K cdv qual=true
 kp:PySem.W.keepIn K (.ref f)=true
section
variable{P:Program}{w:World}{K:Qf}{mg:Qk}{base:Heap}
theorem bO.ok{x qual:Str}{st:Stmt}{f:Addr}{fd:FuncData}{N ps:List Str}{k:Nat}{sp:Sp}(F:bO K x qual st f fd)(S:bT N ps (aT st))(len:∀vs H Q E,sp vs H Q E->vs.length=ps.length)
  (hbody:∀(cdv:Value) (A:Around) (outer:List Env) (s:Shared) (H:Hp) (vs:List V) (Q:VK) (E:XK),bV k (A.deeper (envOfC qual (aT st) s.heap.objs.size f cdv))->sp vs H Q E->
   ∃t,eJ (iE bM P w K mg base N qual (aT st) f cdv A outer s H E).nox (eE st) t/\t {nx:=λ _ H'=>Q .non H',rt:=Q} (start N vs) H):bD P w K mg base bM (k+1) f fd ps sp:=by
 obtain⟨oc,od,kV,doc,pm,an,cdv,ct,osl,rfl,lk,hcd⟩:=F.ex
 refine tT lk hcd S len λ A outer s H vs Q E hr hsp=>?_
 obtain⟨t,h,q⟩:=hbody cdv A outer s H vs Q E hr hsp
 exact⟨t,h.nox,q⟩
theorem bO.binds{x qual:Str}{st:Stmt}{f:Addr}{fd:FuncData}{ps:List Str}(F:bO K x qual st f fd)
  (h:∀(kV doc pm:Value) (an:Option Addr) (cdv ct:Value) (us:List Value),us.length=ps.length->bindArgs (PySem.W.fnOf x qual (fT st) (eE st) (aT st) .none kV doc pm an cdv ct) ⟨us,[]⟩=pure (ps.zip us)):jB K fd ps []:=by
 obtain⟨oc,od,kV,doc,pm,an,cdv,ct,osl,rfl,lk,hcd⟩:=F.ex
 exact .all (h kV doc pm an cdv ct)
theorem AE{x qual:Str}{st:Stmt}{f:Addr}{oc:Value}{od an:Option Addr}{osl:Array (Option Value)}{kV doc pm cdv ct:Value}(l:K.lookup f=some ⟨oc,od,.func (PySem.W.fnOf x qual (fT st) (eE st) (aT st) .none kV doc pm an cdv ct),osl⟩)
  (c:PySem.W.codeIn K cdv qual=true) (k:PySem.W.keepIn K (.ref f)=true):bO K x qual st f (PySem.W.fnOf x qual (fT st) (eE st) (aT st) .none kV doc pm an cdv ct):=⟨⟨oc,od,kV,doc,pm,an,cdv,ct,osl,rfl,l,c⟩,k⟩
end
theorem cB{n:Nat}(h:n<=1000):n<sizeLine:=Nat.lt_of_le_of_lt h Qc
section
variable{X:Cx}
theorem pv(i:Nat){x:Str}{pos:Pos}(hN:X.N[i]? =some x:=by rfl)(hv:yJ X.env.scope x:=by first|exact Or.inl rfl|exact Or.inr (Or.inl rfl)|exact Or.inr (Or.inr rfl))(hd:(x==("__debug__" :Str))=false:=by decide)
  (hcd:(x==("__classdict__" :Str))=false:=by decide):PE X (.Name x pos) (Bb i):=Pm hN hv hd hcd
end
theorem fP{A B:Prop}(h:B):if false=true then A else B:=by
 rw[if_neg Bool.false_ne_true]
 exact h
theorem mJ{A B:Prop}(h:A):if true=true then A else B:=by
 rw[if_pos rfl]
 exact h
theorem bA{c A B:Prop}[Decidable c](h1:c->A)(h2:¬c->B):if c then A else B:=by
 by_cases h:c
 ·rw[if_pos h]
  exact h1 h
 ·rw[if_neg h]
  exact h2 h
def iX(H H':Hp):Prop:=∀b o,H b=some o->H' b=some o
theorem iX.refl(H:Hp):iX H H:=λ _ _ h=>h
theorem iX.trans{H H1 H2:Hp}(a:iX H H1)(b:iX H1 H2):iX H H2:=λ c o h=>b c o (a c o h)
theorem iX.free{H H':Hp}(e:iX H H'){l:Addr}(h:H' l=Option.none):H l=Option.none:=by
 cases q:H l with
 |none=>rfl
 |some o=>
  rw[e l o q]at h
  cases h
theorem iX.seq{K:Qf}{H H':Hp}{a:Addr}{xs:List V}(e:iX H H')(h:aQ K H a xs):aQ K H' a xs:=by
 rcases h with(h|⟨o,h⟩)|h
 ·exact .inl (.inl (e _ _ h))
 ·exact .inl (.inr ⟨o,e _ _ h⟩)
 ·exact .inr h
theorem Fc{α β:Type}{f:α->β->Sem (ForInStep β)}(g:β->α->β):∀{l:List α} (c:β),(∀x∈l,∀c,f x c=pure (.yield (g c x)))->forIn l c f=pure (l.foldl g c)
 |[],_,_=>rfl
 |x::l,c,h=>by
  rw[List.forIn_cons,h x List.mem_cons_self,pure_bind]
  exact Fc g (g c x) λ y hy=>h y (List.mem_cons_of_mem _ hy)
def fU(env:Env)(names:List (Str×NameKind)):List (Str×Addr):=
 names.foldl (λ cs y=>if y.2== .free then(y.1,(env.cells.lookup y.1).getD 0)::cs else cs) []
theorem xW{scope:Scope}{env:Env}(h:∀y∈scope.names,y.2= .free->∃c,env.cells.lookup y.1=some c):closureFor scope env=pure (fU env scope.names):=by
 simp only[closureFor]
 rw[Fc (λ cs y=>if y.2== .free then(y.1,(env.cells.lookup y.1).getD 0)::cs else cs) [] (λ x hx c=>by
  obtain⟨n,kind⟩:=x
  cases e:(kind==NameKind.free)with
  |false=>simp only[e,Bool.false_eq_true,if_false]
  |true=>
   obtain⟨a,ha⟩:=h (n,kind) hx (by simpa using e)
   have ha':env.cells.lookup n=some a:=ha
   simp only[e,if_true,cellOf,ha',Option.getD_some]
   rfl)]
 rfl
theorem Fy{env:Env}(P:List (Str×Addr)->Prop):∀(names:List (Str×NameKind)) (cs:List (Str×Addr)),P cs->(∀y∈names,∀cs,P cs->P (if y.2== .free then(y.1,(env.cells.lookup y.1).getD 0)::cs else cs))->
  P (names.foldl (λ cs y=>if y.2== .free then(y.1,(env.cells.lookup y.1).getD 0)::cs else cs) cs)
 |[],_,h,_=>h
 |y::r,cs,h,k=>by
  rw[List.foldl_cons]
  exact Fy P r _ (k y List.mem_cons_self cs h) λ z hz=>k z (List.mem_cons_of_mem _ hz)
theorem fQ{env:Env}{names:List (Str×NameKind)}(h:∀y∈names,y.2= .free->∃c,env.cells.lookup y.1=some c){n:Str}{c:Addr}(e:(fU env names).lookup n=some c):env.cells.lookup n=some c:=by
 have q:∀n c,(fU env names).lookup n=some c->env.cells.lookup n=some c:=Fy (λ cs=>∀n c,cs.lookup n=some c->env.cells.lookup n=some c) names [] (λ _ _ z=>by simp at z) λ y hy cs ih n c z=>by
  cases e:(y.2==NameKind.free)with
  |false=>rw[e]at z;exact ih n c z
  | true=>
   rw[e,if_pos rfl]at z
   obtain⟨a,ha⟩:=h y hy (by simpa using e)
   rw[ha,Option.getD_some]at z
   rw[List.lookup_cons]at z
   cases e2:(n==y.1)with
   |false=>rw[e2]at z;exact ih n c z
   |true=>
    rw[e2]at z
    have e3:n=y.1:=by simpa using e2
    rw[e3,ha]
    exact z
 exact q n c e
theorem tY{env:Env}{names:List (Str×NameKind)}{n:Str}(h:(n,NameKind.free)∈names):∃c,(fU env names).lookup n=some c:=by
 have gen:∀(names:List (Str×NameKind)) (cs:List (Str×Addr)),((n,NameKind.free)∈names\/∃c,cs.lookup n=some c)->∃c,(names.foldl (λ cs y=>if y.2== .free then(y.1,(env.cells.lookup y.1).getD 0)::cs else cs) cs).lookup n=some c:=by
  intro names
  induction names with
  |nil=>intro cs z;exact z.elim (λ z=>by simp at z) id
  | cons y r ih=>
   intro cs z
   rw[List.foldl_cons]
   refine ih _ ?_
   rcases z with z|⟨c,z⟩
   ·rcases List.mem_cons.mp z with z|z
    ·subst z
     exact .inr ⟨(env.cells.lookup n).getD 0,Qb⟩
    ·exact .inl z
   ·refine .inr ?_
    split
    ·rw[List.lookup_cons]
     cases n==y.1 with
     |false=>exact⟨c,z⟩
     |true=>exact⟨_,rfl⟩
    ·exact⟨c,z⟩
 exact gen names [] (.inl h)
theorem xJ{env:Env}{x:Str}:∀{names:List (Str×NameKind)},
  (names.map λ (n,k)=>if(k==NameKind.free&&env.scope.kind== .function&&env.kindOf n==some .cell)then(n,NameKind.cell)else(n,k)).lookup x=
   (names.lookup x).map λ k=>if(k==NameKind.free&&env.scope.kind== .function&&env.kindOf x==some .cell)then NameKind.cell else k
 |[]=>rfl
 | (n,k)::r=>by
  have ih:= @xJ env x r
  show List.lookup x ((if(k==NameKind.free&&env.scope.kind== .function&&env.kindOf n==some .cell)=true then(n,NameKind.cell)else(n,k))::_)=_
  cases hx:x==n with
  |true=>
   have e:x=n:=by simpa using hx
   subst e
   by_cases hc:(k==NameKind.free&&env.scope.kind== .function&&env.kindOf x==some .cell)=true
   ·rw[if_pos hc];simp only[List.lookup_cons,beq_self_eq_true,Option.map_some];rw[if_pos hc]
   ·rw[if_neg hc];simp only[List.lookup_cons,beq_self_eq_true,Option.map_some];rw[if_neg hc]
  |false=>
   by_cases hc:(k==NameKind.free&&env.scope.kind== .function&&env.kindOf n==some .cell)=true
   ·rw[if_pos hc];simp only[List.lookup_cons,hx];exact ih
   ·rw[if_neg hc];simp only[List.lookup_cons,hx];exact ih
structure uM(env:Env)(scope:Scope):Prop where
 kind:scope.kind= .function
 cell:∀y∈scope.names,y.2≠ .cell
 loc:∀y∈scope.names,y.2= .local->scope.names.lookup y.1=some .local
 free:∀y∈scope.names,y.2= .free->env.scope.names.lookup y.1=some .cell\/env.scope.names.lookup y.1=some .free
abbrev dI(X:Cx)(scope:Scope)(Nc:List Str)(C:Addr)(s₂:Shared)(H₂:Hp)(ex:List Addr):Cx where
 prog:=X.prog
 w:=X.w
 K:=X.K
 mg:=X.mg
 base:=X.base
 A:=X.A
 N:=Nc
 s₀:=s₂
 H₀:=H₂
 env:=compEnvC scope (fU X.env scope.names) C X.env
 outer:=X.stack
 stack:=X.stack
 ex:=ex
 fn:=λ _=>false
 calm:=true
 pn:=[]
 xe:=λ _ _=>False
section
variable{X:Cx}
def dC(k:Nat)(js:List Nat)(σ:St):St:=List.replicate k none++js.map λ j=>(σ[j]?).getD none
theorem tW{k:Nat}{js:List Nat}{σ:St}{i:Nat}{v:V}(h:(dC k js σ)[i]? =some (some v)):∃t j,i=k+t/\js[t]? =some j/\σ[j]? =some (some v):=by
 unfold dC at h
 by_cases hi:i<k
 ·rw[List.getElem?_append_left (by simpa using hi),List.getElem?_replicate,if_pos hi]at h
  cases h
 ·rw[List.getElem?_append_right (by simpa using hi),List.length_replicate,List.getElem?_map]at h
  cases e:js[i-k]? with
  |none=>rw[e]at h;cases h
  |some j=>
   rw[e]at h
   have h':(σ[j]?).getD none=some v:=Option.some.inj h
   refine⟨i-k,j,Qa,e,?_⟩
   cases e2:σ[j]? with
   |none=>rw[e2]at h';cases h'
   |some o=>rw[e2]at h';exact congrArg some h'
theorem tX{k:Nat}{js:List Nat}{σ:St}:(dC k js σ).length=k+js.length:=by
 unfold dC
 rw[List.length_append,List.length_replicate,List.length_map]
theorem Xh{pins:Qj}{σ:St}{H:Hp}{s s4:Shared}{scope:Scope}{Nc:List Str}{k:Nat}{js:List Nat}{C:Addr}{fp:List Addr}(I:aB X pins σ H s)(hc:X.calm=true)(S:uM X.env scope)
  (hjs:(Nc.drop k).map some=js.map (X.N[·]?)) (hfr:∀x∈Nc.drop k,scope.names.lookup x=some .free) (hk:k<=Nc.length)
  (hfp:∀b∈fp,fE X pins H b) (hlt:∀b∈fp,b<s.heap.objs.size) (hC:s.heap.objs.size<=C) (hn:s4.heap.Ns C λ _=>none) (hkeep:∀b o,s.heap.get? b=some o->s4.heap.get? b=some o)
  (ho:s4.os=s.os) (hg:s4.gens=s.gens):aB (dI X scope Nc C s H fp) [] (dC k js σ) H s4:=by
 have fr:∀y∈scope.names,y.2= .free->∃c,X.env.cells.lookup y.1=some c:=λ y hy e=>I.ok.has y.1 (S.free y hy e)
 have kinds:∀x,(relabel scope X.env).names.lookup x=some .cell\/(relabel scope X.env).names.lookup x=some .free->(x,NameKind.free)∈scope.names:=λ x hx=>by
  have q:(relabel scope X.env).names.lookup x=(scope.names.lookup x).map λ k=>if(k==NameKind.free&&X.env.scope.kind== .function&&X.env.kindOf x==some .cell)then NameKind.cell else k:=xJ
  cases e:scope.names.lookup x with
  |none=>rw[q,e]at hx;rcases hx with z|z<;>cases z
  |some kd=>
   have mem:=PySem.mem_of_lookup e
   cases kd with
   |free=>exact mem
   |cell=>exact absurd rfl (S.cell _ mem)
   |_=>rw[q,e]at hx;rcases hx with z|z<;>cases z
 have lenJ:js.length=Nc.length-k:=by
  have:=congrArg List.length hjs
  simpa using this.symm
 refine⟨⟨I.ok.mod,S.kind,I.ok.glob,I.ok.blt,hC,λ x y c h1 h2=>I.ok.inj x y c (fQ fr h1) (fQ fr h2),λ x hx=>tY (kinds x hx),λ x c z=>(by cases z),λ _=>I.ok.hd hc,I.ok.frames,.inl rfl,λ b hb=>⟨?_,λ x c e=>?_⟩,I.bs,Nat.le_trans I.ok.bsz I.sz,λ b o e hb=>?_,λ b hb z=>?_,I.stack,I.stkFree⟩,
  ho,?_,Un.kept hkeep,⟨_,hn,λ i x v e1 e2 e3=>?_⟩,λ x c e=>?_,I.hok.fresh hC,λ x c e=>I.freeC x c (fQ fr e),λ p hp=>absurd (show p∈([]:Qj)from hp) Qb,I.hok.kept hkeep,?_⟩
 ·exact Nat.ne_of_lt (Nat.lt_of_lt_of_le (hlt b hb) hC)
 ·exact(hfp b hb).2.2.2.2.1 x c (fQ fr e)
 ·rcases(hfp b hb).2.2.2.1 with z|z
  ·exact I.ok.noex b o e z
  ·exact absurd (Nat.lt_of_lt_of_le (Heap.lt_size e) (Nat.le_trans I.ok.bsz z)) (Nat.lt_irrefl _)
 ·rcases List.mem_cons.mp (I.stkSub b z)with z|z
  ·exact(hfp b hb).2.1 z
  ·exact(hfp b hb).2.2.1 z
 ·rw[hg];exact⟨I.bare.1,Nat.le_refl _⟩
 ·obtain⟨t,j,rfl,hj,hv⟩:=tW e2
  have ex:X.N[j]? =some x:=by
   have q:=congrArg (λ l=>l[t]?) hjs
   simp only[List.getElem?_map,List.getElem?_drop,hj,Option.map_some]at q
   have e1':Nc[k+t]? =some x:=e1
   rw[e1']at q
   exact(Option.some.inj q).symm
  have hx:scope.names.lookup x=some .free:=hfr x (by
   have:(Nc.drop k)[t]? =some x:=by rw[List.getElem?_drop];exact e1
   exact List.mem_of_getElem? this)
  have kx:=S.free (x,.free) (PySem.mem_of_lookup hx) rfl
  obtain⟨m,_,hl⟩:=I.loc
  obtain⟨u,r,l⟩:=hl j x v ex hv (.inr kx)
  obtain⟨c',hc'⟩:=tY (env:=X.env) (PySem.mem_of_lookup hx)
  have q:(relabel scope X.env).names.lookup x=(scope.names.lookup x).map λ k=>if(k==NameKind.free&&X.env.scope.kind== .function&&X.env.kindOf x==some .cell)then NameKind.cell else k:=xJ
  refine⟨u,r,.inr ⟨?_,c',hc',?_⟩⟩
  ·show(relabel scope X.env).names.lookup x=some .cell\/(relabel scope X.env).names.lookup x=some .free
   rw[q,hx,Option.map_some]
   split
   ·exact .inl rfl
   ·exact .inr rfl
  ·rcases l with⟨k1,_⟩|⟨_,c,hcc,z⟩
   ·have k1':X.env.scope.names.lookup x=some .local:=k1
    have kx':X.env.scope.names.lookup x=some .cell\/X.env.scope.names.lookup x=some .free:=kx
    rw[k1']at kx'
    rcases kx' with z|z<;>cases z
   ·have e:c=c':=by
     have:=fQ fr hc'
     rw[hcc]at this
     exact Option.some.inj this
    subst e
    exact z.keeps hkeep
 ·obtain⟨v,z⟩:=I.cell x c (fQ fr e)
  exact⟨v,z.keeps hkeep⟩
 ·rw[tX]
  show _=Nc.length
  omega
def mS(X:Cx)(ifs:List Expr)(t:TT):Prop:=
  ∀ (pins:Qj) (s:Shared) (σ:St) (H:Hp) (Q:Bool→Hp→Prop),aB X pins σ H s→t σ H Q→
    wpAny (model X.prog X.w) X.A (forIn ifs true λ c r=>if r=true then do let ok←isTrue c X.env (eval c X.env);pure (ForInStep.yield ok)else pure (ForInStep.yield r)) (TP X pins σ Q) X.xe s
def gJ:TT:=λ _ H Q=>Q true H
theorem kK:mS X [] gJ:=λ _ _ _ H _ I h=>wpAny_tests_nil ⟨H,I,h⟩
theorem hZ{c:Expr}{t:TT}(h:PT X c t):mS X [c] t:=λ pins s σ H Q I q=>wpAny_tests_one (h pins s σ H Q I q)
def mU(k:Nat)(g:TG):Prop:=∀x σ H Q,k<=σ.length->g x σ H Q->g x σ H λ σ2 H2=>Q σ2 H2/\σ2.length=σ.length/\∀j,k<=j->σ2[j]? =σ[j]?
def uJ(k:Nat)(g:iH):Prop:=∀x σ H Q,k<=σ.length->g x σ H Q->g x σ H λ σ2 H2=>Q σ2 H2/\σ2.length=σ.length/\∀j,k<=j->σ2[j]? =σ[j]?
theorem eZ{i k:Nat}(h:i<k):mU k (qA i):=λ x σ H Q _ q=>⟨q,Qb,λ j hj=>List.getElem?_set_ne Qa⟩
theorem Et{k:Nat}:uJ k Ey:=λ x σ H Q _ ⟨e,q⟩=>⟨e,q,rfl,λ _ _=>rfl⟩
theorem nS{i k:Nat}{gs:iH}(h1:i<k)(h2:uJ k gs):uJ k (Ez (qA i) gs):=by
 rintro x σ H Q hl ⟨v,r,rfl,q⟩
 refine⟨v,r,rfl,?_⟩
 show gs r (σ.set i (some v)) H _
 have q':=h2 r (σ.set i (some v)) H Q (by simpa using hl) q
 have e:(λ (σ2:St) (H2:Hp)=>Q σ2 H2/\σ2.length=(σ.set i (some v)).length/\∀j,k<=j->σ2[j]? =(σ.set i (some v))[j]?)=λ σ2 H2=>Q σ2 H2/\σ2.length=σ.length/\∀j,k<=j->σ2[j]? =σ[j]?:=by
  funext σ2 H2
  rw[List.length_set]
  refine congrArg (Q σ2 H2/\·) (congrArg (σ2.length=σ.length/\·) ?_)
  refine forall_congr λ j=>?_
  refine propext ⟨λ z hj=>?_,λ z hj=>?_⟩
  ·rw[z hj,List.getElem?_set_ne Qa]
  ·rw[z hj,List.getElem?_set_ne Qa]
 rw[e]at q'
 exact q'
theorem Eu{K:Qf}{n k:Nat}{gs:iH}(h:uJ k gs):mU k (xQ K n gs):=by
 rintro x σ H Q hl ⟨a,xs,rfl,hq,hn,q⟩
 exact⟨a,xs,rfl,hq,hn,h xs σ H Q hl q⟩
def oE(J:It)(g:TG)(tt:TT)(te:TE)(σc:St)(Q:VK)(H1:Hp):Prop:=∃W:Nat->Nat->List V->Hp->Prop,(∃m,W 0 m [] H1)/\∀i m xs H,W i m xs H->
 (J.stop i H/\∀p,H p=none->Q (.ref p) (aA H p (.lst xs)))\/
 (J.go i H/\∀x H',J.yld i H x H'->g x σc H' λ σ2 H2=>tt σ2 H2 λ b H3=>if b=true then te σ2 H3 λ v H4=>xs.length<sizeLine/\∃m',m'<m/\W (i+1) m' (xs++[v]) H4 else∃m',m'<m/\W (i+1) m' xs H3)
def vB(k:Nat)(js:List Nat)(wi:TI)(g:TG)(tt:TT)(te:TE):TE:=λ σ H Q=>wi σ H λ J H1=>oE J g tt te (dC k js σ) Q H1
end
section
variable{X:Cx}
theorem BB{prog:Program}{w:World}{A:Around}{R:Result→Shared→Prop}{s:Shared}{elt target iter:Expr}{ifs:List Expr}{scope:Scope}{pos:Pos}{it acc:Value}{env:Env}(I:Nat→Shared→Prop)
    (turn : ∀ n s,I n s→wpAny Qi A (pyNext it) (λ r s₁=>match r with
      |none=>R (.ok .next) s₁
      |some v=>wpAny Qi A (letOwnedTupleGo target it v) (λ _ s₁'=>wpAny Qi A (assign target env v) (λ _ s₂=>
          wpAny Qi A (forIn ifs true λ c r=>if r=true then do let ok←isTrue c env (eval c env);pure (ForInStep.yield ok)else pure (ForInStep.yield r)) (λ ok s₃=>
            if ok=true then wpAny Qi A (eval elt env) (λ x s₄=>
              wpAny Qi A (call (.builtin "list.append") [acc,x]) (λ _ s₅=>∃m,m<n∧I m s₅) (λ _ _=>False) s₄) (λ _ _=>False) s₃
            else∃m,m<n∧I m s₃) (λ _ _=>False) s₂) (λ _ _=>False) s₁') (λ _ _=>False) s₁) (λ _ _=>False) s)
    (n:Nat) (h:I n s):
    codeAny Qi A (.compLoop (.ListComp elt [⟨target,iter,ifs,0⟩] scope pos) 0 it acc env) R s:=by
  refine codeAny_loop rfl I (λ n s hI=>?_) n h
  show wpAny _ A ((compTurn (.ListComp elt [⟨target,iter,ifs,0⟩] scope pos) 0 it acc env).onRaise (λ x=>do noteFrame x env;theTreesLotGoes x)) _ _ s
  refine wpAny_noted ?_
  rw[compTurn_list]
  refine wpAny_bind (wpAny_standAt (wpAny_bind (wpAny_mono (turn n s hI) (λ r s₁ h₁=>?_) λ _ _ h'=>h'.elim)))
  cases r with
  |none=>exact wpAny_pure h₁
  | some v=>
    refine wpAny_bind (wpAny_mono h₁ (λ _ s₁' h₁'=>?_) λ _ _ h'=>h'.elim)
    refine wpAny_bind (wpAny_mono h₁' (λ _ s₂ h₂=>wpAny_bind (wpAny_mono h₂ (λ ok s₃ h₃=>?_) λ _ _ h'=>h'.elim)) λ _ _ h'=>h'.elim)
    cases ok with
    |false=>exact wpAny_pure ⟨rfl,h₃⟩
    | true=>
      exact wpAny_bind (wpAny_bind (wpAny_mono h₃ (λ x s₄ h₄=>wpAny_bind (wpAny_mono h₄ (λ _ s₅ h₅=>wpAny_pure (wpAny_pure ⟨rfl,h₅⟩)) λ _ _ h'=>h'.elim)) λ _ _ h'=>h'.elim))
theorem Fx{elt tg iter:Expr}{ifs:List Expr}{scope:Scope}{pos:Pos}{Nc:List Str}{k:Nat}{js:List Nat}{wi:TI}{g:TG}{tt:TT}{te:TE}(hc:X.calm=true)(S:uM X.env scope)
  (hjs:(Nc.drop k).map some=js.map (X.N[·]?)) (hfr:∀x∈Nc.drop k,scope.names.lookup x=some .free) (hk:k<=Nc.length) (hi:PI X tg iter wi)
  (hg:∀C s H ex,PG (dI X scope Nc C s H ex) tg g) (gk:mU k g) (ht:∀C s H ex,mS (dI X scope Nc C s H ex) ifs tt) (he:∀C s H ex,PE (dI X scope Nc C s H ex) elt te)
  {pins:Qj} {s:Shared} {σ:St} {H:Hp} {Q:VK} (I:aB X pins σ H s) (h:vB k js wi g tt te σ H Q):
  wpAny (model X.prog X.w) X.A (eval iter X.env) (λ x s₁=>wpAny (model X.prog X.w) X.A (pyIter x) (λ itv s₂=>wpAny (model X.prog X.w) X.A (newList []) (λ acc s₃=>
   wpAny (model X.prog X.w) X.A (newFunctionEnv scope X.env.globals (fU X.env scope.names) [] X.env.qual none .none (some X.env)) (λ cenv s₄=>
    codeAny (model X.prog X.w) X.A (.compStart (.ListComp elt [⟨tg,iter,ifs,0⟩] scope pos) 0 itv acc {cenv with scope:=relabel scope X.env})
     (λ r s'=>∃fl D H' m,r= .ok fl/\acc= .ref D/\aB X pins σ H' s'/\s'.heap.Ns cenv.locals m/\fE X pins H' cenv.locals/\Q (.ref D) H') s₄) X.xe s₃) X.xe s₂) X.xe s₁) X.xe s:=by
 refine aU (hi pins s σ H _ I h) λ v s1 h1=>aU h1 λ itv s2 h2=>?_
 obtain⟨it,fp,tn,J,H2,e,I2,T,st2,f2,W,⟨m0,w0⟩,turn⟩:=h2
 subst e
 refine wpAny_newObj_type (wpAny_newFunctionEnv S.cell (by intro y hy;simp at hy) (λ h₁ hns₁ hsb₁=>?_) S.kind)
 dsimp only at hns₁ hsb₁⊢
 generalize hH3:s2.heap.push {cls:=.type "list",dict:=none,data:=.seq ([]:List Value).toArray}=H3 at hns₁ hsb₁⊢
 have hC:H3.objs.size=s2.heap.objs.size+1:=by rw[<-hH3,Heap.size_push]
 generalize eC:H3.objs.size=C at hns₁ hsb₁ hC⊢
 generalize eD:s2.heap.objs.size=D at hC⊢
 have hDC:D≠C:=by omega
 have hle:D<=C:=by omega
 have hlt':D<C:=by omega
 have hltD:∀b o,s2.heap.get? b=some o->b<D:=λ b o e=>by rw[<-eD];exact Heap.lt_size e
 have keep:∀b o,s2.heap.get? b=some o->h₁.get? b=some o:=λ b o e=>hsb₁.extBut b o (Nat.ne_of_lt (Nat.lt_trans (hltD b o e) hlt')) (Heap.get?_push_of_some _ (hH3▸Heap.get?_push_of_some _ e))
 have hD1:∃nn,h₁.get? D=some {cls:=.type "list",data:=.seq (([]:List Value).toArray) nn}:=
  ⟨_,hsb₁.extBut _ _ hDC (Heap.get?_push_of_some _ (hH3▸eD▸Heap.get?_push_size _ rfl))⟩
 have ltf:∀b∈fp,b<s2.heap.objs.size:=λ b hb=>by
  obtain⟨o,e,_⟩:=T.obj 0 _ st2 b hb
  exact Heap.lt_size e
 have I4:aB (dI X scope Nc C s2 H2 fp) [] (dC k js σ) H2 {s2 with heap:=h₁,toks:=s2.toks+([]:List (Str×Value)).length}:=
  Xh (s4:={s2 with heap:=h₁,toks:=s2.toks+([]:List (Str×Value)).length}) I2 hc S hjs hfr hk f2 ltf Qa hns₁ keep rfl rfl
 have frz:∀y∈scope.names,y.2= .free->∃c,X.env.cells.lookup y.1=some c:=λ y hy e=>I2.ok.has y.1 (S.free y hy e)
 have Dcell:∀x c,(fU X.env scope.names).lookup x=some c->c≠D:=λ x c e z=>by
  obtain⟨v,q⟩:=I2.cell x c (fQ frz e)
  have l:=q.lt
  rw[z,eD]at l
  exact Nat.lt_irrefl _ l
 have Dstk:D∉cC X.stack:=λ z=>by
  rcases List.mem_cons.mp (I2.stkSub D z)with z|z
  ·have l:=I2.lt
   rw[<-z,eD]at l
   exact Nat.lt_irrefl _ l
  ·exact I2.nofs (Nat.le_of_eq eD) z
 have Dfp:∀b∈fp,D≠b:=λ b hb z=>by have l:=ltf b hb;rw[<-z,eD]at l;exact Nat.lt_irrefl _ l
 have fpok:∀{H':Hp} {o:Obj},(∀b∈fp,H' b=none)->∀b∈fp,fE (dI X scope Nc C s2 H2 fp) [(D,o)] H' b:=fun{H' o} hn b hb=>by
  refine⟨hn b hb,?_,?_,.inl hb,λ x c e=>(f2 b hb).2.2.2.2.1 x c (fQ frz e),λ p hp=>?_⟩
  ·have l:=ltf b hb
   rw[eD]at l
   exact Nat.ne_of_lt (Nat.lt_trans l hlt')
  ·intro z
   rcases List.mem_cons.mp (I2.stkSub b z)with z|z
   ·exact(f2 b hb).2.1 z
   ·exact(f2 b hb).2.2.1 z
  ·have e:p=(D,o):=by simpa using hp
   subst e
   exact Dfp b hb
 have loop:codeAny (model X.prog X.w) X.A (.compLoop (.ListComp elt [⟨tg,iter,ifs,0⟩] scope pos) 0 (.ref it) (.ref D) (compEnvC scope (fU X.env scope.names) C X.env))
   (λ r s'=>∃fl D' H' m,r= .ok fl/\Value.ref D= .ref D'/\aB X pins σ H' s'/\s'.heap.Ns C m/\fE X pins H' C/\Q (.ref D') H') {s2 with heap:=h₁,toks:=s2.toks+([]:List (Str×Value)).length}:=by
  refine BB (λ n s'=>∃(i:Nat) (xs:List V) (H':Hp) (its:List Value) (nn:Nat),aB (dI X scope Nc C s2 H2 fp) [] (dC k js σ) H' s'/\tn i s'.heap/\(∀b∈fp,H' b=none)/\H' D=none/\
   s'.heap.get? D=some {cls:=.type "list",data:=.seq its.toArray nn}/\aW xs its/\xs.length<=sizeLine/\W i n xs H') ?_ m0 ?_
  ·rintro n s3 ⟨i,xs,H3',its,nn,I3,st3,fr3,fD3,oD3,rv,hz,w3⟩
   have I3':aB (dI X scope Nc C s2 H2 fp) [(D,{cls:=.type "list",data:=.seq its.toArray nn})] (dC k js σ) H3' s3:=I3.pins_of λ p hp=>by
    have e:p=(D,{cls:=.type "list",data:=.seq its.toArray nn}):=by simpa using hp
    subst e
    refine⟨oD3,fD3,hDC,Dstk,λ v z=>?_⟩
    cases z
   rcases turn i n xs H3' w3 with⟨stop,qn⟩|⟨go,step⟩
   ·refine aU (T.done (dI X scope Nc C s2 H2 fp) rfl rfl rfl rfl i _ s3 (dC k js σ) H3' _ I3' (fpok fr3) st3 stop) λ r s4 ⟨hr,I5⟩=>?_
    subst hr
    obtain⟨oD5,fD5,_⟩:=I5.pin (D,{cls:=.type "list",data:=.seq its.toArray nn}) Qb
    obtain⟨mC,nC,_⟩:=I5.loc
    have hu:Un (cC X.stack) fp H2 H3' s2.heap s4.heap:=I5.base
    have neD:∀b o,H3' b=some o->b≠D:=λ b o e=>gO e fD3
    have neDh:∀b o,s2.heap.get? b=some o->b≠D:=λ b o e=>Nat.ne_of_lt (hltD b o e)
    have hok':bW X.prog X.w (aA H3' D (.lst xs)) s4.heap:=λ b u e=>by
     by_cases hb:b=D
     ·subst hb
      rw[aP]at e
      cases e
      exact⟨hz,its,nn,rv,oD5⟩
     ·rw[aR hb]at e
      exact(I5.hok b u e).stay (λ c v _ q=>q) (λ c q=>by rw[aR (neD c _ q)];exact q) λ c ys q=>by rw[aR (neD c _ q)];exact q
    have hu':Un (cC X.stack) fp H2 (aA H3' D (.lst xs)) s2.heap s4.heap:=⟨hu.keep,hu.slot,λ b o e n hx=>by rw[aR (neDh b o e)];exact hu.free b o e n hx,hu.there,
     λ b ys e=>by rw[aR (neD b _ (hu.tups b ys e))];exact hu.tups b ys e,λ b o u e=>by rw[aR (neD b _ (hu.frzs b o u e))];exact hu.frzs b o u e,
     λ b ps e=>by obtain⟨more,q⟩:=hu.tbls b ps e;exact⟨more,by rw[aR (neD b _ q)];exact q⟩⟩
    have IX:aB X pins σ (aA H3' D (.lst xs)) s4:=I2.call' I5.os hu' hok' I5.bare λ b hb=>⟨(f2 b hb).2.2.2.1,(f2 b hb).2.1,(f2 b hb).2.2.2.2.1,(f2 b hb).2.2.2.2.2⟩
    refine⟨_,D,_,mC,rfl,rfl,IX,nC,I2.fpOk Qa ?_,qn D fD3⟩
    rw[aR (Ne.symm hDC)]
    exact I5.free
   ·refine aU (T.item (dI X scope Nc C s2 H2 fp) rfl rfl rfl rfl i _ s3 (dC k js σ) H3' _ I3' (fpok fr3) st3 go) λ r s4 ⟨u,hr,h4⟩=>?_
    subst hr
    refine aU h4 λ _ s5 ⟨x,H5,I5,r5,y5,st5,fr5⟩=>?_
    have I5':=I5.pinned (fpok fr5) (T.obj _ _ st5)
    have lenS:k<=(dC k js σ).length:=by rw[tX];omega
    refine aU (hg C s2 H2 fp _ s5 (dC k js σ) H5 x u _ I5' r5 (gk _ _ _ _ lenS (step x H5 y5))) λ _ s6 ⟨σ6,H6,I6,q6,l6,a6⟩=>?_
    have weak6:∀{H':Hp} {s':Shared} {ps:Qj},aB (dI X scope Nc C s2 H2 fp) ps σ6 H' s'->aB (dI X scope Nc C s2 H2 fp) ps (dC k js σ) H' s':=fun{H' s' ps} I'=>I'.weak l6.symm λ j v e=>by
     obtain⟨t,j',rfl,_,_⟩:=tW e
     rw[a6 _ (Nat.le_add_right _ _)]
     exact e
    refine aU (ht C s2 H2 fp _ s6 σ6 H6 _ I6 q6) λ b s7 ⟨H7,I7,q7⟩=>?_
    have pinD:∀{H':Hp} {s':Shared},aB (dI X scope Nc C s2 H2 fp) ([(D,{cls:=.type "list",data:=.seq its.toArray nn})]++lR fp s5.heap) σ6 H' s'->s'.heap.get? D=some {cls:=.type "list",data:=.seq its.toArray nn}/\H' D=none:=fun{H' s'} I'=>by
     obtain⟨e1,e2,_⟩:=I'.pin (D,{cls:=.type "list",data:=.seq its.toArray nn}) Qb
     exact⟨e1,e2⟩
    have pinF:∀{H':Hp} {s':Shared},aB (dI X scope Nc C s2 H2 fp) ([(D,{cls:=.type "list",data:=.seq its.toArray nn})]++lR fp s5.heap) σ6 H' s'->(∀b∈fp,∀o,s5.heap.get? b=some o->s'.heap.get? b=some o)/\∀b∈fp,H' b=none:=fun{H' s'} I'=>by
     refine⟨λ b hb o e=>(I'.pin (b,o) (List.mem_append_right _ (List.mem_append_right _ (nL hb e)))).1,λ b hb=>?_⟩
     obtain⟨o,e,d⟩:=T.obj _ _ st5 b hb
     exact(I'.pin (b,o) (List.mem_append_right _ (List.mem_append_right _ (nL hb e)))).2.1
    cases b with
    |false=>
     obtain⟨m',hm,w7⟩:=q7
     obtain⟨d1,d2⟩:=pinD I7
     obtain⟨p1,p2⟩:=pinF I7
     refine⟨m',hm,i+1,xs,H7,its,nn,weak6 (I7.pins_of λ p hp=>absurd (show p∈([]:Qj)from hp) Qb),T.keep _ _ _ st5 p1,p2,d2,d1,rv,hz,w7⟩
    | true=>
     refine aU (he C s2 H2 fp _ s7 σ6 H7 _ I7 q7) λ y s8 ⟨vv,H8,I8,r8,hz8,m',hm,w8⟩=>?_
     obtain⟨d1,d2⟩:=pinD I8
     obtain⟨p1,p2⟩:=pinF I8
     refine wpAny_list_append_plain (items:=its.toArray) ⟨nn,d1⟩ (λ h' ⟨nn',hp'⟩ hsb=>?_) (by have:=rv.length;rw[List.size_toArray];omega)
     have I8':aB (dI X scope Nc C s2 H2 fp) [] (dC k js σ) H8 s8:=weak6 (I8.pins_of λ p hp=>absurd (show p∈([]:Qj)from hp) Qb)
     have I9:aB (dI X scope Nc C s2 H2 fp) [] (dC k js σ) H8 {s8 with heap:=h'}:=I8'.turned (it:=D) (t':=s8.toks) (λ b o hb e=>(hsb.2 b hb).trans e) d2 hDC (.inr (Nat.le_of_eq eD)) (λ x c e=>Dcell x c e) λ p hp=>absurd (show p∈([]:Qj)from hp) Qb
     refine⟨m',hm,i+1,xs++[vv],H8,its++[y],nn',I9,T.keep _ _ _ st5 (λ b hb o e=>(hsb.2 b (Ne.symm (Dfp b hb))).trans (p1 b hb o e)),p2,d2,?_,rv.append (.cons r8 .nil),?_,w8⟩
     ·rw[<-List.push_toArray]
      exact hp'
     ·rw[List.length_append,List.length_singleton]
      omega
  ·obtain⟨nn,e⟩:=hD1
   exact⟨0,[],H2,[],nn,I4,T.keep _ _ _ st2 (λ b _ o e=>keep b o e),λ b hb=>(f2 b hb).1,I2.hok.fresh (Nat.le_of_eq eD),e,.nil,Nat.zero_le _,w0⟩
 exact codeAny_compStart_list loop (wpAny_mono (T.self _ 0 _ _ (λ _ _=>False) (T.keep _ _ _ st2 λ b _ o e=>keep b o e) loop) (λ _ _ q=>q) λ _ _ z=>z.elim)
theorem kR{elt tg iter:Expr}{ifs:List Expr}{scope:Scope}{pos:Pos}{Nc:List Str}{k:Nat}{js:List Nat}{wi:TI}{g:TG}{tt:TT}{te:TE}(hc:X.calm=true)(S:uM X.env scope)
  (hjs:(Nc.drop k).map some=js.map (X.N[·]?)) (hfr:∀x∈Nc.drop k,scope.names.lookup x=some .free) (hk:k<=Nc.length) (hi:PI X tg iter wi)
  (hg:∀C s H ex,PG (dI X scope Nc C s H ex) tg g) (gk:mU k g) (ht:∀C s H ex,mS (dI X scope Nc C s H ex) ifs tt) (he:∀C s H ex,PE (dI X scope Nc C s H ex) elt te)
  (hs:∀x,foldedSetIterable iter X.env x=pure x:=by intro _;rfl):PE X (.ListComp elt [⟨tg,iter,ifs,0⟩] scope pos) (vB k js wi g tt te):=by
 intro pins s σ H Q I h
 rw[eval_ListComp]
 refine wpAny_comprehension_free (use:=none) rfl hs (xW λ y hy e=>I.ok.has y.1 (S.free y hy e)) S.kind S.loc (aU (Fx hc S hjs hfr hk hi hg gk ht he I h) λ x s1 h1=>aU h1 λ itv s2 h2=>aU h2 λ acc s3 h3=>aU h3 λ cenv s4 h4=>codeAny_mono h4 λ r s' hr=>?_)
 obtain⟨fl,D,H',m,rfl,rfl,I',nC,fC,q⟩:=hr
 refine⟨m,nC,λ h' sb=>⟨.ref D,H',I'.turned (it:=cenv.locals) (t':=s'.toks) (λ b o hb e=>(sb.2 b hb).trans e) fC.1 fC.2.1 fC.2.2.2.1 fC.2.2.2.2.1 fC.2.2.2.2.2,rfl,q⟩⟩
theorem iP{elt tg iter:Expr}{ifs:List Expr}{scope:Scope}{cpos pos pos':Pos}{Nc:List Str}{k:Nat}{js:List Nat}{wi:TI}{g:TG}{tt:TT}{te:TE}{i:Nat}{x:Str}(hN:X.N.Nodup)(hxi:X.N[i]? =some x)(hx:qS X.env.scope x)(hc:X.calm=true)(S:uM X.env scope)
    (hjs:(Nc.drop k).map some=js.map (X.N[·]?)) (hfr:∀x∈Nc.drop k,scope.names.lookup x=some .free) (hk:k≤Nc.length) (hi:PI X tg iter wi)
    (hg:∀C s H ex,PG (dI X scope Nc C s H ex) tg g) (gk:mU k g) (ht:∀C s H ex,mS (dI X scope Nc C s H ex) ifs tt) (he:∀C s H ex,PE (dI X scope Nc C s H ex) elt te)
    (hs:∀x,foldedSetIterable iter X.env x=pure x:=by intro _;rfl) (hsw:swapsWith (.ListComp elt [⟨tg,iter,ifs,0⟩] scope cpos) (some (.Name x pos')) pos.line X.env=pure true:=by rfl)
    (hf:X.fn x=true∨X.env.scope.names.lookup x=some .local:=by first|exact .inl rfl|exact .inr rfl|assumption):
    PS X (.Assign [.Name x pos'] (.ListComp elt [⟨tg,iter,ifs,0⟩] scope cpos) pos) (vD (vB k js wi g tt te) (qA i)):=by
  intro pins s σ H D I h
  rw[exec_Assign_Name_used _ _ _ _ hsw]
  refine wpAny_bind (wpAny_standAt (wpAny_bind ?_))
  show wpAny _ X.A (do let _←comprehension (.ListComp elt [⟨tg,iter,ifs,0⟩] scope cpos) scope X.env _ (newList []) false (eval iter X.env) (some (assign (.Name x pos') X.env))) _ _ s
  refine wpAny_bind (wpAny_mono (wpAny_comprehension_free (use:=some (assign (.Name x pos') X.env)) (Q:=λ _ s'=>SP X pins D .next s') rfl hs (xW λ y hy e=>I.ok.has y.1 (S.free y hy e)) S.kind S.loc
    (aU (Fx hc S hjs hfr hk hi hg gk ht he I h) λ xv s1 h1=>aU h1 λ itv s2 h2=>aU h2 λ acc s3 h3=>aU h3 λ cenv s4 h4=>codeAny_mono h4 λ r s' hr=>?_)) (λ _ s' hq=>wpAny_pure (wpAny_pure hq)) λ _ _ e=>e)
  obtain⟨fl,Dl,H',m,rfl,rfl,I',nC,fC,q⟩:=hr
  show wpAny _ X.A (assign (.Name x pos') X.env (.ref Dl)) _ _ _
  refine wpAny_assign_Name (Bh (v:= .ref Dl) I' hN hxi hx rfl (λ s'' I'' ⟨a,sa,ha⟩=>?_) hf)
  have na:cenv.locals≠a:=by
    rcases ha with rfl|ha
    ·exact fC.2.1
    ·exact λ z=>fC.2.2.2.2.1 x a ha z.symm
  refine⟨m,nC.sameBut sa na,λ h' sb=>⟨_,H',I''.turned (it:=cenv.locals) (t':=s''.toks) (λ b o hb e=>(sb.2 b hb).trans e) fC.1 fC.2.1 fC.2.2.2.1 fC.2.2.2.2.1 fC.2.2.2.2.2,q⟩⟩
end
abbrev iT(X:Cx)(scope:Scope)(Nc:List Str)(C:Addr)(code:Value)(e:Expr)(it:Addr)(s₂:Shared)(H₂:Hp)(ex:List Addr):Cx where
 prog:=X.prog
 w:=X.w
 K:=X.K
 mg:=X.mg
 base:=X.base
 A:=(X.A.in1.in1).over (.compLoop e 0 (.ref it) .none (genEnv scope (fU X.env scope.names) C code builtinsNs X.env)) []
 N:=Nc
 s₀:=s₂
 H₀:=H₂
 env:=genEnv scope (fU X.env scope.names) C code builtinsNs X.env
 outer:=X.stack
 stack:=genEnv scope (fU X.env scope.names) C code builtinsNs X.env::X.stack
 ex:=ex
 fn:=λ _=>false
 calm:=true
 pn:=[]
 xe:=λ _ _=>False
section
variable{X:Cx}
theorem aB.setGens{pins:Qj}{σ:St}{H:Hp}{s:Shared}{g':Array GenState}(I:aB X pins σ H s)(hg:fZ s.gens g'):aB X pins σ H {s with gens:=g'}:=
 ⟨I.ok,I.os,⟨hg.1,Nat.le_trans I.bare.2 hg.2⟩,I.base,I.loc,I.cell,I.free,I.freeC,I.pin,I.hok,I.len⟩
theorem tM{gens:Array GenState}{g:Nat}{x:GenState}(h:AllBare gens)(hx:x.bare=true):fZ gens (gens.setIfInBounds g x):=by
 refine⟨λ y hy=>?_,Qb⟩
 rcases Array.mem_or_eq_of_mem_setIfInBounds hy with z|z
 ·exact h y z
 ·rw[z];exact hx
theorem AC{A:Around}{l:List Env}(h:A.frames=some l){elt:Expr}{gens:List Comprehension}{scope:Scope}{pos:Pos}{it acc:Value}{env:Env}:
  ((A.in1.in1).over (.compLoop (.GeneratorExp elt gens scope pos) 0 it acc env) []).frames=some (env::l):=by
 show pushEnvs [env] (pushEnvs [] A.frames)=_
 rw[h]
 rfl
structure Hc(env:Env)(scope:Scope):Prop where
 kind:scope.kind= .function
 co:scope.isCoroutine=false
 cell:∀y∈scope.names,y.2≠ .cell
 zero:scope.names.lookup (".0" :Str)=some .local
 free:∀y∈scope.names,y.2= .free->env.scope.names.lookup y.1=some .cell\/env.scope.names.lookup y.1=some .free
theorem Xf{pins:Qj}{σ:St}{H:Hp}{s s4:Shared}{scope:Scope}{Nc:List Str}{k:Nat}{js:List Nat}{C it:Addr}{code:Value}{elt:Expr}{gens:List Comprehension}{pos:Pos}{fp:List Addr}{m0:Qk}(I:aB X pins σ H s)(hc:X.calm=true)(S:Hc X.env scope)
  (hjs:(Nc.drop k).map some=js.map (X.N[·]?)) (hfr:∀x∈Nc.drop k,scope.names.lookup x=some .free) (hk:k<=Nc.length)
  (hfp:∀b∈fp,fE X pins H b) (hlt:∀b∈fp,b<s.heap.objs.size) (hC:s.heap.objs.size<=C) (hn:s4.heap.Ns C m0) (hkeep:∀b o,s.heap.get? b=some o->s4.heap.get? b=some o)
  (ho:s4.os=s.os) (hg:fZ s.gens s4.gens):aB (iT X scope Nc C code (.GeneratorExp elt gens scope pos) it s H fp) [] (dC k js σ) H s4:=by
 have fr:∀y∈scope.names,y.2= .free->∃c,X.env.cells.lookup y.1=some c:=λ y hy e=>I.ok.has y.1 (S.free y hy e)
 have kinds:∀x,scope.names.lookup x=some .cell\/scope.names.lookup x=some .free->(x,NameKind.free)∈scope.names:=λ x hx=>by
  rcases hx with e|e
  ·exact absurd rfl (S.cell _ (PySem.mem_of_lookup e))
  ·exact PySem.mem_of_lookup e
 have lenJ:js.length=Nc.length-k:=by
  have:=congrArg List.length hjs
  simpa using this.symm
 refine⟨⟨I.ok.mod,S.kind,I.ok.glob,rfl,hC,λ x y c h1 h2=>I.ok.inj x y c (fQ fr h1) (fQ fr h2),λ x hx=>tY (kinds x hx),λ x c z=>(by cases z),λ _=>I.ok.hd hc,AC I.ok.frames,.inr ⟨rfl,rfl⟩,λ b hb=>⟨?_,λ x c e=>?_⟩,I.bs,Nat.le_trans I.ok.bsz I.sz,λ b o e hb=>?_,λ b hb z=>?_,I.stack,I.stkFree⟩,
  ho,hg,Un.kept hkeep,⟨_,hn,λ i x v e1 e2 e3=>?_⟩,λ x c e=>?_,I.hok.fresh hC,λ x c e=>I.freeC x c (fQ fr e),λ p hp=>absurd (show p∈([]:Qj)from hp) Qb,I.hok.kept hkeep,?_⟩
 ·exact Nat.ne_of_lt (Nat.lt_of_lt_of_le (hlt b hb) hC)
 ·exact(hfp b hb).2.2.2.2.1 x c (fQ fr e)
 ·rcases(hfp b hb).2.2.2.1 with z|z
  ·exact I.ok.noex b o e z
  ·exact absurd (Nat.lt_of_lt_of_le (Heap.lt_size e) (Nat.le_trans I.ok.bsz z)) (Nat.lt_irrefl _)
 ·rcases List.mem_cons.mp (I.stkSub b z)with z|z
  ·exact(hfp b hb).2.1 z
  ·exact(hfp b hb).2.2.1 z
 ·obtain⟨t,j,rfl,hj,hv⟩:=tW e2
  have ex:X.N[j]? =some x:=by
   have q:=congrArg (λ l=>l[t]?) hjs
   simp only[List.getElem?_map,List.getElem?_drop,hj,Option.map_some]at q
   have e1':Nc[k+t]? =some x:=e1
   rw[e1']at q
   exact(Option.some.inj q).symm
  have hx:scope.names.lookup x=some .free:=hfr x (by
   have:(Nc.drop k)[t]? =some x:=by rw[List.getElem?_drop];exact e1
   exact List.mem_of_getElem? this)
  have kx:=S.free (x,.free) (PySem.mem_of_lookup hx) rfl
  obtain⟨m,_,hl⟩:=I.loc
  obtain⟨u,r,l⟩:=hl j x v ex hv (.inr kx)
  obtain⟨c',hc'⟩:=tY (env:=X.env) (PySem.mem_of_lookup hx)
  refine⟨u,r,.inr ⟨.inr hx,c',hc',?_⟩⟩
  rcases l with⟨k1,_⟩|⟨_,c,hcc,z⟩
  ·have k1':X.env.scope.names.lookup x=some .local:=k1
   have kx':X.env.scope.names.lookup x=some .cell\/X.env.scope.names.lookup x=some .free:=kx
   rw[k1']at kx'
   rcases kx' with z|z<;>cases z
  ·have e:c=c':=by
    have:=fQ fr hc'
    rw[hcc]at this
    exact Option.some.inj this
   subst e
   exact z.keeps hkeep
 ·obtain⟨v,z⟩:=I.cell x c (fQ fr e)
  exact⟨v,z.keeps hkeep⟩
 ·rw[tX]
  show _=Nc.length
  omega
def uF(H:Hp)(P:Addr)(ps:Array Value):Prop:=H P=some (.tbl ps)/\TriplesOk ps.toList
theorem aB.table{pins:Qj}{σ:St}{H:Hp}{s:Shared}{P:Addr}{ps more:Array Value}{h':Heap}{t':Nat}(I:aB X pins σ H s)(hP:H P=some (.tbl ps))(hx:Heap.ExtBut P s.heap h')(hp:h'.get? P=some {cls:=.none,data:=.fields (ps++more)}):
  aB X pins σ (aA H P (.tbl (ps++more))) {s with heap:=h',toks:=t'}:=by
 have ne:∀b o,H b=some o->(∀q,o≠ .tbl q)->b≠P:=λ b o e n z=>by
  subst z
  rw[hP]at e
  exact n ps (Option.some.inj e).symm
 have ne0:∀b,H b=none->b≠P:=λ b n z=>by subst z;rw[hP]at n;cases n
 refine I.un ⟨λ b o e n _ _=>hx b o (ne0 b n) e,λ b o e n _ _=>⟨o.slots,hx b o (ne0 b n) e⟩,λ b o e n _=>by rw[aR (ne0 b n)];exact n,λ b o e _=>?_,λ b xs e=>by rw[aR (ne b _ e (by intro q z;cases z))];exact e,
  λ b o u e=>by rw[aR (ne b _ e (by intro q z;cases z))];exact e,λ b qs e=>?_⟩ λ b u e=>?_
 ·by_cases hb:b=P
  ·subst hb;exact⟨_,hp⟩
  ·exact⟨o,hx b o hb e⟩
 ·by_cases hb:b=P
  ·subst hb
   rw[hP]at e;cases e
   exact⟨more,aP⟩
  ·exact⟨#[],by rw[aR hb,e];simp⟩
 ·by_cases hb:b=P
  ·subst hb
   rw[aP]at e;cases e
   exact hp
  ·rw[aR hb]at e
   refine(I.hok b u e).stay (λ c v hc q=>hx c v ?_ q) (λ c q=>by rw[aR (ne c _ q (by intro q z;cases z))];exact q) λ c ys q=>by rw[aR (ne c _ q (by intro q z;cases z))];exact q
   rcases hc with z|z
   ·rw[z];exact hb
   ·exact ne c _ z (by intro q z;cases z)
theorem AB{pins:Qj}{σ:St}{H:Hp}{s:Shared}{E:Qh}{env:Env}{c P:Addr}{ps:Array Value}{pos:Pos}{qualname:Str}{scope:Scope}{Q:Qh}(I:aB X pins σ H s)(hc:env.code= .ref c)(hd:PySem.W.CodeHd X.base c P)(hP:uF H P ps)
  (hQ:∀code s' more,aB X pins σ (aA H P (.tbl (ps++more))) s'->TriplesOk (ps++more).toList->s'.gens=s.gens->s'.os=s.os->s.heap.objs.size<=s'.heap.objs.size->Heap.ExtBut P s.heap s'.heap->Q code s'):wpAny (model X.prog X.w) X.A (genexprCode env pos qualname scope) Q E s:=by
 have hd':PySem.W.CodeHd s.heap c P:=hd.keeps λ b o e=>(I.bs b o e).1
 have hop:s.heap.get? P=some (PySem.W.tabObj ps):=I.hok P _ hP.1
 have hcode:=hd'.code hop hP.2
 have htab:=hd'.tab hop
 cases hnf:codeAmong pos ps.toList with
 |none=>
  refine wpAny_genexprCodeX hc hcode htab hnf λ c' h' tk hx h1 h2 hc3 _ ht3 _=>?_
  refine hQ _ {s with heap:=h',toks:=tk} _ (I.table hP.1 hx ht3.2) ?_ rfl rfl (Nat.le_trans h1 (Nat.le_of_lt h2)) hx
  obtain⟨_,_,_,_,_,_,_,_,_,_,_,_,_,_,_,_,_,_,_,tr,_⟩:=hc3
  exact tr
 | some cv=>
  obtain⟨o,vs,file,tf,flags,tg,inF,text,tt,op,ho,hdd,h11,h2,h7,h9,h10,hop',hpd,htr,hne⟩:=id hcode
  unfold genexprCode codeAt
  rw[hc,if_neg (show¬((Value.ref c==Value.none)=true)from Bool.false_ne_true)]
  refine wpAny_bind (wpAny_fieldsOf ho hdd ?_)
  rw[h11]
  refine wpAny_bind (wpAny_fieldsOf hop' hpd ?_)
  rw[hnf]
  refine wpAny_pure (hQ cv s #[] ?_ (by simpa using hP.2) rfl rfl (Nat.le_refl _) (Heap.ExtBut.refl _ _))
  have e:aA H P (.tbl (ps++ #[]))=H:=by
   funext b
   by_cases hb:b=P
   ·subst hb;rw[aP,hP.1];simp
   ·rw[aR hb]
  rw[e]
  exact I
end
section
variable{Xg:Cx}{A:Around}{elt tg iter:Expr}{ifs:List Expr}{scope:Scope}{pos:Pos}{it:Addr}{J:It}{fp:List Addr}{tn:Nat->Heap->Prop}{g:TG}{tt:TT}{te:TE}{k:Nat}{σg:St}{pa:Qj}
end
section
variable{prog:Program}{w:World}{A:Around}{a:Addr}{gi:Nat}
end
def jW(mg:Qk)(base:Heap):Prop:=∃bm ob,mg "__builtins__" =some (.ref bm)/\bm≠builtinsNs/\base.get? bm=some ob/\ob.cls= .type "module"/\ob.dict=some builtinsNs/\ob.data= .plain
section
variable{X:Cx}
end
mutual
def aD(ex:List Addr)(H:Hp):PyData->V->Prop
 |.none,v=>v= .non
 |.bool b,v=>v= .bl b
 |.int i,v=>v= .int i
 |.str x,v=>v= .str x
 |.tuple ds,v=>∃a vs,v= .ref a/\a∉ex/\H a=some (.tup vs)/\aL ex H ds vs
 |.list ds,v=>∃a vs,v= .ref a/\a∉ex/\H a=some (.lst vs)/\aL ex H ds vs
 |.dict _,_=>False
def aL(ex:List Addr)(H:Hp):List PyData->List V->Prop
 |[],vs=>vs=[]
 |d::ds,vs=>∃v r,vs=v::r/\aD ex H d v/\aL ex H ds r
end
structure aI(ex:List Addr)(H H':Hp):Prop where
 old:∀b o,b∉ex->H b=some o->(∀ps,o≠ .tbl ps)->H' b=some o
 tab:∀b ps,b∉ex->H b=some (.tbl ps)->∃ps',H' b=some (.tbl ps')/\(TriplesOk ps.toList->TriplesOk ps'.toList)
theorem aI.refl{ex:List Addr}{H:Hp}:aI ex H H:=⟨λ _ _ _ h _=>h,λ _ ps _ h=>⟨ps,h,id⟩⟩
theorem aI.trans{ex:List Addr}{H H1 H2:Hp}(a:aI ex H H1)(b:aI ex H1 H2):aI ex H H2:=
 ⟨λ c o hc h n=>b.old c o hc (a.old c o hc h n) n,λ c ps hc h=>by
  obtain⟨p1,h1,t1⟩:=a.tab c ps hc h
  obtain⟨p2,h2,t2⟩:=b.tab c p1 hc h1
  exact⟨p2,h2,λ z=>t2 (t1 z)⟩⟩
theorem aI.mono{ex ex':List Addr}{H H':Hp}(a:aI ex H H')(h:∀b∈ex,b∈ex'):aI ex' H H':=⟨λ c o hc=>a.old c o λ z=>hc (h c z),λ c ps hc=>a.tab c ps λ z=>hc (h c z)⟩
theorem aI.free{ex:List Addr}{H H':Hp}(a:aI ex H H'){l:Addr}(hx:l∉ex)(h:H' l=none):H l=none:=by
 cases q:H l with
 |none=>rfl
 | some o=>
  cases o with
  |tbl ps=>
   obtain⟨p',h',_⟩:=a.tab l ps hx q
   rw[h]at h';cases h'
  |_=>rw[a.old l _ hx q (by intro ps z;cases z)]at h;cases h
theorem aI.new{ex:List Addr}{H:Hp}{p:Addr}(h:H p=none)(o:HO):aI ex H (aA H p o):=
 ⟨λ b u _ q _=>by rw[aR (gO q h)];exact q,λ b ps _ q=>⟨ps,by rw[aR (gO q h)];exact q,id⟩⟩
theorem aI.put{ex:List Addr}{H:Hp}{p:Addr}(h:p∈ex)(o:HO):aI ex H (aA H p o):=
 ⟨λ b u hb q _=>by rw[aR (λ z:b=p=>hb (z▸h))];exact q,λ b ps hb q=>⟨ps,by rw[aR (λ z:b=p=>hb (z▸h))];exact q,id⟩⟩
theorem aI.tbl{ex:List Addr}{H:Hp}{p:Addr}{ps ps':Array Value}(h:H p=some (.tbl ps))(t:TriplesOk ps'.toList):aI ex H (aA H p (.tbl ps')):=by
 refine⟨λ b u _ q n=>?_,λ b qs _ q=>?_⟩
 ·rw[aR]
  ·exact q
  ·rintro rfl
   rw[h]at q
   exact n ps (Option.some.inj q).symm
 ·by_cases hb:b=p
  ·subst hb
   exact⟨ps',aP,λ _=>t⟩
  ·exact⟨qs,by rw[aR hb];exact q,id⟩
theorem aI.lst{ex:List Addr}{H H':Hp}(a:aI ex H H'){p:Addr}{xs:List V}(hp:p∉ex)(h:H p=some (.lst xs)):H' p=some (.lst xs):=a.old p _ hp h (by intro ps z;cases z)
theorem aI.tup{ex:List Addr}{H H':Hp}(a:aI ex H H'){p:Addr}{xs:List V}(hp:p∉ex)(h:H p=some (.tup xs)):H' p=some (.tup xs):=a.old p _ hp h (by intro ps z;cases z)
theorem aI.sql{K:Qf}{ex:List Addr}{H H':Hp}(a:aI ex H H'){p:Addr}{xs:List V}(hp:p∉ex)(h:aQ K H p xs):aQ K H' p xs:=by
 rcases h with(h|⟨o,h⟩)|h
 ·exact .inl (.inl (a.lst hp h))
 ·exact .inl (.inr ⟨o,a.old p _ hp h (by intro ps z;cases z)⟩)
 ·exact .inr h
def Tb(ts:List Addr)(H:Hp):Prop:=∀P∈ts,∃ps,uF H P ps
theorem aI.tb{ex ts:List Addr}{H H':Hp}(a:aI ex H H')(h:Tb ts H)(hx:∀P∈ts,P∉ex):Tb ts H':=λ P hP=>by
 obtain⟨ps,h1,h2⟩:=h P hP
 obtain⟨ps',q1,q2⟩:=a.tab P ps (hx P hP) h1
 exact⟨ps',q1,q2 h2⟩
mutual
theorem aD.ext{ex:List Addr}{H H':Hp}(e:aI ex H H'):∀{d:PyData} {v:V},aD ex H d v->aD ex H' d v
 |.none,_,h=>h
 |.bool _,_,h=>h
 |.int _,_,h=>h
 |.str _,_,h=>h
 |.tuple ds,v,h=>by
  obtain⟨a,vs,h1,h2,h3,h4⟩:=h
  exact⟨a,vs,h1,h2,e.tup h2 h3,aL.ext e h4⟩
 |.list ds,v,h=>by
  obtain⟨a,vs,h1,h2,h3,h4⟩:=h
  exact⟨a,vs,h1,h2,e.lst h2 h3,aL.ext e h4⟩
 |.dict _,_,h=>h.elim
theorem aL.ext{ex:List Addr}{H H':Hp}(e:aI ex H H'):∀{ds:List PyData} {vs:List V},aL ex H ds vs->aL ex H' ds vs
 |[],_,h=>h
 |d::ds,vs,h=>by
  obtain⟨v,r,h1,h2,h3⟩:=h
  exact⟨v,r,h1,aD.ext e h2,aL.ext e h3⟩
end
mutual
theorem aD.less{ex ex':List Addr}{H:Hp}(e:∀b∈ex',b∈ex):∀{d:PyData} {v:V},aD ex H d v->aD ex' H d v
 |.none,_,h=>h
 |.bool _,_,h=>h
 |.int _,_,h=>h
 |.str _,_,h=>h
 |.tuple ds,v,h=>by
  obtain⟨a,vs,h1,h2,h3,h4⟩:=h
  exact⟨a,vs,h1,λ z=>h2 (e a z),h3,aL.less e h4⟩
 |.list ds,v,h=>by
  obtain⟨a,vs,h1,h2,h3,h4⟩:=h
  exact⟨a,vs,h1,λ z=>h2 (e a z),h3,aL.less e h4⟩
 |.dict _,_,h=>h.elim
theorem aL.less{ex ex':List Addr}{H:Hp}(e:∀b∈ex',b∈ex):∀{ds:List PyData} {vs:List V},aL ex H ds vs->aL ex' H ds vs
 |[],_,h=>h
 |d::ds,vs,h=>by
  obtain⟨v,r,h1,h2,h3⟩:=h
  exact⟨v,r,h1,aD.less e h2,aL.less e h3⟩
end
theorem aL.get{ex:List Addr}{H:Hp}:∀{ds:List PyData} {vs:List V} {i:Nat} {d:PyData},aL ex H ds vs->ds[i]? =some d->∃v,vs[i]? =some v/\aD ex H d v
 |[],_,_,_,_,e=>by simp at e
 |d::ds,vs,0,d',h,e=>by
  obtain⟨v,r,rfl,h2,h3⟩:=h
  simp at e
  subst e
  exact⟨v,rfl,h2⟩
 |d::ds,vs,i+1,d',h,e=>by
  obtain⟨v,r,rfl,h2,h3⟩:=h
  obtain⟨w,h4,h5⟩:=aL.get (i:=i) h3 (by simpa using e)
  exact⟨w,by simpa using h4,h5⟩
theorem aL.length{ex:List Addr}{H:Hp}:∀{ds:List PyData} {vs:List V},aL ex H ds vs->vs.length=ds.length
 |[],_,h=>by cases h;rfl
 |d::ds,vs,h=>by
  obtain⟨v,r,rfl,h2,h3⟩:=h
  simp[aL.length h3]
theorem aL.append{ex:List Addr}{H:Hp}:∀{ds es:List PyData} {vs ws:List V},aL ex H ds vs->aL ex H es ws->aL ex H (ds++es) (vs++ws)
 |[],_,_,_,h,h'=>by cases h;exact h'
 |d::ds,es,vs,ws,h,h'=>by
  obtain⟨v,r,rfl,h2,h3⟩:=h
  exact⟨v,r++ws,rfl,h2,aL.append h3 h'⟩
theorem aL.take{ex:List Addr}{H:Hp}:∀{ds:List PyData} {vs:List V} (n:Nat),aL ex H ds vs->aL ex H (ds.take n) (vs.take n)
 |[],_,n,h=>by cases h;simp[aL]
 |d::ds,vs,0,h=>by simp[aL]
 |d::ds,vs,n+1,h=>by
  obtain⟨v,r,rfl,h2,h3⟩:=h
  exact⟨v,r.take n,rfl,h2,aL.take n h3⟩
theorem aL.drop{ex:List Addr}{H:Hp}:∀{ds:List PyData} {vs:List V} (n:Nat),aL ex H ds vs->aL ex H (ds.drop n) (vs.drop n)
 |[],_,n,h=>by cases h;simp[aL]
 |d::ds,vs,0,h=>h
 |d::ds,vs,n+1,h=>by
  obtain⟨v,r,rfl,h2,h3⟩:=h
  exact aL.drop n h3
theorem aL.strs{ex:List Addr}{H:Hp}:∀(xs:List Str),aL ex H (xs.map .str) (xs.map .str)
 |[]=>rfl
 |x::xs=>⟨_,_,rfl,rfl,aL.strs xs⟩
theorem aL.strs_of{ex:List Addr}{H:Hp}:∀{xs:List Str} {vs:List V},aL ex H (xs.map .str) vs->vs=xs.map .str
 |[],_,h=>h
 |x::xs,vs,h=>by
  obtain⟨v,r,rfl,h2,h3⟩:=h
  rw[aL.strs_of h3,show v=V.str x from h2]
  rfl
theorem aL.ints_of{ex:List Addr}{H:Hp}:∀{xs:List Int} {vs:List V},aL ex H (xs.map .int) vs->vs=xs.map .int
 |[],_,h=>h
 |x::xs,vs,h=>by
  obtain⟨v,r,rfl,h2,h3⟩:=h
  rw[aL.ints_of h3,show v=V.int x from h2]
  rfl
theorem aL.ints{ex:List Addr}{H:Hp}:∀(xs:List Int),aL ex H (xs.map .int) (xs.map .int)
 |[]=>rfl
 |x::xs=>⟨_,_,rfl,rfl,aL.ints xs⟩
section
variable{X:Cx}{pins:Qj}{σ:St}{H:Hp}{s:Shared}{ex:List Addr}
mutual
theorem aD.reads(I:aB X pins σ H s):∀{d:PyData} {v:V} {u:Value},aD ex H d v->bE v u->∃as,Reads s.heap u d as
 |.none,_,_,h,r=>by cases h;cases r;exact⟨_,.none⟩
 |.bool b,_,_,h,r=>by cases h;cases r;exact⟨_,.bool b⟩
 |.int i,_,_,h,r=>by cases h;obtain⟨t,rfl⟩:=r;exact⟨_,.int i t⟩
 |.str x,_,_,h,r=>by cases h;obtain⟨t,rfl⟩:=r;exact⟨_,.str x t⟩
 |.tuple ds,v,u,h,r=>by
  obtain⟨a,vs,rfl,_,h3,h4⟩:=h
  cases r
  obtain⟨_,its,rv,⟨ob,e1,e2,n,e3⟩,_⟩:vs.length<=sizeLine/\∃its:List Value,aW vs its/\IsTup s.heap a its.toArray/\∃o,s.heap.get? a=some o/\o.dict=none:=I.hok a _ h3
  obtain⟨as,q⟩:=aL.reads I h4 rv
  exact⟨as,reads_tuple_at e1 e2 e3 (by simpa using q)⟩
 |.list ds,v,u,h,r=>by
  obtain⟨a,vs,rfl,_,h3,h4⟩:=h
  cases r
  obtain⟨_,its,n,rv,e1⟩:vs.length<=sizeLine/\∃(its:List Value) (n:Nat),aW vs its/\s.heap.get? a=some {cls:=.type "list",data:=.seq its.toArray n}:=I.hok a _ h3
  obtain⟨as,q⟩:=aL.reads I h4 rv
  exact⟨_,reads_list_at e1 rfl rfl (by simpa using q)⟩
 |.dict _,_,_,h,_=>h.elim
theorem aL.reads(I:aB X pins σ H s):∀{ds:List PyData} {vs:List V} {us:List Value},aL ex H ds vs->aW vs us->∃as,ReadsAll s.heap us ds as
 |[],_,_,h,r=>by cases h;cases r;exact⟨_,.nil⟩
 | d::ds,vs,us,h,r=>by
  obtain⟨v,rs,rfl,h2,h3⟩:=h
  cases r with
  |cons r1 r2=>
   obtain⟨as,q1⟩:=aD.reads I h2 r1
   obtain⟨bs,q2⟩:=aL.reads I h3 r2
   exact⟨_,.cons q1 q2⟩
end
end
section
variable{X:Cx}
open SeqAt (shaped)
def Oj:R2:=λ x y H Q=>∃dx dy,aD [] H dx x/\aD [] H dy y/\shaped dx=true/\shaped dy=true/\Q (.bl (PyData.eqv dx dy)) H
def Oc:R2:=λ x y H Q=>∃dx dy,aD [] H dx x/\aD [] H dy y/\shaped dx=true/\shaped dy=true/\Q (.bl (!PyData.eqv dx dy)) H
theorem pT(hu:X.A.units+64<cLine):cA X (compareOp .Eq) Oj:=by
 intro pins s σ H x y v u Q I rx ry h
 obtain⟨dx,dy,h1,h2,s1,s2,q⟩:=h
 obtain⟨as,r1⟩:=h1.reads I rx
 obtain⟨bs,r2⟩:=h2.reads I ry
 exact eq_dataH r1 r2 s1 s2 hu ⟨.bl _,H,I,rfl,q⟩
theorem Dg(hu:X.A.units+64<cLine):cA X (compareOp .NotEq) Oc:=by
 intro pins s σ H x y v u Q I rx ry h
 obtain⟨dx,dy,h1,h2,s1,s2,q⟩:=h
 obtain⟨as,r1⟩:=h1.reads I rx
 obtain⟨bs,r2⟩:=h2.reads I ry
 exact ne_dataH r1 r2 s1 s2 hu ⟨.bl _,H,I,rfl,q⟩
def Oi(K:Qf):List V->Hp->VK->Prop:=λ vs H Q=>∃x T t b,vs=[x,.ty T]/\fV K H x t/\PySem.W.kitOne K t (.type T)=some b/\Q (.bl b) H
theorem jR:dX X (.builtin "isinstance") (Oi X.K):=by
 intro pins s σ H xs us Q I r h
 obtain⟨x,T,t,b,rfl,ty,e,q⟩:=h
 obtain⟨u1,u2,rfl,r1,r2⟩:=r.two
 cases r2
 exact Xb I r1 ty e λ tk=>⟨.bl b,H,I.tok tk,rfl,q⟩
def Nw:V->Option Int->Option Int->Hp->VK->Prop:=λ x lo hi H Q=>∃z,x= .str z/\z.length<=sizeLine/\Q (.str (Txt.slice z lo hi)) H
theorem rV:lF X Nw:=by
 intro pins s σ H x v vl vu lo hi sl Q I rx hs pl pu h
 obtain⟨z,rfl,hz,q⟩:=h
 obtain⟨t,rfl⟩:=rx
 have fin:∀t' k,EP X pins σ Q (.str (Txt.slice z lo hi) t') {s with toks:=k}:=λ t' k=>⟨.str _,H,I.tok k,⟨_,rfl⟩,q⟩
 cases pl with
 |none=>
  cases pu with
  |none=>exact⟨"str",_,F.slot_str_getitem.lookup,typeIs_str _ _ _,wpAny_getItem_str_slice (l:=none) (u:=none) (st:=none) hs rfl (post_val_or_str ⟨Nat.le_trans (Txt.slice_le z _ _) hz,fin⟩)⟩
  |int j t'=>exact⟨"str",_,F.slot_str_getitem.lookup,typeIs_str _ _ _,wpAny_getItem_str_slice (l:=none) (u:=some (j,t')) (st:=none) hs rfl (post_val_or_str ⟨Nat.le_trans (Txt.slice_le z _ _) hz,fin⟩)⟩
 |int i t''=>
  cases pu with
  |none=>exact⟨"str",_,F.slot_str_getitem.lookup,typeIs_str _ _ _,wpAny_getItem_str_slice (l:=some (i,t'')) (u:=none) (st:=none) hs rfl (post_val_or_str ⟨Nat.le_trans (Txt.slice_le z _ _) hz,fin⟩)⟩
  |int j t'=>exact⟨"str",_,F.slot_str_getitem.lookup,typeIs_str _ _ _,wpAny_getItem_str_slice (l:=some (i,t'')) (u:=some (j,t')) (st:=none) hs rfl (post_val_or_str ⟨Nat.le_trans (Txt.slice_le z _ _) hz,fin⟩)⟩
theorem strs_of:∀{ys:List Str} {us:List Value},aW (ys.map V.str) us->StrsAre us ys
 |[],_,.nil=>.nil
 |y::ys,_,.cons ⟨t,e⟩ r=>by subst e;exact .cons y t (strs_of r)
def Oe(K:Qf):V->List V->Hp->VK->Prop:=λ x vs H Q=>∃z a ys,x= .str z/\vs=[.ref a]/\aQ K H a (ys.map V.str)/\(ys.map (·.length)).sum+ys.length*z.length<=16777216/\Q (.str (Txt.join z ys)) H
theorem Tr:iZ X "str.join" (Oe X.K):=by
 intro pins s σ H x vs v us Q I rx rv h
 obtain⟨z,a,ys,rfl,rfl,hq,hl,q⟩:=h
 obtain⟨t,rfl⟩:=rx
 obtain⟨u,rfl,ru⟩:=rv.one
 cases ru
 obtain⟨its,r,pl,_⟩:=I.list hq
 exact join_list pl.isList (by simpa using strs_of r) hl λ t' k=>⟨.str _,H,I.tok k,⟨_,rfl⟩,q⟩
end
def yQ(tabs:List Addr)(H:Hp):Prop:=(∀b,H b=none\/(∃o xs,H b=some (.frz o (.lst xs)))\/(b∈tabs/\H b=some (.tbl #[])))/\∀b∈tabs,H b=some (.tbl #[])
theorem Vh{P:Program}{w:World}{K:Qf}{mg mb:Qk}{CX:eL}{k:Nat}{fa a:Addr}{fd:FuncData}{x:Str}{sp:Sp}{s₁:Shared}{vs:List Value}{ns:List Int}{tabs:List Addr}
  (KX:K.In s₁.heap) (hns:s₁.heap.Ns mainGlobals mg) (hb:s₁.heap.Ns builtinsNs mb) (hbb:∀x:Str,x≠ "__name__"->mb x=bootBuiltins x) (hlim:s₁.heap.NoLimit) (hg:s₁.gens= #[]) (hbm:jW mg s₁.heap)
  (htab:∀p∈tabs,s₁.heap.get? p=some (PySem.W.tabObj #[])/\isCodeTable s₁.heap p/\K.lookup p=none)
  (ha:s₁.heap.get? a=some {cls:=.type "list",data:=.seq vs.toArray}) (hi:IntsAre vs ns) (hl:ns.length<=sizeLine) (hr:bV k callerA)
  (F:∀base:Heap,K.In base->base.Ns mainGlobals mg->jW mg base->bD P w K mg base CX k fa fd [x] sp) (hbind:∀(s:Shared) (u:Value),BindsTo s fd ⟨[u],[]⟩ [(x,u)])
  (hsp:∀H:Hp,yQ tabs H->aQ K H a (ns.map V.int)->sp [.ref a] H (λ v _=>v= .bl true) λ _ _ _=>False)
  (hCX:∀H e s',CX [] H s₁ (λ _ _ _=>False) e s'->False):
  codeAny (model P w) callerA (.call (.ref fa) ⟨[.ref a],[]⟩) (λ r s'=>r= .ok (.ret (.bool true))/\OldK s₁.heap s'.heap/\s'.os=s₁.os/\AllBare s'.gens) s₁:=by
 have rv:=Aq hi
 have lenV:=hi.length
 have anT:a∉tabs:=λ z=>by
  have e:=(htab a z).1
  rw[ha]at e
  cases e
 have core:∀H:Hp,yQ tabs H->aQ K H a (ns.map V.int)->bW P w H s₁.heap->(∀b,H b≠none->b=a\/b∈tabs)->(H a≠none->K.lookup a=none)->
   codeAny (model P w) callerA (.call (.ref fa) ⟨[.ref a],[]⟩) (λ r s'=>r= .ok (.ret (.bool true))/\OldK s₁.heap s'.heap/\s'.os=s₁.os/\AllBare s'.gens) s₁:=by
  intro H hO hS hok hA hK
  have base_of:∀{b:Addr} {o:Obj},s₁.heap.get? b=some o->H b=none->(iR s₁.heap H).get? b=some o:=λ e n=>Xv e n
  have noT:∀{b:Addr} {o:Obj},s₁.heap.get? b=some o->(∀(vs:Array Value) n,o.data≠ .seq vs n)->(∀vs:Array Value,o.data≠ .fields vs)->H b=none:=fun{b o} e d1 d2=>by
   cases q:H b with
   |none=>rfl
   | some u=>
    rcases hA b (by rw[q];simp)with e'|e'
    ·subst e'
     rw[ha]at e;cases e
     exact absurd rfl (d1 _ _)
    ·rw[(htab b e').1]at e;cases e
     exact absurd rfl (d2 _)
  have nsK:∀{b:Addr} {m:Qk},s₁.heap.Ns b m->(iR s₁.heap H).Ns b m:=fun{b m} ⟨o,es,ep,e,d,r⟩=>⟨o,es,ep,base_of e (noT e (by intro _ _ z;rw[d]at z;cases z) (by intro _ z;rw[d]at z;cases z)),d,r⟩
  have hKb:K.In (iR s₁.heap H):=λ b o e=>base_of (KX b o e) (by
   cases q:H b with
   |none=>rfl
   | some u=>
    rcases hA b (by rw[q];simp)with e'|e'
    ·subst e'
     rw[hK (by rw[q];simp)]at e;cases e
    ·rw[(htab b e').2.2]at e;cases e)
  have hM:Mod K mg (iR s₁.heap H):=⟨hKb,nsK hns,⟨mb,nsK hb,hbb⟩,let⟨mc,h1,h2⟩:=hlim;⟨mc,nsK h1,h2⟩⟩
  have hB:jW mg (iR s₁.heap H):=by
   obtain⟨bm,ob,b1,b2,b3,b4,b5,b6⟩:=hbm
   exact⟨bm,ob,b1,b2,base_of b3 (noT b3 (by intro _ _ z;rw[b6]at z;cases z) (by intro _ z;rw[b6]at z;cases z)),b4,b5,b6⟩
  have e0:gY P w K mg (iR s₁.heap H) callerA [] s₁ H:=⟨rfl,hM,λ b o e=>Te e,Nat.le_of_eq (Xu _ _),trivial,λ b hb=>absurd (show b∈([]:List Addr)from hb) Qb,hok,.of_eq hg⟩
  refine codeAny_mono ((F _ hKb (nsK hns) hB).run callerA [] s₁ H ⟨[.ref a],[]⟩ [.ref a] [.ref a] _ _ hr e0 (hbind s₁ (.ref a)) (.cons rfl .nil) (hsp H hO hS)) λ r s' h=>?_
  cases r with
  |error e=>exact(hCX H e s' h).elim
  | ok fl=>
   cases fl with
   |next=>exact False.elim h
   |brk=>exact False.elim h
   |cont=>exact False.elim h
   | ret u=>
    obtain⟨v,H',os,bare,un,hok',r',q⟩:=h
    have q':v= .bl true:=q
    subst q'
    obtain rfl:u=Value.bool true:=r'
    have no:∀b:Addr,b∉cC []:=λ b z=>absurd (show b∈([]:List Addr)from z) Qb
    refine⟨rfl,⟨λ b o e=>?_,λ b o e=>un.there b o e Qb⟩,os,bare.1⟩
    rcases hO.1 b with z|⟨ob,xs,z⟩|⟨zt,z⟩
    ·exact .inl (un.keep b o e z (no b) Qb)
    ·have z2:=un.frzs b ob _ z
     obtain⟨e1,_⟩:=hok b _ z
     obtain⟨e2,_⟩:=hok' b _ z2
     rw[e]at e1;cases e1
     exact .inl e2
    ·obtain⟨more,z2⟩:=un.tbls b _ z
     have e2:s'.heap.get? b=some {cls:=.none,data:=.fields (#[]++more)}:=hok' b _ z2
     have e1:=(htab b zt).1
     rw[e]at e1;cases e1
     exact .inr (.inl ⟨(htab b zt).2.1,rfl,#[],more,rfl,e2⟩)
 have tabOk:∀b∈tabs,s₁.heap.get? b=some {cls:=.none,data:=.fields #[]}:=λ b hb=>(htab b hb).1
 cases hk:K.lookup a with
 | some o=>
  have e:=KX a o hk
  rw[ha]at e
  cases e
  refine core (λ b=>if b∈tabs then some (.tbl #[])else none) ⟨λ b=>?_,λ b hb=>if_pos hb⟩ (.inr ⟨_,vs.toArray,_,hk,rfl,rfl,rfl,by rw[List.size_toArray,lenV];exact hl,by simpa using rv⟩) (λ b u z=>?_) (λ b z=>?_) (λ z=>absurd (if_neg anT) z)
  ·by_cases hb:b∈tabs
   ·exact .inr (.inr ⟨hb,if_pos hb⟩)
   ·exact .inl (if_neg hb)
  ·by_cases hb:b∈tabs
   ·have z':=(if_pos hb).symm.trans z
    cases z'
    exact tabOk b hb
   ·have z':=(if_neg hb).symm.trans z
    cases z'
  ·by_cases hb:b∈tabs
   ·exact .inr hb
   ·exact absurd (if_neg hb) z
 | none=>
  refine core (λ b=>if b=a then some (.frz {cls:=.type "list",data:=.seq vs.toArray} (.lst (ns.map V.int)))else if b∈tabs then some (.tbl #[])else none) ⟨λ b=>?_,λ b hb=>?_⟩ (.inl (.inr ⟨{cls:=.type "list",data:=.seq vs.toArray},if_pos rfl⟩)) (λ b u z=>?_) (λ b z=>?_) λ _=>hk
  ·by_cases hb:b=a
   ·exact .inr (.inl ⟨_,_,if_pos hb⟩)
   ·by_cases hb':b∈tabs
    ·exact .inr (.inr ⟨hb',(if_neg hb).trans (if_pos hb')⟩)
    ·exact .inl ((if_neg hb).trans (if_neg hb'))
  ·have hne:b≠a:=λ z=>anT (z▸hb)
   exact(if_neg hne).trans (if_pos hb)
  ·by_cases hb:b=a
   ·have z':=(if_pos hb).symm.trans z
    cases z'
    subst hb
    exact⟨ha,by rw[List.length_map];exact hl,vs,_,rv,ha⟩
   ·have z1:(if b∈tabs then some (HO.tbl #[])else none)=some u:=(if_neg hb).symm.trans z
    by_cases hb':b∈tabs
    ·have z':=(if_pos hb').symm.trans z1
     cases z'
     exact tabOk b hb'
    ·have z':=(if_neg hb').symm.trans z1
     cases z'
  ·by_cases hb:b=a
   ·exact .inl hb
   ·by_cases hb':b∈tabs
    ·exact .inr hb'
    ·exact absurd ((if_neg hb).trans (if_neg hb')) z
def lJ(K:Qf)(gn:List Str):List Addr:=gn.filterMap λ x=>(PySem.W.tabIn K x).map (·.2)
theorem Ih{l:PySem.W.OpenLaw}{n k:Nat}{q:Program}{loose:List Str}{XP:(Str->Option Value)->Heap->Prop}{YP:World->Heap->Prop}{d:DefRec}{K:Params->PySem.W.Frag}{CX:World->eL}{sp:World->Sp}{x:Str}(gn:List Str)
  (hn:l.most=some n) (hn2:n<=sizeLine) (hdf:d.params.defaults=[]) (hr:bV k callerA)
  (hY:∀(w:World) (h:Heap),YP w h->(K w.params).In h)
  (hgn:∀y∈gn,((recsOf q).find? (λ e=>e.name==y)).isSome=true)
  (hT:∀(w:World) (h:Heap),(K w.params).In h->∀y∈gn,∀c P,PySem.W.tabIn (K w.params) y=some (c,P)->(K w.params).lookup P=none)
  (F:∀(w:World) (mg:Qk) (fa:Addr) (h:Heap),(K w.params).In h->h.Ns mainGlobals mg->mg d.name=some (.ref fa)->
   ∃fd:FuncData,(∀(s:Shared) (u:Value),BindsTo s fd ⟨[u],[]⟩ [(x,u)])/\
    ∀base:Heap,(K w.params).In base->base.Ns mainGlobals mg->jW mg base->bD l.prog w (K w.params) mg base (CX w) k fa fd [x] (sp w))
  (hsp:∀(w:World) (H:Hp) (a:Addr) (ns:List Int),ns.length<=n->yQ (lJ (K w.params) gn) H->aQ (K w.params) H a (ns.map V.int)->sp w [.ref a] H (λ v _=>v= .bl true) λ _ _ _=>False)
  (hCX:∀(w:World) (H:Hp) (s:Shared) (e:Value) (s':Shared),CX w [] H s (λ _ _ _=>False) e s'->False):
  PySem.W.WalkO q loose XP YP l.row.toRowW d [] (λ f vs=>PySem.call f vs):=by
 refine Att.attach_call hn hdf λ w s₀ s₁ mg mb fa o pm cd doc a vs ns G Y ho hd hcd hmg hobj hints hlen hg=>?_
 have KX:=hY w _ Y
 obtain⟨fd,hb,hF⟩:=F w mg fa _ KX G.T.g hmg
 refine Vh (tabs:=lJ (K w.params) gn) KX G.T.g G.T.b G.T.builtins G.T.nolimit hg G.T.bmain (λ p hp=>?_) hobj hints (Nat.le_trans hlen hn2) hr hF hb (λ H hO hS=>hsp w H a ns hlen hO hS) λ H e s'=>hCX w H s₁ e s'
 obtain⟨y,hy,e⟩:=List.mem_filterMap.mp hp
 cases et:PySem.W.tabIn (K w.params) y with
 |none=>rw[et]at e;cases e
 |some cP=>
  obtain⟨c,P⟩:=cP
  rw[et]at e
  have e':P=p:=Option.some.inj e
  subst e'
  obtain⟨d',hd'⟩:=Option.isSome_iff_exists.mp (hgn y hy)
  obtain⟨t1,t2⟩:=PySem.W.tab_of G.T KX hd' et
  exact⟨t2,(t1.tab t2).isCodeTable,hT w _ KX y hy c P et⟩
def uH(z:Str):It:=⟨λ i _=>i<z.cps.size,λ i H x H'=>H'=H/\∃c,z.cps[i]? =some c/\x= .str ⟨#[c]⟩,λ i _=>i=z.cps.size⟩
theorem Ay{P:Program}{w:World}{K:Qf}{tg:Expr}(it:Addr)(z:Str)(t:Tok)(ty:String)
  (hty:["enumerate","zip","dict_itemiterator","dict_reverseitemiterator","odict_iterator","itertools.zip_longest","itertools.pairwise"].contains ty=false)
  (W:∀A:Around,A.handled=none->Walks P w A it [it] [it] z.cps.size (SignAt z) (λ i h=>h.IsStrIter it ty z t i))
  (self:∀(A:Around) (i:Nat) (s:Shared) (Q:Qh) (E:Qh),s.heap.IsStrIter it ty z t i->Q (.ref it) s->wpAny (model P w) A (pyIter (.ref it)) Q E s):
  jS P w K tg (uH z) [it] it (λ i h=>h.IsStrIter it ty z t i) where
 mem:=by simp
 obj:=λ i h st b hb=>by
  have e:b=it:=by simpa using hb
  subst e
  obtain⟨o,e,c,d⟩:=st
  exact⟨o,e,λ v z=>by rw[d]at z;cases z⟩
 keep:=λ i h h' st k=>let⟨o,ho,r⟩:=st;⟨o,k it Qb o ho,r⟩
 item:=by
  intro X hP hw hK hc i pins s σ H E I hf st hg
  subst hP hw hK
  obtain⟨f0,f1,f2,f3,f4,f5⟩:=hf it Qb
  refine(W X.A (I.ok.hd hc)).item i s _ _ hg st λ v h' tk hv st' kk=>?_
  obtain⟨c,u,hc',rfl⟩:=hv
  have I1:aB X pins σ H {s with heap:=h',toks:=tk}:=I.turned (λ b o hb e=>kk b o (by simpa using hb) e) f0 f1 f3 f4 f5
  obtain⟨o,e,oc,d⟩:=id st'
  exact⟨_,rfl,tN (s:={s with heap:=h',toks:=tk}) e oc d hty ⟨.str ⟨#[c]⟩,H,I1,⟨_,rfl⟩,⟨rfl,c,hc',rfl⟩,st',λ b hb=>(hf b hb).1⟩⟩
 done:=by
  intro X hP hw hK hc i pins s σ H E I hf st hg
  subst hP hw hK
  obtain⟨f0,f1,f2,f3,f4,f5⟩:=hf it Qb
  obtain rfl:i=z.cps.size:=hg
  exact(W X.A (I.ok.hd hc)).done s _ _ st λ h' tk kk=>⟨rfl,I.turned (λ b o hb e=>kk b o (by simpa using hb) e) f0 f1 f3 f4 f5⟩
 self:=λ A i s Q E st h=>self A i s Q E st h
section
variable{X:Cx}{tg:Expr}
def Xr(tl:TE):TI:=λ σ H R=>tl σ H λ x H1=>∃z,x= .str z/\R (uH z) H1
theorem Pj{l:Expr}{tl:TE}(hl:PE X l tl):PI X tg l (Xr tl):=by
 intro pins s σ H R I h
 refine aU (hl pins s σ H _ I h) λ v s1 ⟨x,H1,I1,r1,q1⟩=>?_
 obtain⟨z,e,q⟩:=q1
 subst e
 obtain⟨t,rfl⟩:=r1
 have fin:∀(ty:String) (T:jS X.prog X.w X.K tg (uH z) [s1.heap.objs.size] s1.heap.objs.size (λ i h=>h.IsStrIter s1.heap.objs.size ty z t i)),
   yP X pins σ tg R (.ref s1.heap.objs.size) {s1 with heap:=s1.heap.push {cls:=.type ty,data:=.fields #[.str z t,.int 0 0]}}:=λ ty T=>by
  refine⟨s1.heap.objs.size,[s1.heap.objs.size],_,_,H1,rfl,I1.kept (t':=s1.toks) λ b o e=>Heap.get?_push_of_some _ e,T,⟨_,Heap.get?_push_size _ rfl,rfl,rfl⟩,λ b hb=>?_,q⟩
  have e:b=s1.heap.objs.size:=by simpa using hb
  subst e
  exact I1.fpOk (Nat.le_refl _) (I1.hok.fresh (Nat.le_refl _))
 cases ha:z.cps.all (· <128)
 ·exact wpAny_pyIter_wide ha (fin _ (Ay _ z t _ Qc (λ A hA=>Walks.strWide hA _ z t) λ A i s Q E st h=>wpAny_pyIter_striter_wide st h))
 ·exact wpAny_pyIter_ascii ha (fin _ (Ay _ z t _ Qc (λ A hA=>Walks.strAscii hA _ z t) λ A i s Q E st h=>wpAny_pyIter_striter_ascii st h))
theorem CA{bs:List Bool}{its:List Value}(r:aW (bs.map V.bl) its){i:Nat}{v:Value}(h:its[i]? =some v):∃b,bs[i]? =some b/\v= .bool b:=by
 have hi:i<its.length:=(List.getElem?_eq_some_iff.mp h).1
 have hl:=r.length
 rw[List.length_map]at hl
 have hb:i<bs.length:=by omega
 obtain⟨u,hu,ru⟩:=r.get (i:=i) (x:=.bl bs[i]) (by simp[hb])
 rw[h]at hu
 cases hu
 exact⟨bs[i],by simp[hb],ru⟩
theorem CN(bs:List Bool):(List.range bs.length).all (λ i=>(bs[i]?).getD true)=bs.all id:=by
 rw[Bool.eq_iff_iff,List.all_eq_true,List.all_eq_true]
 constructor
 ·intro h b hb
  obtain⟨j,hj,rfl⟩:=List.getElem_of_mem hb
  simpa[List.getElem?_eq_getElem hj]using h j (List.mem_range.mpr hj)
 ·intro h j hj
  have hj':=List.mem_range.mp hj
  have:=h _ (List.getElem_mem hj')
  simpa[List.getElem?_eq_getElem hj']using this
theorem BS(hc:X.calm=true):dX X (.builtin "all") (λ xs H Q=>∃(a:Addr) (bs:List Bool),xs=[.ref a]/\aQ X.K H a (bs.map V.bl)/\Q (.bl (bs.all id)) H):=by
 intro pins s σ H xs us Q I r h
 obtain⟨a,bs,rfl,hq,q⟩:=h
 obtain⟨u,rfl,ru⟩:=r.one
 cases ru
 obtain⟨its,rv,pl,hz⟩:=I.list hq
 have hl:=rv.length
 rw[List.length_map]at hl
 have hlt:a<s.heap.objs.size:=by obtain⟨_,e,_⟩:=pl.isList;exact Heap.lt_size e
 refine call_all_walk (wpAny_pyIter_list pl.isList ⟨s.heap.objs.size,[s.heap.objs.size,a],[s.heap.objs.size],its.toArray.size,_,_,λ i=>(bs[i]?).getD true,rfl,Walks.list (A:=X.A.in1) (show X.A.in1.handled=none from I.ok.hd hc) s.heap.objs.size a (Nat.ne_of_lt hlt) its.toArray,⟨⟨_,Heap.get?_push_size _ rfl,rfl,rfl⟩,pl.isList.push _⟩,?_,?_⟩)
 ·intro i v s' Q' E' hv hQ
  have hv':its[i]? =some v:=by simpa using hv
  obtain⟨b,hb,rfl⟩:=CA rv hv'
  have hQ':Q' ((bs[i]?).getD true) s':=hQ
  rw[hb]at hQ'
  exact wpAny_truthy_bool hQ'
 ·intro h' tk hk
  have e:its.toArray.size=bs.length:=by rw[List.size_toArray];omega
  rw[e,CN]
  refine⟨.bl _,H,I.kept λ b o e=>hk b o (λ z=>?_) (Heap.get?_push_of_some _ e),rfl,q⟩
  have z':b=s.heap.objs.size:=by simpa using z
  subst z'
  exact absurd (Heap.lt_size e) (Nat.lt_irrefl _)
end
structure lC(J:It)(ok:Hp->Prop)(ys:List V):Prop where
 go:∀i H,ok H->i<ys.length->J.go i H
 stop:∀H,ok H->J.stop ys.length H
 yld:∀i H x H',ok H->i<ys.length->J.yld i H x H'->H'=H/\ys[i]? =some x
theorem Aa{lo:Int}{n:Nat}:lC (mT lo n) (λ _=>True) ((List.range n).map λ i=>V.int (lo+(i:Nat))) where
 go:=λ i H _ hi=>by show i<n;simpa using hi
 stop:=λ H _=>by show n<=_;simp
 yld:=λ i H x H' _ hi ⟨e,y⟩=>⟨e,by
  have hi':i<n:=by simpa using hi
  subst y
  simp[hi']⟩
theorem qZ{K:Qf}{a:Addr}{ys:List V}:lC (oG K a) (λ H=>aQ K H a ys) ys where
 go:=λ i H h hi=>⟨ys,ys[i],h,by simp[hi]⟩
 stop:=λ H h=>⟨ys,h,Nat.le_refl _⟩
 yld:=λ i H x H' h hi ⟨e,y⟩=>⟨e,y ys h⟩
theorem hJ{K:Qf}{a:Addr}{ys:List V}:lC (oF K a) (λ H=>aJ K H a ys) ys where
 go:=λ i H h hi=>⟨ys,ys[i],h,by simp[hi]⟩
 stop:=λ H h=>⟨ys,h,Nat.le_refl _⟩
 yld:=λ i H x H' h hi ⟨e,y⟩=>⟨e,y ys h⟩
def lM(z:Str):List V:=z.cps.toList.map λ c=>V.str ⟨#[c]⟩
theorem Hh{z:Str}:lC (uH z) (λ _=>True) (lM z) where
 go:=λ i H _ hi=>by show i<z.cps.size;simpa[lM]using hi
 stop:=λ H _=>by show _=z.cps.size;simp[lM]
 yld:=λ i H x H' _ hi ⟨e,c,hc,y⟩=>⟨e,by
  subst y
  have hc':z.cps.toList[i]? =some c:=by simpa using hc
  simp only[lM,List.getElem?_map,hc',Option.map_some]⟩
def Nx(n i:Nat)(p:Prop):Prop:=∃m',m'<n-i/\m'=n-(i+1)/\i+1<=n/\p
theorem nx{n i:Nat}{p:Prop}(h:i<n)(q:p):Nx n i p:=⟨n-(i+1),Qa,rfl,h,q⟩
theorem gP{J:It}{ok:Hp->Prop}{ys:List V}{g:TG}{tt:TT}{te:TE}{σc:St}{H:Hp}{Q:VK}(Y:lC J ok ys)(Pv:Nat->List V->Hp->Prop)(h0:Pv 0 [] H)(hok:∀i xs H,Pv i xs H->ok H)
  (step:∀i x xs H,ys[i]? =some x->i<ys.length->Pv i xs H->g x σc H λ σ2 H2=>tt σ2 H2 λ b H3=>if b=true then te σ2 H3 λ v H4=>xs.length<sizeLine/\Nx ys.length i (Pv (i+1) (xs++[v]) H4)else Nx ys.length i (Pv (i+1) xs H3))
  (fin:∀xs H,Pv ys.length xs H->∀p,H p=none->Q (.ref p) (aA H p (.lst xs))):
  oE J g tt te σc Q H:=by
 refine⟨λ i m xs H=>m=ys.length-i/\i<=ys.length/\Pv i xs H,⟨ys.length,Qb,Nat.zero_le _,h0⟩,?_⟩
 rintro i m xs H ⟨rfl,hi,p⟩
 have o:=hok i xs H p
 by_cases hlt:i<ys.length
 ·refine .inr ⟨Y.go i H o hlt,λ x H' y=>?_⟩
  obtain⟨e,hx⟩:=Y.yld i H x H' o hlt y
  subst e
  exact step i x xs _ hx hlt p
 ·have e:i=ys.length:=by omega
  subst e
  exact .inl ⟨Y.stop H o,fin xs H p⟩
theorem nN{J:It}{ok:Hp->Prop}{ys:List V}{g:TG}{te:TE}{σc:St}{H:Hp}{Q:VK}(Y:lC J ok ys)(Pv:Nat->List V->Hp->Prop)(h0:Pv 0 [] H)(hok:∀i xs H,Pv i xs H->ok H)
  (step:∀i x xs H,ys[i]? =some x->i<ys.length->Pv i xs H->g x σc H λ σ2 H2=>te σ2 H2 λ v H4=>xs.length<sizeLine/\Nx ys.length i (Pv (i+1) (xs++[v]) H4))
  (fin:∀xs H,Pv ys.length xs H->∀p,H p=none->Q (.ref p) (aA H p (.lst xs))):oE J g gJ te σc Q H:=by
 refine gP Y Pv h0 hok (λ i x xs H hx hi p=>?_) fin
 have e:(λ (σ2:St) (H2:Hp)=>gJ σ2 H2 λ b H3=>if b=true then te σ2 H3 λ v H4=>xs.length<sizeLine/\Nx ys.length i (Pv (i+1) (xs++[v]) H4)else Nx ys.length i (Pv (i+1) xs H3))=
   λ σ2 H2=>te σ2 H2 λ v H4=>xs.length<sizeLine/\Nx ys.length i (Pv (i+1) (xs++[v]) H4):=by
  funext σ2 H2
  unfold gJ
  dsimp only
  rw[if_pos rfl]
 rw[e]
 exact step i x xs H hx hi p
structure lG(K:Qf)(x qual:Str)(st:Stmt)(f:Addr)(fd:FuncData)(c:Addr):Prop where
 ex:∃(oc:Value) (od:Option Addr) (kV doc pm:Value) (an:Option Addr) (ct:Value) (osl:Array (Option Value)),
  fd=PySem.W.fnOf x qual (fT st) (eE st) (aT st) .none kV doc pm an (.ref c) ct/\K.lookup f=some ⟨oc,od,.func fd,osl⟩/\PySem.W.codeIn K (.ref c) qual=true
 kp:PySem.W.keepIn K (.ref f)=true
section
variable{P:Program}{w:World}{K:Qf}{mg:Qk}{base:Heap}
theorem lG.fn{x qual:Str}{st:Stmt}{f:Addr}{fd:FuncData}{c:Addr}(F:lG K x qual st f fd c):bO K x qual st f fd:=by
 obtain⟨oc,od,kV,doc,pm,an,ct,osl,h⟩:=F.ex
 exact⟨⟨oc,od,kV,doc,pm,an,.ref c,ct,osl,h⟩,F.kp⟩
theorem lG.ok{x qual:Str}{st:Stmt}{f:Addr}{fd:FuncData}{c:Addr}{N ps:List Str}{k:Nat}{sp:Sp}(F:lG K x qual st f fd c)(S:bT N ps (aT st))(len:∀vs H Q E,sp vs H Q E->vs.length=ps.length)
  (hbody:∀(A:Around) (outer:List Env) (s:Shared) (H:Hp) (vs:List V) (Q:VK) (E:XK),bV k (A.deeper (envOfC qual (aT st) s.heap.objs.size f (.ref c)))->sp vs H Q E->
   ∃t,eJ (iE bM P w K mg base N qual (aT st) f (.ref c) A outer s H E).nox (eE st) t/\t {nx:=λ _ H'=>Q .non H',rt:=Q} (start N vs) H):bD P w K mg base bM (k+1) f fd ps sp:=by
 obtain⟨oc,od,kV,doc,pm,an,ct,osl,rfl,lk,hcd⟩:=F.ex
 refine tT lk hcd S len λ A outer s H vs Q E hr hsp=>?_
 obtain⟨t,h,q⟩:=hbody A outer s H vs Q E hr hsp
 exact⟨t,h.nox,q⟩
end
def aZ(P:Program)(w:World)(K:Qf)(mg:Qk)(base:Heap)(x:Str)(k:Nat)(ps:List Str)(sp:Sp):Prop:=
 ∃f fd,bD P w K mg base bM k f fd ps sp/\mg x=some (.ref f)/\PySem.W.keepIn K (.ref f)=true/\jB K fd ps []
section
variable{X:Cx}{x:Str}{k j:Nat}{ps:List Str}{sp:Sp}{e:Expr}{es:List Expr}{p pos:Pos}{t:TA}
theorem bB(C:aZ X.prog X.w X.K X.mg X.base x k ps sp)(hr:bV j X.A)(ha:PA X (e::es) t)(hg:Gl X x:=by rfl)(hj:k<=j:=by decide)(hdb:(x==("__debug__" :Str))=false:=by decide)
  (he:starEach (e::es) X.env=(false,eval e X.env)::starEach es X.env:=by rfl) (hpl:(backTo pos (starEach es X.env)).any (·.1)=false:=by rfl):
  PE X (.Call (.Name x p) (e::es) [] pos) (vC sp [] E0 t):=by
 obtain⟨f,fd,F,hm,hk,hb⟩:=C
 exact Pt F (hr.mono hj) hg hm hk hb .nil Pu ha hdb he hpl
theorem kT{v:V}(h:∃u,X.mg x=some u/\bE v u)(hg:Gl X x:=by rfl)(hd:(x==("__debug__" :Str))=false:=by decide):PE X (.Name x pos) (tC v):=by
 obtain⟨u,hm,r⟩:=h
 exact Pr hg hm r hd
end
def Cv:Expr->Bool
 |.Starred _ _=>false
 |_=>true
theorem Lv:∀(e:Expr) (rest:List Expr) (env:Env),Cv e=true->starEach (e::rest) env=(false,eval e env)::starEach rest env:=by
 intro e rest env h
 cases e<;>first|rfl|(cases h)
theorem aE{X:Cx}{e:Expr}{es:List Expr}{te:TE}{t:TA}(ha:PE X e te)(hr:PA X es t)(h:Cv e=true:=by rfl):PA X (e::es) (Bd te t):=Pw ha hr (Lv e es X.env h)
theorem aO{N:List Str}{x:Str}(n:Nat)(h:N[n]? =some x:=by rfl):N[n]? =some x:=h
theorem eH{N:List Str}(Nc:List Str)(k:Nat)(js:List Nat)(h:(Nc.drop k).map some=js.map (N[·]?):=by rfl):(Nc.drop k).map some=js.map (N[·]?):=h
theorem BV:bootBuiltins ("str" :Str)=some (.type "str"):=by decide+kernel
theorem Ge:bootBuiltins ("int" :Str)=some (.type "int"):=by decide+kernel
theorem Gf:bootBuiltins ("bool" :Str)=some (.type "bool"):=by decide+kernel
theorem gU:bootBuiltins ("tuple" :Str)=some (.type "tuple"):=by decide+kernel
theorem xY:bootBuiltins ("list" :Str)=some (.type "list"):=by decide+kernel
theorem fB:bootBuiltins ("isinstance" :Str)=some (.builtin "isinstance"):=by decide+kernel
theorem BY:bootBuiltins ("min" :Str)=some (.builtin "min"):=by decide+kernel
theorem BZ:bootBuiltins ("all" :Str)=some (.builtin "all"):=by decide+kernel
def mY:PyData->String
 |.none=>"NoneType"
 |.bool _=>"bool"
 |.int _=>"int"
 |.str _=>"str"
 |.tuple _=>"tuple"
 |.list _=>"list"
 |.dict _=>"dict"
theorem aD.ty{K:Qf}{ex:List Addr}{H:Hp}:∀{d:PyData} {v:V},aD ex H d v->fV K H v (.type (mY d))
 |.none,_,h=>by cases h;exact .non
 |.bool b,_,h=>by cases h;exact .bl b
 |.int i,_,h=>by cases h;exact .int i
 |.str x,_,h=>by cases h;exact .str x
 |.tuple ds,_,h=>by obtain⟨a,vs,rfl,_,h3,_⟩:=h;exact .tup h3
 |.list ds,_,h=>by obtain⟨a,vs,rfl,_,h3,_⟩:=h;exact .lst h3
 |.dict _,_,h=>h.elim
def nR(T:String):PyData->Bool
 |.bool _=>T== "bool" ||T== "int"
 |d=>mY d==T
theorem Ei{K:Qf}:∀d:PyData,PySem.W.kitOne K (.type (mY d)) (.type "str")=some (nR "str" d)
 |.none=>rfl|.bool _=>rfl|.int _=>rfl|.str _=>rfl|.tuple _=>rfl|.list _=>rfl|.dict _=>rfl
theorem Ej{K:Qf}:∀d:PyData,PySem.W.kitOne K (.type (mY d)) (.type "bool")=some (nR "bool" d)
 |.none=>rfl|.bool _=>rfl|.int _=>rfl|.str _=>rfl|.tuple _=>rfl|.list _=>rfl|.dict _=>rfl
theorem mG{K:Qf}:∀d:PyData,PySem.W.kitOne K (.type (mY d)) (.type "tuple")=some (nR "tuple" d)
 |.none=>rfl|.bool _=>rfl|.int _=>rfl|.str _=>rfl|.tuple _=>rfl|.list _=>rfl|.dict _=>rfl
theorem nO{K:Qf}:∀d:PyData,PySem.W.kitOne K (.type (mY d)) (.type "list")=some (nR "list" d)
 |.none=>rfl|.bool _=>rfl|.int _=>rfl|.str _=>rfl|.tuple _=>rfl|.list _=>rfl|.dict _=>rfl
section
variable{X:Cx}
end
end L2
namespace L2
open PySem PySem.Spec PyProof.Rows HT
structure Zn where
 ex:List Addr
 p:Addr
 ts:List Addr
structure Cz(z:Zn)(H:Hp):Prop where
 mem:z.p∈z.ex
 al:∀b∈z.ex,∃xs,H b=some (.lst xs)
 held:∃n:Int,H z.p=some (.lst [.int n])
 tb:Tb z.ts H
structure aY(z:Zn)(H H':Hp):Prop where
 ext:aI [z.p] H H'
 cz:Cz z H'
theorem Cz.out{z:Zn}{H:Hp}(c:Cz z H){P:Addr}(h:P∈z.ts):P∉z.ex:=λ hm=>by
 obtain⟨ps,h1,_⟩:=c.tb P h
 obtain⟨xs,h2⟩:=c.al P hm
 rw[h1]at h2
 cases h2
theorem Cz.ext{z:Zn}{H H':Hp}(c:Cz z H)(e:aI [] H H'):Cz z H':=
 ⟨c.mem,λ b hb=>let⟨xs,h⟩:=c.al b hb;⟨xs,e.lst Qb h⟩,let⟨n,h⟩:=c.held;⟨n,e.lst Qb h⟩,e.tb c.tb Qb⟩
theorem Cz.extp{z:Zn}{H H':Hp}(c:Cz z H)(e:aI [z.p] H H')(h:∃n:Int,H' z.p=some (.lst [.int n])):Cz z H':=
 ⟨c.mem,λ b hb=>by
  by_cases q:b=z.p
  ·subst q
   obtain⟨n,h⟩:=h
   exact⟨_,h⟩
  ·obtain⟨xs,h⟩:=c.al b hb
   exact⟨xs,e.lst (by simpa using q) h⟩,h,e.tb c.tb λ P hP q=>c.out hP (by rw[List.mem_singleton.mp q];exact c.mem)⟩
theorem aY.refl{z:Zn}{H:Hp}(c:Cz z H):aY z H H:=⟨aI.refl,c⟩
theorem aY.trans{z:Zn}{H H1 H2:Hp}(a:aY z H H1)(b:aY z H1 H2):aY z H H2:=⟨a.ext.trans b.ext,b.cz⟩
theorem aY.of{z:Zn}{H H':Hp}(c:Cz z H)(e:aI [] H H'):aY z H H':=⟨e.mono Qb,c.ext e⟩
theorem aY.ex{z:Zn}{H H':Hp}(s:aY z H H'):aI z.ex H H':=s.ext.mono λ b hb=>by rw[List.mem_singleton.mp hb];exact s.cz.mem
theorem aD.stp{z:Zn}{H H':Hp}{d:PyData}{v:V}(h:aD z.ex H d v)(s:aY z H H'):aD z.ex H' d v:=aD.ext s.ex h
theorem aL.stp{z:Zn}{H H':Hp}{d:List PyData}{v:List V}(h:aL z.ex H d v)(s:aY z H H'):aL z.ex H' d v:=aL.ext s.ex h
theorem Cz.free{z:Zn}{H:Hp}(c:Cz z H){q:Addr}(h:H q=none):q∉z.ex:=λ hm=>by
 obtain⟨xs,h2⟩:=c.al q hm
 rw[h]at h2
 cases h2
def gD(z:Zn)(Q:VK)(d:PyData)(H:Hp):Prop:=∀v H',aY z H H'->aD z.ex H' d v->Q v H'
theorem gD.tup{z:Zn}{Q:VK}{ds:List PyData}{xs:List V}{H:Hp}(k:gD z Q (.tuple ds) H)(c:Cz z H)(h:aL z.ex H ds xs){q:Addr}(hq:H q=none):Q (.ref q) (aA H q (.tup xs)):=
 have e:aI [] H (aA H q (.tup xs)):=aI.new hq _
 k _ _ (aY.of c e) ⟨q,xs,rfl,c.free hq,aP,aL.ext (e.mono Qb) h⟩
theorem gD.lst{z:Zn}{Q:VK}{ds:List PyData}{xs:List V}{H:Hp}(k:gD z Q (.list ds) H)(c:Cz z H)(h:aL z.ex H ds xs){q:Addr}(hq:H q=none):Q (.ref q) (aA H q (.lst xs)):=
 have e:aI [] H (aA H q (.lst xs)):=aI.new hq _
 k _ _ (aY.of c e) ⟨q,xs,rfl,c.free hq,aP,aL.ext (e.mono Qb) h⟩
theorem gD.same{z:Zn}{Q:VK}{d:PyData}{v:V}{H:Hp}(k:gD z Q d H)(c:Cz z H)(h:aD z.ex H d v):Q v H:=k v H (aY.refl c) h
theorem iM:1000<=sizeLine:=Nat.le_of_lt (cB (Nat.le_refl _))
section
variable{X:Cx}{es:List Expr}{t:TA}{pos:Pos}
def Km(t:TA):TE:=λ σ H Q=>t σ H λ xs H1=>∃(z:Zn) (ds:List PyData),aL z.ex H1 ds xs/\ds.length<=1000/\Cz z H1/\gD z Q (.tuple ds) H1
def La(t:TA):TE:=λ σ H Q=>t σ H λ xs H1=>∃(z:Zn) (ds:List PyData),aL z.ex H1 ds xs/\ds.length<=1000/\Cz z H1/\gD z Q (.list ds) H1
theorem kP{x1}(h:PA X es t):PE X (.Tuple es x1 pos) (Km t):=by
 intro pins s σ H Q I hq
 refine wpAny_Tuple_spliced (aU (h pos pins s σ H _ I hq) λ us s1 hz=>?_)
 obtain⟨xs,H1,I1,r,z,ds,hd,hl,c,k⟩:=hz
 have hxs:xs.length<=sizeLine:=by rw[hd.length];exact Nat.le_trans hl iM
 refine⟨by rw[<-r.length];exact hxs,?_⟩
 have hf:H1 s1.heap.objs.size=none:=I1.hok.fresh (Nat.le_refl _)
 exact⟨.ref s1.heap.objs.size,aA H1 s1.heap.objs.size (.tup xs),I1.laid (t':=s1.toks) (λ b u e=>Heap.get?_push_of_some _ e) (Nat.le_refl _) ⟨hxs,us,r,⟨_,Heap.get?_push_size _ rfl,rfl,_,rfl⟩,_,Heap.get?_push_size _ rfl,rfl⟩,rfl,k.tup c hd hf⟩
theorem jI(h:PA X es t):PE X (.List es pos) (La t):=by
 intro pins s σ H Q I hq
 refine wpAny_List_spliced (aU (h pos pins s σ H _ I hq) λ us s1 hz=>?_)
 obtain⟨xs,H1,I1,r,z,ds,hd,hl,c,k⟩:=hz
 have hxs:xs.length<=sizeLine:=by rw[hd.length];exact Nat.le_trans hl iM
 refine⟨by rw[<-r.length];exact hxs,?_⟩
 have hf:H1 s1.heap.objs.size=none:=I1.hok.fresh (Nat.le_refl _)
 exact⟨.ref s1.heap.objs.size,aA H1 s1.heap.objs.size (.lst xs),I1.laid (t':=s1.toks) (λ b u e=>Heap.get?_push_of_some _ e) (Nat.le_refl _) ⟨hxs,us,0,r,Heap.get?_push_size _ rfl⟩,rfl,k.lst c hd hf⟩
theorem BG{prog:Program}{w:World}{A:Around}{E:Qh}{s:Shared}{t b:Addr}{ws:List Value}{Q:Qh}(ht:IsTup s.heap t #[])(hb:IsTup s.heap b ws.toArray)(h1:Q (.ref b) s):wpAny Qi A (binaryOp .Add (.ref t) (.ref b)) Q E s:=by
 obtain⟨⟨cls,dd,data,sl⟩,ho,hc,n,hd⟩:=id ht
 obtain⟨⟨cls2,dd2,data2,sl2⟩,ho2,hc2,n2,hd2⟩:=id hb
 simp only at hc hd hc2 hd2
 subst hc hd hc2 hd2
 exact concat_meets ⟨_,ho,rfl⟩ ⟨_,ho2,rfl⟩ noFill_tuple_add seq_tuple_add PySem.F.slot_tuple_add PySem.F.entry_tuple_add (PySem.F.args_tuple_add_2 _ _)
  (tuple_addW0 t b #[] ws.toArray n n2 dd dd2 sl sl2 rfl) ⟨ho,ho2,h1⟩
def On:R2:=λ x y H Q=>∃(z:Zn) (ds es:List PyData),aD z.ex H (.tuple ds) x/\aD z.ex H (.tuple es) y/\ds.length+es.length<=1000/\Cz z H/\gD z Q (.tuple (ds++es)) H
theorem Pz:cA X (binaryOp .Add) On:=by
 intro pins s σ H x y v u Q I rx ry h
 obtain⟨z,ds,es,⟨a,xs,rfl,na,ha,hd⟩,⟨b,ys,rfl,nb,hb,he⟩,hl,c,k⟩:=h
 have l1:=hd.length
 have l2:=he.length
 have hz:xs.length+ys.length<=sizeLine:=by have:=iM;omega
 by_cases hx:xs=[]
 ·subst hx
  have e0:ds=[]:=List.length_eq_zero_iff.mp l1.symm
  subst e0
  cases rx
  cases ry
  obtain⟨its,r1,p1,_⟩:=I.tuple (aJ.of (K:=X.K) ha)
  obtain⟨its2,r2,p2,_⟩:=I.tuple (aJ.of (K:=X.K) hb)
  cases r1
  exact BG p1 p2 ⟨.ref b,H,I,rfl,k.same c ⟨b,ys,rfl,nb,hb,he⟩⟩
 ·refine xC pins s σ H (.ref a) (.ref b) v u Q I rx ry ⟨a,b,xs,ys,rfl,rfl,aJ.of ha,aJ.of hb,hx,hz,λ e=>?_,λ _ q hq=>k.tup c (aL.append hd he) hq⟩
  have e0:es=[]:=by
   rw[e]at l2
   exact List.length_eq_zero_iff.mp l2.symm
  rw[e0,List.append_nil]at k
  exact k.same c ⟨a,xs,rfl,na,ha,hd⟩
def Op:R2:=λ x y H Q=>∃(z:Zn) (ds es:List PyData),aD z.ex H (.list ds) x/\aD z.ex H (.list es) y/\ds.length+es.length<=1000/\Cz z H/\gD z Q (.list (ds++es)) H
theorem xD:cA X (binaryOp .Add) Op:=by
 intro pins s σ H x y v u Q I rx ry h
 obtain⟨z,ds,es,⟨a,xs,rfl,na,ha,hd⟩,⟨b,ys,rfl,nb,hb,he⟩,hl,c,k⟩:=h
 have l1:=hd.length
 have l2:=he.length
 have:=iM
 exact sQ pins s σ H (.ref a) (.ref b) v u Q I rx ry ⟨a,b,xs,ys,rfl,rfl,ha,hb,Qa,λ q hq=>k.lst c (aL.append hd he) hq⟩
def jQ(ds:List PyData)(lo hi:Option Int):List PyData:=(ds.drop (HT.sIx ds.length 0 lo)).take (HT.sIx ds.length ds.length hi-HT.sIx ds.length 0 lo)
theorem aL.cut{ex:List Addr}{H:Hp}{ds:List PyData}{xs:List V}(lo hi:Option Int)(h:aL ex H ds xs):aL ex H (jQ ds lo hi) (nY xs lo hi):=by
 unfold jQ nY
 rw[h.length]
 exact aL.take _ (aL.drop _ h)
def Ny:V->Option Int->Option Int->Hp->VK->Prop:=λ x lo hi H Q=>∃(z:Zn) (ds:List PyData),aD z.ex H (.list ds) x/\Cz z H/\gD z Q (.list (jQ ds lo hi)) H
theorem vX:lF X Ny:=by
 intro pins s σ H x v vl vu lo hi sl Q I rx hs pl pu h
 obtain⟨z,ds,⟨a,xs,rfl,na,ha,hd⟩,c,k⟩:=h
 exact Mh pins s σ H (.ref a) v vl vu lo hi sl Q I rx hs pl pu ⟨a,xs,rfl,aQ.of ha,λ q hq=>k.lst c (aL.cut lo hi hd) hq⟩
theorem uB:dX X (.type "tuple") (λ xs H Q=>∃(z:Zn) (x:V) (ds:List PyData),xs=[x]/\aD z.ex H (.list ds) x/\Cz z H/\gD z Q (.tuple ds) H):=by
 intro pins s σ H xs us Q I r h
 obtain⟨z,x,ds,rfl,⟨a,ys,rfl,na,ha,hd⟩,c,k⟩:=h
 exact qJ pins s σ H [.ref a] us Q I r ⟨a,ys,rfl,.inl ⟨aQ.of ha,λ l hl=>k.tup c hd hl⟩⟩
theorem cZ{α:Type}{xs:List α}{i:Int}{v:α}(h0:0<=i)(h:xs[i.toNat]? =some v):iF xs i=some v:=by
 have:=uD h
 rw[show((i.toNat:Nat):Int)=i from Qa]at this
 exact this
theorem cQ.mono{r r':R2}(h:cQ X r)(k:∀x y H Q,r' x y H Q->r x y H Q):cQ X r':=by
 intro a1 a2 a3 a4 a5 a6 a7 a8 a9 a10 a11 a12 a13 a14 q
 exact h a1 a2 a3 a4 a5 a6 a7 a8 a9 a10 a11 a12 a13 a14 (k _ _ _ _ q)
def Og:R2:=λ x y H Q=>∃(z:Zn) (ds:List PyData) (i:Int) (d:PyData),(aD z.ex H (.tuple ds) x\/aD z.ex H (.list ds) x)/\y= .int i/\0<=i/\ds[i.toNat]? =some d/\∀v,aD z.ex H d v->Q v H
theorem cX:cQ X Og:=by
 have h1:cQ X (λ x y H Q=>Cn X.K x y H Q\/fK X.K x y H Q):=ix_list.or aX
 refine cQ.mono h1 λ x y H Q h=>?_
 obtain⟨z,ds,i,d,hd,rfl,h0,hg,q⟩:=h
 rcases hd with⟨a,xs,rfl,na,ha,hd⟩|⟨a,xs,rfl,na,ha,hd⟩
 ·obtain⟨v,hv,dv⟩:=hd.get hg
  exact .inr ⟨a,xs,i,v,rfl,rfl,aJ.of ha,cZ h0 hv,q v dv⟩
 ·obtain⟨v,hv,dv⟩:=hd.get hg
  exact .inl ⟨a,xs,i,v,rfl,rfl,aQ.of ha,cZ h0 hv,q v dv⟩
theorem qK:dX X (.builtin "len") (λ xs H Q=>∃(z:Zn) (x:V) (ds:List PyData),xs=[x]/\(aD z.ex H (.tuple ds) x\/aD z.ex H (.list ds) x)/\Q (.int ds.length) H):=by
 intro pins s σ H xs us Q I r h
 obtain⟨z,x,ds,rfl,hd,q⟩:=h
 rcases hd with⟨a,ys,rfl,na,ha,hd⟩|⟨a,ys,rfl,na,ha,hd⟩
 ·exact cY pins s σ H [.ref a] us Q I r ⟨a,ys,rfl,.inr (aJ.of ha),by rw[hd.length];exact q⟩
 ·exact cY pins s σ H [.ref a] us Q I r ⟨a,ys,rfl,.inl (aQ.of ha),by rw[hd.length];exact q⟩
end
mutual
theorem aD.more{ex:List Addr}{H:Hp}{l:Addr}(h0:H l=none):∀{d:PyData} {v:V},aD ex H d v->aD (l::ex) H d v
 |.none,_,h=>h
 |.bool _,_,h=>h
 |.int _,_,h=>h
 |.str _,_,h=>h
 |.tuple ds,v,h=>by
  obtain⟨a,vs,h1,h2,h3,h4⟩:=h
  refine⟨a,vs,h1,λ z=>?_,h3,aL.more h0 h4⟩
  rcases List.mem_cons.mp z with rfl|z
  ·rw[h0]at h3;cases h3
  ·exact h2 z
 |.list ds,v,h=>by
  obtain⟨a,vs,h1,h2,h3,h4⟩:=h
  refine⟨a,vs,h1,λ z=>?_,h3,aL.more h0 h4⟩
  rcases List.mem_cons.mp z with rfl|z
  ·rw[h0]at h3;cases h3
  ·exact h2 z
 |.dict _,_,h=>h.elim
theorem aL.more{ex:List Addr}{H:Hp}{l:Addr}(h0:H l=none):∀{ds:List PyData} {vs:List V},aL ex H ds vs->aL (l::ex) H ds vs
 |[],_,h=>h
 |d::ds,vs,h=>by
  obtain⟨v,r,h1,h2,h3⟩:=h
  exact⟨v,r,h1,aD.more h0 h2,aL.more h0 h3⟩
end
def Zn.with(z:Zn)(l:Addr):Zn:=⟨l::z.ex,z.p,z.ts⟩
structure cR(z:Zn)(l:Addr)(H H':Hp):Prop where
 ext:aI [l,z.p] H H'
 cz:Cz (z.with l) H'
theorem Cz.with{z:Zn}{H:Hp}{l:Addr}{xs:List V}(c:Cz z H)(h0:H l=none):Cz (z.with l) (aA H l (.lst xs)):=by
 have c':=c.ext (aI.new h0 (.lst xs))
 refine⟨List.mem_cons_of_mem _ c.mem,λ b hb=>?_,c'.held,c'.tb⟩
 rcases List.mem_cons.mp hb with rfl|hb
 ·exact⟨xs,aP⟩
 ·exact c'.al b hb
theorem Cz.less{z:Zn}{H:Hp}{l:Addr}(c:Cz (z.with l) H)(hp:z.p∈z.ex):Cz z H:=⟨hp,λ b hb=>c.al b (List.mem_cons_of_mem _ hb),c.held,c.tb⟩
theorem cR.back{z:Zn}{l:Addr}{H H':Hp}(s:cR z l H H')(h0:H l=none)(hp:z.p∈z.ex):aY z H H':=by
 refine⟨⟨λ b o hb h n=>s.ext.old b o (λ q=>?_) h n,λ b ps hb h=>s.ext.tab b ps (λ q=>?_) h⟩,s.cz.less hp⟩
 all_goals
  rcases List.mem_cons.mp q with rfl|q
  ·rw[h0]at h;cases h
  ·exact hb q
theorem cR.new{z:Zn}{H:Hp}{l:Addr}{xs:List V}(c:Cz z H)(h0:H l=none):cR z l H (aA H l (.lst xs)):=⟨aI.new h0 _,c.with h0⟩
theorem cR.stp{z:Zn}{l:Addr}{H H1 H2:Hp}(a:cR z l H H1)(b:aY (z.with l) H1 H2):cR z l H H2:=⟨a.ext.trans (b.ext.mono λ q hq=>List.mem_cons_of_mem _ hq),b.cz⟩
theorem cR.put{z:Zn}{l:Addr}{H H1:Hp}{xs:List V}(a:cR z l H H1)(hne:l≠z.p):cR z l H (aA H1 l (.lst xs)):=by
 have e:aI [l,z.p] H1 (aA H1 l (.lst xs)):=aI.put Qb _
 have c:=a.cz
 refine⟨a.ext.trans e,c.mem,λ b hb=>?_,?_,(aI.put (ex:=[l]) Qb _).tb c.tb λ P hP q=>c.out hP (by rw[List.mem_singleton.mp q];exact List.mem_cons_self)⟩
 ·by_cases q:b=l
  ·subst q
   exact⟨xs,aP⟩
  ·obtain⟨ys,h⟩:=c.al b hb
   exact⟨ys,by rw[aR q];exact h⟩
 ·obtain⟨n,h⟩:=c.held
  exact⟨n,by rw[aR (show(z.with l).p≠l from λ q=>hne q.symm)];exact h⟩
theorem cR.ex{z:Zn}{l:Addr}{H H':Hp}(s:cR z l H H'):aI (z.with l).ex H H':=s.ext.mono λ b hb=>by
 rcases List.mem_cons.mp hb with rfl|hb
 ·exact List.mem_cons_self
 ·rw[List.mem_singleton.mp hb];exact s.cz.mem
theorem aD.stl{z:Zn}{l:Addr}{H H':Hp}{d:PyData}{v:V}(h:aD (z.with l).ex H d v)(s:cR z l H H'):aD (z.with l).ex H' d v:=aD.ext s.ex h
theorem aL.stl{z:Zn}{l:Addr}{H H':Hp}{d:List PyData}{v:List V}(h:aL (z.with l).ex H d v)(s:cR z l H H'):aL (z.with l).ex H' d v:=aL.ext s.ex h
theorem sM{l:Addr}{H:Hp}{ex:List Addr}{o:HO}(h:l∈ex){ds:List PyData}{vs:List V}(hd:aL ex H ds vs):aL ex (aA H l o) ds vs:=aL.ext (aI.put h _) hd
end L2
namespace L2
open PySem PySem.Spec PyProof.Rows
def tx(l:List Nat):Str:=⟨l.toArray⟩
theorem gI(l:List Nat):(tx l).length=l.length:=by show l.toArray.size=_;simp
theorem jD(a b:List Nat):tx a++tx b=tx (a++b):=by
 show(⟨a.toArray++b.toArray⟩:Str)=⟨(a++b).toArray⟩
 simp
theorem mZ{a b:List Nat}(h:tx a=tx b):a=b:=by
 have h2:a.toArray=b.toArray:=congrArg Str.cps h
 simpa using h2
theorem Aw{l:List Nat}{i:Int}(h0:0<=i)(h1:i<=l.length):Txt.slice (tx l) none (some i)=tx (l.take i.toNat):=by
 have h:=eq_of_beq (slice_closes_to (x:=tx l) (j:=i) ⟨h0,by simpa[tx]using h1⟩)
 rw[h]
 simp[tx]
theorem Ax{l:List Nat}{i:Int}(h0:0<=i)(h1:i<=l.length):Txt.slice (tx l) (some i) none=tx (l.drop i.toNat):=by
 have h:=eq_of_beq (slice_closes_from (x:=tx l) (i:=i) ⟨h0,by simpa[tx]using h1⟩)
 rw[h]
 have e:((tx l).cps.toList.drop i.toNat).take (((tx l).cps.toList.length:Int)-i).toNat=l.drop i.toNat:=by
  rw[List.take_of_length_le]
  ·simp[tx]
  ·simp[tx]
   omega
 rw[e]
 rfl
theorem Iv:∀l:List Nat,Txt.join ("" :Str) (l.map λ c=>tx [c])=tx l:=by
 intro l
 rw[show Txt.join ("" :Str) (l.map λ c=>tx [c])=Str.join ("" :Str) (l.map λ c=>tx [c])from PySem.StrLaws.glued_eq_join _ _]
 induction l with
 |nil=>rfl
 | cons c l ih=>
  cases l with
  |nil=>rfl
  |cons d r=>
   have e0:("" :Str)=tx []:=by decide+kernel
   show tx [c]++("" :Str)++Str.join ("" :Str) ((d::r).map λ c=>tx [c])=_
   rw[ih,e0,jD,jD]
   rfl
theorem Tw(l:List Nat):((l.map λ c=>tx [c]).map (·.length)).sum=l.length:=by
 induction l with
 |nil=>rfl
 |cons c l ih=>
  rw[List.map_cons,List.map_cons,List.sum_cons,ih,gI]
  simp
  omega
theorem AY{ds:List PyData}{i:Int}(h:0<=i):jQ ds none (some i)=ds.take i.toNat:=by
 unfold jQ
 show(ds.drop 0).take ((if i<0 then _ else min i.toNat ds.length)-0)=_
 rw[if_neg Qa,List.drop_zero,Nat.sub_zero]
 by_cases q:i.toNat<=ds.length
 ·rw[Nat.min_eq_left q]
 ·rw[Nat.min_eq_right Qa,List.take_length,List.take_of_length_le Qa]
def Fd:V->Option Str
 |.str x=>if x.length<=1000 then some x else none
 |.int i=>if i.natAbs.log2<1920 then some (toString i:String)else none
 |_=>none
def Li(te:TE):TE:=λ σ H Q=>te σ H λ v H1=>∃x,Fd v=some x/\Q (.str x) H1
abbrev TJ:=St->Hp->Str->(Str->Hp->Prop)->Prop
def Le:TJ:=λ _ H acc Q=>acc.length<=sizeLine/\Q acc H
def Ld(te:TE)(r:TJ):TJ:=λ σ H acc Q=>te σ H λ v H1=>∃y,v= .str y/\(acc++y).length<=sizeLine/\r σ H1 (acc++y) Q
def PJ(X:Cx)(vs:List Expr)(t:TJ):Prop:=∀(pins:Qj) (s:Shared) (σ:St) (H:Hp) (acc:Str) (Q:Str->Hp->Prop),aB X pins σ H s->t σ H acc Q->
 Joins (model X.prog X.w) X.A X.xe (evalEach vs X.env) acc (λ out s₁=>out.length<=sizeLine/\∃H',aB X pins σ H' s₁/\Q out H') s
section
variable{X:Cx}{e v₁ v₂:Expr}{es rest:List Expr}{te:TE}{r:TJ}{pos:Pos}
theorem kM:PJ X [] Le:=λ pins s σ H acc Q I h=>⟨h.1,H,I,h.2⟩
theorem cJ(he:PE X e te)(hr:PJ X es r)(h:evalEach (e::es) X.env=eval e X.env::evalEach es X.env:=by rfl):PJ X (e::es) (Ld te r):=λ pins s σ H acc Q I q=>by
 rw[h]
 refine aU (he pins s σ H _ I q) λ u s1 ⟨v,H1,I1,rv,y,ev,hl,q1⟩=>?_
 subst ev
 obtain⟨tk,rfl⟩:∃tk,u=Value.str y tk:=rv
 exact⟨y,tk,rfl,hl,hr pins s1 σ H1 _ Q I1 q1⟩
def Lc(r:TJ):TE:=λ σ H Q=>r σ H Str.empty λ x H1=>Q (.str x) H1
theorem El{M:Model}{A:Around}{E:Qh}{Q Q':Str->Shared->Prop}(hq:∀out s,Q out s->Q' out s):∀(l:List (Sem Value)) (acc:Str) (s:Shared),Joins M A E l acc Q s->Joins M A E l acc Q' s
 |[],acc,s,h=>hq _ _ h
 |_::l,acc,s,h=>aU h λ v s1 ⟨y,tk,ev,hl,z1⟩=>⟨y,tk,ev,hl,El hq l _ _ z1⟩
theorem kS(h:PJ X (v₁::v₂::rest) r):PE X (.JoinedStr (v₁::v₂::rest) pos) (Lc r):=λ pins s σ H Q I q=>
 wpAny_JoinedStr (El (λ out s1 ⟨hl,H',I',q'⟩=>⟨hl,V.str out,H',I'.tok _,⟨_,rfl⟩,q'⟩) _ _ _ (h pins s σ H Str.empty _ I q))
theorem gM(he:PE X e te):PE X (.FormattedValue e (-1) none pos) (Li te):=λ pins s σ H Q I q=>by
 refine wpAny_FormattedValue_plain (aU (he pins s σ H _ I q) λ u s1 ⟨v,H1,I1,rv,x,ev,q1⟩=>?_)
 cases v with
 | str y=>
  obtain⟨tk,rfl⟩:∃tk,u=Value.str y tk:=rv
  have ev:(if y.length<=1000 then some y else none)=some x:=ev
  split at ev
  ·rename_i hl
   cases ev
   refine wpAny_formatField_str ⟨V.str _,H1,I1,⟨_,rfl⟩,q1⟩ ⟨V.str _,H1,I1.tok _,⟨_,rfl⟩,q1⟩ (Nat.le_of_lt (cB hl))
  ·cases ev
 | int i=>
  obtain⟨tk,rfl⟩:∃tk,u=Value.int i tk:=rv
  have ev:(if i.natAbs.log2<1920 then some (Str.ofString (toString i))else none)=some x:=ev
  split at ev
  ·rename_i hl
   cases ev
   exact wpAny_formatField_int hl ⟨V.str _,H1,I1.tok _,⟨_,rfl⟩,q1⟩
  ·cases ev
 |_=>cases ev
end
open AutoSeq1 (wpAny_loadPart')
theorem aB.turnedNew{X:Cx}{pins:Qj}{σ:St}{H:Hp}{s:Shared}{h':Heap}{t':Nat}{fp:List Addr}{T:Addr}{xs:List V}{its:List Value}(I:aB X pins σ H s)(hf:∀b∈fp,fE X pins H b)(k:∀b o,b∉fp->s.heap.get? b=some o->h'.get? b=some o)
  (hx:∀b∈fp,∃o,h'.get? b=some o) (hT:s.heap.objs.size<=T) (ht:IsTup h' T its.toArray/\∃o,h'.get? T=some o/\o.dict=none) (r:aW xs its) (hl:xs.length<=sizeLine):aB X pins σ (aA H T (.tup xs)) {s with heap:=h',toks:=t'}:=by
 have fr:H T=none:=I.hok.fresh hT
 have nT:∀{b o},s.heap.get? b=some o->b≠T:=λ z y=>absurd (Heap.lt_size z) (Nat.not_lt.mpr (y▸hT))
 have kH:∀b u,H b=some u->aA H T (.tup xs) b=some u:=λ b u z=>by rw[aR (λ y=>by rw[y,fr]at z;cases z)];exact z
 have nf:∀b u,H b=some u->b∉fp:=λ b u z y=>by rw[(hf b y).1]at z;cases z
 refine I.step (g':=s.gens) (d':=s.drawn) (ch:=fp) (λ b hb=>⟨(hf b hb).2.2.2.1,(hf b hb).2.1,(hf b hb).2.2.2.2.1,(hf b hb).2.2.2.2.2⟩) (λ b o _ _ hb z _=>k b o hb z) (λ b o _ _ hb z _=>⟨o.slots,k b o hb z⟩) (λ b o _ z n=>by rw[aR (nT z)];exact n)
  (λ b o hb z=>⟨o,k b o hb z⟩) (λ b ys z=>kH b _ z) (λ b o u z=>kH b _ z) (λ b ps z=>⟨#[],by rw[kH b _ z];simp⟩) (λ m hn=>?_) (λ b u z=>?_) ⟨I.bare.1,Nat.le_refl _⟩
 ·obtain⟨o,es,ep,ho,rr⟩:=hn
  exact⟨o,es,ep,k _ o (λ y=>(hf _ y).2.1 rfl) ho,rr⟩
 ·by_cases hb:b=T
  ·subst hb
   rw[aP]at z
   cases z
   exact⟨hl,its,r,ht⟩
  ·rw[aR hb]at z
   refine(I.hok b u z).stay (λ c v hc y=>k c v (λ x=>?_) y) (λ c y=>kH c _ y) (λ c ys y=>kH c _ y)
   rcases hc with e|e
   ·rw[e]at x;exact nf b u z x
   ·exact nf c _ e x
section
variable{prog:Program}{w:World}{A:Around}{E:Qh}{s:Shared}
theorem Tj{it l:Addr}{i:Nat}{items:Array Value}{x:Value}{Q:Qh}(hit:s.heap.IsTupleIter it l i)(hl:s.heap.IsTuple l items)(hx:items[i]? =some x)
  (hQ:∀h',h'.IsTupleIter it l (i+1)->Heap.SameBut it s.heap h'->Q x {s with heap:=h'}):wpAny Qi A (Builtin.SmallTypes.nextOf (.ref it)) Q E s:=by
 obtain⟨o,ho,hc,hd⟩:=id hit
 obtain⟨ol,hol,_,nl,hdl⟩:=hl
 unfold Builtin.SmallTypes.nextOf
 refine wpAny_bind (wpAny_callSpecial?_slot (name:=Str.ofString "__next__") hit.typeIs F.slot_tuple_iterator_next (wpAny_call_entry F.slot_tuple_iterator_next hit.typeIs F.entry_tuple_iterator_next ?_ (F.args_tuple_iterator_next_1 _)))
 show wpAny _ _ (field (.ref it) 0>>=_) _ _ s
 refine wpAny_bind (wpAny_field ho hd (x:=.ref l) rfl ?_)
 show wpAny _ _ (if(Value.ref l==Value.none)=true then _ else _) _ _ s
 rw[if_neg Qb]
 show wpAny _ _ (field (.ref it) 1>>=_) _ _ s
 refine wpAny_bind (wpAny_field ho hd (x:=.int i 0) rfl ?_)
 show wpAny _ _ (seqItems? (.ref l)>>=_) _ _ s
 refine wpAny_bind (wpAny_seqItems hol hdl ?_)
 simp only[Int.toNat_natCast,hx]
 refine wpAny_bind (wpAny_setField ho hd Qb (wpAny_pure ⟨x,rfl,wpAny_pure (hQ _ ⟨_,Heap.get?_update_self _ ho (Obj.isFreed_of_fields (Obj.data_mapFields hd _)),(Obj.cls_mapFields ..).trans hc,?_⟩ (Heap.SameBut.update ..))⟩))
 rw[Obj.data_mapFields hd];simp[rawInt]
theorem Tk{it l:Addr}{i:Nat}{items:Array Value}{Q:Qh}(hh:A.handled=none)(hit:s.heap.IsTupleIter it l i)(hl:s.heap.IsTuple l items)(hx:items[i]? =none)
  (hE:∀h' e,Heap.ExtBut it s.heap h'->(∃o,h'.get? e=some o/\o.cls= .type "StopIteration")->E (.ref e) {s with heap:=h'}):wpAny Qi A (Builtin.SmallTypes.nextOf (.ref it)) Q E s:=by
 obtain⟨o,ho,hc,hd⟩:=id hit
 obtain⟨ol,hol,_,nl,hdl⟩:=hl
 unfold Builtin.SmallTypes.nextOf
 refine wpAny_bind (wpAny_callSpecial?_slot (name:=Str.ofString "__next__") hit.typeIs F.slot_tuple_iterator_next (wpAny_call_entry F.slot_tuple_iterator_next hit.typeIs F.entry_tuple_iterator_next ?_ (F.args_tuple_iterator_next_1 _)))
 show wpAny _ _ (field (.ref it) 0>>=_) _ _ s
 refine wpAny_bind (wpAny_field ho hd (x:=.ref l) rfl ?_)
 show wpAny _ _ (if(Value.ref l==Value.none)=true then _ else _) _ _ s
 rw[if_neg Qb]
 show wpAny _ _ (field (.ref it) 1>>=_) _ _ s
 refine wpAny_bind (wpAny_field ho hd (x:=.int i 0) rfl ?_)
 show wpAny _ _ (seqItems? (.ref l)>>=_) _ _ s
 refine wpAny_bind (wpAny_seqItems hol hdl ?_)
 simp only[Int.toNat_natCast,hx]
 refine wpAny_bind (wpAny_rule (wpAny_bind (wpAny_setField ho hd Qb ?_)))
 show wpAny _ _ (newExc (.type "StopIteration") []>>=_) _ _ _
 refine wpAny_bind ?_
 simp only[newExc,newTuple]
 refine wpAny_bind (wpAny_newObj_type (wpAny_bind (m:=firstArgMember _ _) (wpAny_of_eq (a:=Value.none) (by first|rfl|(simp only[firstArgMember];rfl)) (wpAny_newObj_type ?_ (by size_fits)))) (by size_fits))
 simp only[raiseNew]
 refine wpAny_bind (wpAny_handled ?_)
 rw[show A.in1.handled=none from hh]
 exact wpAny_bind (wpAny_pure (wpAny_throw (hE _ _ (((Heap.SameBut.update ..).extBut.push _).push _) ⟨_,Heap.get?_push_size _ rfl,rfl⟩)))
end
theorem _root_.PySem.Draws.tuple{prog:Program}{w:World}{A:Around}(hh:A.handled=none)(it l:Addr)(hne:l≠it)(items:Array Value):
  Draws prog w A it [it,l] items.size (λ i v=>items[i]? =some v) (λ i h=>h.IsTupleIter it l i/\h.IsTuple l items) where
 live:=λ _ _ st=>let⟨o,ho,_⟩:=st.1;⟨o,ho⟩
 frame:=λ _ _ _ st hk=>⟨st.1.at λ o e=>hk it Qb o e,st.2.at λ o e=>hk l Qb o e⟩
 item:=λ i s Q E hi st hQ=>Tj st.1 st.2 (x:=items[i]) (by simp[hi]) λ h' hit' hs'=>hQ _ h' s.toks (by simp[hi]) ⟨hit',st.2.extBut hs'.extBut hne⟩ hs'
 done:=λ s Q E st hE=>Tk hh st.1 st.2 Qb hE
section
variable{prog:Program}{w:World}{A:Around}{E:Qh}{s:Shared}
end
section
variable{X:Cx}{elts:List Expr}{k:Nat}{tpos:Pos}
end
section
variable{prog:Program}{w:World}{A:Around}{E:Qh}{s:Shared}
end
section
variable{X:Cx}{elts:List Expr}{k:Nat}{tpos:Pos}
end
end L2
namespace L2
open PySem PySem.Spec PyProof.Rows PySem.Builtin PySem.Builtin.Str
section
variable{X:Cx}
end
end L2
namespace L2
open PySem PySem.Spec PyProof.Rows
structure ZA(z TI TO i j:Addr)(fp gp:List Addr):Prop where
 nd:[z,TI,TO,i,j].Nodup
 f:∀b∈fp,b≠z/\b≠TO/\b≠j/\b≠TI
 g:∀b∈gp,b≠z/\b≠TO/\b≠i/\b≠TI
theorem Gd:bootBuiltins ("zip" :Str)=some (.type "zip"):=by decide+kernel
section
variable{prog:Program}{w:World}{A:Around}{E:Qh}{s:Shared}{z TI TO i j:Addr}{fp gp:List Addr}{n m k:Nat}{P R:Nat->Value->Prop}{St Su:Nat->Heap->Prop}{a b:Value}
theorem Hg{Q:Qh}(Z:ZA z TI TO i j fp gp)(D:Draws prog w A i fp n P St)(G:Draws prog w A j gp m R Su)(hz:IsZip s.heap z TI TO .none)(hI:IsPair s.heap TI (.ref i) (.ref j))(hO:IsPair s.heap TO a b)(h1:St k s.heap)(h2:Su k s.heap)(hk:k<n)(hm:k<m)
  (hQ:∀x y h' tk,P k x->R k y->IsZip h' z TI TO (rawInt s.heap.objs.size)->IsPair h' TI (.ref i) (.ref j)->IsPair h' TO x y->St (k+1) h'->Su (k+1) h'->IsPair h' s.heap.objs.size x y->(∀c o,c∉[z,TO,i,j]->s.heap.get? c=some o->h'.get? c=some o)->Q (.ref s.heap.objs.size) {s with heap:=h',toks:=tk}):
  wpAny Qi A (Builtin.«zip.__next__» ⟨[.ref z],[]⟩) (λ fin s'=>∃v,fin= .done (.ret v)/\Q v s') E s:=by
 have nd:=Z.nd
 simp only[List.nodup_cons,List.mem_cons,List.not_mem_nil,or_false,not_or,List.nodup_nil,and_true,not_false_eq_true]at nd
 obtain⟨⟨nzI,nzO,nzi,nzj⟩,⟨nIO,nIi,nIj⟩,⟨nOi,nOj⟩,nij⟩:=nd
 obtain⟨hp,g,d,t0,os⟩:=s
 show wpAny _ _ (field (.ref z) 2>>=_) _ _ _
 refine wpAny_bind (wpAny_field hz rfl (x:=.bool false) rfl ?_)
 show wpAny _ _ (field (.ref z) 3>>=_) _ _ _
 refine wpAny_bind (wpAny_field hz rfl (x:=.ref TI) rfl (wpAny_bind (wpAny_seqItems hI rfl ?_)))
 show wpAny _ _ (Builtin.SmallTypes.ownedTupleIsFree (.ref z)>>=_) _ _ _
 refine wpAny_bind ?_
 unfold Builtin.SmallTypes.ownedTupleIsFree
 refine wpAny_bind (wpAny_field hz rfl (x:=.none) rfl (wpAny_pure ?_))
 simp only[if_true]
 refine wpAny_bind (wpAny_rule (wpAny_bind (wpAny_field hz rfl (x:=.ref TO) rfl (wpAny_bind (wpAny_setField_rec hz Qb λ hA zA sA=>wpAny_bind ?_)))))
 replace zA:IsZip hA z TI TO .ellipsis:=zA
 replace sA:Heap.SameBut z hp hA:=sA
 simp only[List.zipIdx_cons,List.zipIdx_nil,List.forIn_cons,List.forIn_nil]
 refine wpAny_bind (wpAny_bind (wpAny_onRaise ?_))
 show wpAny _ _ (Builtin.SmallTypes.nextOf (.ref i)>>=_) _ _ _
 have h1A:St k hA:=D.frame _ _ _ h1 λ b hb o q=>(sA.2 b (Z.f b hb).1).trans q
 refine wpAny_bind (D.item k _ _ _ hk h1A λ x hB tB px h1B sB=>wpAny_pure ?_)
 replace sB:Heap.SameBut i hA hB:=sB
 have OB:IsPair hB TO a b:=(sB.2 _ nOi).trans ((sA.2 _ (Ne.symm nzO)).trans hO)
 refine wpAny_bind (wpAny_seqItems OB rfl (wpAny_bind (wpAny_updateSeq_pair (s:=⟨hB,g,d,tB,os⟩) OB λ hC OC sC=>wpAny_bind (wpAny_letGo (wpAny_pure ?_)))))
 replace OC:IsPair hC TO x b:=OC
 replace sC:Heap.SameBut TO hB hC:=sC
 refine wpAny_bind (wpAny_bind (wpAny_onRaise ?_))
 show wpAny _ _ (Builtin.SmallTypes.nextOf (.ref j)>>=_) _ _ _
 have h2C:Su k hC:=G.frame _ _ _ h2 λ b hb o q=>(sC.2 b (Z.g b hb).2.1).trans ((sB.2 b (Z.g b hb).2.2.1).trans ((sA.2 b (Z.g b hb).1).trans q))
 refine wpAny_bind (G.item k _ _ _ hm h2C λ y hD tD py h2D sD=>wpAny_pure ?_)
 replace sD:Heap.SameBut j hC hD:=sD
 have OD:IsPair hD TO x b:=(sD.2 _ nOj).trans OC
 refine wpAny_bind (wpAny_seqItems OD rfl (wpAny_bind (wpAny_updateSeq_pair (s:=⟨hD,g,d,tD,os⟩) OD λ hE OE sE=>wpAny_bind (wpAny_letGo (wpAny_pure (wpAny_pure ?_))))))
 replace OE:IsPair hE TO x y:=OE
 replace sE:Heap.SameBut TO hD hE:=sE
 refine wpAny_bind (wpAny_seqItems OE rfl (wpAny_bind (wpAny_newTuple ?_)))
 have sz:hE.objs.size=hp.objs.size:=by rw[sE.1,sD.1,sC.1,sB.1,sA.1]
 have zE:IsZip hE z TI TO .ellipsis:=(sE.2 _ nzO).trans ((sD.2 _ nzj).trans ((sC.2 _ nzO).trans ((sB.2 _ nzi).trans zA)))
 have kE:∀c o,c∉[z,TO,i,j]->hp.get? c=some o->hE.get? c=some o:=λ c o hc q=>by
  simp only[List.mem_cons,List.not_mem_nil,or_false,not_or]at hc
  exact(sE.2 _ hc.2.1).trans ((sD.2 _ hc.2.2.2).trans ((sC.2 _ hc.2.1).trans ((sB.2 _ hc.2.2.1).trans ((sA.2 _ hc.1).trans q))))
 have zlt:z<hE.objs.size:=Heap.lt_size zE
 have up1:∀c o,hE.get? c=some o->(hE.push {cls:=.type "tuple",data:=.seq #[x,y]}).get? c=some o:=λ c o q=>Heap.get?_push_of_some _ q
 show wpAny _ _ (Builtin.SmallTypes.ownedTupleHandOut (.ref z) (.ref hE.objs.size)>>=_) _ _ _
 refine wpAny_bind ?_
 unfold Builtin.SmallTypes.ownedTupleHandOut
 refine wpAny_bind (wpAny_setField_rec (up1 _ _ zE) Qb λ hF zF sF=>?_)
 replace zF:IsZip hF z TI TO (rawInt hE.objs.size):=zF
 refine wpAny_setField_rec zF Qb λ hG zG sG=>?_
 replace zG:IsZip hG z TI TO (rawInt hE.objs.size):=zG
 have up:∀c o,c≠z->hE.get? c=some o->hG.get? c=some o:=λ c o hc q=>(sG.2 c hc).trans ((sF.2 c hc).trans (up1 c o q))
 have TG:IsPair hG hE.objs.size x y:=(sG.2 _ (Nat.ne_of_gt zlt)).trans ((sF.2 _ (Nat.ne_of_gt zlt)).trans (Heap.get?_push_size _ rfl))
 rw[sz]at zG TG
 refine wpAny_pure ⟨_,rfl,?_⟩
 show Q (.ref hE.objs.size) _
 rw[sz]
 have st1:St (k+1) hG:=D.frame _ _ _ h1B λ b hb o q=>up b o (Z.f b hb).1 ((sE.2 b (Z.f b hb).2.1).trans ((sD.2 b (Z.f b hb).2.2.1).trans ((sC.2 b (Z.f b hb).2.1).trans q)))
 have st2:Su (k+1) hG:=G.frame _ _ _ h2D λ b hb o q=>up b o (Z.g b hb).1 ((sE.2 b (Z.g b hb).2.1).trans q)
 refine hQ x y hG tD px py zG (up _ _ (Ne.symm nzI) (kE _ _ (by simp[Ne.symm nzI,nIO,nIi,nIj]) hI)) (up _ _ (Ne.symm nzO) OE) st1 st2 TG λ c o hc q=>up c o ?_ (kE c o hc q)
 intro h
 rw[h]at hc
 simp at hc
theorem zZ{Q:Option Value->Shared->Prop}(Z:ZA z TI TO i j fp gp)(D:Draws prog w A.in1 i fp n P St)(hz:IsZip s.heap z TI TO .none)(hI:IsPair s.heap TI (.ref i) (.ref j))(h1:St n s.heap)
  (hQ:∀h',(∀c o,c∉[z,TO,i,j]->s.heap.get? c=some o->h'.get? c=some o)->Q none {s with heap:=h'}):wpAny Qi A (pyNext (.ref z)) Q E s:=by
 have nd:=Z.nd
 simp only[List.nodup_cons,List.mem_cons,List.not_mem_nil,or_false,not_or,List.nodup_nil,and_true,not_false_eq_true]at nd
 obtain⟨⟨nzI,nzO,nzi,nzj⟩,⟨nIO,nIi,nIj⟩,⟨nOi,nOj⟩,nij⟩:=nd
 have hT:s.TypeIs (.ref z) "zip" :=⟨_,hz,rfl⟩
 obtain⟨hp,g,d,t0,os⟩:=s
 unfold pyNext
 refine wpAny_bind (wpAny_attempt (wpAny_callSpecial?_slot (name:=Str.ofString "__next__") hT F.slot_zip_next (wpAny_call_entry F.slot_zip_next hT F.entry_zip_next ?_ (F.args_zip_next_1 _))))
 show wpAny _ _ (field (.ref z) 2>>=_) _ _ _
 refine wpAny_bind (wpAny_field hz rfl (x:=.bool false) rfl ?_)
 show wpAny _ _ (field (.ref z) 3>>=_) _ _ _
 refine wpAny_bind (wpAny_field hz rfl (x:=.ref TI) rfl (wpAny_bind (wpAny_seqItems hI rfl ?_)))
 show wpAny _ _ (Builtin.SmallTypes.ownedTupleIsFree (.ref z)>>=_) _ _ _
 refine wpAny_bind ?_
 unfold Builtin.SmallTypes.ownedTupleIsFree
 refine wpAny_bind (wpAny_field hz rfl (x:=.none) rfl (wpAny_pure ?_))
 simp only[if_true]
 refine wpAny_bind (wpAny_rule (wpAny_bind (wpAny_field hz rfl (x:=.ref TO) rfl (wpAny_bind (wpAny_setField_rec hz Qb λ hA zA sA=>wpAny_bind ?_)))))
 replace zA:IsZip hA z TI TO .ellipsis:=zA
 replace sA:Heap.SameBut z hp hA:=sA
 simp only[List.zipIdx_cons,List.zipIdx_nil,List.forIn_cons,List.forIn_nil]
 refine wpAny_bind (wpAny_bind (wpAny_onRaise ?_))
 show wpAny _ _ (Builtin.SmallTypes.nextOf (.ref i)>>=_) _ _ _
 have h1A:St n hA:=D.frame _ _ _ h1 λ b hb o q=>(sA.2 b (Z.f b hb).1).trans q
 refine wpAny_bind (D.done ⟨hA,g,d,t0,os⟩ _ _ h1A λ hB e sB ⟨oe,he,hce⟩=>?_)
 have zB:IsZip hB z TI TO .ellipsis:=sB _ _ nzi zA
 have nez:e≠z:=λ x=>by subst x;rw[zB]at he;cases he;simp at hce
 refine wpAny_setField_rec zB Qb λ hC _ sC=>?_
 replace sC:Heap.SameBut z hB hC:=sC
 refine wpAny_bind (wpAny_isInstance (T:= "StopIteration") (b:=true) ⟨oe,(sC.2 _ nez).trans he,hce⟩ isSubtype_stop (wpAny_pure (hQ _ λ c o hc q=>?_)))
 simp only[List.mem_cons,List.not_mem_nil,or_false,not_or]at hc
 exact(sC.2 _ hc.1).trans (sB _ _ hc.2.2.1 ((sA.2 _ hc.1).trans q))
theorem Cq{Q:Option Value->Shared->Prop}(Z:ZA z TI TO i j fp gp)(D:Draws prog w A.in1 i fp n P St)(G:Draws prog w A.in1 j gp m R Su)(hz:IsZip s.heap z TI TO .none)(hI:IsPair s.heap TI (.ref i) (.ref j))(hO:IsPair s.heap TO a b)(h1:St k s.heap)(h2:Su k s.heap)(hk:k<n)(hm:k<m)
  (hQ:∀x y h' tk,P k x->R k y->IsZip h' z TI TO (rawInt s.heap.objs.size)->IsPair h' TI (.ref i) (.ref j)->IsPair h' TO x y->St (k+1) h'->Su (k+1) h'->IsPair h' s.heap.objs.size x y->(∀c o,c∉[z,TO,i,j]->s.heap.get? c=some o->h'.get? c=some o)->Q (some (.ref s.heap.objs.size)) {s with heap:=h',toks:=tk}):
  wpAny Qi A (pyNext (.ref z)) Q E s:=by
 have hT:s.TypeIs (.ref z) "zip" :=⟨_,hz,rfl⟩
 unfold pyNext
 exact wpAny_bind (wpAny_attempt (wpAny_callSpecial?_slot (name:=Str.ofString "__next__") hT F.slot_zip_next (wpAny_call_entry F.slot_zip_next hT F.entry_zip_next (Hg Z D G hz hI hO h1 h2 hk hm λ x y h' tk a1 a2 a3 a4 a5 a6 a7 a8 a9=>wpAny_pure (hQ x y h' tk a1 a2 a3 a4 a5 a6 a7 a8 a9)) (F.args_zip_next_1 _))))
end
theorem tQ{X:Cx}{pins:Qj}{σ:St}{H:Hp}{s:Shared}{a b:Addr}{xs:List V}(I:aB X pins σ H s)(hf:fE X pins H b)(hq:aJ X.K H a xs):a≠b:=by
 intro e
 subst e
 obtain⟨f0,_,_,f3,_,_⟩:=hf
 rcases hq with(h|⟨o,h⟩)|⟨o,_,_,hk,_⟩
 ·rw[f0]at h;cases h
 ·rw[f0]at h;cases h
 ·have hb:=I.ok.mod.kin _ _ hk
  rcases f3 with z|z
  ·exact I.ok.noex _ _ hb z
  ·exact absurd (Nat.lt_of_lt_of_le (Heap.lt_size (I.ok.bs _ _ hb).1) z) (Nat.lt_irrefl _)
section
variable{prog:Program}{w:World}{A:Around}{E:Qh}{s:Shared}
abbrev Ba(l:Addr):Obj:={cls:=.type "tuple_iterator",data:=.fields #[.ref l,.int 0 0]}
abbrev kA(x y:Value):Obj:={cls:=.type "tuple",data:=.seq #[x,y]}
abbrev qW(x y:Value):Obj:={cls:=.type "zip",data:=.fields #[.none,.bool false,.bool false,x,y]}
abbrev za(h:Heap)(l:Addr):Heap:=h.push (Ba l)
abbrev zb(h:Heap)(l c:Addr):Heap:=(za h l).push (Ba c)
end
section
variable{X:Cx}{elts:List Expr}{q:Nat}{tpos:Pos}
end
section
variable{X:Cx}{e:Expr}{es:List Expr}{te:TE}{t:TA}{p pos:Pos}
end
theorem Da{X:Cx}{K:Qf}{es:List Expr}{k:Nat}{t:iH}{n:Nat}{pos:Pos}(hK:X.K=K)(hc:X.calm=true)(h:qR X es t)
  (hn:(assignEach es X.env).length=n:=by rfl) (hst:(assignEach es X.env).findIdx? (·.1)=none:=by rfl):PG X (.Tuple es k pos) (xQ K n t):=by
 subst hK
 exact lT hc h hn hst
def fW(h:Heap)(e:Addr)(o:Obj)(T:Addr)(fl:Value):Prop:=
 ∃vs oT ts,h.get? e=some {o with data:=.fields vs}/\(vs[1]?:Option Value)=some (.ref T)/\T≠e/\h.get? T=some oT/\oT.data= .fields ts/\(ts[3]?:Option Value)=some fl
structure Fk(ch fs:List Addr)(h h':Heap):Prop where
 keep:∀b o,b∉ch->b∉fs->h.get? b=some o->h'.get? b=some o
 slot:∀b o,b∉ch->h.get? b=some o->∃sl,h'.get? b=some {o with slots:=sl}
 size:h.objs.size<=h'.objs.size
theorem Fk.of_same{a:Addr}{fs:List Addr}{h h':Heap}(x:Heap.SameBut a h h'):Fk [a] fs h h':=
 ⟨λ b o hb _ e=>(x.2 b (by simpa using hb)).trans e,λ b o hb e=>⟨o.slots,(x.2 b (by simpa using hb)).trans e⟩,Nat.le_of_eq x.1.symm⟩
theorem Fk.trans{ch ch' fs:List Addr}{h h1 h2:Heap}(x:Fk ch fs h h1)(y:Fk ch' fs h1 h2):Fk (ch++ch') fs h h2:=
  ⟨λ b o hb hf e=>y.keep b o (λ z=>hb (by simp[z])) hf (x.keep b o (λ z=>hb (by simp[z])) hf e),
   λ b o hb e=>by
    obtain⟨sl,e1⟩:=x.slot b o (λ z=>hb (by simp[z])) e
    obtain⟨sl2,e2⟩:=y.slot b _ (λ z=>hb (by simp[z])) e1
    exact⟨sl2,e2⟩,Nat.le_trans x.size y.size⟩
theorem Fk.mono{ch ch' fs:List Addr}{h h':Heap}(x:Fk ch fs h h')(hc:∀b∈ch,b∈ch'):Fk ch' fs h h':=
 ⟨λ b o hb hf e=>x.keep b o (λ z=>hb (hc b z)) hf e,λ b o hb e=>x.slot b o (λ z=>hb (hc b z)) e,x.size⟩
section
variable{M:Model}{A:Around}{E:Qh}{s:Shared}{Q:Unit->Shared->Prop}
theorem rY{a:Addr}{o:Obj}{vs:Array Value}{i:Nat}{x:Value}(ho:s.heap.get? a=some {o with data:=.fields vs})(hi:i<vs.size)
  (h:∀h',h'.get? a=some {o with data:=.fields (vs.setIfInBounds i x)}->Heap.SameBut a s.heap h'->Q () {s with heap:=h'}):wpAny M A (setField (.ref a) i x) Q E s:=by
 refine wpAny_setField ho rfl hi (h _ ?_ (Heap.SameBut.update ..))
 exact Heap.get?_update_self _ ho rfl
variable{base:Heap}{env:Env}{outer:List Env}{L e T:Addr}{o:Obj}{vs:Array Value}{head fl:Value}{hadNext:Bool}
theorem Fj(hfr : A.frames=some (env::outer))(hl:s.heap.FunFrames base (env::outer))(hf:env.frame=some L)(he:s.heap.get? e=some {o with data:= .fields vs})(hsz:1<vs.size)
    (h:∀h' T,s.heap.objs.size≤T→fW h' e o T (rawInt L)→Fk [e] (cC (env::outer)) s.heap h'→Q () {s with heap:=h'}):
    wpAny M A (do let a←frameOf env
                  let pl←entryPlaceOf L hadNext
                  let b←EntryCells.newEntry head a .none (rawInt L) .none pl
                  setField (.ref e) 1 b) Q E s:=by
  have nfr:e∉cC (env::outer):=λ z=>by
    obtain⟨_,ob,hob,nf⟩:=hl.mem z
    rw[he]at hob
    cases hob
    exact nf vs rfl
  refine wpAny_bind (wpAny_frameOf_fun hfr hl hf λ h1 ⟨z1,z2,z3⟩=>wpAny_bind (wpAny_entryPlaceOf λ pl hpl=>?_))
  unfold EntryCells.newEntry newFields
  refine wpAny_bind (wpAny_newObj_type ?_ (hpl.sizeOk5 _ _ _ _ _))
  have e1:h1.get? e=some {o with data:= .fields vs}:=(z2 e nfr).trans he
  refine rY (o:=o) (Heap.get?_push_of_some _ e1) hsz λ h2 e2 sb=>h h2 h1.objs.size (Nat.le_of_eq z1.symm) ?_ ?_
  · have nT:h1.objs.size≠e:=Nat.ne_of_gt (Heap.lt_size e1)
    refine⟨_,_,_,e2,by simp[hsz],nT,(sb.2 _ nT).trans (Heap.get?_push_size h1 rfl),rfl,?_⟩
    first|(simp;done)|(rcases hpl with rfl|⟨_,_,_,_,_,_,_,rfl⟩<;>simp)
  · refine⟨λ b ob hb hfb eb=>?_,λ b ob hb eb=>?_,?_⟩
    ·exact(sb.2 b (by simpa using hb)).trans (Heap.get?_push_of_some _ ((z2 b hfb).trans eb))
    · obtain⟨sl,q⟩:=z3 b ob eb
      exact⟨sl,(sb.2 b (by simpa using hb)).trans (Heap.get?_push_of_some _ q)⟩
    · rw[sb.1,Heap.size_push,z1]
      exact Nat.le_succ _
theorem xK(ht:fW s.heap e o T fl){fs:List Addr}(h:∀h',fW h' e o T .none->Fk [T] fs s.heap h'->Q () {s with heap:=h'}):wpAny M A (setFlight (.ref e) none) Q E s:=by
 obtain⟨vs,oT,ts,he,h1,nT,hT,hd,h3⟩:=ht
 unfold setFlight
 refine wpAny_bind (wpAny_field he rfl h1 ?_)
 rw[if_pos (show(Value.ref T !=Value.none)=true from Qb)]
 obtain⟨c,d,dt,sl⟩:=oT
 have hd':dt= .fields ts:=hd
 subst hd'
 have h3':3<ts.size:=(Array.getElem?_eq_some_iff.mp h3).1
 refine rY (o:=⟨c,d,.fields ts,sl⟩) hT h3' λ h' e' sb=>h h' ⟨vs,_,_,(sb.2 e (Ne.symm nT)).trans he,h1,nT,e',rfl,by simp[h3']⟩ (.of_same sb)
theorem Dk(hfr:A.frames=some (env::outer))(hl:s.heap.FunFrames base (env::outer))(hf:env.frame=some L)(he:s.heap.get? e=some {o with data:=.fields vs})(h1:(vs[1]?:Option Value)=some .none)
  (h:∀h' T,s.heap.objs.size<=T->fW h' e o T (rawInt L)->Fk [e] (cC (env::outer)) s.heap h'->Q () {s with heap:=h'}):wpAny M A (noteFrame (.ref e) env) Q E s:=by
 unfold noteFrame
 simp only[hf]
 refine wpAny_bind (wpAny_field he rfl h1 ?_)
 rw[if_neg Qc]
 exact Fj hfr hl hf he (Array.getElem?_eq_some_iff.mp h1).1 h
theorem Dj(hfr:A.frames=some (env::outer))(hl:s.heap.FunFrames base (env::outer))(hf:env.frame=some L)(ht:fW s.heap e o T .none)
  (h:∀h' T',s.heap.objs.size<=T'->fW h' e o T' (rawInt L)->Fk [T,e] (cC (env::outer)) s.heap h'->Q () {s with heap:=h'}):wpAny M A (noteFrame (.ref e) env) Q E s:=by
 obtain⟨vs,oT,ts,he,h1,nT,hT,hd,h3⟩:=ht
 unfold noteFrame
 simp only[hf]
 refine wpAny_bind (wpAny_field he rfl h1 ?_)
 rw[if_pos (show(Value.ref T !=Value.none)=true from Qb)]
 refine wpAny_bind (wpAny_field hT hd h3 ?_)
 rw[if_neg (show¬((Value.none==rawInt L)=true) by simp[rawInt])]
 obtain⟨c,d,dt,sl⟩:=oT
 have hd':dt= .fields ts:=hd
 subst hd'
 have nF:T∉cC (env::outer):=λ z=>by
  obtain⟨_,ob,hob,nf⟩:=hl.mem z
  rw[hT]at hob
  cases hob
  exact nf ts rfl
 refine wpAny_bind (rY (o:=⟨c,d,.fields ts,sl⟩) hT (Array.getElem?_eq_some_iff.mp h3).1 λ h2 e2 sb=>?_)
 have k2:Fk [T] (cC (env::outer)) s.heap h2:=.of_same sb
 refine Fj (s:={s with heap:=h2}) (o:=o) (vs:=vs) hfr (hl.of_keeps λ b ob hb nf=>⟨ob,(sb.2 b λ z=>by subst z;rw[hT]at hb;cases hb;exact nf ts rfl).trans hb,rfl⟩) hf ((sb.2 e (Ne.symm nT)).trans he) (Array.getElem?_eq_some_iff.mp h1).1 λ h3 T' z1 z2 z3=>h h3 T' (by rw[<-sb.1];exact z1) z2 (k2.trans z3)
theorem Vd(hfr:A.frames=some (env::outer))(hl:s.heap.FunFrames base (env::outer))(hf:env.frame=some L)(he:s.heap.get? e=some {o with data:=.fields vs})(h1:(vs[1]?:Option Value)=some .none)
  (h:∀h' T,s.heap.objs.size<=T->fW h' e o T .none->Fk [e] (cC (env::outer)) s.heap h'->Q () {s with heap:=h'}):wpAny M A (leaving env (.ref e)) Q E s:=by
 unfold leaving
 refine wpAny_bind (Dk hfr hl hf he h1 λ h' T z1 z2 z3=>xK (fs:=cC (env::outer)) z2 λ h2 y1 y2=>h h2 T z1 y1 ?_)
 have nT:∀b ob,s.heap.get? b=some ob->b≠T:=λ b ob q z=>absurd (Heap.lt_size q) (Nat.not_lt.mpr (z▸z1))
 exact⟨λ b ob hb hfb q=>y2.keep b ob (by simpa using nT b ob q) hfb (z3.keep b ob hb hfb q),λ b ob hb q=>by
  obtain⟨sl,q1⟩:=z3.slot b ob hb q
  obtain⟨sl2,q2⟩:=y2.slot b _ (by simpa using nT b ob q) q1
  exact⟨sl2,q2⟩,Nat.le_trans z3.size y2.size⟩
theorem Vc(hfr:A.frames=some (env::outer))(hl:s.heap.FunFrames base (env::outer))(hf:env.frame=some L)(ht:fW s.heap e o T .none)
  (h:∀h' T',s.heap.objs.size<=T'->fW h' e o T' .none->Fk [T,e] (cC (env::outer)) s.heap h'->Q () {s with heap:=h'}):wpAny M A (leaving env (.ref e)) Q E s:=by
 unfold leaving
 refine wpAny_bind (Dj hfr hl hf ht λ h' T' z1 z2 z3=>xK (fs:=cC (env::outer)) z2 λ h2 y1 y2=>h h2 T' z1 y1 ?_)
 have nT:∀b ob,s.heap.get? b=some ob->b≠T':=λ b ob q z=>absurd (Heap.lt_size q) (Nat.not_lt.mpr (z▸z1))
 exact⟨λ b ob hb hfb q=>y2.keep b ob (by simpa using nT b ob q) hfb (z3.keep b ob hb hfb q),λ b ob hb q=>by
  obtain⟨sl,q1⟩:=z3.slot b ob hb q
  obtain⟨sl2,q2⟩:=y2.slot b _ (by simpa using nT b ob q) q1
  exact⟨sl2,q2⟩,Nat.le_trans z3.size y2.size⟩
end
def bP(C:Addr)(d:Option Addr)(vs:Array Value):Obj:={cls:=.ref C,dict:=d,data:=.fields vs}
def bZ(e C:Addr)(d:Option Addr):HO:=.ext λ h=>∃vs,h.get? e=some (bP C d vs)
def cH(e C:Addr)(d:Option Addr):HO:=.ext λ h=>∃vs,h.get? e=some (bP C d vs)/\(vs[1]?:Option Value)=some .none
section
variable{P:Program}{w:World}{H H':Hp}{h h':Heap}{e C:Addr}{d:Option Addr}
theorem bZ.ok{vs:Array Value}(q:h.get? e=some (bP C d vs)):cT P w H h e (bZ e C d):=⟨⟨vs,q⟩,⟨_,q⟩,λ _ _ ⟨us,z⟩ k=>⟨us,k _ z⟩⟩
theorem cH.ok{vs:Array Value}(q:h.get? e=some (bP C d vs))(q1:(vs[1]?:Option Value)=some .none):cT P w H h e (cH e C d):=⟨⟨vs,q,q1⟩,⟨_,q⟩,λ _ _ ⟨us,z,y⟩ k=>⟨us,k _ z,y⟩⟩
theorem bW.exc(k:bW P w H h)(q:H e=some (bZ e C d)):∃vs,h.get? e=some (bP C d vs):=(k e _ q).1
theorem bW.exn(k:bW P w H h)(q:H e=some (cH e C d)):∃vs,h.get? e=some (bP C d vs)/\(vs[1]?:Option Value)=some .none:=(k e _ q).1
theorem bW.fly{ch fs:List Addr}{u:HO}(k:bW P w H h)(f:Fk ch fs h h')(hc:∀b∈ch,b=e\/H b=none)(hf:∀b∈fs,H b=none)(hm:iY (H e))(new:cT P w (aA H e u) h' e u):bW P w (aA H e u) h':=λ b ob q=>by
 by_cases hb:b=e
 ·subst hb
  rw[aP]at q
  cases q
  exact new
 ·rw[aR hb]at q
  refine(k b ob q).stay (λ c v hcb z=>f.keep c v (λ y=>?_) (λ y=>?_) z) (λ c z=>?_) (λ c xs z=>?_)
  ·rcases hc c y with rfl|n
   ·rcases hcb with rfl|n
    ·exact hb rfl
    ·rw[n]at hm;exact hm
   ·rcases hcb with rfl|n'
    ·rw[n]at q;cases q
    ·rw[n]at n';cases n'
  ·have n:=hf c y
   rcases hcb with rfl|n'
   ·rw[n]at q;cases q
   ·rw[n]at n';cases n'
  ·rw[aR (λ y=>by subst y;rw[z]at hm;exact hm)];exact z
  ·rw[aR (λ y=>by subst y;rw[z]at hm;exact hm)];exact z
end
theorem rB{H:Hp}{a:Addr}{o:HO}(h:H a=some o):aA H a o=H:=by
 funext b
 by_cases hb:b=a
 ·subst hb;rw[aP,h]
 ·rw[aR hb]
def eU(P:Program)(w:World):eL:=λ outer H s E ev s'=>∃(e C:Addr) (d:Option Addr) (T:Addr) (H':Hp),ev= .ref e/\s'.os=s.os/\fZ s.gens s'.gens/\Un (cC outer) [] H H' s.heap s'.heap/\bW P w H' s'.heap/\
 s.heap.objs.size<=T/\H' T=none/\fW s'.heap e (bP C d #[]) T .none/\H' e=some (bZ e C d)/\E (.ref e) d H'
theorem Un.fly{fs fs' ch:List Addr}{H H':Hp}{h h1 h2:Heap}{e:Addr}{u:HO}(x:Un fs [] H H' h h1)(f:Fk ch fs' h1 h2)(hm:iY (H' e))(he:∃o,h2.get? e=some o)
  (hc:∀b∈ch,b=e\/h.objs.size<=b) (hf:∀b∈fs',b∈fs\/h.objs.size<=b):Un fs [] H (aA H' e u) h h2:=by
 have big:∀{b o},h.get? b=some o->¬h.objs.size<=b:=λ q=>Nat.not_le.mpr (Heap.lt_size q)
 have ne:∀{b o},h.get? b=some o->H b=none->b≠e:=fun{b o} q n z=>by
  have:=x.free b o q n Qb
  rw[z]at this
  rw[this]at hm
  exact hm
 have nch:∀{b o},h.get? b=some o->b≠e->b∉ch:=fun{b o} q n z=>(hc b z).elim n (big q)
 refine⟨λ b o q n hb _=>?_,λ b o q n hb _=>?_,λ b o q n _=>?_,λ b o q _=>?_,λ b xs q=>?_,λ b o v q=>?_,λ b ps q=>?_⟩
 ·exact f.keep b o (nch q (ne q n)) (λ z=>(hf b z).elim hb (big q)) (x.keep b o q n hb Qb)
 ·obtain⟨sl,q1⟩:=x.slot b o q n hb Qb
  obtain⟨sl2,q2⟩:=f.slot b _ (nch q (ne q n)) q1
  exact⟨sl2,q2⟩
 ·rw[aR (ne q n)];exact x.free b o q n Qb
 ·by_cases hb:b=e
  ·rw[hb];exact he
  ·obtain⟨o1,q1⟩:=x.there b o q Qb
   obtain⟨sl2,q2⟩:=f.slot b _ (nch q hb) q1
   exact⟨_,q2⟩
 ·have:=x.tups b xs q
  rw[aR (λ z=>by rw[z]at this;rw[this]at hm;exact hm)];exact this
 ·have:=x.frzs b o v q
  rw[aR (λ z=>by rw[z]at this;rw[this]at hm;exact hm)];exact this
 ·obtain⟨more,this⟩:=x.tbls b ps q
  exact⟨more,by rw[aR (λ z=>by rw[z]at this;rw[this]at hm;exact hm)];exact this⟩
structure Hd(X:Cx)(pins:Qj)(H:Hp)(s:Shared)(e C:Addr)(d:Option Addr)(T:Addr):Prop where
 tr:fW s.heap e (bP C d #[]) T .none
 at_:H e=some (bZ e C d)
 big:X.s₀.heap.objs.size<=T
 free:H T=none
 loc:T≠X.env.locals
 cell:∀x c,X.env.cells.lookup x=some c->c≠T
 pin:∀p∈X.pn++pins,p.1≠T
abbrev SK:=St->Addr->Addr->Option Addr->Hp->Prop
structure mQ(X:Cx)(S:SK):Prop where
 new:∀(pins:Qj) (σ:St) (H:Hp) (s:Shared) (e C:Addr) (d:Option Addr),aB X pins σ H s->H e=some (cH e C d)->S σ e C d (aA H e (bZ e C d))->X.xe (.ref e) s
 fly:∀(pins:Qj) (σ:St) (H:Hp) (s:Shared) (e C:Addr) (d:Option Addr) (T:Addr),aB X pins σ H s->Hd X pins H s e C d T->S σ e C d H->X.xe (.ref e) s
section
variable{CX:eL}{P:Program}{w:World}{K:Qf}{mg:Qk}{base:Heap}{N:List Str}{qual:Str}{scope:Scope}{f:Addr}{cdv:Value}{A:Around}{outer:List Env}{s₀:Shared}{H₀:Hp}{E:XK}
theorem dY:mQ (iE (eU P w) P w K mg base N qual scope f cdv A outer s₀ H₀ E) (λ _ e _ d H=>E (.ref e) d H) where
 new:=λ pins σ H s e C d I he hS=>by
  obtain⟨vs,q,q1⟩:=I.hok.exn he
  show wpAny _ _ (leaving _ _) _ _ _
  refine Vd (base:=base) (o:=bP C d #[]) (vs:=vs) I.ok.frames I.stack rfl q q1 λ h' T z1 z2 z3=>?_
  have hT:H T=none:=I.hok.fresh z1
  have hm:iY (H e):=by rw[he];trivial
  obtain⟨vs',_,_,q',_⟩:=id z2
  have neT:T≠e:=z2.elim λ _ ⟨_,_,_,_,n,_⟩=>n
  exact⟨e,C,d,T,aA H e (bZ e C d),rfl,I.os,I.bare,I.base.fly z3 hm ⟨_,q'⟩ (λ b hb=>.inl (by simpa using hb)) (λ b hb=>(List.mem_cons.mp (I.stkSub b hb)).elim (λ z=>.inr (z▸I.ok.above)) .inl),
   I.hok.fly z3 (λ b hb=>.inl (by simpa using hb)) I.stkFree hm (bZ.ok q'),Nat.le_trans I.sz z1,by rw[aR neT];exact hT,z2,aP,hS⟩
 fly:=λ pins σ H s e C d T I F hS=>by
  show wpAny _ _ (leaving _ _) _ _ _
  refine Vc (base:=base) I.ok.frames I.stack rfl F.tr λ h' T' z1 z2 z3=>?_
  have hT:H T'=none:=I.hok.fresh z1
  have hm:iY (H e):=by rw[F.at_];trivial
  obtain⟨vs',_,_,q',_⟩:=id z2
  have u:=rB F.at_
  exact⟨e,C,d,T',H,rfl,I.os,I.bare,u▸(I.base.fly (u:=bZ e C d) z3 hm ⟨_,q'⟩ (λ b hb=>by
    rcases List.mem_cons.mp hb with rfl|hb
    ·exact .inr F.big
    ·exact .inl (by simpa using hb)) (λ b hb=>(List.mem_cons.mp (I.stkSub b hb)).elim (λ z=>.inr (z▸I.ok.above)) .inl)),
   u▸(I.hok.fly (u:=bZ e C d) z3 (λ b hb=>by
    rcases List.mem_cons.mp hb with rfl|hb
    ·exact .inr F.free
    ·exact .inl (by simpa using hb)) I.stkFree hm (bZ.ok q')),Nat.le_trans I.sz z1,hT,z2,F.at_,hS⟩
end
section
variable{X:Cx}{S:SK}
theorem mQ.pass(hX:mQ X S){pins:Qj}{σ:St}{H:Hp}{s:Shared}{ev:Value}{s':Shared}(I:aB X pins σ H s)
  (h:eU X.prog X.w X.stack H s (λ v d H'=>∀e C,v= .ref e->H' e=some (bZ e C d)->S σ e C d H') ev s'):X.xe ev s':=by
 obtain⟨e,C,d,T,H',rfl,os,g,un,hok,hT,hTn,tr,he,hE⟩:=h
 have I':aB X pins σ H' s':=I.call' (ch:=[]) os un hok g Qb
 refine hX.fly pins σ H' s' e C d T I' ⟨tr,he,Nat.le_trans I.sz hT,hTn,λ z=>?_,λ x c q z=>?_,λ p hp z=>?_⟩ (hE e C rfl he)
 ·exact absurd I.lt (Nat.not_lt.mpr (z▸hT))
 ·obtain⟨v,o,ho,_⟩:=I.cell x c q
  exact absurd (Heap.lt_size ho) (Nat.not_lt.mpr (z▸hT))
 ·exact absurd (Heap.lt_size (I.pin p hp).1) (Nat.not_lt.mpr (z▸hT))
variable{k j:Nat}{f:Addr}{fd:FuncData}{ps:List Str}{sp:Sp}{x:Str}{p pos:Pos}{e:Expr}{es:List Expr}{t:TA}
def Ll(sp:Sp)(S:SK)(t:TA):TE:=λ σ H Q=>t σ H λ vs H1=>sp vs H1 Q λ v d H'=>∀e C,v= .ref e->H' e=some (bZ e C d)->S σ e C d H'
def cI(P:Program)(w:World)(K:Qf)(mg:Qk)(base:Heap)(x:Str)(k:Nat)(ps:List Str)(sp:Sp):Prop:=
 ∃f fd,bD P w K mg base (eU P w) k f fd ps sp/\mg x=some (.ref f)/\PySem.W.keepIn K (.ref f)=true/\jB K fd ps []
theorem fM(hX:mQ X S)(C:cI X.prog X.w X.K X.mg X.base x k ps sp)(hr:bV j X.A)(ha:PA X (e::es) t)(hg:Gl X x:=by rfl)(hj:k<=j:=by decide)(hdb:(x==("__debug__" :Str))=false:=by decide)
  (he:starEach (e::es) X.env=(false,eval e X.env)::starEach es X.env:=by rfl) (hpl:(backTo pos (starEach es X.env)).any (·.1)=false:=by rfl):PE X (.Call (.Name x p) (e::es) [] pos) (Ll sp S t):=by
 obtain⟨f,fd,F,hm,hk,hb⟩:=C
 intro pins s σ H Q I h
 refine wpAny_Call_Name_kw (nM I hg hm ?_ hdb)
 refine PySem.W.callWith_K (h₀:=X.base) I.ok.mod.kin hk (aU (ha pos pins s σ H _ I h) λ us s1 ⟨vs,H1,I1,r,q⟩=>⟨I1.kIn,?_⟩) he hpl
 have hl:us.length=ps.length:=by rw[<-r.length];exact F.len _ _ _ _ q
 have hb':=hb s1 us I1.kIn (by simpa using hl)
 rw[List.append_nil]at hb'
 refine wpAny_call (codeAny_mono (F.run X.A X.stack s1 H1 ⟨us,[]⟩ us vs Q _ (hr.mono hj) I1.env0 hb' r q) λ r s' hq=>?_)
 cases r with
 |error ev=>exact hX.pass I1 hq
 |ok fl=>
  cases fl with
  |ret u=>exact I1.after hq
  |next=>exact False.elim hq
  |brk=>exact False.elim hq
  |cont=>exact False.elim hq
end
section
variable{P:Program}{w:World}{K:Qf}{mg:Qk}{base:Heap}
theorem bO.okX{x qual:Str}{st:Stmt}{f:Addr}{fd:FuncData}{N ps:List Str}{k:Nat}{sp:Sp}(F:bO K x qual st f fd)(S:bT N ps (aT st))(len:∀vs H Q E,sp vs H Q E->vs.length=ps.length)
  (hbody:∀(cdv:Value) (A:Around) (outer:List Env) (s:Shared) (H:Hp) (vs:List V) (Q:VK) (E:XK),bV k (A.deeper (envOfC qual (aT st) s.heap.objs.size f cdv))->sp vs H Q E->
   ∃t,eJ (iE (eU P w) P w K mg base N qual (aT st) f cdv A outer s H E) (eE st) t/\t {nx:=λ _ H'=>Q .non H',rt:=Q} (start N vs) H):bD P w K mg base (eU P w) (k+1) f fd ps sp:=by
 obtain⟨oc,od,kV,doc,pm,an,cdv,ct,osl,rfl,lk,hcd⟩:=F.ex
 exact tT lk hcd S len λ A outer s H vs Q E hr hsp=>hbody cdv A outer s H vs Q E hr hsp
theorem aZ.x{x:Str}{k:Nat}{ps:List Str}{sp:Sp}(C:aZ P w K mg base x k ps sp):cI P w K mg base x k ps sp:=by
 obtain⟨f,fd,F,r⟩:=C
 refine⟨f,fd,⟨F.len,λ A outer s H args us vs Q E hr he hb hv hs=>codeAny_mono (F.run A outer s H args us vs Q E hr he hb hv hs) λ r s' q=>?_⟩,r⟩
 cases r with
 |error e=>exact q.elim
 |ok fl=>cases fl<;>exact q
end
abbrev Cx.tr(X:Cx)(S:SK)(pins:Qj):Cx:=
 {X with pn:=X.pn++pins,xe:=λ ev s'=>∃σ H e C d,ev= .ref e/\aB X pins σ H s'/\(H e=some (cH e C d)\/∃T,Hd X pins H s' e C d T)/\S σ e C d (aA H e (bZ e C d))}
abbrev Cx.hand(X:Cx)(e:Addr):Cx:={X with A:=X.A.mark (some (.ref e)),calm:=false,xe:=λ _ _=>False}
section
variable{X:Cx}{S:SK}{pins pins':Qj}{σ:St}{H:Hp}{s:Shared}{e:Addr}
theorem aB.tr(I:aB X pins σ H s):aB (X.tr S pins) [] σ H s:=
 ⟨⟨I.ok.mod,I.ok.kind,I.ok.glob,I.ok.blt,I.ok.above,I.ok.inj,I.ok.has,I.ok.cab,I.ok.hd,I.ok.frames,I.ok.stk,I.ok.exf,I.ok.bs,I.ok.bsz,I.ok.noex,I.ok.exfs,I.ok.funs,I.ok.frf⟩,I.os,I.bare,I.base,I.loc,I.cell,I.free,I.freeC,λ p hp=>I.pin p (by simpa using hp),I.hok,I.len⟩
theorem aB.untr(I:aB (X.tr S pins) pins' σ H s):aB X pins σ H s:=
 ⟨⟨I.ok.mod,I.ok.kind,I.ok.glob,I.ok.blt,I.ok.above,I.ok.inj,I.ok.has,I.ok.cab,I.ok.hd,I.ok.frames,I.ok.stk,I.ok.exf,I.ok.bs,I.ok.bsz,I.ok.noex,I.ok.exfs,I.ok.funs,I.ok.frf⟩,I.os,I.bare,I.base,I.loc,I.cell,I.free,I.freeC,λ p hp=>I.pin p (List.mem_append_left _ hp),I.hok,I.len⟩
theorem aB.hand(I:aB X pins σ H s):aB (X.hand e) pins σ H s:=
 ⟨⟨I.ok.mod,I.ok.kind,I.ok.glob,I.ok.blt,I.ok.above,I.ok.inj,I.ok.has,I.ok.cab,(λ z=>by cases z),I.ok.frames,I.ok.stk,I.ok.exf,I.ok.bs,I.ok.bsz,I.ok.noex,I.ok.exfs,I.ok.funs,I.ok.frf⟩,I.os,I.bare,I.base,I.loc,I.cell,I.free,I.freeC,I.pin,I.hok,I.len⟩
theorem aB.unhand(ok:X.Ok)(I:aB (X.hand e) pins σ H s):aB X pins σ H s:=
 ⟨ok,I.os,I.bare,I.base,I.loc,I.cell,I.free,I.freeC,I.pin,I.hok,I.len⟩
theorem SP.untr{D:iJ}{f:Flow}(h:SP (X.tr S pins) [] D f s):SP X pins D f s:=by
 cases f with
 |next=>obtain⟨σ',H',I,q⟩:=h;exact⟨σ',H',I.untr,q⟩
 |brk=>obtain⟨σ',H',I,q⟩:=h;exact⟨σ',H',I.untr,q⟩
 |cont=>obtain⟨σ',H',I,q⟩:=h;exact⟨σ',H',I.untr,q⟩
 |ret u=>obtain⟨v,σ',H',I,r,q⟩:=h;exact⟨v,σ',H',I.untr,r,q⟩
theorem Hq:mQ (X.tr S pins) S where
 new:=λ pins' σ H s e C d I he hS=>⟨σ,H,e,C,d,rfl,I.untr,.inl he,hS⟩
 fly:=λ pins' σ H s e C d T I F hS=>⟨σ,H,e,C,d,rfl,I.untr,.inr ⟨T,F.tr,F.at_,F.big,F.free,F.loc,F.cell,λ p hp=>F.pin p (List.mem_append_left _ hp)⟩,by rw[rB F.at_];exact hS⟩
theorem aB.flew{ch:List Addr}{h':Heap}{C:Addr}{d:Option Addr}{vs:Array Value}(I:aB X pins σ H s)(f:Fk ch (cC X.stack) s.heap h')(hm:iY (H e))(q:h'.get? e=some (bP C d vs))
  (hc:∀b∈ch,b=e\/(H b=none/\X.s₀.heap.objs.size<=b/\b≠X.env.locals/\(∀x c,X.env.cells.lookup x=some c->c≠b)/\∀p∈X.pn++pins,p.1≠b)):
  aB X pins σ (aA H e (bZ e C d)) {s with heap:=h'}:=by
 have nU:∀b,H b=none->b≠e:=λ b n z=>by rw[z]at n;rw[n]at hm;exact hm
 have nD:∀b,H b=none->b∉ch.filter (· !=e)->b∉ch:=λ b n hb z=>hb (List.mem_filter.mpr ⟨z,by simpa using nU b n⟩)
 refine I.step (g':=s.gens) (d':=s.drawn) (t':=s.toks) (ch:=ch.filter (· !=e)) (λ b hb=>?_) (λ b o hL hf hb q n=>f.keep b o (nD b n hb) (λ z=>(List.mem_cons.mp (I.stkSub b z)).elim hL hf) q)
  (λ b o _ _ hb q n=>f.slot b o (nD b n hb) q) (λ b o _ _ n=>by rw[aR (nU b n)];exact n) (λ b o hb z=>?_) (λ b xs z=>?_) (λ b o u z=>?_) (λ b ps z=>?_) (λ m hn=>?_) (I.hok.fly f (λ b hb=>(hc b hb).imp id (·.1)) I.stkFree hm (bZ.ok q)) ⟨I.bare.1,Nat.le_refl _⟩
 ·obtain⟨h1,h2⟩:=List.mem_filter.mp hb
  rcases hc b h1 with z|⟨_,h3,h4,h5,h6⟩
  ·rw[z]at h2;simp at h2
  ·exact⟨.inr h3,h4,h5,h6⟩
 ·by_cases hbe:b=e
  ·exact⟨_,hbe▸q⟩
  ·obtain⟨sl,z1⟩:=f.slot b o (λ y=>hb (List.mem_filter.mpr ⟨y,by simpa using hbe⟩)) z
   exact⟨_,z1⟩
 ·rw[aR (λ y=>by rw[y]at z;rw[z]at hm;exact hm)];exact z
 ·rw[aR (λ y=>by rw[y]at z;rw[z]at hm;exact hm)];exact z
 ·exact⟨#[],by rw[aR (λ y=>by rw[y]at z;rw[z]at hm;exact hm)];simpa using z⟩
 ·obtain⟨o,es,ep,ho,r⟩:=hn
  have ny:X.env.locals∉ch:=λ y=>by
   rcases hc _ y with y|⟨_,_,y,_⟩
   ·exact nU _ I.free y
   ·exact y rfl
  obtain⟨sl,z⟩:=f.slot _ o ny ho
  exact⟨_,es,ep,z,r⟩
end
section
variable{X:Cx}{body suite:List Stmt}{b₀:Stmt}{x n:Str}{np pos hpos:Pos}{i:Nat}{D₀:Addr}{tb:SK->TS}{ts:Addr->TS}
def Ko(K:Qf)(i:Nat)(D₀:Addr)(tb:SK->TS)(ts:Addr->TS):TS:=λ D σ H=>tb (λ σ' e C _ H'=>PySem.W.mroIn K C (.ref D₀)=some true/\
 ts e {nx:=λ σ2 H2=>D.nx (σ2.set i none) H2,rt:=D.rt,bk:=λ σ2 H2=>D.bk (σ2.set i none) H2,ct:=λ σ2 H2=>D.ct (σ2.set i none) H2} (σ'.set i (some (.ref e))) H') D σ H
theorem rC{pins:Qj}{σ:St}{H:Hp}{s:Shared}{M:Model}{A:Around}{E:Qh}{Q:Unit->Shared->Prop}(I:aB X pins σ H s)(hN:X.N.Nodup)(hi:X.N[i]? =some n)(hk:X.env.scope.names.lookup n=some .local)
  (h:∀s',aB X pins (σ.set i none) H s'->Q () s'):wpAny M A (do bindName X.env n .none;unbindBehindTheSuite X.env n pos) Q E s:=by
 obtain⟨m,hn,hl⟩:=id I.loc
 refine wpAny_nameGoes_keeps hk hn (by rw[I.ok.kind];rfl) λ h' v hn' sb=>h _ ?_
 obtain⟨oL,_,_,hoL,_⟩:=id hn
 have keep:∀b o,b≠X.env.locals->s.heap.get? b=some o->h'.get? b=some o:=λ b o hb q=>(sb.2 b hb).trans q
 have hσ:∀(j:Nat) (w:V),(σ.set i none)[j]? =some (some w)->j≠i/\σ[j]? =some (some w):=λ j w q=>by
  by_cases hj:j=i
  ·subst hj
   rw[List.getElem?_set]at q
   simp only[if_true]at q
   split at q<;>cases q
  ·rw[List.getElem?_set_ne (Ne.symm hj)]at q
   exact⟨hj,q⟩
 have I2:aB X pins (σ.set i none) H s:=I.weak Qb λ j w q=>(hσ j w q).2
 have hx:∀j y w,X.N[j]? =some y->(σ.set i none)[j]? =some (some w)->y≠n:=λ j y w h1 h2 z=>(hσ j w h2).1 (xF hN h1 (z▸hi))
 refine⟨I.ok,I.os,I.bare,⟨λ b o q nn hb hx=>keep b o ?_ (I.base.keep b o q nn hb hx),λ b o q nn hb hx=>?_,I.base.free,λ b o q hx=>?_,I.base.tups,I.base.frzs,I.base.tbls⟩,⟨_,hn',λ j y w h1 h2 h3=>?_⟩,λ y c q=>?_,I.free,I.freeC,λ p hp=>?_,λ b ob q=>?_,I2.len⟩
 ·exact Nat.ne_of_lt (Nat.lt_of_lt_of_le (Heap.lt_size q) I.ok.above)
 ·obtain⟨sl,q1⟩:=I.base.slot b o q nn hb hx
  exact⟨sl,keep b _ (Nat.ne_of_lt (Nat.lt_of_lt_of_le (Heap.lt_size q) I.ok.above)) q1⟩
 ·obtain⟨o',q1⟩:=I.base.there b o q hx
  exact⟨o',keep b _ (Nat.ne_of_lt (Nat.lt_of_lt_of_le (Heap.lt_size q) I.ok.above)) q1⟩
 ·obtain⟨u,r,l⟩:=hl j y w h1 (hσ j w h2).2 h3
  refine⟨u,r,?_⟩
  rcases l with⟨k,q⟩|⟨k,c,q,z⟩
  ·exact .inl ⟨k,by simp[hx j y w h1 h2,q]⟩
  ·exact .inr ⟨k,c,q,z.sameBut sb (I.cne y c q)⟩
 ·obtain⟨v,z⟩:=I.cell y c q
  exact⟨v,z.sameBut sb (I.cne y c q)⟩
 ·obtain⟨q,nn,ne,nf,dd⟩:=I.pin p hp
  exact⟨keep _ _ ne q,nn,ne,nf,dd⟩
 ·refine(I.hok b ob q).stay (λ c v hc z=>keep c v (λ y=>?_) z) (λ _ z=>z) λ _ _ z=>z
  subst y
  rcases hc with rfl|hc
  ·rw[I.free]at q;cases q
  ·rw[I.free]at hc;cases hc
def qG(K:Qf)(D:Addr):Bool:=(PySem.W.clsIn K D).isSome&&PySem.W.instIn K (.ref D) (.type "tuple")==some false&&PySem.W.mroIn K D (.type "BaseException")==some true
open PySem.W in
theorem AR{M:Model}{A:Around}{E:Qh}{s:Shared}{K:Qf}{D e C:Addr}{oe:Obj}{Q:Bool->Shared->Prop}(X:K.In s.heap)(hD:qG K D=true)(he:s.heap.get? e=some oe)(hc:oe.cls= .ref C)
  (hs:PySem.W.mroIn K C (.ref D)=some true) (hq:Q true s):wpAny M A (excMatches (.ref e) (.ref D)) Q E s:=by
 unfold qG at hD
 rw[Bool.and_eq_true,Bool.and_eq_true,beq_iff_eq,beq_iff_eq]at hD
 obtain⟨⟨h1,h2⟩,h3⟩:=hD
 obtain⟨hh,g,dr,tk,os⟩:=s
 have L1:=looks_instIn (M:=M) X h2
 have L2:=looks_mroIn (M:=M) X h3
 have L3:=looks_mroIn (M:=M) X hs
 obtain⟨oD,hD1,cdD,hD2⟩:∃oD,hh.get? D=some oD/\∃cd,oD.data= .cls cd:=by
  unfold clsIn at h1
  split at h1
  ·rename_i ho
   exact⟨_,X _ _ ho,_,rfl⟩
  ·cases h1
 have T:Looks M hh (typeOf (.ref e)) (.ref C):=hc▸(Looks.ld he).andThen .now
 unfold excMatches isExcClass
 repeat (first|(with_reducible refine Looks.at L1 ?_)|(with_reducible refine Looks.at L2 ?_)|(with_reducible refine Looks.at L3 ?_)|(with_reducible refine Looks.at T ?_)|(with_reducible refine ks_wpAny_isType_cls hD1 hD2 ?_)|wp_step)
 all_goals exact hq
theorem Oz(hb:∀pins S,eJ (X.tr S pins) body (tb S))(hh:∀e,eJ (X.hand e) (b₀::suite) (ts e))(hN:X.N.Nodup)(hi:X.N[i]? =some n)(hm:X.mg x=some (.ref D₀))(hD:qG X.K D₀=true)(hk:X.env.scope.names.lookup n=some .local:=by rfl)
  (hg:Gl X x:=by rfl) (hs:X.stack=X.env::X.outer:=by rfl) (hf:X.env.frame=some X.env.locals:=by rfl) (hdb:(x==("__debug__" :Str))=false:=by decide):
  PS X (.Try body [.ExceptHandler (some (.Name x np)) (some n) (b₀::suite) hpos] [] [] pos) (Ko X.K i D₀ tb ts):=by
 intro pins s σ H D I h
 refine wpAny_Try_except (wpAny_mono (hb pins _ [] s σ H D I.tr h) (λ f s1 q=>?_) λ ev s1 q=>?_)
 ·cases f with
  |next=>exact wpAny_execs_nil q.untr
  |ret u=>exact q.untr
  |brk=>exact q.untr
  |cont=>exact q.untr
 obtain⟨σ1,H1,e,C,d,rfl,I1,hfl,hsub,hS⟩:=q
 have fr:X.A.frames=some (X.env::X.outer):=hs▸I1.ok.frames
 have new:∀{T:Addr},s1.heap.objs.size<=T->X.s₀.heap.objs.size<=T/\T≠X.env.locals/\(∀x c,X.env.cells.lookup x=some c->c≠T)/\∀p∈X.pn++pins,p.1≠T:=fun{T} hT=>
  ⟨Nat.le_trans I1.sz hT,λ z=>absurd I1.lt (Nat.not_lt.mpr (z▸hT)),λ y c q z=>by
   obtain⟨v,o,ho,_⟩:=I1.cell y c q
   exact absurd (Heap.lt_size ho) (Nat.not_lt.mpr (z▸hT)),λ p hp z=>absurd (Heap.lt_size (I1.pin p hp).1) (Nat.not_lt.mpr (z▸hT))⟩
 generalize hH2:aA H1 e (bZ e C d)=H2 at hS
 have a2:H2 e=some (bZ e C d):=by rw[<-hH2];exact aP
 have m2:iY (H2 e):=by rw[a2];trivial
 have noted:∀{Q:Unit->Shared->Prop} {E:Qh},(∀h' T,s1.heap.objs.size<=T->fW h' e (bP C d #[]) T (rawInt X.env.locals)->aB X pins σ1 H2 {s1 with heap:=h'}->Q () {s1 with heap:=h'})->
   wpAny (model X.prog X.w) X.A (noteFrame (.ref e) X.env) Q E s1:=by
  intro Q E k
  rcases hfl with he|⟨T,F⟩
  ·obtain⟨vs,q,q1⟩:=I1.hok.exn he
   refine Dk (base:=X.base) (o:=bP C d #[]) fr (hs▸I1.stack) hf q q1 λ h' T z1 z2 z3=>k h' T z1 z2 ?_
   obtain⟨vs',_,_,q',_⟩:=id z2
   exact hH2▸I1.flew (by rw[hs];exact z3) (by rw[he];trivial) q' λ b hb=>.inl (by simpa using hb)
  ·refine Dj (base:=X.base) fr (hs▸I1.stack) hf F.tr λ h' T' z1 z2 z3=>k h' T' z1 z2 ?_
   obtain⟨vs',_,_,q',_⟩:=id z2
   refine hH2▸I1.flew (by rw[hs];exact z3) (by rw[F.at_];trivial) q' λ b hb=>?_
   rcases List.mem_cons.mp hb with rfl|hb
   ·exact .inr ⟨F.free,F.big,F.loc,F.cell,F.pin⟩
   ·exact .inl (by simpa using hb)
 have land:∀{A:Around} {Q:Unit->Shared->Prop} {E:Qh} {s2:Shared} {T:Addr} {fl:Value},s1.heap.objs.size<=T->fW s2.heap e (bP C d #[]) T fl->aB X pins σ1 H2 s2->
   (∀h',fW h' e (bP C d #[]) T .none->aB X pins σ1 H2 {s2 with heap:=h'}->Q () {s2 with heap:=h'})->wpAny (model X.prog X.w) A (setFlight (.ref e) none) Q E s2:=by
  intro A Q E s2 T fl z1 z2 I2 k
  refine xK (fs:=cC X.stack) z2 λ h' y1 y2=>k h' y1 ?_
  obtain⟨vs',_,_,q',_⟩:=id y1
  have nT:T≠e:=y1.elim λ _ ⟨_,_,_,_,z,_⟩=>z
  have f2:H2 T=none:=by rw[<-hH2,aR nT];exact I1.hok.fresh z1
  have:=I2.flew (e:=e) (C:=C) (d:=d) (vs:=vs') y2 m2 q' λ b hb=>.inr (by rw[show b=T by simpa using hb];exact⟨f2,new z1⟩)
  rwa[rB a2]at this
 refine noted λ h1 T z1 z2 I2=>land z1 z2 I2 λ h2 z3 I3=>?_
 refine wpAny_handleBy_cons (codeAny_handlers_test (nM (X:=X.hand e) I3.hand hg hm ?_ hdb)) (by intro q;cases q)
 obtain⟨vs3,q3⟩:=I3.hok.exc a2
 refine AR I3.kIn hD q3 rfl hsub ?_
 refine codeAny_handlers_suite_as (land (A:=X.A.mark (some (.ref e))) z1 z3 I3 λ h4 z4 I4=>?_)
 refine vE (X:=X.hand e) I4.hand hN hi (.inl hk) (show bE (.ref e) (.ref e)from rfl) (λ s5 I5=>?_) (.inr hk)
 refine wpAny_mono (hh e pins s5 _ H2 _ I5 hS) (λ f s6 q=>?_) λ _ _ z=>z.elim
 cases f with
 |next=>
  obtain⟨σ6,H6,I6,q6⟩:=q
  exact rC (I6.unhand I1.ok) hN hi hk λ s7 I7=>⟨_,_,I7,q6⟩
 |brk=>
  obtain⟨σ6,H6,I6,q6⟩:=q
  exact rC (I6.unhand I1.ok) hN hi hk λ s7 I7=>⟨_,_,I7,q6⟩
 |cont=>
  obtain⟨σ6,H6,I6,q6⟩:=q
  exact rC (I6.unhand I1.ok) hN hi hk λ s7 I7=>⟨_,_,I7,q6⟩
 |ret u=>
  obtain⟨v,σ6,H6,I6,r,q6⟩:=q
  exact rC (I6.unhand I1.ok) hN hi hk λ s7 I7=>⟨v,_,_,I7,r,q6⟩
end
def fG(K:Qf)(C:Addr):Bool:=PySem.W.mroIn K C (.type "BaseException")==some true&&PySem.W.typeIn K (.ref C)==some (.type "type")
def Ks(K:Qf)(S:SK)(te:TE):TS:=λ _ σ H=>te σ H λ v H1=>∃e C d,v= .ref e/\H1 e=some (cH e C d)/\fG K C=true/\S σ e C d (aA H1 e (bZ e C d))
section
variable{X:Cx}{S:SK}{e:Expr}{te:TE}{pos:Pos}
open PySem.W in
theorem kL(hX:mQ X S)(he:PE X e te)(hc:X.calm=true:=by rfl):PS X (.Raise (some e) none pos) (Ks X.K S te):=by
  intro pins s σ H D I h
  rw[arm_exec_Raise]
  show wpAny _ _ (do standAt pos;raiseStmt X.env (some (do let v←eval e X.env;standAt pos;pure v)) none) _ _ _
  refine wpAny_bind (wpAny_standAt ?_)
  unfold raiseStmt
  refine wpAny_bind (wpAny_bind (aU (he pins s σ H _ I h) λ u s1 ⟨v,H1,I1,r,a,C,d,ev,a1,hr,q⟩=>wpAny_bind (wpAny_standAt (wpAny_pure ?_))))
  subst ev
  obtain rfl:u=Value.ref a:=r
  obtain⟨vs,o1,f1⟩:=I1.hok.exn a1
  have hE:=hX.new pins σ H1 s1 a C d I1 a1 q
  have KX:=I1.kIn
  obtain⟨hh,g,dr,tk,os⟩:=s1
  unfold fG at hr
  rw[Bool.and_eq_true,beq_iff_eq,beq_iff_eq]at hr
  have L1:=looks_mroIn (M:=model X.prog X.w) KX hr.1
  have L2:=looks_typeIn (M:=model X.prog X.w) KX hr.2
  have T:Looks (model X.prog X.w) hh (typeOf (.ref a)) (.ref C):=(Looks.ld o1).andThen .now
  have nc:∀c,(bP C d vs).data≠ .cls c:=λ c z=>by cases z
  have hcalm:=I1.ok.hd hc
  refine wpAny_bind (wpAny_pure (wpAny_bind (wpAny_holding ?_)))
  unfold excFromValue isExcClass
  refine wpAny_bind (wpAny_bind (ks_wpAny_isType_inst o1 nc (wpAny_pure ?_)))
  show wpAny _ _ (isInstance (.ref a) _>>=_) _ _ _
  unfold isInstance
  refine wpAny_bind (wpAny_bind (T.at (L1.at ?_)))
  refine wpAny_pure ?_
  refine wpAny_bind (ks_wpAny_isType_inst o1 nc ?_)
  show wpAny _ _ (raisedInstance (.ref a)>>=_) _ _ _
  unfold raisedInstance
  refine wpAny_bind (wpAny_bind (T.at (wpAny_bind (L2.at ?_))))
  refine wpAny_pure ?_
  unfold setFlight
  refine wpAny_bind (wpAny_bind (wpAny_field o1 rfl f1 ?_))
  rw[if_neg Qc]
  refine wpAny_pure ?_
  exact wpAny_raiseNew_none hcalm hE
end
abbrev dE:List Value:=[.type "ValueError",.type "Exception",.type "BaseException",.type "object"]
def qF(K:Qf)(C:Addr):Bool:=match K.lookup C with
 |some ⟨.type "type",_,.cls cd,sl⟩=>(match cd.mro,sl.toList with
  |.ref C'::bm,[_,_,_,_,some (.builtin n),_]=>C'==C&&n== "ValueError.__new__" && !cd.hasDel&&PySem.W.tailIn K dE bm
  |_,_=>false)
 |_=>false
theorem AT{K:Qf}{h:Heap}{C:Addr}(X:K.In h)(q:qF K C=true):∃nm qn N bs bm hdct sn sub ab col dd k0 k1 k2 k3 k5,
  h.get? C=some (excClassObj nm qn C N bs bm hdct sn sub ab col dd k0 k1 k2 k3 k5 "ValueError.__new__")/\OwnTail h dE bm:=by
 unfold qF at q
 split at q
 ·rename_i dd cd sl ho
  split at q
  ·rename_i C' bm k0 k1 k2 k3 n k5 hm hs
   simp only[Bool.and_eq_true,beq_iff_eq,Bool.not_eq_true']at q
   obtain⟨⟨⟨rfl,rfl⟩,hdel⟩,ht⟩:=q
   obtain⟨nm,bs,mro,ns,qn,hd,sn,sub,ab,col,del⟩:=cd
   dsimp only at hm hdel
   subst hm hdel
   have hsl:sl= #[k0,k1,k2,k3,some (.builtin "ValueError.__new__"),k5]:=by
    obtain⟨l⟩:=sl
    simp only at hs
    rw[hs]
   subst hsl
   exact⟨nm,qn,ns,bs,bm,hd,sn,sub,ab,col,dd,k0,k1,k2,k3,k5,X _ _ ho,PySem.W.tail_of_in X ht⟩
  ·cases q
 ·cases q
structure Hb(K:Qf)(C f:Addr):Prop where
 shape:qF K C=true
 init:PySem.W.findIn K (.ref C) "__init__" =some (some (.ref f))
 fn:PySem.W.isFn K (.ref f)=true
 kp:PySem.W.keepIn K (.ref C)=true
section
variable{prog:Program}{w:World}{A:Around}{E:Qh}{K:Qf}{C f:Addr}{s:Shared}{rest:List Value}{Q:Qh}
open PySem.W in
theorem Tz(X:K.In s.heap)(m:Hb K C f)(hl:rest.length<=sizeLine)
  (hq:∀h',(∀b o,s.heap.get? b=some o->h'.get? b=some o)->h'.get? (s.heap.objs.size+1)=some (bP C none #[.ref s.heap.objs.size,.none,.none,.none,.bool false,.none])->
   wpAny Qi (A.under (.builtin "type.__call__" ⟨.ref C::rest,[]⟩)) (call (.ref f) (.ref (s.heap.objs.size+1)::rest)) (λ r s'=>r= .none/\Q (.ref (s.heap.objs.size+1)) s') E {s with heap:=h'}):
  wpAny Qi A (call (.ref C) rest) Q E s:=by
 obtain⟨nm,qn,N,bs,bm,hdct,sn,sub,ab,col,dd,k0,k1,k2,k3,k5,hC,T⟩:=AT X m.shape
 have F:=PySem.F.excBase_ValueError
 obtain⟨h,g,d,t,os⟩:=s
 have f1:=tc_lookup
 have f2:=tc_bind (.ref C)
 have hT:(⟨h,g,d,t,os⟩:Shared).TypeIs (.ref C) "type" :=⟨_,hC,rfl⟩
 refine wpAny_call (codeAny_of_tree ?_)
 show wpAny _ _ (callAny (.ref C) _) _ _ _
 repeat (any_goals (first|assumption|(with_reducible refine wpAny_loadPart_at hC ?_)|wp_step))
 refine⟨rfl,codeAny_call_builtin_at (Code.quiet_builtin _ Qd) entry_typeCall (wpAny_check_type_call_sub hC ?_)⟩
 repeat (first|(with_reducible refine wpAny_loadPart_at hC ?_)|(with_reducible refine wpAny_madeBy_exc hC ?_)|wp_step)
 refine codeAny_call_builtin_code (Code.quiet_builtin _ F.quiet) (wpAny_check_new_subT F T hC ?_)
 refine codeAny_exc_new_subT F T hC ?_ hl
 show wpAny _ _ _ _ _ _
 have kp:∀b o,h.get? b=some o->((h.push {cls:=.type "tuple",data:=.seq rest.toArray}).push {cls:=.ref C,data:=.fields #[.ref h.objs.size,.none,.none,.none,.bool false,.none]}).get? b=some o:=λ b o e=>Heap.get?_push_of_some _ (Heap.get?_push_of_some _ e)
 have get:((h.push {cls:=.type "tuple",data:=.seq rest.toArray}).push {cls:=.ref C,data:=.fields #[.ref h.objs.size,.none,.none,.none,.bool false,.none]}).get? (h.objs.size+1)=some (bP C none #[.ref h.objs.size,.none,.none,.none,.bool false,.none]):=Heap.get?_push_at (by rw[Heap.size_push]) rfl
 have X1:K.In ((h.push {cls:=.type "tuple",data:=.seq rest.toArray}).push {cls:=.ref C,data:=.fields #[.ref h.objs.size,.none,.none,.none,.bool false,.none]}):=X.keeps kp
 have hC1:=kp _ _ hC
 have hcC:(Value.ref C::bm).contains (.ref C)=true:=by simp
 have T1:Looks Qi ((h.push {cls:=.type "tuple",data:=.seq rest.toArray}).push {cls:=.ref C,data:=.fields #[.ref h.objs.size,.none,.none,.none,.bool false,.none]}) (typeOf (.ref (h.objs.size+1))) (.ref C):=(Looks.ld get).andThen .now
 have L1:=looks_findIn (M:=model prog w) X1 m.init
 have L2:=bind_fn (M:=model prog w) X1 (.ref (h.objs.size+1)) (beq_iff_eq.mp m.fn)
 have hq1:=hq _ kp get
 unfold isInstance
 repeat (first|(with_reducible refine Looks.at T1 ?_)|(with_reducible refine wpAny_loadPart_at get ?_)|(with_reducible refine wpAny_isSubtype_exc hC1 ?_;rw[hcC])|wp_step)
 show wpAny _ _ (isSubtype (.ref C) (.ref C)) _ _ _
 refine wpAny_isSubtype_exc hC1 ?_
 rw[hcC]
 repeat (first|(with_reducible refine Looks.at T1 ?_)|wp_step)
 show wpAny _ _ (typeLookup (.ref C) _) _ _ _
 refine Looks.at L1 ?_
 refine wpAny_holding (wpAny_bind ?_)
 refine Looks.at L2 ?_
 refine wpAny_bind (wpAny_mono hq1 (λ r s' hr=>?_) λ _ _ z=>z)
 obtain⟨rfl,hQ⟩:=hr
 wp_walk
 exact hQ
end
def Kz(C:Addr)(sp:Sp)(t:TA):TE:=λ σ H Q=>t σ H λ vs H1=>vs.length<=1000/\∀e,H1 e=none->sp (.ref e::vs) (aA H1 e (cH e C none)) (λ v H2=>v= .non/\Q (.ref e) H2) E0
def jA(P:Program)(w:World)(K:Qf)(mg:Qk)(base:Heap)(x:Str)(C:Addr)(k:Nat)(ps:List Str)(sp:Sp):Prop:=
 ∃f fd,Hb K C f/\bD P w K mg base bM k f fd ps sp/\mg x=some (.ref C)/\jB K fd ps []
section
variable{X:Cx}{k j:Nat}{C:Addr}{ps:List Str}{sp:Sp}{x:Str}{p pos:Pos}{e:Expr}{es:List Expr}{t:TA}
theorem kQ(M:jA X.prog X.w X.K X.mg X.base x C k ps sp)(hr:bV j X.A)(ha:PA X (e::es) t)(hg:Gl X x:=by rfl)(hj:k+1<=j:=by decide)(hdb:(x==("__debug__" :Str))=false:=by decide)
  (he:starEach (e::es) X.env=(false,eval e X.env)::starEach es X.env:=by rfl) (hpl:(backTo pos (starEach es X.env)).any (·.1)=false:=by rfl):PE X (.Call (.Name x p) (e::es) [] pos) (Kz C sp t):=by
 obtain⟨f,fd,M,F,hm,hb⟩:=M
 intro pins s σ H Q I h
 refine wpAny_Call_Name_kw (nM I hg hm ?_ hdb)
 refine PySem.W.callWith_K (h₀:=X.base) I.ok.mod.kin M.kp (aU (ha pos pins s σ H _ I h) λ us s1 ⟨vs,H1,I1,r,hl,q⟩=>⟨I1.kIn,?_⟩) he hpl
 show wpAny _ _ (call (.ref C) us) _ _ _
 refine Tz I1.kIn M (by rw[<-r.length];exact Nat.le_of_lt (cB hl)) λ h' kp get=>?_
 have q:=q (s1.heap.objs.size+1) (I1.hok.fresh (Nat.le_succ _))
 have I2:aB X pins σ (aA H1 (s1.heap.objs.size+1) (cH (s1.heap.objs.size+1) C none)) {s1 with heap:=h'}:=I1.laid (t':=s1.toks) kp (Nat.le_succ _) (cH.ok get rfl)
 have r2:aW (V.ref (s1.heap.objs.size+1)::vs) (Value.ref (s1.heap.objs.size+1)::us):=.cons rfl r
 have hl2:(Value.ref (s1.heap.objs.size+1)::us).length=ps.length:=by rw[<-r2.length];exact F.len _ _ _ _ q
 have hb':=hb {s1 with heap:=h'} (Value.ref (s1.heap.objs.size+1)::us) I2.kIn (by rw[List.append_nil];exact hl2)
 rw[List.append_nil]at hb'
 refine wpAny_call (codeAny_mono (F.run _ X.stack _ _ ⟨_,[]⟩ _ _ _ E0 ((hr.mono hj).make C us []) (I2.env0.make C us []) hb' r2 q) λ r s' hq'=>?_)
 cases r with
 |error ev=>exact hq'.elim
 | ok fl=>
  cases fl with
  |ret u=>
   obtain⟨v,H',I3,rv,ev,q3⟩:=I2.after hq'
   subst ev
   exact⟨rv,⟨V.ref (s1.heap.objs.size+1),H',I3,rfl,q3⟩⟩
  |next=>exact False.elim hq'
  |brk=>exact False.elim hq'
  |cont=>exact False.elim hq'
end
end L2
namespace L2
open PySem PySem.Spec PyProof.Rows PySem.W
abbrev veInit:String:= "ValueError.__init__"
theorem xw_slot:Slot "wrapper_descriptor" "__get__" "wrapper_descriptor.__get__" := .of (owner:= "wrapper_descriptor") (n:= "__get__") (by rw[typeLookup_type,builtinLookup_eq_fast];kernel_rfl) Qd Qd Qd (by first|exact .inl Qd|exact .inr Qd) (by rw[isSubtype_type];kernel_rfl)
theorem Hk:entryFor table "wrapper_descriptor.__get__" =some Builtin.«wrapper_descriptor.__get__»:=entryFor_of_tree (by kernel_rfl)
theorem Hm(a b c:Value):argsOk "wrapper_descriptor.__get__" ⟨[a,b,c],[]⟩:=by unfold argsOk;kernel_rfl
theorem Hi:typeOf (.builtin veInit)=pure (.type "wrapper_descriptor"):=by kernel_rfl
theorem Hl{M:Model}{A:Around}{E:Qh}{hh:Heap}{g:Array GenState}{d:Drawn}{t:Nat}{os:OsState}{Q:Unit->Shared->Prop}{e C:Addr}{oe:Obj}{K:Frag}(b:Value)(X:K.In hh)(he:hh.get? e=some oe)(hc:oe.cls= .ref C)
  (hk:(clsIn K C).isSome=true) (hq:Q () ⟨hh,g,d,t,os⟩):wpAny M A (checkBoundCall veInit ⟨[.ref e,b],[]⟩) Q E ⟨hh,g,d,t,os⟩:=by
 have F:=PySem.F.excBase_ValueError
 obtain⟨cd,hcd⟩:=Option.isSome_iff_exists.mp hk
 have L:=looks_clsIn (M:=M) X hcd
 simp only[checkBoundCall,F.initRow,F.initKind]
 repeat (first|(with_reducible refine wpAny_loadPart_at he ?_;rw[hc])|(with_reducible refine Looks.at L ?_)|(with_reducible refine wpAny_onRaise ?_)|wp_step)
 exact hq
abbrev gC(x:Addr):Obj:={cls:=.type "method-wrapper",data:=.fields #[.builtin veInit,.ref x]}
section
variable{prog:Program}{w:World}{A:Around}{E:Qh}{h:Heap}{g:Array GenState}{d:Drawn}{t:Nat}{os:OsState}{so D x C:Addr}{ox:Obj}{l₀ l:List Value}{K:Frag}
theorem Hj{Q:Fin->Shared->Prop}(X:K.In h)(hx:h.get? x=some ox)(hxc:ox.cls= .ref C)(hve:mroIn K C (.type "ValueError")=some true)
  (hq:Q (.done (.ret (.ref h.objs.size))) ⟨h.push (gC x),g,d,t,os⟩):
  wpAny Qi A (Builtin.«wrapper_descriptor.__get__» ⟨[.builtin veInit,.ref x,.ref C],[]⟩) Q E ⟨h,g,d,t,os⟩:=by
 have T:Looks Qi h (typeOf (.ref x)) (.ref C):=hxc▸(Looks.ld hx).andThen .now
 have L1:=looks_mroIn (M:=model prog w) X hve
 unfold Builtin.«wrapper_descriptor.__get__»
 repeat (first|(with_reducible refine Looks.at T ?_)|(with_reducible refine Looks.at L1 ?_)|wp_step|dsimp only)
 rw[show(".".intercalate (veInit.cutAt '.').dropLast)= "ValueError" from Qd]
 refine Looks.at L1 ?_
 repeat (first|(with_reducible refine wpAny_newObj_type ?_ (by size_fits))|wp_step|dsimp only)
 exact hq
theorem Ho{tk:Tok}{Q:Fin→Shared→Prop}(hso:h.get? so=some (ks_superObj D x C))(hno:Looks Qi h (opaqueClassAbove (.ref C)) none)
    (hC:Looks Qi h (mroOf (.ref C)) l₀) (hl:(l₀.dropWhile (· != .ref D)).drop 1=l) (X:K.In h) (hf:alongIn K "__init__" l=some (some (.builtin veInit))) (hx:h.get? x=some ox) (hxc:ox.cls= .ref C) (hve:mroIn K C (.type "ValueError")=some true) (hxC:x≠C)
    (hq:Q (.done (.ret (.ref h.objs.size))) ⟨h.push (gC x),g,d,t,os⟩):
    wpAny Qi A (Builtin.«super.__getattribute__» ⟨[.ref so,.str "__init__" tk],[]⟩) Q E ⟨h,g,d,t,os⟩:=by
  have hlk:=xw_slot.lookup
  have hne:(Value.ref x==Value.ref C)=false:=by simp[hxC]
  have hT:(⟨h,g,d,t,os⟩:Shared).TypeIs (.builtin veInit) "wrapper_descriptor" :=Hi
  have dt:(ks_superObj D x C).data= .fields #[.ref D,.ref x,.ref C]:=rfl
  have f0:(#[.ref D,.ref x,.ref C]:Array Value)[0]? =some (.ref D):=rfl
  have f1:(#[.ref D,.ref x,.ref C]:Array Value)[1]? =some (.ref x):=rfl
  have f2:(#[.ref D,.ref x,.ref C]:Array Value)[2]? =some (.ref C):=rfl
  unfold Builtin.«super.__getattribute__»
  repeat (first
    |(with_reducible refine wpAny_field hso dt f0 ?_)|(with_reducible refine wpAny_field hso dt f1 ?_)|(with_reducible refine wpAny_field hso dt f2 ?_)
    |(with_reducible refine ks_wpAny_notOpaque hno ?_)|(with_reducible refine Looks.at hC ?_;rw[hl])
    |(refine ks_forIn_along X (λ _ _=>rfl) rfl ?_ hf)
    |(with_reducible refine wpAny_typeOf hT ?_)
    |(with_reducible refine wpAny_call_entry xw_slot hT Hk (Hj X hx hxc hve ?_) (Hm _ _ _))
    |(with_reducible refine⟨_,rfl,?_⟩)
    |(simp only[hne,Bool.false_eq_true,if_false])
    |wp_step|dsimp only)
  all_goals exact hq
theorem Hn{pl:Sem Bool}{Q:Value×List Value→Shared→Prop}(hso:h.get? so=some (ks_superObj D x C))(hno:Looks Qi h (opaqueClassAbove (.ref C)) none)
    (hC:Looks Qi h (mroOf (.ref C)) l₀) (hl:(l₀.dropWhile (· != .ref D)).drop 1=l) (X:K.In h) (hf:alongIn K "__init__" l=some (some (.builtin veInit))) (hx:h.get? x=some ox) (hxc:ox.cls= .ref C) (hve:mroIn K C (.type "ValueError")=some true) (hxC:x≠C)
    (hq:Q (.ref h.objs.size,[]) ⟨h.push (gC x),g,d,t+1,os⟩):wpAny Qi A (getMethod (.ref so) "__init__" pl) Q E ⟨h,g,d,t,os⟩:=by
  have hT:∀t',(⟨h,g,d,t',os⟩:Shared).TypeIs (.ref so) "super" :=λ _=>⟨_,hso,rfl⟩
  unfold getMethod
  refine wpAny_bind (wpAny_specialOf (hT _) PySem.F.ks_slot_super_ga.lookup ?_)
  show wpAny _ _ (if(Manifest.canonical "super.__getattribute__" != "object.__getattribute__")=true then _ else _) _ _ _
  rw[if_pos PySem.F.ks_canon_super_ga]
  unfold getAttr getAttrBy
  refine wpAny_bind (wpAny_bind (wpAny_mkText (wpAny_holding (wpAny_bind (wpAny_typeOf (hT _) (wpAny_bind (wpAny_of_eq PySem.F.ks_slot_super_ga.lookup ?_)))))))
  show wpAny _ _ (getAttrByItsOwn (.ref so) (.str "__init__" t) (.type "super") (.builtin "super.__getattribute__") true false) _ _ _
  unfold getAttrByItsOwn hookBefore;unfold callGetattribute boundAndCalled
  refine wpAny_bind (wpAny_of_eq (show(if onTheHeap (.type "super")then typeLookup (.type "super") "__getattr__" else pure none)=pure none from rfl) (wpAny_bind (wpAny_attempt (wpAny_holding ?_))))
  show wpAny _ _ (bindSpecial (.builtin "super.__getattribute__") (.ref so)>>=_) _ _ _
  refine wpAny_bind (wpAny_of_eq (PySem.F.ks_slot_super_ga.bind _) ?_)
  refine wpAny_mono (Q:=λ v s'=>v= .ref h.objs.size∧s'=⟨h.push (gC x),g,d,t+1,os⟩) (E:=λ _ _=>False)
    (wpAny_call_entry PySem.F.ks_slot_super_ga (hT _) PySem.F.ks_entry_super_ga (Ho hso hno hC hl X hf hx hxc hve hxC ⟨_,rfl,rfl,rfl⟩) (PySem.F.ks_gaArgs_super _ _)) (λ v s' hv=>?_) λ _ _ z=>z.elim
  obtain⟨rfl,rfl⟩:=hv
  exact wpAny_pure (wpAny_pure hq)
theorem Tq{s:Shared}{mw e:Addr}{x0:Value}{dx:Option Addr}{vs:Array Value}{u:Value}{Q:Qh}(X:K.In s.heap)(hk:(clsIn K C).isSome=true)(hm:s.heap.get? mw=some (gC e))(he:s.heap.get? e=some (bP C dx vs))(h0:(vs[0]?:Option Value)=some x0)
  (hq:∀h',(∀b o,b≠e->s.heap.get? b=some o->h'.get? b=some o)->h'.get? e=some (bP C dx (vs.setIfInBounds 0 (.ref s.heap.objs.size)))->Q .none {s with heap:=h'}):wpAny Qi A (call (.ref mw) [u]) Q E s:=by
 have F:=PySem.F.excBase_ValueError
 obtain⟨hh,g,d,tk,os⟩:=s
 refine wpAny_call (codeAny_of_tree ?_)
 show wpAny _ A.in1 (callAny (.ref mw) ⟨[u],[]⟩) _ _ _
 simp only[callAny]
 refine wpAny_bind (wpAny_load hm ?_)
 show wpAny _ _ (checkBoundCall veInit ⟨[.ref e,u],[]⟩>>=λ _=>_) _ _ _
 refine wpAny_bind (Hl u X he rfl hk ?_)
 refine wpAny_bind (wpAny_pure (wpAny_pure ⟨Code.quiet_builtin _ Qd,codeAny_builtin F.initEntry ?_⟩))
 unfold Builtin.«BaseException.__init__»
 dsimp only
 rw[if_neg Qb]
 unfold newTuple Builtin.BaseException.bexcPut
 have he1:=Heap.get?_push_of_some (h:=hh) {cls:=.type "tuple",data:=.seq #[u]} he
 refine wpAny_bind (wpAny_newObj_type (wpAny_bind (wpAny_bind (wpAny_field he1 rfl h0 (wpAny_bind ?_)))) (by show 1<=sizeLine;decide))
 refine rY (o:=bP C dx #[]) he1 (Array.getElem?_eq_some_iff.mp h0).1 λ h' e' sb=>?_
 have fin:=hq h' (λ b o hb q=>(sb.2 b hb).trans (Heap.get?_push_of_some _ q)) e'
 cases x0<;>first|exact wpAny_letGo (wpAny_pure fin)|exact wpAny_pure (wpAny_pure fin)
end
theorem Dw{α β:Type}[BEq α][LawfulBEq α]:∀{l:List (α×β)} {k:α} {v:β},(l.map (·.1)).Nodup->(k,v)∈l->l.lookup k=some v
 |[],_,_,_,h=>nomatch h
 | (a,b)::l,k,v,nd,h=>by
  rw[List.map_cons,List.nodup_cons]at nd
  rw[List.lookup_cons]
  rcases List.mem_cons.mp h with h|h
  ·cases h;simp
  ·have:(k==a)=false:=beq_eq_false_iff_ne.mpr λ z=>nd.1 (z▸List.mem_map_of_mem (f:=(·.1)) h)
   rw[this]
   exact Dw nd.2 h
structure DH(ps:List Str)(sc:Scope):Prop where
 kind:sc.kind= .function
 co:sc.isCoroutine=false
 gen:sc.isGenerator=false
 nd:ps.Nodup
 loc:∀x∈ps,sc.names.lookup x=some .local
 cell:∀x∈sc.names,x.2≠ .cell
 free:∀x∈sc.names,x.2= .free->x.1= "__class__"
def jP(P:Program)(w:World)(K:Qf)(mg:Qk)(base:Heap)(N:List Str)(qual:Str)(scope:Scope)(f:Addr)(cd:Value)(cc:Addr)(A:Around)(outer:List Env)(s:Shared)(H:Hp):Cx where
 prog:=P
 w:=w
 K:=K
 mg:=mg
 base:=base
 A:=A.deeper (ksEnv qual scope s.heap.objs.size f cd cc)
 N:=N
 s₀:=s
 H₀:=H
 env:=ksEnv qual scope s.heap.objs.size f cd cc
 outer:=outer
 stack:=ksEnv qual scope s.heap.objs.size f cd cc::outer
 ex:=[]
 calm:=true
 fn:=λ x=>x != "__class__"
 pn:=[]
 xe:=λ _ _=>False
section
variable{P:Program}{w:World}{K:Qf}{mg:Qk}{base:Heap}{k:Nat}{f cc C cda:Addr}{name qual:Str}{params:Arguments}{body:List Stmt}{scope:Scope}{kV doc pm ct oc cl:Value}{an od cld:Option Addr}
 {osl csl:Array (Option Value)} {ps:List Str} {sp:Sp}
theorem kU(lk:K.lookup f=some ⟨oc,od,.func (ksFn name qual params body scope .none kV doc pm an (.ref cda) ct cc),osl⟩)(hcd:PySem.W.codeIn K (.ref cda) qual=true)(lc:K.lookup cc=some ⟨cl,cld,.cell (some (.ref C)),csl⟩)
  (S:DH ps scope) (len:∀vs H Q E,sp vs H Q E->vs.length=ps.length)
  (hbody:∀(A:Around) (outer:List Env) (s s1:Shared) (H:Hp) (vs:List V) (Q:VK) (E:XK),bV k (A.deeper (ksEnv qual scope s.heap.objs.size f (.ref cda) cc))->sp vs H Q E->
   aB (jP P w K mg base ps qual scope f (.ref cda) cc A outer s H) [] (vs.map some) H s1->
   PySem.wpAt (model P w) (A.deeper (ksEnv qual scope s.heap.objs.size f (.ref cda) cc)) (.func body (ksEnv qual scope s.heap.objs.size f (.ref cda) cc)) (execs body (ksEnv qual scope s.heap.objs.size f (.ref cda) cc))
    (SP (jP P w K mg base ps qual scope f (.ref cda) cc A outer s H) [] {nx:=λ _ H'=>Q .non H',rt:=Q}) (λ _ _=>False) s1):
  bD P w K mg base bM (k+1) f (ksFn name qual params body scope .none kV doc pm an (.ref cda) ct cc) ps sp:=by
 refine⟨len,λ A outer s H args us vs Q E hr e0 hb r hsp=>?_⟩
 have hl:=len _ _ _ _ hsp
 have hlu:us.length=ps.length:=r.length▸hl
 have kb:∀b o,base.get? b=some o->s.heap.get? b=some o:=λ b o e=>(e0.bs b o e).1
 have KX:K.In s.heap:=e0.mod.kin.keeps kb
 have lim:s.heap.NoLimit:=e0.mod.nolimit.keeps kb
 refine ks_codeAny_call_defAt (fd:=ksFn name qual params body scope .none kV doc pm an (.ref cda) ct cc) (body:=body) (binds:=ps.zip us) hr.depth (KX _ _ lk) rfl lim (PySem.W.codeRec_of KX hcd) rfl hb S.cell (λ y hy=>S.loc _ (List.of_mem_zip hy).1) (λ h₀ hns hk=>?_) S.co S.gen S.kind
 have ndz:((ps.zip us).reverse.map (·.1)).Nodup:=by
  rw[List.map_reverse,List.map_fst_zip (by rw[hlu];exact Nat.le_refl _)]
  exact List.pairwise_reverse.mpr (S.nd.imp λ z y=>z y.symm)
 have I:aB (jP P w K mg base ps qual scope f (.ref cda) cc A outer s H) [] (vs.map some) H {s with heap:=h₀,toks:=s.toks+(ps.zip us).length}:=by
  have cellL:∀y c,(ksEnv qual scope s.heap.objs.size f (.ref cda) cc).cells.lookup y=some c->y= "__class__"/\c=cc:=λ y c q=>by
   have q':List.lookup y [(("__class__" :Str),cc)]=some c:=q
   rw[List.lookup_cons]at q'
   split at q'
   ·rename_i z
    exact⟨by simpa using z,(Option.some.inj q').symm⟩
   ·cases q'
  have noA:∀b:Addr,b∉(jP P w K mg base ps qual scope f (.ref cda) cc A outer s H).ex:=λ b z=>absurd (show b∈([]:List Addr)from z) Qb
  have cb:=e0.mod.kin cc _ lc
  refine⟨⟨e0.mod,S.kind,rfl,rfl,Nat.le_refl _,λ y z c h1 h2=>(cellL y c h1).1.trans (cellL z c h2).1.symm,λ y hy=>?_,λ y c h1 h2=>?_,λ _=>hr.hd,Around.frames_deeper e0.frames,.inr ⟨rfl,rfl⟩,λ b z=>absurd z (noA b),e0.bs,e0.bsz,λ b _ _=>noA b,λ b z=>absurd z (noA b),e0.funs,e0.frf⟩,
   rfl,⟨e0.bare,Nat.le_refl _⟩,Un.kept hk,⟨_,hns,λ i y v h1 h2 h3=>?_⟩,λ y c h=>?_,e0.hok.fresh (Nat.le_refl _),λ y c h=>?_,λ p hp=>absurd (show p∈([]:Qj)from hp) Qb,e0.hok.kept hk,(List.length_map _).trans hl⟩
  ·have hy:scope.names.lookup y=some .cell\/scope.names.lookup y=some .free:=hy
   rcases hy with hy|hy
   ·exact absurd rfl (S.cell _ (PySem.mem_of_lookup hy))
   ·have e:=S.free _ (PySem.mem_of_lookup hy) rfl
    exact⟨cc,by show List.lookup y [(("__class__" :Str),cc)]=some cc;rw[show y= "__class__" from e];rfl⟩
  ·have h1':(y != "__class__")=true:=h1
   rw[(cellL y c h2).1]at h1'
   simp at h1'
  ·have h2':(vs.map some)[i]? =some (some v):=h2
   rw[List.getElem?_map]at h2'
   obtain⟨v',hv,e⟩:=Option.map_eq_some_iff.mp h2'
   cases e
   obtain⟨u,hu,rv⟩:=r.get hv
   have h1':ps[i]? =some y:=h1
   refine⟨u,rv,.inl ⟨S.loc y (List.mem_of_getElem? h1'),?_⟩⟩
   exact Dw ndz (List.mem_reverse.mpr (List.mem_iff_getElem?.mpr ⟨i,by rw[List.getElem?_zip_eq_some];exact⟨h1',hu⟩⟩))
  ·rw[(cellL y c h).2]
   exact⟨_,_,hk _ _ (kb _ _ cb),rfl⟩
  ·rw[(cellL y c h).2]
   exact(e0.bs _ _ cb).2
 refine ks_wpAt_mono (hbody A outer s _ H vs Q E (hr.deeper _) hsp I) (λ fl s' hs=>?_) (λ _ _ (z:False)=>z.elim)
 have fin:∀{σ':St} {H':Hp} {v:V} {u:Value},aB (jP P w K mg base ps qual scope f (.ref cda) cc A outer s H) [] σ' H' s'->bE v u->Q v H'->CE outer P w H s Q u s':=
  fun{σ' H' v u} J rv q=>⟨v,H',J.os,J.bare,J.base,J.hok,rv,q⟩
 cases fl with
 |ret u=>
  obtain⟨v,σ',H',J,rv,q⟩:=hs
  exact fin J rv q
 |next=>
  obtain⟨σ',H',J,q⟩:=hs
  exact fin (v:=V.non) (u:=Value.none) J rfl q
 |brk=>
  obtain⟨_,_,_,q⟩:=hs
  exact False.elim q
 |cont=>
  obtain⟨_,_,_,q⟩:=hs
  exact False.elim q
end
def qH(K:Frag)(C:Addr):Bool:=(clsIn K C).isSome&&mroIn K C (.ref C)==some true&&mroIn K C (.type "ValueError")==some true&&ks_superIn K C C "__init__" ==some (some (.builtin veInit))&&nsIn K cStatics "thirdparty.any" ==some none
section
variable{P:Program}{w:World}{K:Qf}{mg:Qk}{base:Heap}{f cc C cda e:Addr}{qual:Str}{scope:Scope}{ps:List Str}{A:Around}{outer:List Env}{s₀ s:Shared}{H₀ H:Hp}{σ:St}{body:List Stmt}{arg:Expr}{t:TA}{p0 p1 p2 p3 p4:Pos}
 {fd:FuncData} {ar:Arg} {vs:Array Value} {file:Str} {tf:Tok} {oc ccl cl:Value} {od cdd cld:Option Addr} {osl ccs csl:Array (Option Value)} {D:iJ}
theorem kD(lk:K.lookup f=some ⟨oc,od,.func fd,osl⟩)(hp:(fd.params.posonlyargs++fd.params.args).head? =some ar)(hi:ps[0]? =some ar.arg)
  (lcode:K.lookup cda=some ⟨ccl,cdd,.fields vs,ccs⟩) (hvs:(vs[2]?:Option Value)=some (.str file tf)) (hfile:((P.main.file:Str)==file)=true) (lc:K.lookup cc=some ⟨cl,cld,.cell (some (.ref C)),csl⟩)
  (hsup:mg "super" =none) (htop:(P.main.scope.names.lookup ("super" :Str)).isSome=false) (hks:scope.names.lookup ("super" :Str)=some .globalImplicit) (hkc:scope.names.lookup ("__class__" :Str)=some .free) (hka:scope.names.lookup ar.arg=some .local)
  (xc:qH K C=true) (ha:PA (jP P w K mg base ps qual scope f (.ref cda) cc A outer s₀ H₀) [arg] t)
  (I:aB (jP P w K mg base ps qual scope f (.ref cda) cc A outer s₀ H₀) [] σ H s) (h0:σ[0]? =some (some (.ref e))) (he:H e=some (cH e C none))
  (q:t σ H λ us H1=>us.length=1/\H1 e=some (cH e C none)/\D.nx σ H1)
  {pl:Sem Bool} (hev:eval (.Call (.Attribute (.Call (.Name "super" p0) [] [] p1) "__init__" p2) [arg] [] p3) (ksEnv qual scope s₀.heap.objs.size f (.ref cda) cc)=(do
   let ov<-attributeBase (.Call (.Name "super" p0) [] [] p1) "__init__" (ksEnv qual scope s₀.heap.objs.size f (.ref cda) cc) (eval (.Call (.Name "super" p0) [] [] p1) (ksEnv qual scope s₀.heap.objs.size f (.ref cda) cc))
   standAt p2.atName
   let(gm,fst)<-holding [ov] (getMethod ov "__init__" pl)
   callWith p3 gm fst (backTo p3 (starEach [arg] (ksEnv qual scope s₀.heap.objs.size f (.ref cda) cc))) [])) (hsw:swapsWith (.Call (.Attribute (.Call (.Name "super" p0) [] [] p1) "__init__" p2) [arg] [] p3) none p4.line (ksEnv qual scope s₀.heap.objs.size f (.ref cda) cc)=pure false)
  (hpl:starEach [arg] (ksEnv qual scope s₀.heap.objs.size f (.ref cda) cc)=[(false,eval arg (ksEnv qual scope s₀.heap.objs.size f (.ref cda) cc))]):
  PySem.wpAt (model P w) (A.deeper (ksEnv qual scope s₀.heap.objs.size f (.ref cda) cc)) (.func body (ksEnv qual scope s₀.heap.objs.size f (.ref cda) cc))
   (exec (.Expr (.Call (.Attribute (.Call (.Name "super" p0) [] [] p1) "__init__" p2) [arg] [] p3) p4) (ksEnv qual scope s₀.heap.objs.size f (.ref cda) cc))
   (SP (jP P w K mg base ps qual scope f (.ref cda) cc A outer s₀ H₀) [] D) (λ _ _=>False) s:=by
 unfold qH at xc
 simp only[Bool.and_eq_true,beq_iff_eq]at xc
 obtain⟨⟨⟨⟨x1,x2⟩,x3⟩,x4⟩,x5⟩:=xc
 obtain⟨cd,hcd⟩:=Option.isSome_iff_exists.mp x1
 have KX:K.In s.heap:=I.kIn
 have kind:scope.kind= .function:=I.ok.kind
 obtain⟨m,hns,hl⟩:=id I.loc
 obtain⟨u,ru,lu⟩:=hl 0 _ _ hi h0 (.inl hka)
 have hm:m ar.arg=some (.ref e):=by
  obtain rfl:u= .ref e:=ru
  rcases lu with⟨_,z⟩|⟨z,_⟩
  ·exact z
  ·have z':scope.names.lookup ar.arg=some .cell\/scope.names.lookup ar.arg=some .free:=z
   rw[hka]at z'
   rcases z' with z'|z'<;>cases z'
 obtain⟨ve,oe,fe⟩:=I.hok.exn he
 obtain⟨oD,hD1,hD2⟩:∃oD,s.heap.get? C=some oD/\oD.data= .cls cd:=by
  unfold clsIn at hcd
  split at hcd
  ·rename_i ho
   cases hcd
   exact⟨_,KX _ _ ho,rfl⟩
  ·cases hcd
 have neC:e≠C:=λ z=>by
  rw[z]at oe
  rw[hD1]at oe
  cases oe
  cases hD2
 obtain⟨mb,hb1,hb2⟩:=I.mod.blt
 have bk:=I.bk
 refine ks_wpAt_Expr_any (ks_wpAt_MethodCall (ks_wpAt_super_base (env:=ksEnv qual scope s₀.heap.objs.size f (.ref cda) cc) hks hkc Qc rfl (KX _ _ lk) rfl hp rfl (KX _ _ lcode) rfl hvs hfile htop ?_) hev) (by simp[interactive,kind]) hsw
 refine ks_loadName_global kind hks (PySem.Calls.loadGlobal_builtin (env:=ksEnv qual scope s₀.heap.objs.size f (.ref cda) cc) (I.mod.glob.keeps bk) hsup (hb1.keeps bk) ((hb2 _ Qc).trans Qd) ⟨rfl,?_⟩)
 refine wpAny_loadName_free kind hkc rfl ⟨_,KX _ _ lc,rfl⟩ ?_
 refine wpAny_loadName_local kind hka hns hm ?_
 obtain⟨hh,g,dr,tk,os⟩:=s
 refine ks_wpAny_isType_cls hD1 hD2 ⟨rfl,?_⟩
 refine ks_wpAny_call_super hD1 hD2 oe rfl (λ c z=>by cases z) (looks_mroIn KX x2) λ h1 so k1=>?_
 have I1:=I.kept (t':=tk) k1
 have X1:K.In h1:=I1.kIn
 have L1:Looks (model P w) h1 (mroOf (.ref C)) cd.mro:=(looks_clsIn X1 hcd).andThen .now
 have hsp:alongIn K "__init__" ((cd.mro.dropWhile (· != .ref C)).drop 1)=some (some (.builtin veInit)):=by
  unfold ks_superIn at x4
  rw[hcd]at x4
  exact x4
 refine Hn so (looks_opaque X1 x5) L1 rfl X1 hsp (k1 _ _ oe) rfl x3 neC ?_
 have I2:=I1.kept (h':=h1.push (gC e)) (t':=tk+1) λ b o z=>Heap.get?_push_of_some _ z
 have mwg:(h1.push (gC e)).get? h1.objs.size=some (gC e):=Heap.get?_push_size _ rfl
 have I3:=I2.pins_of (pins':=[(h1.objs.size,gC e)]) λ p hp=>by
  rw[show p=(h1.objs.size,gC e) by simpa using hp]
  exact⟨mwg,I1.hok.fresh (Nat.le_refl _),λ z=>absurd I1.lt (by rw[<-z];exact Nat.lt_irrefl _),I1.nofs (Nat.le_refl _),λ v z=>by cases z⟩
 show wpAny _ _ (callWith p3 (.ref h1.objs.size) [] (backTo p3 (starEach [arg] _)) []) _ _ _
 refine callWith_of (P:=λ hp=>hp.get? h1.objs.size=some (gC e)) (by rw[hpl];rfl) (λ hp z=>⟨.machine,.inr (.inl rfl),(Looks.ld (part:=none) z).andThen .now⟩) ?_
 have hpa:=ha p3 [(h1.objs.size,gC e)] _ σ H _ I3 q
 rw[show starEach [arg] (jP P w K mg base ps qual scope f (.ref cda) cc A outer s₀ H₀).env=_ from hpl]at hpa
 rw[hpl]
 refine PySem.Calls.evalArgs_plain (wpAny_mono hpa (λ us s4 ⟨vs4,H4,I4,r4,hl4,he4,hn4⟩=>?_) (λ _ _ (z:False)=>z.elim))
 have pin4:=(I4.pin (h1.objs.size,gC e) Qb).1
 refine⟨pin4,?_⟩
 obtain⟨ve4,oe4,fe4⟩:=I4.hok.exn he4
 have sz:1<ve4.size:=(Array.getElem?_eq_some_iff.mp fe4).1
 match us,r4 with
 |[u4],_=>
  refine Tq I4.kIn x1 pin4 oe4 (Array.getElem?_eq_getElem (Nat.lt_of_succ_lt sz)) λ h5 k5 e5=>?_
  have I5:=I4.write (x:=e) (e:=e) (h':=h5) (t':=s4.toks) (o:=cH e C none) (by rw[he4];trivial) (.inl rfl) k5 ⟨_,e5⟩ (cH.ok e5 (by rw[Array.getElem?_setIfInBounds_ne Qc];exact fe4))
  rw[rB he4]at I5
  exact⟨σ,H4,I5.pins_of (λ p hp=>absurd hp Qb),hn4⟩
 |[],.nil=>exact absurd hl4 Qb
 |_::_::_,.cons _ (.cons _ _)=>exact absurd hl4 Qb
end
def sU:List Value->Bool
 |.ref _::r=>sU r
 |l=>l==dE
theorem Ci(self:Value):∀{l:List Value},sU l=true->refuseLoop self "__setattr__" l=pure ()
 |.ref c::r,e=>by rw[refuseLoop_ref];exact Ci self (l:=r) e
 |[],e=>by cases e
 |.type n::r,e=>by rw[show(Value.type n::r)=dE from beq_iff_eq.mp e];exact PySem.F.store_ValueError.passes self
 |.none::r,e=>by cases(beq_iff_eq.mp (show((Value.none::r)==dE)=true from e))
 |.bool _::r,e=>by cases(beq_iff_eq.mp (show((Value.bool _::r)==dE)=true from e))
 |.int _ _::r,e=>by cases(beq_iff_eq.mp (show((Value.int _ _::r)==dE)=true from e))
 |.float _ _::r,e=>by cases(beq_iff_eq.mp (show((Value.float _ _::r)==dE)=true from e))
 |.str _ _::r,e=>by cases(beq_iff_eq.mp (show((Value.str _ _::r)==dE)=true from e))
 |.bytes _ _::r,e=>by cases(beq_iff_eq.mp (show((Value.bytes _ _::r)==dE)=true from e))
 |.builtin _::r,e=>by cases(beq_iff_eq.mp (show((Value.builtin _::r)==dE)=true from e))
 |.ellipsis::r,e=>by cases(beq_iff_eq.mp (show((Value.ellipsis::r)==dE)=true from e))
 |.notImplemented::r,e=>by cases(beq_iff_eq.mp (show((Value.notImplemented::r)==dE)=true from e))
theorem Ap:∀{l:List Value},sU l=true->l.contains (.type "object")=true
 |.ref c::r,e=>by rw[List.contains_cons,Ap (l:=r) e,Bool.or_true]
 |[],e=>by cases e
 |.type n::r,e=>by rw[show(Value.type n::r)=dE from beq_iff_eq.mp e];rfl
 |.none::r,e=>by cases(beq_iff_eq.mp (show((Value.none::r)==dE)=true from e))
 |.bool _::r,e=>by cases(beq_iff_eq.mp (show((Value.bool _::r)==dE)=true from e))
 |.int _ _::r,e=>by cases(beq_iff_eq.mp (show((Value.int _ _::r)==dE)=true from e))
 |.float _ _::r,e=>by cases(beq_iff_eq.mp (show((Value.float _ _::r)==dE)=true from e))
 |.str _ _::r,e=>by cases(beq_iff_eq.mp (show((Value.str _ _::r)==dE)=true from e))
 |.bytes _ _::r,e=>by cases(beq_iff_eq.mp (show((Value.bytes _ _::r)==dE)=true from e))
 |.builtin _::r,e=>by cases(beq_iff_eq.mp (show((Value.builtin _::r)==dE)=true from e))
 |.ellipsis::r,e=>by cases(beq_iff_eq.mp (show((Value.ellipsis::r)==dE)=true from e))
 |.notImplemented::r,e=>by cases(beq_iff_eq.mp (show((Value.notImplemented::r)==dE)=true from e))
def cL(K:Frag)(C:Addr)(f:Str):Bool:=findIn K (.ref C) "__setattr__" ==some (some (.builtin "object.__setattr__"))&&findIn K (.ref C) "__getattribute__" ==some (some (.builtin "BaseException.__getattribute__"))&&findIn K (.ref C) "__getattr__" ==some none&&
  findIn K (.ref C) f==some none&&(clsIn K C).any (λ cd=>sU cd.mro&&cd.hasDict)&&mroIn K C (.type "BaseException")==some true
section
variable{prog:Program}{w:World}{A:Around}{E:Qh}{s:Shared}{K:Frag}{e C:Addr}{vs:Array Value}{f:Str}{v:Value}
theorem Bg{dx:Option Addr}{od:Option Obj}{Q:Unit->Shared->Prop}(X:K.In s.heap)(J:InstAt s.heap e (bP C dx vs) C od)(hk:cL K C f=true)
  (h:∀(b:Bool) (tk:Tok),wpAny Qi A.in1 (Builtin.ObjectAttr.storeInOwnDict (.ref e) (.ref C) (.str f tk) f v b) (λ fin s'=>fin= .done (.ret .none)/\Q () s') (λ _ _=>False) {s with toks:=s.toks+1}):
  wpAny Qi A (setAttr (.ref e) f v) Q E s:=by
 unfold cL at hk
 simp only[Bool.and_eq_true,beq_iff_eq]at hk
 obtain⟨⟨⟨⟨⟨k1,k2⟩,k3⟩,k4⟩,k5⟩,k6⟩:=hk
 obtain⟨cd,hc,ho⟩:=any_some k5
 rw[Bool.and_eq_true]at ho
 have SF:=PySem.F.store_ValueError
 have ne:cd.mro.isEmpty=false:=by cases q:cd.mro with|nil=>rw[q]at ho;cases ho.1|cons _ _=>rfl
 have X1:K.In ({s with toks:=s.toks+1}:Shared).heap:=X
 have J1:InstAt ({s with toks:=s.toks+1}:Shared).heap e (bP C dx vs) C od:=J
 have sub:Looks Qi s.heap (isInstance (.ref e) (.type "object")) true:=J.type.andThen (looks_mroIn X (by unfold mroIn;rw[hc,Option.bind_some,if_neg (by rw[ne];decide),Ap ho.1]))
 have hm:Looks Qi s.heap (mroOf (.ref C)) cd.mro:=(looks_clsIn X hc).andThen .now
 refine set_plain X J k1 (codeAny_call_builtin SF.slot.plain SF.entry (@check_slot Qi _ _ {s with toks:=s.toks+1} "object.__setattr__" "object" "__setattr__" (.ref e) [.str f s.toks,v] [] _ SF.kind SF.split sub (SF.args _ _ _) ?_))
 rw[osa_eq,refuse_eq]
 refine wpAny_bind (wpAny_bind (J1.type.here (wpAny_bind (Looks.here (s:={s with toks:=s.toks+1}) hm ?_))))
 rw[Ci _ ho.1]
 refine wpAny_pure (wpAny_bind (J1.type.here (wpAny_bind ((looks_findIn X1 k4).here (wpAny_bind (Looks.here (s:={s with toks:=s.toks+1}) (r:=none) .now ?_))))))
 refine wpAny_mono (h false s.toks) (λ fin s' z=>?_) (λ _ _ (z:False)=>z.elim)
 obtain⟨rfl,z⟩:=z
 exact z
theorem Ls{Q:Unit->Shared->Prop}(X:K.In s.heap)(he:s.heap.get? e=some (bP C none vs))(hk:cL K C f=true)
  (h:∀h' tk,h'.get? e=some (bP C (some s.heap.objs.size) vs)->h'.Ns1 s.heap.objs.size (λ y=>if y=f then some v else none)->(∀b o,b≠e->s.heap.get? b=some o->h'.get? b=some o)->Q () {s with heap:=h',toks:=tk}):
  wpAny Qi A (setAttr (.ref e) f v) Q E s:=by
 have J:InstAt s.heap e (bP C none vs) C none:=⟨he,rfl,rfl,trivial⟩
 refine Bg X J hk λ b tk=>?_
 unfold cL at hk
 simp only[Bool.and_eq_true,beq_iff_eq]at hk
 obtain⟨cd,hc,ho⟩:=any_some hk.1.2
 rw[Bool.and_eq_true]at ho
 obtain⟨hh,g,dr,t,os⟩:=s
 have L:=looks_clsIn (M:=model prog w) X hc
 have hxs:e≠hh.objs.size:=Nat.ne_of_lt (Heap.lt_size he)
 have he1:(hh.push {cls:=.type "dict",data:=.dict #[]}).get? e=some (bP C none vs):=Heap.get?_push_of_some _ he
 refine wpAny_bind (wpAny_pure (wpAny_bind (wpAny_bind (wpAny_loadPart he (wpAny_bind (L.at ?_))))))
 rw[ho.2]
 refine wpAny_bind (wpAny_alloc' (wpAny_bind (wpAny_update' he1 (wpAny_pure ?_))))
 have gd:((hh.push {cls:=.type "dict",data:=.dict #[]}).update e λ o=>{cls:=o.cls,dict:=some hh.objs.size,data:=o.data,slots:=o.slots}).get? hh.objs.size=some {cls:=.type "dict",data:=.dict #[]}:=
  (Heap.get?_update_ne _ _ _ _ hxs.symm).trans (Heap.get?_push_at rfl rfl)
 have ge:((hh.push {cls:=.type "dict",data:=.dict #[]}).update e λ o=>{cls:=o.cls,dict:=some hh.objs.size,data:=o.data,slots:=o.slots}).get? e=some (bP C (some hh.objs.size) vs):=Heap.get?_update_self _ he1 rfl
 have nd:((hh.push {cls:=.type "dict",data:=.dict #[]}).update e λ o=>{cls:=o.cls,dict:=some hh.objs.size,data:=o.data,slots:=o.slots}).Ns hh.objs.size (λ _=>none):=⟨_,#[],_,gd,rfl,λ z hz=>absurd hz Qb,λ _=>rfl⟩
 show wpAny _ _ (Builtin.ObjectAttr.storeInDict hh.objs.size (.str f tk) f v) _ _ _
 refine wpAny_bind (wpAny_pure (wpAny_bind (wpAny_nsSet1 (Heap.Ns1.of_empty nd) λ h' hn sb=>?_)))
 obtain⟨oD,esD,epD,hoD,hdD,hcD⟩:=hn.count (PySem.Within.cons f v PySem.Within.nil)
 refine wpAny_bind (wpAny_lookBehind hoD (by rw[hdD];exact pastItsLine_dict (Nat.le_trans hcD (by rw[List.length_cons,List.length_nil,sizeLine_eq];omega))) (wpAny_pure ⟨rfl,h h' _ ((sb.2 e hxs).trans ge) hn λ b o hb q=>?_⟩))
 exact(sb.2 b (Nat.ne_of_lt (Heap.lt_size q))).trans ((Heap.get?_update_ne _ _ _ _ hb).trans (Heap.get?_push_of_some _ q))
theorem Lr{d:Addr}{mA:Qk}{ns:List Str}{Q:Unit->Shared->Prop}(X:K.In s.heap)(he:s.heap.get? e=some (bP C (some d) vs))(hn:s.heap.Ns1 d mA)(hw:PySem.Within mA ns)(hs:ns.length<=1000)(hk:cL K C f=true)
  (h:∀h' tk,h'.Ns1 d (λ y=>if y=f then some v else mA y)->Heap.SameBut d s.heap h'->Q () {s with heap:=h',toks:=tk}):wpAny Qi A (setAttr (.ref e) f v) Q E s:=by
 obtain⟨od,hod,hl⟩:=tH hn
 have J:InstAt s.heap e (bP C (some d) vs) C (some od):=⟨he,rfl,rfl,hod⟩
 refine Bg X J hk λ b tk=>?_
 unfold cL at hk
 simp only[Bool.and_eq_true,beq_iff_eq]at hk
 obtain⟨cd,hc,ho⟩:=any_some hk.1.2
 rw[Bool.and_eq_true]at ho
 obtain⟨hh,g,dr,t,os⟩:=s
 have L:=looks_clsIn (M:=model prog w) X hc
 refine wpAny_bind (wpAny_pure (wpAny_bind (wpAny_bind (wpAny_loadPart he (wpAny_bind (L.at ?_))))))
 rw[ho.2]
 refine wpAny_pure (a:=some d) ?_
 show wpAny _ _ (Builtin.ObjectAttr.storeInDict d (.str f tk) f v) _ _ _
 refine wpAny_bind (wpAny_pure (wpAny_bind (wpAny_nsSet1 (s:=⟨hh,g,dr,t+1,os⟩) hn λ h' hn' sb=>?_)))
 obtain⟨oD,esD,epD,hoD,hdD,hcD⟩:=hn'.count (PySem.Within.cons f v hw)
 exact wpAny_bind (wpAny_lookBehind hoD (by rw[hdD];exact pastItsLine_dict (Nat.le_trans hcD (by rw[List.length_cons,sizeLine_eq];omega))) (wpAny_pure ⟨rfl,h h' _ hn' sb⟩))
theorem Vb{d:Addr}{mA:Str→Option Value}{expr:Bool}{Q:Value→Shared→Prop}(X:K.In s.heap)(he:s.heap.get? e=some (bP C (some d) vs))(hn:s.heap.Ns1 d mA)(hk:cL K C f=true)(hv:mA f=some v)(hh':handedIn v=true)
    (hq:Q v {s with toks:=s.toks+1}):wpAny Qi A (getAttr (.ref e) f expr) Q E s:=by
  obtain⟨od,hod,hl⟩:=tH hn
  have J:InstAt s.heap e (bP C (some d) vs) C (some od):=⟨he,rfl,rfl,hod⟩
  unfold cL at hk
  simp only[Bool.and_eq_true,beq_iff_eq]at hk
  obtain⟨⟨⟨⟨⟨k1,k2⟩,k3⟩,k4⟩,k5⟩,k6⟩:=hk
  obtain⟨cd,hc,ho⟩:=any_some k5
  rw[Bool.and_eq_true]at ho
  have hfo:findObj K C (some od) f=some (.value v):=findObj_own (by unfold hasDictIn;rw[hc];exact ho.2) k4 rfl (by rw[hl,hv])
  obtain⟨hh,g,dr,t,os⟩:=s
  have T:=J.type (M:=model prog w)
  have L1:=looks_findIn (M:=model prog w) X k2
  have L2:=looks_findIn (M:=model prog w) X k3
  have L3:=looks_find (M:=model prog w) X J hfo
  have FB:=PySem.F.attr_ValueError
  have f3:=FB.ga.bind (.ref e)
  have hx0:(expr&&onTheHeap (Value.builtin "BaseException.__getattribute__"))=false:=by cases expr<;>rfl
  unfold getAttr getAttrBy
  refine wpAny_bind (wpAny_mkText (wpAny_holding (wpAny_bind (T.at (wpAny_bind (L1.at ?_))))))
  show wpAny _ _ (getAttrByItsOwn (.ref e) (.str f t) (.ref C) (.builtin "BaseException.__getattribute__") true expr) _ _ _
  unfold getAttrByItsOwn hookBefore;unfold callGetattribute boundAndCalled
  refine wpAny_bind (L2.at (wpAny_bind (wpAny_attempt (wpAny_holding ?_))))
  rw[hx0]
  show wpAny _ _ (bindSpecial (.builtin "BaseException.__getattribute__") (.ref e)>>=_) _ _ _
  refine wpAny_bind (wpAny_of_eq f3 ?_)
  refine wpAny_mono (Q:=λ u s'=>u=v∧s'=⟨hh,g,dr,t+1,os⟩) (E:=λ _ _=>False) (wpAny_call (codeAny_call_builtin FB.ga.plain PySem.F.entry_bexc_ga (@check_slot Qi _ _ ⟨hh,g,dr,t+1,os⟩ "BaseException.__getattribute__" "BaseException" "__getattribute__" (.ref e) [.str f t] [] _ Qd Qd
    (T.andThen (looks_mroIn X k6)) (PySem.F.args_bexc_ga _ _) ?_))) (λ u s' hu=>?_) λ _ _ z=>z.elim
  · unfold Builtin.«object.__getattribute__»
    repeat (first|(with_reducible refine Looks.at T ?_)|(with_reducible refine Looks.at L3 ?_)|wp_step)
    all_goals exact⟨rfl,rfl⟩
  · obtain⟨rfl,rfl⟩:=hu
    show wpAny _ _ (handedOut u) _ _ _
    rw[handedOut_of hh']
    exact wpAny_pure hq
end
def Kj(K:Frag)(ta:TE)(f:Str):TE:=λ σ H Q=>ta σ H λ x H1=>∃e C d fs v,x= .ref e/\H1 e=some (bZ e C (some d))/\H1 d=some (.xd fs)/\cL K C f=true/\fs.lookup f=some v/\Q v H1
def Nh(K:Frag)(ta tv:TE)(f:Str):TS:=λ D σ H=>tv σ H λ y H1=>ta σ H1 λ x H2=>∃e C,x= .ref e∧cL K C f=true∧
  ((H2 e=some (cH e C none)∧∀d,H2 d=none→D.nx σ (aA (aA H2 d (.xd [(f,y)])) e (cH e C (some d))))∨
   ∃d fs,H2 e=some (cH e C (some d))∧H2 d=some (.xd fs)∧fs.length<1000∧D.nx σ (aA H2 d (.xd (pN f y fs))))
section
variable{X:Cx}{o value:Expr}{f:Str}{pos pos':Pos}{ta tv:TE}
theorem kO(he:PE X o ta)(hb:attributeBase o f X.env (eval o X.env)=eval o X.env:=by rfl):PE X (.Attribute o f pos) (Kj X.K ta f):=by
 intro pins s σ H Q I h
 refine CI hb (aU (he pins s σ H _ I h) λ u s1 ⟨x,H1,I1,rx,e,C,d,fs,v,ex,e1,e2,k,l,q⟩=>?_)
 subst ex
 obtain rfl:u=Value.ref e:=rx
 obtain⟨vs,oe⟩:=I1.hok.exc e1
 obtain⟨mA,hn,r⟩:=I1.hok d _ e2
 obtain⟨y,hy,ry⟩:∃y,mA f=some y/\bE v y:=by
  have:=r f
  rw[l]at this
  cases z:mA f with
  |none=>rw[z]at this;exact this.elim
  |some y=>rw[z]at this;exact⟨y,rfl,this⟩
 exact Vb I1.kIn oe hn k hy (Xw ry) ⟨v,H1,I1.tok _,ry,q⟩
theorem aB.firstX{pins:Qj}{σ:St}{H:Hp}{s:Shared}{h':Heap}{t':Nat}{e C:Addr}{vs:Array Value}{fs:List (Str×V)}{mA:Qk}(I:aB X pins σ H s)(he:H e=some (cH e C none))(q:h'.get? e=some (bP C (some s.heap.objs.size) vs))(q1:(vs[1]?:Option Value)=some .none)
  (hn:h'.Ns1 s.heap.objs.size mA) (r:∀f,oC (fs.lookup f) (mA f)) (k:∀b o,b≠e->s.heap.get? b=some o->h'.get? b=some o):
  aB X pins σ (aA (aA H s.heap.objs.size (.xd fs)) e (cH e C (some s.heap.objs.size))) {s with heap:=h',toks:=t'}:=by
 obtain⟨_,oe,_⟩:=I.hok.exn he
 have ne:s.heap.objs.size≠e:=Nat.ne_of_gt (Heap.lt_size oe)
 have nd:∀{b o},s.heap.get? b=some o->b≠s.heap.objs.size:=λ z=>Nat.ne_of_lt (Heap.lt_size z)
 have fr:H s.heap.objs.size=none:=I.hok.fresh (Nat.le_refl _)
 have kH:∀b u,H b=some u->b≠e->aA (aA H s.heap.objs.size (.xd fs)) e (cH e C (some s.heap.objs.size)) b=some u:=λ b u z n=>by
  rw[aR n,aR (λ y=>by rw[y,fr]at z;cases z)];exact z
 have tn:∀b u,H b=some u->u≠cH e C none->b≠e:=λ b u z n y=>by rw[y,he]at z;exact n (Option.some.inj z).symm
 refine I.un ⟨λ b o z n _ _=>k b o (λ y=>by rw[y,he]at n;cases n) z,λ b o z n _ _=>⟨o.slots,k b o (λ y=>by rw[y,he]at n;cases n) z⟩,λ b o z n _=>?_,λ b o z _=>?_,λ b xs z=>kH b _ z (tn b _ z λ y=>by cases y),λ b o u z=>kH b _ z (tn b _ z λ y=>by cases y),λ b ps z=>⟨#[],by rw[kH b _ z (tn b _ z λ y=>by cases y)];simp⟩⟩ λ b u z=>?_
 ·rw[aR (λ y=>by rw[y,he]at n;cases n),aR (nd z)];exact n
 ·by_cases hb:b=e
  ·exact⟨_,hb▸q⟩
  ·exact⟨o,k b o hb z⟩
 ·by_cases hb:b=e
  ·subst hb
   rw[aP]at z
   cases z
   exact cH.ok q q1
  ·rw[aR hb]at z
   by_cases hd:b=s.heap.objs.size
   ·subst hd
    rw[aP]at z
    cases z
    exact⟨mA,hn,r⟩
   ·rw[aR hd]at z
    refine(I.hok b u z).stay (λ c v hc y=>k c v (λ x=>?_) y) (λ c y=>kH c _ y (tn c _ y λ x=>by cases x)) (λ c xs y=>kH c _ y (tn c _ y λ x=>by cases x))
    subst x
    rcases hc with x|x
    ·exact hb x.symm
    ·rw[he]at x;cases x
theorem aB.nextX{pins:Qj}{σ:St}{H:Hp}{s:Shared}{h':Heap}{t':Nat}{d:Addr}{fs fs':List (Str×V)}{mA:Qk}(I:aB X pins σ H s)(he:H d=some (.xd fs))(sb:Heap.SameBut d s.heap h')(hn:h'.Ns1 d mA)(r:∀f,oC (fs'.lookup f) (mA f)):
  aB X pins σ (aA H d (.xd fs')) {s with heap:=h',toks:=t'}:=by
 have k:∀b o,b≠d->s.heap.get? b=some o->h'.get? b=some o:=λ b o n z=>(sb.2 b n).trans z
 have tn:∀b u,H b=some u->u≠ .xd fs->b≠d:=λ b u z n y=>by rw[y,he]at z;exact n (Option.some.inj z).symm
 have kH:∀b u,H b=some u->b≠d->aA H d (.xd fs') b=some u:=λ b u z n=>by rw[aR n];exact z
 refine I.un ⟨λ b o z n _ _=>k b o (λ y=>by rw[y,he]at n;cases n) z,λ b o z n _ _=>⟨o.slots,k b o (λ y=>by rw[y,he]at n;cases n) z⟩,λ b o z n _=>by rw[aR (λ y=>by rw[y,he]at n;cases n)];exact n,λ b o z _=>?_,λ b xs z=>kH b _ z (tn b _ z λ y=>by cases y),λ b o u z=>kH b _ z (tn b _ z λ y=>by cases y),λ b ps z=>⟨#[],by rw[kH b _ z (tn b _ z λ y=>by cases y)];simp⟩⟩ λ b u z=>?_
 ·by_cases hb:b=d
  ·obtain⟨o,_,_,z,_⟩:=hn
   exact⟨_,hb▸z⟩
  ·exact⟨o,k b o hb z⟩
 ·by_cases hb:b=d
  ·subst hb
   rw[aP]at z
   cases z
   exact⟨mA,hn,r⟩
  ·rw[aR hb]at z
   refine(I.hok b u z).stay (λ c v hc y=>k c v (λ x=>?_) y) (λ c y=>kH c _ y (tn c _ y λ x=>by cases x)) (λ c xs y=>kH c _ y (tn c _ y λ x=>by cases x))
   subst x
   rcases hc with x|x
   ·exact hb x.symm
   ·rw[he]at x;cases x
theorem gK(ha:PE X o ta)(hv:PE X value tv)(hs:swapsWith value (some (.Attribute o f pos')) pos.line X.env=pure false:=by rfl):PS X (.Assign [.Attribute o f pos'] value pos) (Nh X.K ta tv f):=by
 intro pins s σ H D I h
 refine plainObj_wpAny_Assign_Attribute (aU (hv pins s σ H _ I h) λ u s1 ⟨y,H1,I1,ry,q⟩=>aU (ha pins s1 σ H1 _ I1 q) λ ov s2 ⟨x,H2,I2,rx,e,C,ex,k,q2⟩=>?_) hs
 subst ex
 obtain rfl:ov=Value.ref e:=rx
 rcases q2 with⟨e1,q2⟩|⟨d,fs,e1,e2,hl,q2⟩
 ·obtain⟨vs,oe,f1⟩:=I2.hok.exn e1
  refine Ls I2.kIn oe k λ h' tk z1 z2 z3=>⟨σ,_,I2.firstX e1 z1 f1 z2 (λ g=>?_) z3,q2 _ (I2.hok.fresh (Nat.le_refl _))⟩
  show oC (List.lookup g [(f,y)]) (if g=f then some u else none)
  rw[List.lookup_cons]
  by_cases hg:g=f
  ·rw[if_pos hg,show(g==f)=true by simp[hg]];exact ry
  ·rw[if_neg hg,show(g==f)=false by simp[hg]];trivial
 ·obtain⟨vs,oe,f1⟩:=I2.hok.exn e1
  obtain⟨mA,hn,r⟩:=I2.hok d _ e2
  refine Lr (ns:=fs.map (·.1)) I2.kIn oe hn (λ g hg=>?_) (by rw[List.length_map];exact Nat.le_of_lt hl) k λ h' tk z1 z2=>⟨σ,_,I2.nextX e2 z2 z1 (λ g=>?_),q2⟩
  ·have:=r g
   cases z:fs.lookup g with
   |none=>rw[z]at this;cases z':mA g with|none=>exact absurd z' hg|some _=>rw[z']at this;exact this.elim
   |some v=>exact List.mem_map.mpr ⟨(g,v),PySem.mem_of_lookup z,rfl⟩
  ·rw[Dv]
   by_cases hg:g=f
   ·rw[if_pos hg,if_pos hg];exact ry
   ·rw[if_neg hg,if_neg hg];exact r g
end
def nP(K:Frag)(C:Addr):Bool:=findIn K (.ref C) "__getattribute__" ==some (some (.builtin "BaseException.__getattribute__"))&&findIn K (.ref C) "__getattr__" ==some none&&findIn K (.ref C) "__class__" ==some (some (.builtin "object.__class__"))&&
  specialIn K (.builtin "object.__class__") "__get__" ==some (some (.builtin "getset_descriptor.__get__"))&&takesIn K (.builtin "object.__class__")==some true&&mroIn K C (.type "object")==some true&&mroIn K C (.type "BaseException")==some true&&(clsIn K C).isSome
section
variable{K:Frag}{e C d:Addr}
theorem Vl(hk:nP K C=true):KitX K (.ref e) (.ref C) (λ h=>∃vs od,InstAt h e (bP C (some d) vs) C (some od)):=by
  unfold nP at hk
  simp only[Bool.and_eq_true,beq_iff_eq]at hk
  obtain⟨⟨⟨⟨⟨⟨⟨k1,k2⟩,k3⟩,k4⟩,k5⟩,k6⟩,k7⟩,k8⟩:=hk
  obtain⟨cd,hc⟩:=Option.isSome_iff_exists.mp k8
  have cls:∀{h:Heap},K.In h→∃oD,h.get? C=some oD∧oD.data= .cls cd:=fun{h} X=>by
    unfold clsIn at hc
    split at hc
    · rename_i ho
      cases hc
      exact⟨_,X _ _ ho,rfl⟩
    ·cases hc
  refine⟨λ _ _ _ ⟨_,_,I⟩=>I.type,λ M h X _=>?_,λ h tp dd its n sl X htp=>?_,?_⟩
  · obtain⟨oD,h1,h2⟩:=cls X
    intro A' Q' E' s' k q
    unfold isType loadHead
    refine wpAny_bind (wpAny_loadPart (k _ _ h1) ?_)
    rw[h2]
    exact wpAny_pure q
  · obtain⟨oD,h1,h2⟩:=cls X
    refine Bool.eq_false_iff.mpr λ q=>?_
    have z:C=tp:=Value.ref.inj (beq_iff_eq.mp q)
    rw[z,htp]at h1
    cases h1
    cases h2
  · intro prog w A E Q s X ⟨vs,od,I⟩ hq
    obtain⟨hh,g,dr,t,os⟩:=s
    have hf:findObj K C (some od) "__class__" =some (.bind (.builtin "getset_descriptor.__get__") (.builtin "object.__class__")):=findObj_data k8 k3 k4 k5
    have T:=I.type (M:=model prog w)
    have L1:=looks_findIn (M:=model prog w) X k1
    have L2:=looks_findIn (M:=model prog w) X k2
    have L3:=looks_find (M:=model prog w) X I hf
    have FB:=PySem.F.attr_ValueError
    have f3:=FB.ga.bind (.ref e)
    unfold getAttr? getAttrBy?;unfold getAttrBy
    refine wpAny_bind (wpAny_mkText (wpAny_bind (wpAny_attempt (wpAny_holding (wpAny_bind (T.at (wpAny_bind (L1.at ?_))))))))
    show wpAny _ _ (getAttrByItsOwn (.ref e) (.str "__class__" t) (.ref C) (.builtin "BaseException.__getattribute__") false false) _ _ _
    unfold getAttrByItsOwn hookBefore;unfold callGetattribute boundAndCalled
    refine wpAny_bind (L2.at (wpAny_bind (wpAny_attempt (wpAny_holding ?_))))
    show wpAny _ _ (bindSpecial (.builtin "BaseException.__getattribute__") (.ref e)>>=_) _ _ _
    refine wpAny_bind (wpAny_of_eq f3 ?_)
    refine wpAny_mono (Q:=λ u s'=>u= .ref C∧s'=⟨hh,g,dr,t+1,os⟩) (E:=λ _ _=>False) (wpAny_call (codeAny_call_builtin FB.ga.plain PySem.F.entry_bexc_ga (@check_slot Qi _ _ ⟨hh,g,dr,t+1,os⟩ "BaseException.__getattribute__" "BaseException" "__getattribute__" (.ref e) [.str "__class__" t] [] _ Qd Qd
      (T.andThen (looks_mroIn X k7)) (PySem.F.args_bexc_ga _ _) ?_))) (λ u s' hu=>?_) λ _ _ z=>z.elim
    · unfold Builtin.«object.__getattribute__»
      repeat (first|(with_reducible refine Looks.at T ?_)|(with_reducible refine Looks.at L3 ?_)|wp_step)
      refine class_get (s:=⟨hh,g,dr,t+1,os⟩) X I k6 ?_
      repeat (first|exact⟨rfl,rfl⟩|wp_step)
    · obtain⟨rfl,rfl⟩:=hu
      exact wpAny_pure (wpAny_pure hq)
end
def cV:V->Option Value
 |.ref a=>some (.ref a)
 |.ty n=>some (.type n)
 |_=>none
def Oh(K:Frag):List V->Hp->VK->Prop:=λ vs H Q=>∃e C d fs c cv b,vs=[.ref e,c]/\H e=some (bZ e C (some d))/\H d=some (.xd fs)/\nP K C=true/\cV c=some cv/\kitOne K (.ref C) cv=some b/\Q (.bl b) H
theorem lA{X:Cx}:dX X (.builtin "isinstance") (Oh X.K):=by
 intro pins s σ H xs us Q I r h
 obtain⟨e,C,d,fs,c,cv,b,rfl,h1,h2,k,hc,hb,q⟩:=h
 obtain⟨u1,u2,rfl,r1,r2⟩:=r.two
 obtain rfl:u1=Value.ref e:=r1
 obtain rfl:u2=cv:=by
  cases c with
  |ref a=>cases hc;exact r2
  |ty n=>cases hc;exact r2
  |_=>cases hc
 obtain⟨vs,oe⟩:=I.hok.exc h1
 obtain⟨mA,hn,_⟩:=I.hok d _ h2
 obtain⟨od,hod,_⟩:=tH hn
 exact kia_one (Vl (d:=d) k) I.kIn ⟨vs,od,oe,rfl,rfl,hod⟩ hb (λ z=>nomatch z) λ tk=>⟨.bl b,H,I.tok tk,rfl,q⟩
theorem PS.nox{X:Cx}{st:Stmt}{t:TS}(h:PS X.nox st t):PS X st t:=λ pins s σ H D I hw=>
 wpAny_mono (h pins s σ H D (I.wish _) hw) (λ _ _ q=>q.unwish) λ _ _ z=>False.elim z
theorem BX:bootBuiltins ("ValueError" :Str)=some (.type "ValueError"):=by decide+kernel
def kW(st:Stmt)(j:Nat):Stmt:=match st with
 |.ClassDef _ _ _ body _ _ _ _ _ _ _=>body.getD j (.Pass ⟨0,0,0,0⟩)
 |_=>.Pass ⟨0,0,0,0⟩
structure jU(P:Program)(K:Frag)(mg:Qk)(qual:Str)(st:Stmt)(C f cc cda:Addr)(fd:FuncData):Prop where
 fn:∃(oc:Value) (od:Option Addr) (kV doc pm:Value) (an:Option Addr) (ct:Value) (osl:Array (Option Value)),fd=ksFn "__init__" qual (fT st) (eE st) (aT st) .none kV doc pm an (.ref cda) ct cc/\K.lookup f=some ⟨oc,od,.func fd,osl⟩
 code:PySem.W.codeIn K (.ref cda) qual=true
 file:∃(ccl:Value) (cdd:Option Addr) (vs:Array Value) (ccs:Array (Option Value)) (x:Str) (tf:Tok),K.lookup cda=some ⟨ccl,cdd,.fields vs,ccs⟩/\(vs[2]?:Option Value)=some (.str x tf)/\((P.main.file:Str)==x)=true
 cell:∃(cl:Value) (cld:Option Addr) (csl:Array (Option Value)),K.lookup cc=some ⟨cl,cld,.cell (some (.ref C)),csl⟩
 sup:mg "super" =none
 top:(P.main.scope.names.lookup ("super" :Str)).isSome=false
 all:qH K C=true
theorem AS{e C C':Addr}{d d':Option Addr}(h:bZ e C d=bZ e C' d'):C=C'/\d=d':=by
 have h1:(λ h:Heap=>∃vs,h.get? e=some (bP C d vs))=(λ h:Heap=>∃vs,h.get? e=some (bP C' d' vs)):=HO.ext.inj h
 have get:({objs:=Array.replicate (e+1) (bP C d #[])}:Heap).get? e=some (bP C d #[]):=by
  unfold Heap.get?
  rw[show({objs:=Array.replicate (e+1) (bP C d #[])}:Heap).objs[e]? =some (bP C d #[])from Qb]
  rfl
 have h2:∃vs,({objs:=Array.replicate (e+1) (bP C d #[])}:Heap).get? e=some (bP C' d' vs):=by
  have h3:=congrFun h1 ({objs:=Array.replicate (e+1) (bP C d #[])}:Heap)
  exact h3▸⟨#[],get⟩
 obtain⟨vs,z⟩:=h2
 rw[get]at z
 have z':=Option.some.inj z
 injection z' with a b
 injection a with a
 exact⟨a,b⟩
section
variable{X:Cx}
end
theorem Cr{ex:List Addr}{H H2:Hp}{p:Addr}{o:HO}(e:aI ex H H2)(h:H p=none):aI ex H (aA H2 p o):=by
 refine⟨λ b u hb q n=>?_,λ b ps hb q=>?_⟩
 ·rw[aR (gO q h)]
  exact e.old b u hb q n
 ·rw[aR (gO q h)]
  exact e.tab b ps hb q
theorem aI.fresh{H H2:Hp}{p:Addr}(e:aI [] H H2)(h:H2 p=none):H p=none:=by
 cases z:H p with
 |none=>rfl
 | some o=>
  by_cases zt:∃ps,o= .tbl ps
  ·obtain⟨ps,rfl⟩:=zt
   obtain⟨ps',z',_⟩:=e.tab p ps Qb z
   rw[h]at z'
   cases z'
  ·have:=e.old p o Qb z λ ps z2=>zt ⟨ps,z2⟩
   rw[h]at this
   cases this
end L2
namespace L2
open PySem PySem.Spec PyProof.Rows
structure Kd where
 nm:Str
 way:List Int
 bds:List Int
structure Cd where
 nm:Str
 kd:Str
 pl:Int
 bk:Bool
structure Wt where
 cd:Str
 ln:Int
 ot:Str
structure Pl where
 ls:List (Str×Int)
 ks:List Kd
structure Sd where
 bs:List Int
 cs:List Cd
 ws:List Wt
def Kd.d(k:Kd):PyData:=.tuple [.str k.nm,.tuple (k.way.map .int),.tuple (k.bds.map .int)]
def Cd.d(c:Cd):PyData:=.tuple [.str c.nm,.str c.kd,.int c.pl,.bool c.bk]
def Wt.d(w:Wt):PyData:=.tuple [.str w.cd,.int w.ln,.str w.ot]
def pV(l:Str×Int):PyData:=.tuple [.str l.1,.int l.2]
def Pl.d(p:Pl):PyData:=.tuple [.tuple (p.ls.map pV),.tuple (p.ks.map Kd.d)]
def Sd.d(s:Sd):PyData:=.tuple [.tuple (s.bs.map .int),.tuple (s.cs.map Cd.d),.tuple (s.ws.map Wt.d)]
def Pl.n(p:Pl):Int:=p.ls.length
def Pl.kd?(p:Pl)(x:Str):Option Kd:=p.ks.find? λ k=>k.nm==x
def Sd.cd?(s:Sd)(x:Str):Option Cd:=s.cs.find? λ c=>c.nm==x
def Pl.at(p:Pl)(k:Str)(j:Int):Int:=if j=0 then-1 else match p.kd? k with
 |some kd=>if(kd.way.length:Int)<j then p.n else kd.way.getD (j-1).toNat 0
 |none=>0
def Pl.lane(p:Pl)(c:Cd):Int:=p.at c.kd c.pl
def Sd.inL(s:Sd)(p:Pl)(l:Int):List Str:=(s.cs.filter λ c=>p.lane c==l).map (·.nm)
def Sd.many(s:Sd)(p:Pl)(l:Int)(k:Str):Nat:=(s.cs.filter λ c=>c.kd==k&&p.at k c.pl==l).length
structure gX(p:Pl):Prop where
 nl:p.ls.length<=900
 nk:p.ks.length<=900
 ln:∀l∈p.ls,l.1.length<=1000
 kw:∀k∈p.ks,k.way.length<=900/\k.bds.length=k.way.length/\k.nm.length<=1000/\∀i∈k.way,0<=i/\i<p.n
def gZ(p:Pl)(c:Cd):Prop:=c.nm.length<=1000/\∃k,p.kd? c.kd=some k/\0<=c.pl/\c.pl<=k.way.length+1
structure jT(p:Pl)(s:Sd):Prop where
 nb:s.bs.length=p.ls.length
 nc:s.cs.length<=900
 c:∀c∈s.cs,gZ p c
 nw:s.ws.length<=900
 w:∀w∈s.ws,(s.cd? w.cd).isSome=true/\(s.cd? w.ot).isSome=true/\w.cd.length<=1000/\w.ot.length<=1000
theorem qD{α:Type}{p:α->Bool}:∀(ls:List α) (i:Nat) (a:α),(∀j b,j<i->ls[j]? =some b->p b=false)->ls[i]? =some a->p a=true->ls.find? p=some a
 |[],_,_,_,hd,_=>by simp at hd
 |b::ls,0,a,_,hd,hp=>by
  have:b=a:=by simpa using hd
  rw[List.find?_cons,this,hp]
 |b::ls,i+1,a,h,hd,hp=>by
  rw[List.find?_cons,h 0 b Qa rfl]
  exact qD ls i a (λ j d hj hd=>h (j+1) d Qa (by simpa using hd)) (by simpa using hd) hp
theorem qC{α:Type}{p:α->Bool}:∀(ls:List α) (i:Nat),(∀j b,j<i->ls[j]? =some b->p b=false)->ls.length<=i->ls.find? p=none
 |[],_,_,_=>rfl
 |b::ls,i,h,hl=>by
  rw[List.find?_cons,h 0 b (by simp at hl;omega) rfl]
  exact qC ls (i-1) (λ j d hj hd=>h (j+1) d Qa (by simpa using hd)) (by simp at hl;omega)
section
variable{H:Hp}{v:V}{ex:List Addr}
theorem Kd.view{k:Kd}(h:aD ex H k.d v):∃a wa ba,v= .ref a/\H a=some (.tup [.str k.nm,.ref wa,.ref ba])/\H wa=some (.tup (k.way.map V.int))/\H ba=some (.tup (k.bds.map V.int)):=by
 obtain⟨a,us,rfl,_,ha,v1,r1,rfl,h1,v2,r2,rfl,h2,v3,r3,rfl,h3,rfl⟩:=h
 obtain rfl:v1= .str k.nm:=h1
 obtain⟨wa,ws,rfl,_,hw,hws⟩:=h2
 obtain⟨ba,bs,rfl,_,hb,hbs⟩:=h3
 obtain rfl:=aL.ints_of hws
 obtain rfl:=aL.ints_of hbs
 exact⟨a,wa,ba,rfl,ha,hw,hb⟩
theorem Cd.view{c:Cd}(h:aD ex H c.d v):∃a,v= .ref a/\H a=some (.tup [.str c.nm,.str c.kd,.int c.pl,.bl c.bk]):=by
 obtain⟨a,us,rfl,_,ha,v1,r1,rfl,h1,v2,r2,rfl,h2,v3,r3,rfl,h3,v4,r4,rfl,h4,rfl⟩:=h
 obtain rfl:v1= .str c.nm:=h1
 obtain rfl:v2= .str c.kd:=h2
 obtain rfl:v3= .int c.pl:=h3
 obtain rfl:v4= .bl c.bk:=h4
 exact⟨a,rfl,ha⟩
theorem Wt.view{w:Wt}(h:aD ex H w.d v):∃a,v= .ref a/\H a=some (.tup [.str w.cd,.int w.ln,.str w.ot]):=by
 obtain⟨a,us,rfl,_,ha,v1,r1,rfl,h1,v2,r2,rfl,h2,v3,r3,rfl,h3,rfl⟩:=h
 obtain rfl:v1= .str w.cd:=h1
 obtain rfl:v2= .int w.ln:=h2
 obtain rfl:v3= .str w.ot:=h3
 exact⟨a,rfl,ha⟩
theorem Dx{l:Str×Int}(h:aD ex H (pV l) v):∃a,v= .ref a/\H a=some (.tup [.str l.1,.int l.2]):=by
 obtain⟨a,us,rfl,_,ha,v1,r1,rfl,h1,v2,r2,rfl,h2,rfl⟩:=h
 obtain rfl:v1= .str l.1:=h1
 obtain rfl:v2= .int l.2:=h2
 exact⟨a,rfl,ha⟩
theorem Pl.view{p:Pl}(h:aD ex H p.d v):∃a la ka lv kv,v= .ref a/\H a=some (.tup [.ref la,.ref ka])/\H la=some (.tup lv)/\aL ex H (p.ls.map pV) lv/\H ka=some (.tup kv)/\aL ex H (p.ks.map Kd.d) kv/\lv.length=p.ls.length/\kv.length=p.ks.length:=by
 obtain⟨a,us,rfl,_,ha,v1,r1,rfl,h1,v2,r2,rfl,h2,rfl⟩:=h
 obtain⟨la,lv,rfl,_,hl,hlv⟩:=h1
 obtain⟨ka,kv,rfl,_,hk,hkv⟩:=h2
 have e1:=hlv.length
 have e2:=hkv.length
 rw[List.length_map]at e1 e2
 exact⟨a,la,ka,lv,kv,rfl,ha,hl,hlv,hk,hkv,e1,e2⟩
theorem Sd.view{s:Sd}(h:aD ex H s.d v):∃a ba ca wa cv wv,v= .ref a/\H a=some (.tup [.ref ba,.ref ca,.ref wa])/\H ba=some (.tup (s.bs.map V.int))/\H ca=some (.tup cv)/\aL ex H (s.cs.map Cd.d) cv/\H wa=some (.tup wv)/\aL ex H (s.ws.map Wt.d) wv/\cv.length=s.cs.length/\wv.length=s.ws.length:=by
 obtain⟨a,us,rfl,_,ha,v1,r1,rfl,h1,v2,r2,rfl,h2,v3,r3,rfl,h3,rfl⟩:=h
 obtain⟨ba,bv,rfl,_,hb,hbv⟩:=h1
 obtain⟨ca,cv,rfl,_,hc,hcv⟩:=h2
 obtain⟨wa,wv,rfl,_,hw,hwv⟩:=h3
 obtain rfl:=aL.ints_of hbv
 have e1:=hcv.length
 have e2:=hwv.length
 rw[List.length_map]at e1 e2
 exact⟨a,ba,ca,wa,cv,wv,rfl,ha,hb,hc,hcv,hw,hwv,e1,e2⟩
theorem aL.nth{α:Type}{f:α->PyData}{xs:List α}{vs:List V}{i:Nat}{y:V}(h:aL ex H (xs.map f) vs)(hy:vs[i]? =some y):∃x,xs[i]? =some x/\aD ex H (f x) y:=by
 have hl:=h.length
 rw[List.length_map]at hl
 have hi:i<xs.length:=by have:=(List.getElem?_eq_some_iff.mp hy).1;omega
 obtain⟨y',hy',hd⟩:=h.get (i:=i) (d:=f xs[i]) (by rw[List.getElem?_map,List.getElem?_eq_getElem hi];rfl)
 rw[hy]at hy'
 cases hy'
 exact⟨xs[i],List.getElem?_eq_getElem hi,hd⟩
theorem aL.nth'{α:Type}{f:α->PyData}{xs:List α}{vs:List V}{i:Nat}{x:α}(h:aL ex H (xs.map f) vs)(hx:xs[i]? =some x):∃y,vs[i]? =some y/\aD ex H (f x) y:=
 h.get (by rw[List.getElem?_map,hx];rfl)
end
theorem eA{p:Pl}{x:Str}{k:Kd}(h:p.kd? x=some k):k∈p.ks/\k.nm=x:=by
 have h1:=List.find?_some h
 exact⟨List.mem_of_find?_eq_some h,by simpa using h1⟩
theorem mO{s:Sd}{x:Str}{c:Cd}(h:s.cd? x=some c):c∈s.cs/\c.nm=x:=by
 have h1:=List.find?_some h
 exact⟨List.mem_of_find?_eq_some h,by simpa using h1⟩
theorem qM(p:Pl)(k:Str):p.at k 0= -1:=by unfold Pl.at;rw[if_pos rfl]
theorem nZ{p:Pl}{x:Str}{k:Kd}{j:Int}(h:p.kd? x=some k)(hj:(k.way.length:Int)<j):p.at x j=p.n:=by
 unfold Pl.at
 rw[if_neg Qa,h]
 show(if(k.way.length:Int)<j then p.n else _)=_
 rw[if_pos hj]
theorem qN{p:Pl}{x:Str}{k:Kd}{j:Int}(h:p.kd? x=some k)(h1:1<=j)(h2:j<=k.way.length):∃w,k.way[(j-1).toNat]? =some w/\p.at x j=w:=by
 have hi:(j-1).toNat<k.way.length:=by omega
 refine⟨k.way[(j-1).toNat],List.getElem?_eq_getElem hi,?_⟩
 unfold Pl.at
 rw[if_neg Qa,h]
 show(if(k.way.length:Int)<j then p.n else _)=_
 rw[if_neg Qa,List.getD_eq_getElem?_getD,List.getElem?_eq_getElem hi]
 rfl
def dL(C:Addr)(fs:List (Str×V))(H:Hp)(E:XK):Prop:=∀e d H',aI [] H H'->H' e=some (bZ e C (some d))->H' d=some (.xd fs)->E (.ref e) (some d) H'
theorem dL.up{C:Addr}{fs:List (Str×V)}{H H':Hp}{E:XK}(h:dL C fs H E)(e:aI [] H H'):dL C fs H' E:=λ ex d H2 e2=>h ex d H2 (e.trans e2)
theorem dL.on{C:Addr}{fs:List (Str×V)}{H:Hp}{E:XK}(h:dL C fs H E):dL C fs H (λ v d H'=>∀e C',v= .ref e->H' e=some (bZ e C' d)->E (.ref e) d H'):=λ ex d H2 e2 h1 h2 e' C' z h3=>by
 cases z
 exact h ex d H2 e2 h1 h2
end L2
namespace L2
open PySem PySem.Spec PyProof.Rows PySem.SeqAt
theorem Kb(l:Addr)(items:Array Value)(n:Nat)(dd:Option Addr)(sl:Array (Option Value))(x:Value)(e:Value->Bool)(j:Nat)(hj:j<items.size)(hit:e items[j]=true)(hno:∀m (hm:m<items.size),m<j->e items[m]=false):
  Meets (Builtin.«tuple.index» ⟨[.ref l,x],[]⟩)
   (λ A R s=>s.heap.get? l=some {cls:=.type "tuple",dict:=dd,data:=.seq items n,slots:=sl}/\(∀y,y∈items->EqAt A.in1 s y x (e y))/\R (.ok (.ret (.int (j:Nat) s.toks))) {s with toks:=s.toks+1}):=
 .of_wp λ prog w A R s h=>by
  obtain⟨hp,g,d,tk,os⟩:=s;obtain⟨hl,he,h⟩:=h
  unfold Builtin.«tuple.index»
  simp only[Std.Legacy.Range.forIn_eq_forIn_range',Std.Legacy.Range.size]
  wp_walk using AutoSeq1.wpAny_loadPart' hl,wpAny_forIn_list _ (λ rest (b:Option PySem.Fin×Unit) s'=>∃i,i<=j/\b.1=none/\rest=List.range' i (items.size-i)/\s'=⟨hp,g,d,tk,os⟩) _
  case turn=>
   rintro x1 rest b s' ⟨i,hi,hb,hr,rfl⟩
   rw[show items.size-i=(items.size-(i+1))+1 from Qa,List.range'_succ]at hr
   injection hr with h1 h2
   subst h1 h2
   have hx:x1<items.size:=by omega
   rw[Array.getElem?_eq_getElem hx]
   refine wpAny_bind (he _ (Array.getElem_mem hx) prog w _ _ ?_)
   by_cases hij:x1=j
   ·subst hij
    rw[hit]
    wp_walk
    exact⟨_,rfl,h⟩
   ·rw[hno x1 hx Qa]
    wp_walk
    exact⟨x1+1,Qa,rfl,rfl,rfl⟩
  case fin=>
   rintro b s' ⟨i,hi,hb,hr,rfl⟩
   have:=congrArg List.length hr
   rw[List.length_nil,List.length_range']at this
   omega
  case h=>exact⟨0,Nat.zero_le _,rfl,Qb,rfl⟩
theorem uT{xs:List V}{us:List Value}(r:aW xs us){j:Nat}(h:j<us.length):∃x,xs[j]? =some x/\bE x us[j]:=by
 have hl:=r.length
 have hj:j<xs.length:=by omega
 obtain⟨u,hu,ru⟩:=r.get (List.getElem?_eq_getElem hj)
 rw[List.getElem?_eq_getElem h]at hu
 exact⟨xs[j],List.getElem?_eq_getElem hj,Option.some.inj hu▸ru⟩
theorem tV{xs:List V}{us:List Value}{y x:V}(r:aW xs us)(f:xs.all fA=true){j:Nat}(h:j<us.length)(hx:xs[j]? =some x):gT y us[j]=dB x y:=by
 obtain⟨x',hx',rx⟩:=uT r h
 rw[hx]at hx'
 cases hx'
 exact xT rx (List.all_eq_true.mp f x (List.mem_of_getElem? hx))
def Fe(y:V)(xs:List V)(j:Nat):Prop:=(∃x,xs[j]? =some x/\dB x y=true)/\∀m x,m<j->xs[m]? =some x->dB x y=false
def Cp(K:Qf)(tup:Bool):V->List V->Hp->VK->Prop:=λ x vs H Q=>∃(a:Addr) (xs:List V) (y:V) (j:Nat),x= .ref a/\vs=[y]/\(if tup=true then aJ K H a xs else aQ K H a xs)/\fA y=true/\xs.all fA=true/\Fe y xs j/\Q (.int (j:Nat)) H
section
variable{X:Cx}
theorem Ts:iZ X "list.index" (Cp X.K false):=by
 intro pins s σ H x vs v us Q I rx rv h
 obtain⟨a,ys,z,j,rfl,rfl,hq,fz,fs,⟨⟨x,hx,ex⟩,hb⟩,q⟩:=h
 cases rx
 obtain⟨u,rfl,ru⟩:=rv.one
 obtain⟨its,r,pl,hl⟩:=I.list (show aQ X.K H a ys from hq)
 obtain⟨⟨cls,dd,data,sl⟩,ho,hc,n,hd⟩:=pl.isList
 simp only at hc hd
 subst hc hd
 have hlen:=r.length
 have hj:j<its.length:=by have:=(List.getElem?_eq_some_iff.mp hx).1;omega
 have l63:=mD
 refine call_meets PySem.F.slot_list_index ⟨_,ho,rfl⟩ PySem.F.entry_list_index (PySem.F.args_list_index_2 _ _) (SeqAt.list_indexAt a its.toArray n dd sl u (gT z) j (by rw[List.size_toArray];omega) Qa ?_ ?_) ⟨ho,λ y hy=>tG ru fz r fs y (by simpa using hy),⟨.int _,H,I.tok _,⟨_,rfl⟩,q⟩⟩
 ·show gT z its[j]=true
  rw[tV r fs hj hx]
  exact ex
 ·intro m hm hlt
  have hm':m<its.length:=by simpa using hm
  show gT z its[m]=false
  obtain⟨x',hx',_⟩:=uT r hm'
  rw[tV r fs hm' hx']
  exact hb m x' hlt hx'
theorem sY:iZ X "tuple.index" (Cp X.K true):=by
 intro pins s σ H x vs v us Q I rx rv h
 obtain⟨a,ys,z,j,rfl,rfl,hq,fz,fs,⟨⟨x,hx,ex⟩,hb⟩,q⟩:=h
 cases rx
 obtain⟨u,rfl,ru⟩:=rv.one
 obtain⟨its,r,pl,hl⟩:=I.tuple (show aJ X.K H a ys from hq)
 obtain⟨⟨cls,dd,data,sl⟩,ho,hc,n,hd⟩:=pl
 simp only at hc hd
 subst hc hd
 have hlen:=r.length
 have hj:j<its.length:=by have:=(List.getElem?_eq_some_iff.mp hx).1;omega
 refine call_meets PySem.F.slot_tuple_index ⟨_,ho,rfl⟩ PySem.F.entry_tuple_index (PySem.F.args_tuple_index_2 _ _) (Kb a its.toArray n dd sl u (gT z) j (by rw[List.size_toArray];omega) ?_ ?_) ⟨ho,λ y hy=>tG ru fz r fs y (by simpa using hy),⟨.int _,H,I.tok _,⟨_,rfl⟩,q⟩⟩
 ·show gT z its[j]=true
  rw[tV r fs hj hx]
  exact ex
 ·intro m hm hlt
  have hm':m<its.length:=by simpa using hm
  show gT z its[m]=false
  obtain⟨x',hx',_⟩:=uT r hm'
  rw[tV r fs hm' hx']
  exact hb m x' hlt hx'
theorem Fw{y:V}:∀{xs:List V} {us:List Value},aW xs us->xs.all fA=true->us.countP (gT y)=xs.countP λ x=>dB x y
 |_,_,.nil,_=>rfl
 |x::xs,u::us,.cons r t,f=>by
  rw[List.all_cons,Bool.and_eq_true]at f
  rw[List.countP_cons,List.countP_cons,xT r f.1,Fw t f.2]
def Om(K:Qf):V->List V->Hp->VK->Prop:=λ x vs H Q=>∃(a:Addr) (xs:List V) (y:V),x= .ref a/\vs=[y]/\aQ K H a xs/\fA y=true/\xs.all fA=true/\Q (.int ((xs.countP λ x=>dB x y:Nat))) H
theorem xG:iZ X "list.count" (Om X.K):=by
 intro pins s σ H x vs v us Q I rx rv h
 obtain⟨a,ys,z,rfl,rfl,hq,fz,fs,q⟩:=h
 cases rx
 obtain⟨u,rfl,ru⟩:=rv.one
 obtain⟨its,r,pl,hl⟩:=I.list hq
 obtain⟨⟨cls,dd,data,sl⟩,ho,hc,n,hd⟩:=pl.isList
 simp only at hc hd
 subst hc hd
 refine call_meets PySem.F.slot_list_count ⟨_,ho,rfl⟩ PySem.F.entry_list_count (PySem.F.args_list_count_2 _ _) (SeqAt.list_countAt a its.toArray n dd sl u (gT z)) ⟨ho,λ y hy=>tG ru fz r fs y (by simpa using hy),⟨.int _,H,I.tok _,⟨_,rfl⟩,?_⟩⟩
 have e:(its.toArray.toList.countP (gT z))=ys.countP λ x=>dB x z:=Fw r fs
 rw[e]
 exact q
end
end L2
namespace L2
open PySem PySem.Spec PyProof.Rows
section
variable{X:Cx}
def Lm(r:V->List V->Hp->VK->Prop)(to:TE)(t:TA):TE:=λ σ H Q=>to σ H λ x H1=>(∃p xs,x= .ref p/\H1 p=some (.tup xs))/\t σ H1 λ xs H2=>r x xs H2 Q
variable{o e:Expr}{es:List Expr}{to:TE}{t:TA}{name:Str}{apos cpos:Pos}{id:String}{r:V->List V->Hp->VK->Prop}
theorem sN(pa:PlainAttrs "tuple")(slot:Slot "tuple" name id)(hty:typeOf (.builtin id)=pure (.type "method_descriptor"))(hm:iZ X id r)(ho:PE X o to)(ha:PA X (e::es) t)
  (hbase:attributeBase o name X.env (eval o X.env)=eval o X.env:=by rfl)
  (hfew:((backTo cpos (starEach (e::es) X.env)).all (λ x=>!x.1)&&(backToKw cpos (keywordEach [] X.env)).all (λ x=>x.1.isSome)
   &&decide ((e::es).length+([]:List Keyword).length+(if([]:List Keyword).isEmpty then 0 else 1)<30))=true:=by rfl)
  (hline:(apos.endLine==cpos.line)=true:=by rfl) (hs:starEach (e::es) X.env=(false,eval e X.env)::starEach es X.env:=by rfl) (hplain:(backTo cpos (starEach es X.env)).any (·.1)=false:=by rfl):
  PE X (.Call (.Attribute o name apos) (e::es) [] cpos) (Lm r to t):=by
 intro pins s σ H Q I h
 refine wpAny_Call_method_late hbase hfew hline rfl (aU (ho pins s σ H _ I h) λ v s1 ⟨x,H1,I1,r1,⟨p,xs,ex,hp⟩,q1⟩=>?_)
 subst ex
 cases r1
 obtain⟨_,its,_,⟨o1,z1,z2,_⟩,o2,z3,z4⟩:=I1.hok p _ hp
 refine⟨"tuple",id,pa,slot,hty,⟨_,z1,z2⟩,(λ a e=>by cases e;exact⟨_,z3,z4⟩),?_⟩
 have hA:=ha cpos pins s1 σ H1 _ I1 q1
 rw[hs]at hA⊢
 refine Calls.callWith_builtin (by show(false||(backTo cpos (starEach es X.env)).any (·.1))=false;rw[hplain]<;>rfl) (Calls.evalArgs_plain ?_)
 exact aU hA λ us s2 ⟨vs,H2,I2,r2,q2⟩=>hm pins s2 σ H2 (.ref p) vs (.ref p) us Q I2 rfl r2 q2
end
abbrev az:Str:= "abcdefghijklmnopqrstuvwxyz"
def inL(x:Str):Bool:= !(Builtin.Str.occurrences az x 0 az.length 1).isEmpty
def wB(x:Str):List Str:=x.cps.toList.map λ c=>⟨#[c]⟩
def nm(x:Str):Bool:=if("out" :Str)==x||("yard" :Str)==x then false else decide ((1:Int)<=(x.length:Int))&&(decide ((x.length:Int)<=8)&&(wB x).all inL)
def lK:Sp:=λ vs H Q _=>∃(z:Zn) (m:Int),vs=[.ref z.p,.int m]/\Cz z H/\0<m/\m<1073741824/\∀(i:Int) (H':Hp),0<=i->i<m->aY z H H'->Q (.int i) H'
def vV(K:Qf):Sp:=λ vs H Q _=>∃(a:Addr) (ns:List Int) (k:Int),vs=[.ref a,.int k]/\aQ K H a (ns.map V.int)/\ns.length<=63/\0<=k/\k<=1000/\∀(p:Addr) (n:Int),H p=none->Q (.ref p) (aA H p (.lst [.int n]))
def rT:Sp:=λ vs H Q _=>∃z:Zn,vs=[.ref z.p]/\Cz z H/\∀(i:Int) (H':Hp),1<=i->i<=99->aY z H H'->Q (.int i) H'
def pB:Sp:=λ vs H Q _=>∃(z:Zn) (m:Int),vs=[.ref z.p,.int m]/\0<=m/\m<=52/\Cz z H/\∀(ns:List Str) (v:V) (H':Hp),(ns.length:Int)=m->ns.Nodup->(∀x∈ns,nm x=true)->aY z H H'->aD z.ex H' (.list (ns.map .str)) v->Q v H'
theorem line{n:Nat}(h:n<=1000):n<=sizeLine:=Nat.le_trans h iM
theorem CJ{α:Type}{xs:List α}{i:Int}(h0:0<=i)(h1:i<(xs.length:Int)):∃v,iF xs i=some v/\v∈xs:=by
 have hk:i.toNat<xs.length:=by omega
 exact⟨xs[i.toNat],cZ h0 (List.getElem?_eq_getElem hk),List.getElem_mem hk⟩
theorem xP{α:Type}{xs:List α}{i:Int}(h0:0<=i)(h1:i<(xs.length:Int)):∃v,xs[i.toNat]? =some v/\v∈xs:=by
 have hk:i.toNat<xs.length:=by omega
 exact⟨xs[i.toNat],List.getElem?_eq_getElem hk,List.getElem_mem hk⟩
def azl:List Nat:=List.range' 97 26
theorem CG:("abcdefghijklmnopqrstuvwxyz" :Str)=tx azl:=by decide+kernel
theorem CM:∀c∈(("abcdefghijklm" :Str)).cps.toList,97<=c/\c<=109:=by decide+kernel
theorem Gp:∀c∈azl,97<=c/\c<=122:=by decide+kernel
theorem CH:∀k,k<26->(azl.drop k++azl.take k).Nodup:=by decide+kernel
theorem Eo:∀c∈azl,inL (tx [c])=true:=by decide+kernel
theorem Dt{c:Nat}(h:97<=c/\c<=122):c∈azl:=by
 unfold azl
 rw[List.mem_range']
 exact⟨c-97,Qa,Qa⟩
theorem Bm(l:List Nat):wB (tx l)=l.map λ c=>tx [c]:=by
 unfold wB tx
 simp
theorem wC(l:List Nat):lM (tx l)=l.map λ c=>V.str (tx [c]):=by
 unfold lM tx
 simp
theorem Dd:("out" :Str)=tx [111,117,116]:=by decide+kernel
theorem Ab:("yard" :Str)=tx [121,97,114,100]:=by decide+kernel
theorem Tp{A B:List Nat}{c:Nat}(hl:A.length+B.length<=7)(ha:∀x∈A,97<=x/\x<=109)(hb:∀x∈B,97<=x/\x<=109)(hc:97<=c/\c<=122):nm (tx (A++c::B))=true:=by
 unfold nm
 have n1:¬tx [111,117,116]=tx (A++c::B):=λ h=>by
  have h:=mZ h
  match A,ha,h with
  |[],_,h=>
   injection h with _ h
   have:=hb 117 (by rw[<-h];simp)
   omega
  |a::_,ha,h=>
   injection h with h _
   have:=ha a Qb
   omega
 have n2:¬tx [121,97,114,100]=tx (A++c::B):=λ h=>by
  have h:=mZ h
  match A,ha,h with
  |[],_,h=>
   injection h with _ h
   have:=hb 114 (by rw[<-h];simp)
   omega
  |a::_,ha,h=>
   injection h with h _
   have:=ha a Qb
   omega
 rw[Dd,Ab,if_neg (by simp[n1,n2])]
 have e:(tx (A++c::B)).length=A.length+(B.length+1):=by rw[gI,List.length_append,List.length_cons]
 rw[e,decide_eq_true Qa,decide_eq_true Qa,Bool.true_and,Bool.true_and,Bm,List.all_eq_true]
 intro s hs
 obtain⟨x,hx,rfl⟩:=List.mem_map.mp hs
 refine Eo x (Dt ?_)
 rcases List.mem_append.mp hx with h|h
 ·have:=ha x h;omega
 ·rcases List.mem_cons.mp h with rfl|h
  ·exact hc
  ·have:=hb x h;omega
def dA(A B S:List Nat):List Str:=S.map λ c=>tx (A++c::B)
theorem Do{A B S:List Nat}(h:S.Nodup):(dA A B S).Nodup:=by
 unfold dA List.Nodup
 rw[List.pairwise_map]
 refine List.Pairwise.imp (fun{a b} hne e=>hne ?_) h
 have e2:=List.append_cancel_left (mZ e)
 injection e2
theorem uV:("z" :Str)=tx [122]:=by decide+kernel
theorem To{A B:List Nat}{c:Nat}(hl:A.length+B.length<=6)(ha:∀x∈A,97<=x/\x<=109)(hb:∀x∈B,97<=x/\x<=109)(hc:97<=c/\c<=122):nm (tx (A++c::B)++("z" :Str))=true:=by
 rw[uV,jD]
 unfold nm
 have last:∀l:List Nat,l.getLast?≠some 122->¬tx l=tx (A++c::B++[122]):=λ l h z=>h (by rw[mZ z,List.getLast?_append];rfl)
 rw[Dd,Ab,if_neg (by rw[Bool.or_eq_true,beq_iff_eq,beq_iff_eq];exact not_or.mpr ⟨last [111,117,116] Qc,last [121,97,114,100] Qc⟩)]
 have e:(tx (A++c::B++[122])).length=A.length+(B.length+2):=by rw[gI,List.length_append,List.length_append,List.length_cons,List.length_singleton];omega
 rw[e,decide_eq_true Qa,decide_eq_true Qa,Bool.true_and,Bool.true_and,Bm,List.all_eq_true]
 intro s hs
 obtain⟨x,hx,rfl⟩:=List.mem_map.mp hs
 refine Eo x (Dt ?_)
 rcases List.mem_append.mp hx with h|h
 ·rcases List.mem_append.mp h with h|h
  ·have:=ha x h;omega
  ·rcases List.mem_cons.mp h with rfl|h
   ·exact hc
   ·have:=hb x h;omega
 ·have:=List.mem_singleton.mp h;omega
theorem Tn{A B S:List Nat}(h:S.Nodup):(dA A B S++(dA A B S).map λ x=>x++("z" :Str)).Nodup:=by
 have n1:=Do (A:=A) (B:=B) h
 rw[List.nodup_append]
 refine⟨n1,?_,λ a ha b hb=>?_⟩
 ·unfold List.Nodup
  rw[List.pairwise_map]
  unfold dA
  rw[List.pairwise_map]
  refine List.Pairwise.imp (fun{a b} hne e=>hne ?_) h
  rw[uV,jD,jD]at e
  have e2:=List.append_cancel_left (List.append_cancel_right (mZ e))
  injection e2
 ·obtain⟨x,hx,rfl⟩:=List.mem_map.mp hb
  obtain⟨u,_,rfl⟩:=List.mem_map.mp ha
  obtain⟨w,_,rfl⟩:=List.mem_map.mp hx
  rw[uV,jD]
  intro e
  have:=congrArg List.length (mZ e)
  simp at this
theorem uR{X:Cx}:mQ X (λ _ _ _ _ _=>False):=⟨λ _ _ _ _ _ _ _ _ _ h=>h.elim,λ _ _ _ _ _ _ _ _ _ _ h=>h.elim⟩
end L2
namespace L2
open PySem PySem.Spec PyProof.Rows PySem.W
theorem dS{a b:TS}{D:iJ}{σ:L2.St}{H:Hp}(h:∀R:L2.St->Hp->Prop,(∀σ' H',b D σ' H'->R σ' H')->a {D with nx:=R} σ H):eM a b D σ H:=h _ λ _ _ z=>z
theorem mB{α:Type}{l:List α}(h:l.length=1):∃a,l=[a]:=by
 match l,h with
 |[a],_=>exact⟨a,rfl⟩
theorem tJ{α:Type}{l:List α}(h:l.length=2):∃a b,l=[a,b]:=by
 match l,h with
 |[a,b],_=>exact⟨a,b,rfl⟩
theorem Dy{α:Type}{l:List α}(h:l.length=3):∃a b c,l=[a,b,c]:=by
 match l,h with
 |[a,b,c],_=>exact⟨a,b,c,rfl⟩
def eS(u:V):Prop:=∃x,Fd u=some x/\x.length<=1000
theorem iO{x:Str}(h:x.length<=1000):eS (.str x):=⟨x,if_pos h,h⟩
def dU(C:Addr)(fs:List Str):Sp:=λ vs H Q _=>∃(e:Addr) (us:List V),vs= .ref e::us/\us.length=fs.length/\(∀u∈us,eS u)/\H e=some (cH e C none)/\∀d,H d=none->Q .non (aA (aA H d (.xd (fs.zip us))) e (cH e C (some d)))
theorem fits{a b:Str}{n m:Nat}(ha:a.length<=n)(hb:b.length<=m):(a++b).length<=n+m:=by rw[strLen_append];omega
theorem rA{H:Hp}{d e:Addr}{a b c:HO}(h:d≠e):aA (aA (aA H d a) e b) d c=aA (aA H d c) e b:=by
 funext x
 by_cases h1:x=d
 ·subst h1
  rw[aP,aR h,aP]
 ·rw[aR h1]
  by_cases h2:x=e
  ·subst h2
   rw[aP,aP]
  ·rw[aR h2,aR h2,aR h1,aR h1]
theorem Nr{K:Frag}{S:SK}{σ:St}{C:Addr}{fs:List Str}{us:List V}{H2:Hp}(hl:us.length=fs.length)(h3:us.length<=1000)(hf:∀u∈us,eS u)(hrs:fG K C=true)
  (hS:∀ex d H',aI [] H2 H'->H' ex=some (bZ ex C (some d))->H' d=some (.xd (fs.zip us))->S σ ex C (some d) H'):
  us.length<=1000/\∀ex,H2 ex=none->dU C fs (.ref ex::us) (aA H2 ex (cH ex C none)) (λ v H3=>v= .non/\∃e' C' d',(.ref ex:V)= .ref e'/\H3 e'=some (cH e' C' d')/\fG K C'=true/\S σ e' C' d' (aA H3 e' (bZ e' C' d'))) E0:=by
 refine⟨h3,λ ex hex=>⟨ex,us,rfl,hl,hf,aP,λ d hd=>⟨rfl,ex,C,some d,rfl,aP,hrs,?_⟩⟩⟩
 have hne:d≠ex:=λ z=>by rw[z,aP]at hd;cases hd
 have hd2:H2 d=none:=by rw[aR hne]at hd;exact hd
 rw[uU]
 have hu:aA (aA (aA H2 ex (cH ex C none)) d (.xd (fs.zip us))) ex (bZ ex C (some d))=aA (aA H2 d (.xd (fs.zip us))) ex (bZ ex C (some d)):=by
  funext c
  by_cases h1:c=ex
  ·rw[h1,aP,aP]
  ·rw[aR h1,aR h1]
   by_cases h2:c=d
   ·rw[h2,aP,aP]
   ·rw[aR h2,aR h2,aR h1]
 rw[hu]
 exact hS ex d _ ((aI.new hd2 _).trans (aI.new (by rw[aR (Ne.symm hne)];exact hex) _)) aP (by rw[aR hne,aP])
theorem kI{K:Frag}{E:XK}{C:Addr}(fs:List Str)(us:List V){H H2:Hp}(q:dL C (fs.zip us) H E)(e:aI [] H H2)(hf:∀u∈us,eS u)(hrs:fG K C=true)(hl:us.length=fs.length:=by rfl)(hfs:fs.length<=1000:=by decide):
  us.length<=1000/\∀ex,H2 ex=none->dU C fs (.ref ex::us) (aA H2 ex (cH ex C none)) (λ v H3=>v= .non/\∃e' C' d',(.ref ex:V)= .ref e'/\H3 e'=some (cH e' C' d')/\fG K C'=true/\E (.ref e') d' (aA H3 e' (bZ e' C' d'))) E0:=
 Nr (σ:=[]) (S:=λ _ e _ d H=>E (.ref e) d H) hl (hl▸hfs) hf hrs λ ex d H' e' h1 h2=>q ex d H' (e.trans e') h1 h2
theorem nB{a:V}(ha:eS a):∀u∈[a],eS u:=λ u hu=>by rw[List.mem_singleton.mp hu];exact ha
theorem wD{a b:V}(ha:eS a)(hb:eS b):∀u∈[a,b],eS u:=λ u hu=>by
 rcases List.mem_cons.mp hu with rfl|hu
 ·exact ha
 ·exact nB hb u hu
theorem Ng{a b c:V}(ha:eS a)(hb:eS b)(hc:eS c):∀u∈[a,b,c],eS u:=λ u hu=>by
 rcases List.mem_cons.mp hu with rfl|hu
 ·exact ha
 ·exact wD hb hc u hu
end L2
namespace K10
open PySem PySem.Spec L2 PyProof.Rows PySem.W
def top(i:Nat):Stmt:=PySem.Challenge.pw_cardlanes_k10_put_back.main.body.getD i (.Pass ⟨0,0,0,0⟩)
abbrev By:Stmt:=kW (top 2) 0
theorem Sg{P:Program}{w:World}{K:Qf}{mg:Qk}{base:Heap}{C f cc cda:Addr}{fd:FuncData}(F:jU P K mg "NoCard.__init__" By C f cc cda fd)(ha1:cL K C "card" =true):bD P w K mg base bM 2 f fd ["self","card"] (dU C ["card"]):=by
 obtain⟨oc,od,kV,doc,pm,an,ct,osl,rfl,lk⟩:=F.fn
 obtain⟨ccl,cdd,vs,ccs,x,tf,lcode,hvs,hfile⟩:=F.file
 obtain⟨cl,cld,csl,lc⟩:=F.cell
 refine kU lk F.code lc ⟨rfl,rfl,rfl,Qd,Qd,Qd,Qd⟩ (λ vs H Q E ⟨e,us,h,hl,_⟩=>by rw[h,List.length_cons,hl];rfl) λ A outer s s1 H vs Q E hr h I=>?_
 obtain⟨e,us,rfl,hl,hu,he,q⟩:=h
 obtain⟨v1,rfl⟩:=mB hl
 obtain⟨y1,h1,l1⟩:=hu v1 Qb
 refine PySem.ks_wpAt_execs_cons (PySem.ks_wpAt_mono (kD (D:={nx:=λ σ' H'=>σ'=[some (.ref e),some v1]/\H'=H,rt:=λ _ _=>False}) lk rfl rfl lcode hvs hfile lc F.sup F.top rfl rfl rfl F.all (aE (kS (cJ bJ (cJ (gM (pv 1)) kM))) aG) I rfl he ?q rfl rfl rfl) (λ fl s2 hs=>?_) (λ _ _ (z:False)=>z.elim))
 case q=>exact⟨_,rfl,Nat.le_trans (fits Qm Ql) Qc,v1,rfl,y1,h1,_,rfl,Nat.le_trans (fits (fits Qm Ql) l1) Qc,Nat.le_trans (fits (fits Qm Ql) l1) Qc,rfl,he,rfl,rfl⟩
 cases fl with
 |ret u=>obtain⟨_,_,_,_,_,z⟩:=hs;exact z.elim
 |brk=>obtain⟨_,_,_,z⟩:=hs;exact z.elim
 |cont=>obtain⟨_,_,_,z⟩:=hs;exact z.elim
 |next=>
  obtain⟨σ2,H2,I2,rfl,rfl⟩:=hs
  refine PySem.wpAt_of_wpAny (aU ((aV (gK (pv 0) (pv 1))) [] s2 _ _ _ I2 ?_) λ _ _ z=>z)
  exact⟨v1,rfl,_,rfl,e,C,rfl,ha1,.inl ⟨he,λ d hd=>q d hd⟩⟩
abbrev Bx:Stmt:=kW (top 3) 0
theorem Sf{P:Program}{w:World}{K:Qf}{mg:Qk}{base:Heap}{C f cc cda:Addr}{fd:FuncData}(F:jU P K mg "NoKind.__init__" Bx C f cc cda fd)(ha1:cL K C "kind" =true):bD P w K mg base bM 2 f fd ["self","kind"] (dU C ["kind"]):=by
 obtain⟨oc,od,kV,doc,pm,an,ct,osl,rfl,lk⟩:=F.fn
 obtain⟨ccl,cdd,vs,ccs,x,tf,lcode,hvs,hfile⟩:=F.file
 obtain⟨cl,cld,csl,lc⟩:=F.cell
 refine kU lk F.code lc ⟨rfl,rfl,rfl,Qd,Qd,Qd,Qd⟩ (λ vs H Q E ⟨e,us,h,hl,_⟩=>by rw[h,List.length_cons,hl];rfl) λ A outer s s1 H vs Q E hr h I=>?_
 obtain⟨e,us,rfl,hl,hu,he,q⟩:=h
 obtain⟨v1,rfl⟩:=mB hl
 obtain⟨y1,h1,l1⟩:=hu v1 Qb
 refine PySem.ks_wpAt_execs_cons (PySem.ks_wpAt_mono (kD (D:={nx:=λ σ' H'=>σ'=[some (.ref e),some v1]/\H'=H,rt:=λ _ _=>False}) lk rfl rfl lcode hvs hfile lc F.sup F.top rfl rfl rfl F.all (aE (kS (cJ bJ (cJ (gM (pv 1)) kM))) aG) I rfl he ?q rfl rfl rfl) (λ fl s2 hs=>?_) (λ _ _ (z:False)=>z.elim))
 case q=>exact⟨_,rfl,Nat.le_trans (fits Qm Ql) Qc,v1,rfl,y1,h1,_,rfl,Nat.le_trans (fits (fits Qm Ql) l1) Qc,Nat.le_trans (fits (fits Qm Ql) l1) Qc,rfl,he,rfl,rfl⟩
 cases fl with
 |ret u=>obtain⟨_,_,_,_,_,z⟩:=hs;exact z.elim
 |brk=>obtain⟨_,_,_,z⟩:=hs;exact z.elim
 |cont=>obtain⟨_,_,_,z⟩:=hs;exact z.elim
 |next=>
  obtain⟨σ2,H2,I2,rfl,rfl⟩:=hs
  refine PySem.wpAt_of_wpAny (aU ((aV (gK (pv 0) (pv 1))) [] s2 _ _ _ I2 ?_) λ _ _ z=>z)
  exact⟨v1,rfl,_,rfl,e,C,rfl,ha1,.inl ⟨he,λ d hd=>q d hd⟩⟩
abbrev Bw:Stmt:=kW (top 4) 0
theorem Se{P:Program}{w:World}{K:Qf}{mg:Qk}{base:Heap}{C f cc cda:Addr}{fd:FuncData}(F:jU P K mg "Out.__init__" Bw C f cc cda fd)(ha1:cL K C "card" =true):bD P w K mg base bM 2 f fd ["self","card"] (dU C ["card"]):=by
 obtain⟨oc,od,kV,doc,pm,an,ct,osl,rfl,lk⟩:=F.fn
 obtain⟨ccl,cdd,vs,ccs,x,tf,lcode,hvs,hfile⟩:=F.file
 obtain⟨cl,cld,csl,lc⟩:=F.cell
 refine kU lk F.code lc ⟨rfl,rfl,rfl,Qd,Qd,Qd,Qd⟩ (λ vs H Q E ⟨e,us,h,hl,_⟩=>by rw[h,List.length_cons,hl];rfl) λ A outer s s1 H vs Q E hr h I=>?_
 obtain⟨e,us,rfl,hl,hu,he,q⟩:=h
 obtain⟨v1,rfl⟩:=mB hl
 obtain⟨y1,h1,l1⟩:=hu v1 Qb
 refine PySem.ks_wpAt_execs_cons (PySem.ks_wpAt_mono (kD (D:={nx:=λ σ' H'=>σ'=[some (.ref e),some v1]/\H'=H,rt:=λ _ _=>False}) lk rfl rfl lcode hvs hfile lc F.sup F.top rfl rfl rfl F.all (aE (kS (cJ bJ (cJ (gM (pv 1)) (cJ bJ kM)))) aG) I rfl he ?q rfl rfl rfl) (λ fl s2 hs=>?_) (λ _ _ (z:False)=>z.elim))
 case q=>exact⟨_,rfl,Nat.le_trans (fits Qm Ql) Qc,v1,rfl,y1,h1,_,rfl,Nat.le_trans (fits (fits Qm Ql) l1) Qc,_,rfl,Nat.le_trans (fits (fits (fits Qm Ql) l1) Ql) Qc,Nat.le_trans (fits (fits (fits Qm Ql) l1) Ql) Qc,rfl,he,rfl,rfl⟩
 cases fl with
 |ret u=>obtain⟨_,_,_,_,_,z⟩:=hs;exact z.elim
 |brk=>obtain⟨_,_,_,z⟩:=hs;exact z.elim
 |cont=>obtain⟨_,_,_,z⟩:=hs;exact z.elim
 |next=>
  obtain⟨σ2,H2,I2,rfl,rfl⟩:=hs
  refine PySem.wpAt_of_wpAny (aU ((aV (gK (pv 0) (pv 1))) [] s2 _ _ _ I2 ?_) λ _ _ z=>z)
  exact⟨v1,rfl,_,rfl,e,C,rfl,ha1,.inl ⟨he,λ d hd=>q d hd⟩⟩
abbrev Cc:Stmt:=kW (top 5) 0
theorem Sl{P:Program}{w:World}{K:Qf}{mg:Qk}{base:Heap}{C f cc cda:Addr}{fd:FuncData}(F:jU P K mg "Blocked.__init__" Cc C f cc cda fd)(ha1:cL K C "card" =true):bD P w K mg base bM 2 f fd ["self","card"] (dU C ["card"]):=by
 obtain⟨oc,od,kV,doc,pm,an,ct,osl,rfl,lk⟩:=F.fn
 obtain⟨ccl,cdd,vs,ccs,x,tf,lcode,hvs,hfile⟩:=F.file
 obtain⟨cl,cld,csl,lc⟩:=F.cell
 refine kU lk F.code lc ⟨rfl,rfl,rfl,Qd,Qd,Qd,Qd⟩ (λ vs H Q E ⟨e,us,h,hl,_⟩=>by rw[h,List.length_cons,hl];rfl) λ A outer s s1 H vs Q E hr h I=>?_
 obtain⟨e,us,rfl,hl,hu,he,q⟩:=h
 obtain⟨v1,rfl⟩:=mB hl
 obtain⟨y1,h1,l1⟩:=hu v1 Qb
 refine PySem.ks_wpAt_execs_cons (PySem.ks_wpAt_mono (kD (D:={nx:=λ σ' H'=>σ'=[some (.ref e),some v1]/\H'=H,rt:=λ _ _=>False}) lk rfl rfl lcode hvs hfile lc F.sup F.top rfl rfl rfl F.all (aE (kS (cJ bJ (cJ (gM (pv 1)) (cJ bJ kM)))) aG) I rfl he ?q rfl rfl rfl) (λ fl s2 hs=>?_) (λ _ _ (z:False)=>z.elim))
 case q=>exact⟨_,rfl,Nat.le_trans (fits Qm Ql) Qc,v1,rfl,y1,h1,_,rfl,Nat.le_trans (fits (fits Qm Ql) l1) Qc,_,rfl,Nat.le_trans (fits (fits (fits Qm Ql) l1) Ql) Qc,Nat.le_trans (fits (fits (fits Qm Ql) l1) Ql) Qc,rfl,he,rfl,rfl⟩
 cases fl with
 |ret u=>obtain⟨_,_,_,_,_,z⟩:=hs;exact z.elim
 |brk=>obtain⟨_,_,_,z⟩:=hs;exact z.elim
 |cont=>obtain⟨_,_,_,z⟩:=hs;exact z.elim
 |next=>
  obtain⟨σ2,H2,I2,rfl,rfl⟩:=hs
  refine PySem.wpAt_of_wpAny (aU ((aV (gK (pv 0) (pv 1))) [] s2 _ _ _ I2 ?_) λ _ _ z=>z)
  exact⟨v1,rfl,_,rfl,e,C,rfl,ha1,.inl ⟨he,λ d hd=>q d hd⟩⟩
abbrev Bv:Stmt:=kW (top 7) 0
theorem Sc{P:Program}{w:World}{K:Qf}{mg:Qk}{base:Heap}{C f cc cda:Addr}{fd:FuncData}(F:jU P K mg "Waits.__init__" Bv C f cc cda fd)(ha1:cL K C "card" =true)(ha2:cL K C "other" =true):bD P w K mg base bM 2 f fd ["self","card","other"] (dU C ["card","other"]):=by
 obtain⟨oc,od,kV,doc,pm,an,ct,osl,rfl,lk⟩:=F.fn
 obtain⟨ccl,cdd,vs,ccs,x,tf,lcode,hvs,hfile⟩:=F.file
 obtain⟨cl,cld,csl,lc⟩:=F.cell
 refine kU lk F.code lc ⟨rfl,rfl,rfl,Qd,Qd,Qd,Qd⟩ (λ vs H Q E ⟨e,us,h,hl,_⟩=>by rw[h,List.length_cons,hl];rfl) λ A outer s s1 H vs Q E hr h I=>?_
 obtain⟨e,us,rfl,hl,hu,he,q⟩:=h
 obtain⟨v1,v2,rfl⟩:=tJ hl
 obtain⟨y1,h1,l1⟩:=hu v1 Qb
 obtain⟨y2,h2,l2⟩:=hu v2 Qb
 refine PySem.ks_wpAt_execs_cons (PySem.ks_wpAt_mono (kD (D:={nx:=λ σ' H'=>σ'=[some (.ref e),some v1,some v2]/\H'=H,rt:=λ _ _=>False}) lk rfl rfl lcode hvs hfile lc F.sup F.top rfl rfl rfl F.all (aE (kS (cJ bJ (cJ (gM (pv 1)) (cJ bJ (cJ (gM (pv 2)) kM))))) aG) I rfl he ?q rfl rfl rfl) (λ fl s2 hs=>?_) (λ _ _ (z:False)=>z.elim))
 case q=>exact⟨_,rfl,Nat.le_trans (fits Qm Ql) Qc,v1,rfl,y1,h1,_,rfl,Nat.le_trans (fits (fits Qm Ql) l1) Qc,_,rfl,Nat.le_trans (fits (fits (fits Qm Ql) l1) Ql) Qc,v2,rfl,y2,h2,_,rfl,Nat.le_trans (fits (fits (fits (fits Qm Ql) l1) Ql) l2) Qc,Nat.le_trans (fits (fits (fits (fits Qm Ql) l1) Ql) l2) Qc,rfl,he,rfl,rfl⟩
 cases fl with
 |ret u=>obtain⟨_,_,_,_,_,z⟩:=hs;exact z.elim
 |brk=>obtain⟨_,_,_,z⟩:=hs;exact z.elim
 |cont=>obtain⟨_,_,_,z⟩:=hs;exact z.elim
 |next=>
  obtain⟨σ2,H2,I2,rfl,rfl⟩:=hs
  refine PySem.wpAt_of_wpAny (aU ((pO (gK (pv 0) (pv 1)) (aV (gK (pv 0) (pv 2)))) [] s2 _ _ _ I2 ?_) λ _ _ z=>z)
  refine⟨v1,rfl,_,rfl,e,C,rfl,ha1,.inl ⟨he,λ d hd=>?_⟩⟩
  have hne:d≠e:=λ z=>by rw[z,he]at hd;cases hd
  refine⟨v2,rfl,_,rfl,e,C,rfl,ha2,.inr ⟨d,_,aP,by rw[aR hne,aP],by show 1<1000;decide,?_⟩⟩
  rw[rA hne]
  exact q d hd
abbrev Cb:Stmt:=kW (top 8) 0
theorem Sk{P:Program}{w:World}{K:Qf}{mg:Qk}{base:Heap}{C f cc cda:Addr}{fd:FuncData}(F:jU P K mg "Full.__init__" Cb C f cc cda fd)(ha1:cL K C "lane" =true)(ha2:cL K C "bound" =true):bD P w K mg base bM 2 f fd ["self","lane","bound"] (dU C ["lane","bound"]):=by
 obtain⟨oc,od,kV,doc,pm,an,ct,osl,rfl,lk⟩:=F.fn
 obtain⟨ccl,cdd,vs,ccs,x,tf,lcode,hvs,hfile⟩:=F.file
 obtain⟨cl,cld,csl,lc⟩:=F.cell
 refine kU lk F.code lc ⟨rfl,rfl,rfl,Qd,Qd,Qd,Qd⟩ (λ vs H Q E ⟨e,us,h,hl,_⟩=>by rw[h,List.length_cons,hl];rfl) λ A outer s s1 H vs Q E hr h I=>?_
 obtain⟨e,us,rfl,hl,hu,he,q⟩:=h
 obtain⟨v1,v2,rfl⟩:=tJ hl
 obtain⟨y1,h1,l1⟩:=hu v1 Qb
 obtain⟨y2,h2,l2⟩:=hu v2 Qb
 refine PySem.ks_wpAt_execs_cons (PySem.ks_wpAt_mono (kD (D:={nx:=λ σ' H'=>σ'=[some (.ref e),some v1,some v2]/\H'=H,rt:=λ _ _=>False}) lk rfl rfl lcode hvs hfile lc F.sup F.top rfl rfl rfl F.all (aE (kS (cJ bJ (cJ (gM (pv 1)) (cJ bJ (cJ (gM (pv 2)) kM))))) aG) I rfl he ?q rfl rfl rfl) (λ fl s2 hs=>?_) (λ _ _ (z:False)=>z.elim))
 case q=>exact⟨_,rfl,Nat.le_trans (fits Qm Ql) Qc,v1,rfl,y1,h1,_,rfl,Nat.le_trans (fits (fits Qm Ql) l1) Qc,_,rfl,Nat.le_trans (fits (fits (fits Qm Ql) l1) Ql) Qc,v2,rfl,y2,h2,_,rfl,Nat.le_trans (fits (fits (fits (fits Qm Ql) l1) Ql) l2) Qc,Nat.le_trans (fits (fits (fits (fits Qm Ql) l1) Ql) l2) Qc,rfl,he,rfl,rfl⟩
 cases fl with
 |ret u=>obtain⟨_,_,_,_,_,z⟩:=hs;exact z.elim
 |brk=>obtain⟨_,_,_,z⟩:=hs;exact z.elim
 |cont=>obtain⟨_,_,_,z⟩:=hs;exact z.elim
 |next=>
  obtain⟨σ2,H2,I2,rfl,rfl⟩:=hs
  refine PySem.wpAt_of_wpAny (aU ((pO (gK (pv 0) (pv 1)) (aV (gK (pv 0) (pv 2)))) [] s2 _ _ _ I2 ?_) λ _ _ z=>z)
  refine⟨v1,rfl,_,rfl,e,C,rfl,ha1,.inl ⟨he,λ d hd=>?_⟩⟩
  have hne:d≠e:=λ z=>by rw[z,he]at hd;cases hd
  refine⟨v2,rfl,_,rfl,e,C,rfl,ha2,.inr ⟨d,_,aP,by rw[aR hne,aP],by show 1<1000;decide,?_⟩⟩
  rw[rA hne]
  exact q d hd
abbrev Bz:Stmt:=kW (top 9) 0
theorem Si{P:Program}{w:World}{K:Qf}{mg:Qk}{base:Heap}{C f cc cda:Addr}{fd:FuncData}(F:jU P K mg "KindFull.__init__" Bz C f cc cda fd)(ha1:cL K C "lane" =true)(ha2:cL K C "kind" =true)(ha3:cL K C "bound" =true):bD P w K mg base bM 2 f fd ["self","lane","kind","bound"] (dU C ["lane","kind","bound"]):=by
 obtain⟨oc,od,kV,doc,pm,an,ct,osl,rfl,lk⟩:=F.fn
 obtain⟨ccl,cdd,vs,ccs,x,tf,lcode,hvs,hfile⟩:=F.file
 obtain⟨cl,cld,csl,lc⟩:=F.cell
 refine kU lk F.code lc ⟨rfl,rfl,rfl,Qd,Qd,Qd,Qd⟩ (λ vs H Q E ⟨e,us,h,hl,_⟩=>by rw[h,List.length_cons,hl];rfl) λ A outer s s1 H vs Q E hr h I=>?_
 obtain⟨e,us,rfl,hl,hu,he,q⟩:=h
 obtain⟨v1,v2,v3,rfl⟩:=Dy hl
 obtain⟨y1,h1,l1⟩:=hu v1 Qb
 obtain⟨y2,h2,l2⟩:=hu v2 Qb
 obtain⟨y3,h3,l3⟩:=hu v3 Qb
 refine PySem.ks_wpAt_execs_cons (PySem.ks_wpAt_mono (kD (D:={nx:=λ σ' H'=>σ'=[some (.ref e),some v1,some v2,some v3]/\H'=H,rt:=λ _ _=>False}) lk rfl rfl lcode hvs hfile lc F.sup F.top rfl rfl rfl F.all (aE (kS (cJ bJ (cJ (gM (pv 1)) (cJ bJ (cJ (gM (pv 3)) (cJ bJ (cJ (gM (pv 2)) kM))))))) aG) I rfl he ?q rfl rfl rfl) (λ fl s2 hs=>?_) (λ _ _ (z:False)=>z.elim))
 case q=>exact⟨_,rfl,Nat.le_trans (fits Qm Ql) Qc,v1,rfl,y1,h1,_,rfl,Nat.le_trans (fits (fits Qm Ql) l1) Qc,_,rfl,Nat.le_trans (fits (fits (fits Qm Ql) l1) Ql) Qc,v3,rfl,y3,h3,_,rfl,Nat.le_trans (fits (fits (fits (fits Qm Ql) l1) Ql) l3) Qc,_,rfl,Nat.le_trans (fits (fits (fits (fits (fits Qm Ql) l1) Ql) l3) Ql) Qc,v2,rfl,y2,h2,_,rfl,Nat.le_trans (fits (fits (fits (fits (fits (fits Qm Ql) l1) Ql) l3) Ql) l2) Qc,Nat.le_trans (fits (fits (fits (fits (fits (fits Qm Ql) l1) Ql) l3) Ql) l2) Qc,rfl,he,rfl,rfl⟩
 cases fl with
 |ret u=>obtain⟨_,_,_,_,_,z⟩:=hs;exact z.elim
 |brk=>obtain⟨_,_,_,z⟩:=hs;exact z.elim
 |cont=>obtain⟨_,_,_,z⟩:=hs;exact z.elim
 |next=>
  obtain⟨σ2,H2,I2,rfl,rfl⟩:=hs
  refine PySem.wpAt_of_wpAny (aU ((pO (gK (pv 0) (pv 1)) (pO (gK (pv 0) (pv 2)) (aV (gK (pv 0) (pv 3))))) [] s2 _ _ _ I2 ?_) λ _ _ z=>z)
  refine⟨v1,rfl,_,rfl,e,C,rfl,ha1,.inl ⟨he,λ d hd=>?_⟩⟩
  have hne:d≠e:=λ z=>by rw[z,he]at hd;cases hd
  refine⟨v2,rfl,_,rfl,e,C,rfl,ha2,.inr ⟨d,_,aP,by rw[aR hne,aP],by show 1<1000;decide,?_⟩⟩
  rw[rA hne]
  refine⟨v3,rfl,_,rfl,e,C,rfl,ha3,.inr ⟨d,_,aP,by rw[aR hne,aP],by show 2<1000;decide,?_⟩⟩
  rw[rA hne]
  exact q d hd
abbrev Ca:Stmt:=kW (top 6) 0
theorem Sj{P:Program}{w:World}{K:Qf}{mg:Qk}{base:Heap}{C f cc cda:Addr}{fd:FuncData}(F:jU P K mg "InYard.__init__" Ca C f cc cda fd)(ha1:cL K C "card" =true):bD P w K mg base bM 2 f fd ["self","card"] (dU C ["card"]):=by
 obtain⟨oc,od,kV,doc,pm,an,ct,osl,rfl,lk⟩:=F.fn
 obtain⟨ccl,cdd,vs,ccs,x,tf,lcode,hvs,hfile⟩:=F.file
 obtain⟨cl,cld,csl,lc⟩:=F.cell
 refine kU lk F.code lc ⟨rfl,rfl,rfl,Qd,Qd,Qd,Qd⟩ (λ vs H Q E ⟨e,us,h,hl,_⟩=>by rw[h,List.length_cons,hl];rfl) λ A outer s s1 H vs Q E hr h I=>?_
 obtain⟨e,us,rfl,hl,hu,he,q⟩:=h
 obtain⟨v1,rfl⟩:=mB hl
 obtain⟨y1,h1,l1⟩:=hu v1 Qb
 refine PySem.ks_wpAt_execs_cons (PySem.ks_wpAt_mono (kD (D:={nx:=λ σ' H'=>σ'=[some (.ref e),some v1]/\H'=H,rt:=λ _ _=>False}) lk rfl rfl lcode hvs hfile lc F.sup F.top rfl rfl rfl F.all (aE (kS (cJ bJ (cJ (gM (pv 1)) (cJ bJ kM)))) aG) I rfl he ?q rfl rfl rfl) (λ fl s2 hs=>?_) (λ _ _ (z:False)=>z.elim))
 case q=>exact⟨_,rfl,Nat.le_trans (fits Qm Ql) Qc,v1,rfl,y1,h1,_,rfl,Nat.le_trans (fits (fits Qm Ql) l1) Qc,_,rfl,Nat.le_trans (fits (fits (fits Qm Ql) l1) Ql) Qc,Nat.le_trans (fits (fits (fits Qm Ql) l1) Ql) Qc,rfl,he,rfl,rfl⟩
 cases fl with
 |ret u=>obtain⟨_,_,_,_,_,z⟩:=hs;exact z.elim
 |brk=>obtain⟨_,_,_,z⟩:=hs;exact z.elim
 |cont=>obtain⟨_,_,_,z⟩:=hs;exact z.elim
 |next=>
  obtain⟨σ2,H2,I2,rfl,rfl⟩:=hs
  refine PySem.wpAt_of_wpAny (aU ((aV (gK (pv 0) (pv 1))) [] s2 _ _ _ I2 ?_) λ _ _ z=>z)
  exact⟨v1,rfl,_,rfl,e,C,rfl,ha1,.inl ⟨he,λ d hd=>q d hd⟩⟩
def rP(CK:Addr):Sp:=λ vs H Q E=>∃(p:Pl) (v:V) (x:Str),vs=[v,.str x]/\aD [] H p.d v/\x.length<=1000/\
 (∀k u H',p.kd? x=some k->aI [] H H'->aD [] H' k.d u->Q u H')/\(p.kd? x=none->dL CK [("kind",.str x)] H E)
def vG(CK:Addr):Sp:=λ vs H Q E=>∃(p:Pl) (v:V) (x:Str),vs=[v,.str x]/\aD [] H p.d v/\x.length<=1000/\
 (∀k a H',p.kd? x=some k->aI [] H H'->H' a=some (.tup (k.way.map V.int))->Q (.ref a) H')/\(p.kd? x=none->dL CK [("kind",.str x)] H E)
def vR:Sp:=λ vs H Q _=>∃(p:Pl) (v:V) (x:Str) (l:Int) (k:Kd) (j:Nat) (b:Int),vs=[v,.str x,.int l]/\aD [] H p.d v/\x.length<=1000/\p.kd? x=some k/\k.way[j]? =some l/\(∀m w,m<j->k.way[m]? =some w->w≠l)/\k.bds[j]? =some b/\
 ∀H',aI [] H H'->Q (.int b) H'
def lL:Sp:=λ vs H Q _=>∃(p:Pl) (v:V) (x:Str) (j:Int) (k:Kd),vs=[v,.str x,.int j]/\aD [] H p.d v/\x.length<=1000/\p.kd? x=some k/\0<=j/\∀H',aI [] H H'->Q (.int (p.at x j)) H'
def rR(CC:Addr):Sp:=λ vs H Q E=>∃(s:Sd) (v:V) (x:Str),vs=[v,.str x]/\aD [] H s.d v/\x.length<=1000/\
 (∀c u H',s.cd? x=some c->aI [] H H'->aD [] H' c.d u->Q u H')/\(s.cd? x=none->dL CC [("card",.str x)] H E)
def vL(CC:Addr):Sp:=λ vs H Q E=>∃(p:Pl) (s:Sd) (v u:V) (x:Str),vs=[v,u,.str x]/\aD [] H p.d v/\aD [] H s.d u/\x.length<=1000/\gX p/\jT p s/\
 (∀c H',s.cd? x=some c->aI [] H H'->Q (.int (p.lane c)) H')/\(s.cd? x=none->dL CC [("card",.str x)] H E)
def rL(CC:Addr):Sp:=λ vs H Q E=>∃(p:Pl) (s:Sd) (v u:V) (x:Str),vs=[v,u,.str x]/\aD [] H p.d v/\aD [] H s.d u/\x.length<=1000/\gX p/\jT p s/\
 (∀c H',s.cd? x=some c->aI [] H H'->Q (.bl (decide (p.lane c=p.n))) H')/\(s.cd? x=none->dL CC [("card",.str x)] H E)
def vS:Sp:=λ vs H Q _=>∃(p:Pl) (s:Sd) (v u:V) (l:Int),vs=[v,u,.int l]/\aD [] H p.d v/\aD [] H s.d u/\gX p/\jT p s/\∀a H',H a=none->aI [] H H'->H' a=some (.lst ((s.inL p l).map V.str))->Q (.ref a) H'
def vK:Sp:=λ vs H Q _=>∃(p:Pl) (s:Sd) (v u:V) (l:Int) (x:Str) (k:Kd),vs=[v,u,.int l,.str x]/\aD [] H p.d v/\aD [] H s.d u/\gX p/\jT p s/\x.length<=1000/\p.kd? x=some k/\∀H',aI [] H H'->Q (.int (s.many p l x:Nat)) H'
theorem gZ.kd{p:Pl}{c:Cd}(P:gX p)(h:gZ p c):c.kd.length<=1000:=by
 obtain⟨_,k,hk,_⟩:=h
 obtain⟨h1,h2⟩:=eA hk
 rw[<-h2]
 exact(P.kw k h1).2.2.1
structure qP(K:Qf)(mg:Qk):Prop where
 b_len:mg "len" =none
 g_YARD:∃u,mg "YARD" =some u/\bE (.int (-1)) u
section
variable{P:Program}{w:World}{K:Qf}{mg:Qk}{base:Heap}{CK CC:Addr}
abbrev wL:Stmt:=top 13
theorem sc_kind_of:bT ["plan","kind","told"] ["plan","kind"] (aT wL):=⟨rfl,rfl,rfl,Qd,rfl,Qd,Qd⟩
theorem Rz{f:Addr}{fd:FuncData}(F:bO K "kind_of" "kind_of" wL f fd)(yU:jA P w K mg base "NoKind" CK 2 ["self","kind"] (dU CK ["kind"]))(hrs:fG K CK=true):bD P w K mg base (eU P w) 4 f fd ["plan","kind"] (rP CK):=by
 refine F.okX sc_kind_of (λ vs H Q E h=>?_) (λ cdv A outer s H vs Q E hr h=>?_)
 ·obtain⟨p,v,x,rfl,_⟩:=h
  rfl
 obtain⟨p,v,x,rfl,hd,hx,q1,q2⟩:=h
 refine'⟨_,?hh,?rr⟩
 case hh=>exists Qg,PS.nox ?_,iA PassesOwn.never rfl ?_ ?_ ?_,fL ?_,aN aX (pv 0) aK (λ _ _=>rfl),bI sc_kind_of.nd (aO 2) (Or.inl rfl) (Or.inl rfl),aV ?_,bS ?_ ?_ bR,bN cG ?_ (pv 1) (bH _),aN aX (pv 2) aK (λ _ _=>rfl),aV ?_,bF (pv 2),aV ?_,kL dY ?_,kQ yU hr ?_ rfl ?_,aE (pv 1) aG,Qc
 obtain⟨a,la,ka,lv,kv,rfl,ha,hla,hls,hka,hks,el,ek⟩:=Pl.view hd
 refine⟨_,rfl,a,_,_,_,rfl,rfl,aJ.of ha,rfl,ka,rfl,⟨kv,aJ.of hka⟩,tR (xs:=kv) (λ i σ H2=>∃(nn:Option V),σ=[some (V.ref a),some (V.str x),nn]/\aI [] H H2/\∀j k,j<i->p.ks[j]? =some k->(k.nm==x)=false) ⟨none,rfl,aI.refl,λ j d hj=>absurd hj (Nat.not_lt_zero j)⟩ (λ i σ H2 _ ⟨_,_,e,_⟩=>aJ.of (e.tup Qb hka)) ?_ ?_⟩
 ·rintro i y σ H2 hy ⟨nn,rfl,e,hw⟩
  obtain⟨k,hk,hdy⟩:=hks.nth hy
  have hdy2:=aD.ext e hdy
  obtain⟨c,wa,ba,rfl,hc,_,_⟩:=Kd.view hdy2
  refine⟨_,rfl,c,_,_,.str k.nm,rfl,rfl,aJ.of hc,uD (j:=0) rfl,_,rfl,rfl,_,rfl,?_⟩
  refine bA (λ cc=>?_) (λ cc=>?_)
  ·have cc':(k.nm==x)=true:=by simpa using cc
   exact⟨_,rfl,q1 k _ _ (qD p.ks i k hw hk cc') e hdy2⟩
  ·refine⟨_,rfl,e,λ j k' hj hk'=>?_⟩
   by_cases hji:j=i
   ·subst hji
    rw[hk]at hk'
    cases hk'
    simpa using cc
   ·exact hw j k' Qa hk'
 ·rintro σ H2 ⟨nn,rfl,e,hw⟩
  have hnone:=qC p.ks _ hw Qa
  exact⟨_,rfl,kI ["kind"] [.str x] (q2 hnone) e (nB (iO hx)) hrs⟩
abbrev wE:Stmt:=top 11
theorem Mw:bT ["plan","kind"] ["plan","kind"] (aT wE):=⟨rfl,rfl,rfl,Qd,rfl,Qd,Qd⟩
theorem Rc{f:Addr}{fd:FuncData}(F:bO K "way_of" "way_of" wE f fd)(oK:cI P w K mg base "kind_of" 4 ["plan","kind"] (rP CK)):bD P w K mg base (eU P w) 5 f fd ["plan","kind"] (vG CK):=by
 refine F.okX Mw (λ vs H Q E h=>?_) (λ cdv A outer s H vs Q E hr h=>?_)
 ·obtain⟨p,v,x,rfl,_⟩:=h
  rfl
 obtain⟨p,v,x,rfl,hd,hx,q1,q2⟩:=h
 refine'⟨_,?hh,?rr⟩
 case hh=>exists aV ?_,bF ?_,aN aX ?_ aK (λ _ _=>rfl),fM dY oK hr ?_ rfl ?_,aE (pv 0) ?_,aE (pv 1) aG,Qc
 refine⟨_,rfl,_,rfl,p,v,x,rfl,hd,hx,λ k u H' hk e hu=>?_,λ hn=>(q2 hn).on⟩
 obtain⟨c,wa,ba,rfl,hc,hwa,_⟩:=Kd.view hu
 exact⟨c,_,_,_,rfl,rfl,aJ.of hc,rfl,q1 k wa H' hk e hwa⟩
abbrev wK:Stmt:=top 20
theorem sc_lane_at:bT ["plan","kind","place","way"] ["plan","kind","place"] (aT wK):=⟨rfl,rfl,rfl,Qd,rfl,Qd,Qd⟩
theorem Ry{f:Addr}{fd:FuncData}(F:bO K "lane_at" "lane_at" wK f fd)(T:qP K mg)(zJ:cI P w K mg base "way_of" 5 ["plan","kind"] (vG CK)):bD P w K mg base bM 6 f fd ["plan","kind","place"] lL:=by
 refine F.ok sc_lane_at (λ vs H Q E h=>?_) (λ cdv A outer s H vs Q E hr h=>?_)
 ·obtain⟨p,v,x,j,k,rfl,_⟩:=h
  rfl
 obtain⟨p,v,x,j,k,rfl,hd,hx,hk,hj,q⟩:=h
 refine'⟨_,?hh,?rr⟩
 case hh=>exists Qg,bS ?_ ?_ bR,bN cG (pv 2) aK (bH _),aV ?_,bF (kT T.g_YARD),Qg,bG sc_lane_at.nd (aO 3) (Or.inl rfl) ?_,fM uR zJ hr ?_ rfl ?_,aE (pv 0) ?_,aE (pv 1) aG,Qc,Qg,bS ?_ ?_ bR,bN Dh (pv 2) ?_ (bH _),bL cY rfl T.b_len PySem.boot_len ?_,aE (pv 3) aG,aV ?_,bF ?_,bL cY rfl T.b_len PySem.boot_len ?_,aE ?_ aG,aN aX (pv 0) aK (λ _ _=>rfl),aV ?_,bF ?_,aN aX (pv 3) ?_ (λ _ _=>rfl),bK pR (pv 2) aK
 refine⟨_,rfl,rfl,_,rfl,?_⟩
 refine bA (λ cc=>?_) (λ cc=>?_)
 ·have:j=0:=by simpa using cc
  subst this
  have q':=q H aI.refl
  rw[qM]at q'
  exact q'
 have hj0:j≠0:=by simpa using cc
 refine⟨_,rfl,_,rfl,p,v,x,rfl,hd,hx,λ k' a H1 hk' e1 ha=>?_,λ hn=>by rw[hk]at hn;cases hn⟩
 rw[hk]at hk'
 cases hk'
 refine⟨_,rfl,_,rfl,a,_,rfl,.inr (aJ.of ha),_,_,rfl,rfl,_,rfl,?_⟩
 rw[List.length_map]
 refine bA (λ cc=>?_) (λ cc=>?_)
 ·have hlt:(k.way.length:Int)<j:=by simpa using cc
  obtain⟨b,la,ka,lv,kv,rfl,hb,hla,hls,hka,hks,el,ek⟩:=Pl.view (aD.ext e1 hd)
  refine⟨_,rfl,b,_,_,_,rfl,rfl,aJ.of hb,rfl,la,lv,rfl,.inr (aJ.of hla),?_⟩
  have q':=q H1 e1
  rw[nZ hk hlt]at q'
  rw[el]
  exact q'
 ·have hle:j<=(k.way.length:Int):=by
   have:¬(k.way.length:Int)<j:=by simpa using cc
   omega
  obtain⟨l,hl,el⟩:=qN hk Qa hle
  refine⟨_,rfl,_,rfl,_,_,rfl,rfl,a,_,_,.int l,rfl,rfl,aJ.of ha,cZ Qa (by rw[List.getElem?_map,hl];rfl),?_⟩
  have q':=q H1 e1
  rw[el]at q'
  exact q'
abbrev wP:Stmt:=top 16
theorem sc_card_of:bT ["stand","card","told"] ["stand","card"] (aT wP):=⟨rfl,rfl,rfl,Qd,rfl,Qd,Qd⟩
theorem Sr{f:Addr}{fd:FuncData}(F:bO K "card_of" "card_of" wP f fd)(yV:jA P w K mg base "NoCard" CC 2 ["self","card"] (dU CC ["card"]))(hrs:fG K CC=true):bD P w K mg base (eU P w) 4 f fd ["stand","card"] (rR CC):=by
 refine F.okX sc_card_of (λ vs H Q E h=>?_) (λ cdv A outer s H vs Q E hr h=>?_)
 ·obtain⟨p,v,x,rfl,_⟩:=h
  rfl
 obtain⟨sd,v,x,rfl,hd,hx,q1,q2⟩:=h
 refine'⟨_,?hh,?rr⟩
 case hh=>exists Qg,PS.nox ?_,iA PassesOwn.never rfl ?_ ?_ ?_,fL ?_,aN aX (pv 0) aK (λ _ _=>rfl),bI sc_card_of.nd (aO 2) (Or.inl rfl) (Or.inl rfl),aV ?_,bS ?_ ?_ bR,bN cG ?_ (pv 1) (bH _),aN aX (pv 2) aK (λ _ _=>rfl),aV ?_,bF (pv 2),aV ?_,kL dY ?_,kQ yV hr ?_ rfl ?_,aE (pv 1) aG,Qc
 obtain⟨a,ba,ca,wa,cv,wv,rfl,ha,hba,hca,hcs,hwa,hws,ec,ew⟩:=Sd.view hd
 refine⟨_,rfl,a,_,_,_,rfl,rfl,aJ.of ha,rfl,ca,rfl,⟨cv,aJ.of hca⟩,tR (xs:=cv) (λ i σ H2=>∃(nn:Option V),σ=[some (V.ref a),some (V.str x),nn]/\aI [] H H2/\∀j k,j<i->sd.cs[j]? =some k->(k.nm==x)=false) ⟨none,rfl,aI.refl,λ j d hj=>absurd hj (Nat.not_lt_zero j)⟩ (λ i σ H2 _ ⟨_,_,e,_⟩=>aJ.of (e.tup Qb hca)) ?_ ?_⟩
 ·rintro i y σ H2 hy ⟨nn,rfl,e,hw⟩
  obtain⟨k,hk,hdy⟩:=hcs.nth hy
  have hdy2:=aD.ext e hdy
  obtain⟨c,rfl,hc⟩:=Cd.view hdy2
  refine⟨_,rfl,c,_,_,.str k.nm,rfl,rfl,aJ.of hc,uD (j:=0) rfl,_,rfl,rfl,_,rfl,?_⟩
  refine bA (λ cc=>?_) (λ cc=>?_)
  ·have cc':(k.nm==x)=true:=by simpa using cc
   exact⟨_,rfl,q1 k _ _ (qD sd.cs i k hw hk cc') e hdy2⟩
  ·refine⟨_,rfl,e,λ j k' hj hk'=>?_⟩
   by_cases hji:j=i
   ·subst hji
    rw[hk]at hk'
    cases hk'
    simpa using cc
   ·exact hw j k' Qa hk'
 ·rintro σ H2 ⟨nn,rfl,e,hw⟩
  have hnone:=qC sd.cs _ hw Qa
  exact⟨_,rfl,kI ["card"] [.str x] (q2 hnone) e (nB (iO hx)) hrs⟩
abbrev wJ:Stmt:=top 17
theorem sc_lane_of:bT ["plan","stand","card","name","kind","place","blocked"] ["plan","stand","card"] (aT wJ):=⟨rfl,rfl,rfl,Qd,rfl,Qd,Qd⟩
theorem Rx{f:Addr}{fd:FuncData}(F:bO K "lane_of" "lane_of" wJ f fd)(oO:cI P w K mg base "card_of" 4 ["stand","card"] (rR CC))(fR:aZ P w K mg base "lane_at" 6 ["plan","kind","place"] lL):bD P w K mg base (eU P w) 7 f fd ["plan","stand","card"] (vL CC):=by
 refine F.okX sc_lane_of (λ vs H Q E h=>?_) (λ cdv A outer s H vs Q E hr h=>?_)
 ·obtain⟨p,sd,v,u,x,rfl,_⟩:=h
  rfl
 obtain⟨p,sd,v,u,x,rfl,hp,hs,hx,Po,So,q1,q2⟩:=h
 refine'⟨_,?hh,?rr⟩
 case hh=>exists Qg,nH ?_ ?_,fM dY oO hr ?_ rfl ?_,aE (pv 1) ?_,aE (pv 2) aG,Qc,lT rfl ?_,cK ?_ ?_,bI sc_lane_of.nd (aO 3) (Or.inl rfl) (Or.inl rfl),cK ?_ ?_,bI sc_lane_of.nd (aO 4) (Or.inl rfl) (Or.inl rfl),cK ?_ ?_,bI sc_lane_of.nd (aO 5) (Or.inl rfl) (Or.inl rfl),cK ?_ kN,bI sc_lane_of.nd (aO 6) (Or.inl rfl) (Or.inl rfl),aV ?_,bF ?_,bB fR hr ?_ rfl ?_,aE (pv 0) ?_,aE (pv 4) ?_,aE (pv 5) aG,Qc
 refine⟨_,rfl,_,rfl,sd,u,x,rfl,hs,hx,λ c cu H1 hc e1 hcu=>?_,λ hn=>(q2 hn).on⟩
 obtain⟨a,rfl,ha⟩:=Cd.view hcu
 have Co:=So.c c (mO hc).1
 obtain⟨_,k,hk,p0,p1⟩:=id Co
 refine⟨_,_,rfl,aJ.of ha,rfl,_,_,rfl,_,_,rfl,_,_,rfl,_,_,rfl,rfl,?_⟩
 exact⟨_,rfl,_,rfl,_,rfl,p,v,c.kd,c.pl,k,rfl,aD.ext e1 hp,gZ.kd Po Co,hk,p0,λ H2 e2=>q1 c H2 hc (e1.trans e2)⟩
abbrev wN:Stmt:=top 21
theorem My:bT ["plan","stand","card"] ["plan","stand","card"] (aT wN):=⟨rfl,rfl,rfl,Qd,rfl,Qd,Qd⟩
theorem Sb{f:Addr}{fd:FuncData}(F:bO K "is_out" "is_out" wN f fd)(T:qP K mg)(zO:cI P w K mg base "lane_of" 7 ["plan","stand","card"] (vL CC)):bD P w K mg base (eU P w) 8 f fd ["plan","stand","card"] (rL CC):=by
 refine F.okX My (λ vs H Q E h=>?_) (λ cdv A outer s H vs Q E hr h=>?_)
 ·obtain⟨p,sd,v,u,x,rfl,_⟩:=h
  rfl
 obtain⟨p,sd,v,u,x,rfl,hp,hs,hx,Po,So,q1,q2⟩:=h
 refine'⟨_,?hh,?rr⟩
 case hh=>exists aV ?_,bF ?_,iB cG ?_ ?_ (bH _),fM dY zO hr ?_ rfl ?_,aE (pv 0) ?_,aE (pv 1) ?_,aE (pv 2) aG,Qc,bL cY rfl T.b_len PySem.boot_len ?_,aE ?_ aG,aN aX (pv 0) aK (λ _ _=>rfl)
 refine⟨_,rfl,_,rfl,_,rfl,p,sd,v,u,x,rfl,hp,hs,hx,Po,So,λ c H1 hc e1=>?_,λ hn=>(q2 hn).on⟩
 obtain⟨b,la,ka,lv,kv,rfl,hb,hla,hls,hka,hks,el,ek⟩:=Pl.view (aD.ext e1 hp)
 refine⟨_,rfl,b,_,_,_,rfl,rfl,aJ.of hb,rfl,la,lv,rfl,.inr (aJ.of hla),rfl,?_⟩
 have q':=q1 c H1 hc e1
 rw[el]
 have e:decide (V.int (p.lane c)=V.int ((p.ls.length:Nat):Int))=decide (p.lane c=p.n):=by
  unfold Pl.n
  simp
 rw[e]
 exact q'
end
section
variable{P:Program}{w:World}{K:Qf}{mg:Qk}{base:Heap}{CK CC:Addr}
theorem uX{α:Type}{xs:List α}{i:Nat}{x:α}(h:xs[i]? =some x):xs.take (i+1)=xs.take i++[x]:=by
 rw[List.take_add_one,h];rfl
abbrev pF:Stmt:=top 18
theorem Mz:bT ["plan","stand","lane"] ["plan","stand","lane"] (aT pF):=⟨rfl,rfl,rfl,Qd,rfl,Qd,Qd⟩
theorem Sq{f:Addr}{fd:FuncData}(F:bO K "cards_in" "cards_in" pF f fd)(fR:aZ P w K mg base "lane_at" 6 ["plan","kind","place"] lL):bD P w K mg base bM 7 f fd ["plan","stand","lane"] vS:=by
 refine F.ok Mz (λ vs H Q E h=>?_) (λ cdv A outer s H vs Q E hr h=>?_)
 ·obtain⟨p,sd,v,u,l,rfl,_⟩:=h
  rfl
 obtain⟨p,sd,v,u,l,rfl,hp,hs,Po,So,q⟩:=h
 refine'⟨_,?hh,?rr⟩
 case hh=>exists aV ?_,bF ?_,kR rfl ?_ (eH ["name","kind","place","blocked","plan","lane"] 4 [0,2]) ?_ ?_ ?_ ?_ ?_ ?_ ?_,(by exact⟨rfl,Qd,Qd,(show∀y:Str×NameKind,y∈_->y.2=NameKind.free->(aT pF).names.lookup y.1=some .cell\/(aT pF).names.lookup y.1=some .free from Qd)⟩),Qd,Qc,fL ?_,aN aX (pv 1) aK (λ _ _=>rfl),4,Da (K:=K) (n:=4) rfl rfl ?_,cK ?_ ?_,bI ?_ (aO 0) (Or.inl rfl) (Or.inr rfl),(by exact(show(["name","kind","place","blocked","plan","lane"]:List Str).Nodup from Qd)),cK ?_ ?_,bI ?_ (aO 1) (Or.inl rfl) (Or.inr rfl),(by exact(show(["name","kind","place","blocked","plan","lane"]:List Str).Nodup from Qd)),cK ?_ ?_,bI ?_ (aO 2) (Or.inl rfl) (Or.inr rfl),(by exact(show(["name","kind","place","blocked","plan","lane"]:List Str).Nodup from Qd)),cK ?_ kN,bI ?_ (aO 3) (Or.inl rfl) (Or.inr rfl),(by exact(show(["name","kind","place","blocked","plan","lane"]:List Str).Nodup from Qd)),Eu (nS Qc (nS Qc (nS Qc (nS Qc Et)))),4,hZ ?_,bN cG ?_ (pv 5) (bH _),bB fR hr ?_ rfl ?_,aE (pv 4) ?_,aE (pv 1) ?_,aE (pv 2) aG,Qc,4,(pv 0)
 obtain⟨a,ba,ca,wa,cv,wv,rfl,ha,hba,hca,hcs,hwa,hws,ec,ew⟩:=Sd.view hs
 refine⟨_,rfl,a,_,_,_,rfl,rfl,aJ.of ha,rfl,ca,rfl,⟨cv,aJ.of hca⟩,gP (hJ (ys:=cv)) (λ i xs H2=>aI [] H H2/\xs=(((sd.cs.take i).filter λ c=>p.lane c==l).map (·.nm)).map V.str) ⟨aI.refl,rfl⟩ (λ _ _ _ h=>aJ.of (h.1.tup Qb hca)) ?_ ?_⟩
 ·rintro i y xs H2 hy hi ⟨e,rfl⟩
  obtain⟨c,hc,hdy⟩:=hcs.nth hy
  obtain⟨b,rfl,hb⟩:=Cd.view (aD.ext e hdy)
  have Co:=So.c c (List.mem_of_getElem? hc)
  obtain⟨_,k,hk,p0,p1⟩:=id Co
  refine⟨_,_,rfl,aJ.of hb,rfl,_,_,rfl,_,_,rfl,_,_,rfl,_,_,rfl,rfl,?_⟩
  refine⟨_,rfl,_,rfl,_,rfl,p,v,c.kd,c.pl,k,rfl,aD.ext e hp,gZ.kd Po Co,hk,p0,λ H3 e3=>?_⟩
  refine⟨_,rfl,rfl,_,rfl,?_⟩
  have et:decide (V.int (p.at c.kd c.pl)=V.int l)=(p.lane c==l):=by
   unfold Pl.lane
   by_cases h:p.at c.kd c.pl=l<;>simp[h]
  have tk:=uX hc
  refine bA (λ cc=>?_) (λ cc=>?_)
  ·rw[et]at cc
   refine⟨_,rfl,?_,nx hi ⟨e.trans e3,?_⟩⟩
   ·rw[List.length_map,List.length_map]
    refine cB (Nat.le_trans (List.length_filter_le _ _) ?_)
    rw[List.length_take]
    have:=So.nc
    omega
   ·rw[tk,List.filter_append,List.map_append,List.map_append]
    simp[cc]
  ·rw[et]at cc
   refine nx hi ⟨e.trans e3,?_⟩
   rw[tk,List.filter_append,List.map_append,List.map_append]
   simp[cc]
 ·rintro xs H2 ⟨e,rfl⟩ b hb
  rw[ec,List.take_length]
  exact q b _ (e.free Qb hb) (e.trans (aI.new hb _)) aP
abbrev pD:Stmt:=top 19
theorem Mx:bT ["plan","stand","lane","kind"] ["plan","stand","lane","kind"] (aT pD):=⟨rfl,rfl,rfl,Qd,rfl,Qd,Qd⟩
theorem Rm{f:Addr}{fd:FuncData}(F:bO K "many_of" "many_of" pD f fd)(T:qP K mg)(fR:aZ P w K mg base "lane_at" 6 ["plan","kind","place"] lL):bD P w K mg base bM 7 f fd ["plan","stand","lane","kind"] vK:=by
 refine F.ok Mx (λ vs H Q E h=>?_) (λ cdv A outer s H vs Q E hr h=>?_)
 ·obtain⟨p,sd,v,u,l,x,k,rfl,_⟩:=h
  rfl
 obtain⟨p,sd,v,u,l,x,k,rfl,hp,hs,Po,So,hx,hk,q⟩:=h
 refine'⟨_,?hh,?rr⟩
 case hh=>exists aV ?_,bF ?_,bL cY rfl T.b_len PySem.boot_len ?_,aE ?_ aG,kR rfl ?_ (eH ["card","plan","lane","kind"] 1 [0,2,3]) ?_ ?_ ?_ ?_ ?_ ?_ ?_,(by exact⟨rfl,Qd,Qd,(show∀y:Str×NameKind,y∈_->y.2=NameKind.free->(aT pD).names.lookup y.1=some .cell\/(aT pD).names.lookup y.1=some .free from Qd)⟩),Qd,Qc,fL ?_,aN aX (pv 1) aK (λ _ _=>rfl),4,bI ?_ (aO 0) (Or.inl rfl) (Or.inr rfl),(by exact(show(["card","plan","lane","kind"]:List Str).Nodup from Qd)),eZ Qc,4,hZ ?_,PW.pt ?_,sL ?_ ?_,bN cG ?_ (pv 3) (bH _),aN ?_ (pv 0) aK (λ _ _=>rfl),(by exact(show cQ _ (fK K)from aX)),wX ?_,bN cG ?_ (pv 2) (bH _),bB fR hr ?_ rfl ?_,aE (pv 1) ?_,aE (pv 3) ?_,aE ?_ aG,aN ?_ (pv 0) aK (λ _ _=>rfl),(by exact(show cQ _ (fK K)from aX)),Qc,4,(pv 0)
 obtain⟨a,ba,ca,wa,cv,wv,rfl,ha,hba,hca,hcs,hwa,hws,ec,ew⟩:=Sd.view hs
 refine⟨_,rfl,a,_,_,_,rfl,rfl,aJ.of ha,rfl,ca,rfl,⟨cv,aJ.of hca⟩,gP (hJ (ys:=cv)) (λ i xs H2=>aI [] H H2/\xs.length=((sd.cs.take i).filter λ c=>c.kd==x&&p.at x c.pl==l).length) ⟨aI.refl,rfl⟩ (λ _ _ _ h=>aJ.of (h.1.tup Qb hca)) ?_ ?_⟩
 ·rintro i y xs H2 hy hi ⟨e,hxs⟩
  obtain⟨c,hc,hdy⟩:=hcs.nth hy
  obtain⟨b,rfl,hb⟩:=Cd.view (aD.ext e hdy)
  have Co:=So.c c (List.mem_of_getElem? hc)
  obtain⟨_,k',hk',p0,p1⟩:=id Co
  have tk:=uX hc
  refine⟨_,rfl,b,_,_,.str c.kd,rfl,rfl,aJ.of hb,rfl,_,rfl,rfl,_,rfl,?_⟩
  have small:((sd.cs.take i).filter λ c=>c.kd==x&&p.at x c.pl==l).length<=900:=by
   refine Nat.le_trans (List.length_filter_le _ _) ?_
   rw[List.length_take]
   have:=So.nc
   omega
  refine bA (λ cc=>?_) (λ cc=>?_)
  ·have ck:c.kd=x:=by simpa using cc
   refine⟨_,rfl,_,rfl,_,rfl,b,_,_,.int c.pl,rfl,rfl,aJ.of hb,rfl,p,v,x,c.pl,k,rfl,aD.ext e hp,hx,hk,p0,λ H3 e3=>?_⟩
   refine⟨_,rfl,rfl,_,rfl,?_⟩
   refine bA (λ c2=>?_) (λ c2=>?_)
   ·have c2':p.at x c.pl=l:=by simpa using c2
    refine⟨_,rfl,cB Qa,nx hi ⟨e.trans e3,?_⟩⟩
    rw[tk,List.filter_append,List.length_append,List.length_append,hxs]
    simp[ck,c2']
   ·have c2':¬p.at x c.pl=l:=by simpa using c2
    refine nx hi ⟨e.trans e3,?_⟩
    rw[tk,List.filter_append,List.length_append,hxs]
    simp[c2']
  ·have ck:¬c.kd=x:=by simpa using cc
   refine nx hi ⟨e,?_⟩
   rw[tk,List.filter_append,List.length_append,hxs]
   simp[ck]
 ·rintro xs H2 ⟨e,hxs⟩ b hb
  rw[ec,List.take_length]at hxs
  refine⟨b,xs,rfl,.inl (aQ.of aP),?_⟩
  rw[hxs]
  exact q _ (e.trans (aI.new hb _))
abbrev wM:Stmt:=top 12
theorem sc_kind_bound:bT ["plan","kind","lane","name","way","bounds"] ["plan","kind","lane"] (aT wM):=⟨rfl,rfl,rfl,Qd,rfl,Qd,Qd⟩
theorem Sa{f:Addr}{fd:FuncData}(F:bO K "kind_bound" "kind_bound" wM f fd)(oK:cI P w K mg base "kind_of" 4 ["plan","kind"] (rP CK)):bD P w K mg base bM 5 f fd ["plan","kind","lane"] vR:=by
 refine F.ok sc_kind_bound (λ vs H Q E h=>?_) (λ cdv A outer s H vs Q E hr h=>?_)
 ·obtain⟨p,v,x,l,k,j,b,rfl,_⟩:=h
  rfl
 obtain⟨p,v,x,l,k,j,b,rfl,hp,hx,hk,hj,hb4,hbj,q⟩:=h
 refine'⟨_,?hh,?rr⟩
 case hh=>exists Qg,nH ?_ ?_,fM uR oK hr ?_ rfl ?_,aE (pv 0) ?_,aE (pv 1) aG,Qc,lT rfl ?_,cK ?_ ?_,bI sc_kind_bound.nd (aO 3) (Or.inl rfl) (Or.inl rfl),cK ?_ ?_,bI sc_kind_bound.nd (aO 4) (Or.inl rfl) (Or.inl rfl),cK ?_ kN,bI sc_kind_bound.nd (aO 5) (Or.inl rfl) (Or.inl rfl),aV ?_,bF ?_,aN aX (pv 5) ?_ (λ _ _=>rfl),sN PySem.F.plainAttrs_tuple PySem.F.slot_tuple_index PySem.F.type_tuple_index sY (pv 4) ?_,aE (pv 2) aG
 refine⟨_,rfl,_,rfl,p,v,x,rfl,hp,hx,λ k' u H1 hk' e1 hu=>?_,λ hn=>by rw[hk]at hn;cases hn⟩
 rw[hk]at hk'
 cases hk'
 obtain⟨c,wa,ba,rfl,hc,hwa,hba⟩:=Kd.view hu
 refine⟨_,_,rfl,aJ.of hc,rfl,_,_,rfl,_,_,rfl,_,_,rfl,rfl,?_⟩
 refine⟨_,rfl,_,rfl,⟨wa,_,rfl,hwa⟩,_,rfl,wa,_,_,j,rfl,rfl,aJ.of hwa,rfl,?_,⟨⟨.int l,by rw[List.getElem?_map,hj];rfl,?_⟩,λ m y hm hy=>?_⟩,ba,_,_,.int b,rfl,rfl,aJ.of hba,uD (j:=j) (by rw[List.getElem?_map,hbj];rfl),q H1 e1⟩
 ·rw[List.all_map]
  exact List.all_eq_true.mpr λ _ _=>rfl
 ·show dB (.int l) (.int l)=true
  simp[dB]
 ·rw[List.getElem?_map]at hy
  cases hw:k.way[m]? with
  |none=>rw[hw]at hy;cases hy
  |some w'=>
   rw[hw]at hy
   obtain rfl:=Option.some.inj hy
   have:=hb4 m w' hm hw
   show dB (.int w') (.int l)=false
   simp[dB,this]
end
end K10
namespace L2
open PySem PySem.Spec PyProof.Rows PySem.W
inductive cS where
 |noCard
 |out
 |blocked
 |waits (o:Str)
 |full (l:Str) (b:Int)
 |kindFull (l k:Str) (b:Int)
 |inYard
structure gW where
 NC:Addr
 Ou:Addr
 Bl:Addr
 Wa:Addr
 Fu:Addr
 KF:Addr
 IY:Addr
def cS.cls(c:gW):cS->Addr
 |.noCard=>c.NC
 |.out=>c.Ou
 |.blocked=>c.Bl
 |.waits _=>c.Wa
 |.full _ _=>c.Fu
 |.kindFull _ _ _=>c.KF
 |.inYard=>c.IY
def cS.fs(x:Str):cS->List (Str×V)
 |.waits o=>[("card",.str x),("other",.str o)]
 |.full l b=>[("lane",.str l),("bound",.int b)]
 |.kindFull l k b=>[("lane",.str l),("kind",.str k),("bound",.int b)]
 |_=>[("card",.str x)]
def Sd.out(s:Sd)(p:Pl)(x:Str):Bool:=match s.cd? x with
 |some c=>decide (p.lane c=p.n)
 |none=>false
def dJ(p:Pl)(s:Sd)(x:Str)(l:Int)(w:Wt):Bool:=w.cd==x&&(decide (w.ln<=l)&& !s.out p w.ot)
def Pl.kb(p:Pl)(x:Str)(l:Int):Int:=match p.kd? x with
 |some k=>k.bds.getD (k.way.findIdx (· ==l)) 0
 |none=>0
def dH(p:Pl)(s:Sd)(l:Int)(x:Str):Option cS:=
 if 0<=l/\l<p.n then
  if s.bs.getD l.toNat 0<=((s.inL p l).length:Int)then some (.full (p.ls.getD l.toNat ("",0)).1 (s.bs.getD l.toNat 0))
  else if p.kb x l<=(s.many p l x:Int)then some (.kindFull (p.ls.getD l.toNat ("",0)).1 x (p.kb x l))else none
 else none
def dG(p:Pl)(s:Sd)(x:Str):Except cS Cd:=match s.cd? x with
 |none=>.error .noCard
 |some c=>if p.lane c=p.n then .error .out else if c.bk=true then .error .blocked else .ok c
def dN(p:Pl)(s:Sd)(x:Str):Except cS Cd:=match dG p s x with
 |.error r=>.error r
 | .ok c=>match s.ws.find? (dJ p s x (p.at c.kd (c.pl+1)))with
  |some w=>.error (.waits w.ot)
  |none=>match dH p s (p.at c.kd (c.pl+1)) c.kd with
   |some r=>.error r
   |none=>.ok {c with pl:=c.pl+1}
def dD(p:Pl)(s:Sd)(x:Str):Except cS Cd:=match dG p s x with
 |.error r=>.error r
 |.ok c=>if c.pl=0 then .error .inYard else match dH p s (p.at c.kd (c.pl-1)) c.kd with
  |some r=>.error r
  |none=>.ok {c with pl:=c.pl-1}
structure zX(p:Pl)(s:Sd):Prop where
 b:∀b∈s.bs,eS (.int b)
 k:∀k∈p.ks,∀b∈k.bds,eS (.int b)
theorem Nf:∀n:Nat,n<102->(Str.ofString (toString ((n:Int)-2))).length<=1000:=by decide+kernel
theorem Bu{b:Int}(h0: -2<=b)(h1:b<100):eS (.int b):=by
 have hl:b.natAbs.log2<1920:=by
  have:b.natAbs<=100:=by omega
  by_cases h:b.natAbs=0
  ·rw[h];decide
  ·refine Nat.lt_of_lt_of_le ((Nat.log2_lt h (k:=7)).mpr ?_) Qc
   show b.natAbs<128
   omega
 refine⟨_,if_pos hl,?_⟩
 have:=Nf (b+2).toNat Qa
 rw[show(((b+2).toNat:Nat):Int)-2=b from Qa]at this
 exact this
theorem tE{p:Pl}{s:Sd}{x:Str}{c:Cd}(h:dG p s x= .ok c):s.cd? x=some c/\p.lane c≠p.n/\c.bk=false:=by
 unfold dG at h
 cases hc:s.cd? x with
 |none=>rw[hc]at h;cases h
 | some c'=>
  rw[hc]at h
  dsimp only at h
  split at h
  ·cases h
  ·split at h
   ·cases h
   ·rename_i h1 h2
    cases h
    exact⟨rfl,h1,by simpa using h2⟩
theorem sW{p:Pl}{c:Cd}{k:Kd}(hk:p.kd? c.kd=some k)(h1:c.pl<=k.way.length+1)(h:p.lane c≠p.n):c.pl<=k.way.length:=by
 by_cases h2:c.pl<=k.way.length
 ·exact h2
 ·exact absurd (nZ hk Qa) h
theorem uC{p:Pl}{x:Str}{k:Kd}{j:Int}(hk:p.kd? x=some k)(h0:0<=j)(hl:0<=p.at x j)(hn:p.at x j<p.n):p.at x j∈k.way:=by
 by_cases h1:j=0
 ·rw[h1,qM]at hl;omega
 ·by_cases h2:(k.way.length:Int)<j
  ·rw[nZ hk h2]at hn;omega
  ·obtain⟨w,hw,e⟩:=qN (j:=j) hk Qa Qa
   rw[e]
   exact List.mem_of_getElem? hw
theorem Xn{l:Int}{w:List Int}(h:l∈w):w[w.findIdx (· ==l)]? =some l/\∀m x,m<w.findIdx (· ==l)->w[m]? =some x->x≠l:=by
 have hlt:w.findIdx (· ==l)<w.length:=List.findIdx_lt_length_of_exists ⟨l,h,Qb⟩
 refine⟨?_,λ m x hm hx=>?_⟩
 ·rw[List.getElem?_eq_getElem hlt]
  have:=List.findIdx_getElem (p:=(· ==l)) (xs:=w) (w:=hlt)
  simpa using this
 ·have hml:m<w.length:=by omega
  have:=List.not_of_lt_findIdx (p:=(· ==l)) (xs:=w) hm
  rw[List.getElem?_eq_getElem hml]at hx
  cases hx
  simpa using this
end L2
namespace K10
open PySem PySem.Spec L2 PyProof.Rows PySem.W
def rM(k:gW):Sp:=λ vs H Q E=>∃(p:Pl) (s:Sd) (v u:V) (x:Str),vs=[v,u,.str x]/\aD [] H p.d v/\aD [] H s.d u/\x.length<=1000/\gX p/\jT p s/\
 (∀c cu H',dG p s x= .ok c->aI [] H H'->aD [] H' c.d cu->Q cu H')/\∀r,dG p s x= .error r->dL (r.cls k) (r.fs x) H E
def vW(k:gW):Sp:=λ vs H Q E=>∃(p:Pl) (s:Sd) (v u:V) (x:Str) (l:Int),vs=[v,u,.str x,.int l]/\aD [] H p.d v/\aD [] H s.d u/\x.length<=1000/\gX p/\jT p s/\
 (s.ws.find? (dJ p s x l)=none->∀H',aI [] H H'->Q .non H')/\∀w,s.ws.find? (dJ p s x l)=some w->dL k.Wa [("card",.str x),("other",.str w.ot)] H E
def rQ(k:gW):Sp:=λ vs H Q E=>∃(p:Pl) (s:Sd) (v u:V) (l:Int) (x z:Str) (kd:Kd),vs=[v,u,.int l,.str x]/\aD [] H p.d v/\aD [] H s.d u/\x.length<=1000/\gX p/\jT p s/\zX p s/\p.kd? x=some kd/\(0<=l->l<p.n->l∈kd.way)/\
 (dH p s l x=none->∀H',aI [] H H'->Q .non H')/\∀r,dH p s l x=some r->dL (r.cls k) (r.fs z) H E
section
variable{P:Program}{w:World}{K:Qf}{mg:Qk}{base:Heap}{CK CC:Addr}{k:gW}
abbrev wO:Stmt:=top 26
theorem sc_card_that_can_move:bT ["plan","stand","card","told"] ["plan","stand","card"] (aT wO):=⟨rfl,rfl,rfl,Qd,rfl,Qd,Qd⟩
theorem Rl{f:Addr}{fd:FuncData}(F:bO K "card_that_can_move" "card_that_can_move" wO f fd)(yT:jA P w K mg base "Out" k.Ou 2 ["self","card"] (dU k.Ou ["card"]))(yZ:jA P w K mg base "Blocked" k.Bl 2 ["self","card"] (dU k.Bl ["card"]))(r1:fG K k.Ou=true)(r2:fG K k.Bl=true)
  (oO:cI P w K mg base "card_of" 4 ["stand","card"] (rR k.NC)) (oM:cI P w K mg base "is_out" 8 ["plan","stand","card"] (rL k.NC)):bD P w K mg base (eU P w) 9 f fd ["plan","stand","card"] (rM k):=by
 refine F.okX sc_card_that_can_move (λ vs H Q E h=>?_) (λ cdv A outer s H vs Q E hr h=>?_)
 ·obtain⟨p,sd,v,u,x,rfl,_⟩:=h
  rfl
 obtain⟨p,sd,v,u,x,rfl,hp,hs,hx,Po,So,q1,q2⟩:=h
 refine'⟨_,?hh,?rr⟩
 case hh=>exists Qg,bG sc_card_that_can_move.nd (aO 3) (Or.inl rfl) ?_,fM dY oO hr ?_ rfl ?_,aE (pv 1) ?_,aE (pv 2) aG,Qc,Qg,bS ?_ ?_ bR,fS ?_,fM dY oM hr ?_ rfl ?_,aE (pv 0) ?_,aE (pv 1) ?_,aE (pv 2) aG,Qc,aV ?_,kL dY ?_,kQ yT hr ?_ rfl ?_,aE (pv 2) aG,Qc,Qg,bS ?_ ?_ bR,fS ?_,aN aX (pv 3) aK (λ _ _=>rfl),aV ?_,kL dY ?_,kQ yZ hr ?_ rfl ?_,aE (pv 2) aG,Qc,aV ?_,bF (pv 3)
 refine⟨_,rfl,_,rfl,sd,u,x,rfl,hs,hx,λ c cu H1 hc e1 hcu=>?_,λ hn=>dL.on (q2 .noCard (by unfold dG;rw[hn]))⟩
 have em:dG p sd x=if p.lane c=p.n then .error .out else if c.bk=true then .error .blocked else .ok c:=by unfold dG;rw[hc]
 refine⟨_,rfl,_,rfl,_,rfl,p,sd,v,u,x,rfl,aD.ext e1 hp,aD.ext e1 hs,hx,Po,So,λ c' H2 hc' e2=>?_,λ hn=>by rw[hc]at hn;cases hn⟩
 rw[hc]at hc'
 cases hc'
 refine⟨_,rfl,bA (λ cc=>?_) (λ cc=>?_)⟩
 ·have cc':p.lane c=p.n:=of_decide_eq_true cc
  rw[if_pos cc']at em
  exact⟨_,rfl,kI ["card"] [.str x] (q2 _ em) (e1.trans e2) (nB (iO hx)) r1⟩
 have cc':¬p.lane c=p.n:=λ z=>cc (decide_eq_true z)
 rw[if_neg cc']at em
 have hcu2:=aD.ext e2 hcu
 obtain⟨a,rfl,ha⟩:=Cd.view hcu2
 refine⟨_,rfl,a,_,_,.bl c.bk,rfl,rfl,aJ.of ha,rfl,_,rfl,bA (λ c2=>?_) (λ c2=>?_)⟩
 ·rw[if_pos c2]at em
  exact⟨_,rfl,kI ["card"] [.str x] (q2 _ em) (e1.trans e2) (nB (iO hx)) r2⟩
 ·rw[if_neg c2]at em
  exact⟨_,rfl,q1 c _ H2 em (e1.trans e2) hcu2⟩
abbrev wF:Stmt:=top 27
theorem sc_refuse_if_it_waits:bT ["plan","stand","card","lane","waiting","barred","other"] ["plan","stand","card","lane"] (aT wF):=⟨rfl,rfl,rfl,Qd,rfl,Qd,Qd⟩
theorem Sw{f:Addr}{fd:FuncData}(F:bO K "refuse_if_it_waits" "refuse_if_it_waits" wF f fd)(yS:jA P w K mg base "Waits" k.Wa 2 ["self","card","other"] (dU k.Wa ["card","other"]))(r1:fG K k.Wa=true)
  (oM:cI P w K mg base "is_out" 8 ["plan","stand","card"] (rL CC)):bD P w K mg base (eU P w) 9 f fd ["plan","stand","card","lane"] (vW k):=by
 refine F.okX sc_refuse_if_it_waits (λ vs H Q E h=>?_) (λ cdv A outer s H vs Q E hr h=>?_)
 ·obtain⟨p,sd,v,u,x,l,rfl,_⟩:=h
  rfl
 obtain⟨p,sd,v,u,x,l,rfl,hp,hs,hx,Po,So,q1,q2⟩:=h
 refine'⟨_,?hh,?rr⟩
 case hh=>exists aV ?_,iA PassesOwn.leaving rfl ?_ ?_ ?_,fL ?_,aN aX (pv 1) aK (λ _ _=>rfl),lT rfl ?_,cK ?_ ?_,bI sc_refuse_if_it_waits.nd (aO 4) (Or.inl rfl) (Or.inl rfl),cK ?_ ?_,bI sc_refuse_if_it_waits.nd (aO 5) (Or.inl rfl) (Or.inl rfl),cK ?_ kN,bI sc_refuse_if_it_waits.nd (aO 6) (Or.inl rfl) (Or.inl rfl),aV ?_,bS ?_ ?_ bR,PW.pt ?_,sL ?_ ?_,bN cG (pv 4) (pv 2) (bH _),sL ?_ ?_,bN nJ (pv 5) (pv 3) (bH _),wX ?_,jH ?_,fS ?_,fM dY oM hr ?_ rfl ?_,aE (pv 0) ?_,aE (pv 1) ?_,aE (pv 6) aG,Qc,aV ?_,kL dY ?_,kQ yS hr ?_ rfl ?_,aE (pv 2) ?_,aE (pv 6) aG,Qc
 obtain⟨a,ba,ca,wa,cv,wv,rfl,ha,hba,hca,hcs,hwa,hws,ec,ew⟩:=Sd.view hs
 refine⟨_,rfl,a,_,_,_,rfl,rfl,aJ.of ha,rfl,wa,rfl,⟨wv,aJ.of hwa⟩,tR (xs:=wv) (λ i σ H2=>∃(n1 n2 n3:Option V),σ=[some v,some (V.ref a),some (V.str x),some (V.int l),n1,n2,n3]/\aI [] H H2/\∀j t,j<i->sd.ws[j]? =some t->dJ p sd x l t=false) ⟨none,none,none,rfl,aI.refl,λ j d hj=>absurd hj (Nat.not_lt_zero j)⟩ (λ i σ H2 _ ⟨_,_,_,_,e,_⟩=>aJ.of (e.tup Qb hwa)) ?_ ?_⟩
 ·rintro i y σ H2 hy ⟨n1,n2,n3,rfl,e,hw⟩
  obtain⟨t,ht,hdy⟩:=hws.nth hy
  obtain⟨b,rfl,hb⟩:=Wt.view (aD.ext e hdy)
  obtain⟨i1,i2,i3,i4⟩:=So.w t (List.mem_of_getElem? ht)
  have nextBy:dJ p sd x l t=false->∀j t',j<i+1->sd.ws[j]? =some t'->dJ p sd x l t'=false:=λ hf j t' hj ht'=>by
   by_cases hji:j=i
   ·subst hji
    rw[ht]at ht'
    cases ht'
    exact hf
   ·exact hw j t' Qa ht'
  refine⟨_,_,rfl,aJ.of hb,rfl,_,_,rfl,_,_,rfl,_,_,rfl,rfl,?_⟩
  refine⟨_,rfl,_,rfl,rfl,_,rfl,?_⟩
  refine bA (λ cc=>?_) (λ cc=>?_)
  ·have c1:(t.cd==x)=true:=by simpa using cc
   refine⟨_,rfl,_,rfl,_,_,rfl,rfl,_,rfl,?_⟩
   refine bA (λ cc=>?_) (λ cc=>?_)
   ·refine⟨_,rfl,_,rfl,_,rfl,p,sd,v,_,t.ot,rfl,aD.ext e hp,aD.ext e hs,i4,Po,So,λ o H3 ho e3=>?_,λ hn=>by rw[hn]at i2;cases i2⟩
    have eo:sd.out p t.ot=decide (p.lane o=p.n):=by unfold Sd.out;rw[ho]
    have eb:dJ p sd x l t= !decide (p.lane o=p.n):=by
     unfold dJ
     rw[c1,cc,eo]
     simp
    refine⟨_,rfl,?_⟩
    refine bA (λ c3=>?_) (λ c3=>?_)
    ·rw[c3]at eb
     exact⟨_,rfl,_,rfl,kI ["card","other"] [.str x,.str t.ot] (q2 t (qD sd.ws i t hw ht eb)) (e.trans e3) (wD (iO hx) (iO i4)) r1⟩
    ·rw[Bool.eq_false_iff.mpr c3]at eb
     exact⟨_,_,_,rfl,e.trans e3,nextBy eb⟩
   ·refine⟨_,_,_,rfl,e,nextBy ?_⟩
    unfold dJ
    rw[Bool.eq_false_iff.mpr cc]
    simp
  ·refine⟨_,_,_,rfl,e,nextBy ?_⟩
   have c1:(t.cd==x)=false:=by simpa using cc
   unfold dJ
   rw[c1]
   rfl
 ·rintro σ H2 ⟨n1,n2,n3,rfl,e,hw⟩
  exact q1 (qC sd.ws _ hw Qa) H2 e
end
end K10
namespace L2
open PySem PySem.Spec PyProof.Rows
def tL(Fin:Shared->Prop):GenEnd:=λ _ _ r s₁=>r= .ok .next/\Fin s₁
def tK(Ok:Value->Shared->(Shared->Prop)->Prop):Protocol:=λ _ _ v s₁ kap=>Ok v s₁ λ s₂=>kap (.send .none) s₂
def uI(Xg:Cx)(pa:Qj)(σg:St)(D:Addr)(fp:List Addr):Value->Shared->(Shared->Prop)->Prop:=λ v s₁ C=>∃x acc H,bE x v/\aB Xg pa σg H s₁/\H D=some (.lst acc)/\acc.length<sizeLine/\
 ∀s₂,aB Xg pa σg (aA H D (.lst (acc++[x]))) s₂->(∀b∈fp,∀o,s₁.heap.get? b=some o->s₂.heap.get? b=some o)->C s₂
section
variable{Xg:Cx}{A:Around}{elt tg iter:Expr}{ifs:List Expr}{scope:Scope}{pos:Pos}{it:Addr}{J:It}{fp:List Addr}{tn:Nat->Heap->Prop}{g:TG}{tt:TT}{te:TE}{k:Nat}{σg:St}{D:Addr}{pa:Qj}
theorem Ms(hA:Xg.A=A.over (.compLoop (.GeneratorExp elt [⟨tg,iter,ifs,0⟩] scope pos) 0 (.ref it) .none Xg.env) [])(hxe:Xg.xe=λ _ _=>False)(hco:Xg.env.scope.isCoroutine=false)(hc:Xg.calm=true)
  (hg:PG Xg tg g) (gk:mU k g) (ht:mS Xg ifs tt) (he:PE Xg elt te) (T:jS Xg.prog Xg.w Xg.K tg J fp it tn) (hk:k<=σg.length) (hown:∀(j:Nat) (v:V),σg[j]? =some (some v)->k<=j)
  (fpok:∀H':Hp,(∀b∈fp,H' b=none)->∀b∈fp,fE Xg pa H' b) (W:Nat->Nat->List V->Hp->Prop) (Qt:List V->Hp->Prop)
  (turn:∀i m xs H,W i m xs H->(J.stop i H/\Qt xs H)\/(J.go i H/\∀x H',J.yld i H x H'->g x σg H' λ σ2 H2=>tt σ2 H2 λ b H3=>if b=true then te σ2 H3 λ v H4=>H4 D=some (.lst xs)/\xs.length<sizeLine/\∃m',m'<m/\W (i+1) m' (xs++[v]) (aA H4 D (.lst (xs++[v])))else∃m',m'<m/\W (i+1) m' xs H3)):
  ∀ (m n:Nat),m<n->∀(i:Nat) (xs:List V) (H:Hp) (s s₀:Shared),W i m xs H->aB Xg pa σg H s->tn i s.heap->(∀b∈fp,H b=none)->
   Seg (model Xg.prog Xg.w) A (tL λ s'=>∃H',aB Xg pa σg H' s'/\∃xs,Qt xs H') (tK (uI Xg pa σg D fp)) n s₀
    (.compLoop (.GeneratorExp elt [⟨tg,iter,ifs,0⟩] scope pos) 0 (.ref it) .none Xg.env) ((model Xg.prog Xg.w).den (.compLoop (.GeneratorExp elt [⟨tg,iter,ifs,0⟩] scope pos) 0 (.ref it) .none Xg.env)) [] s:=by
 intro m
 induction m using Nat.strongRecOn with
 | _ m ih=>
  intro n hmn i xs H s s₀ w I st hfr
  show Seg _ A _ _ _ s₀ _ ((compTurn (.GeneratorExp elt [⟨tg,iter,ifs,0⟩] scope pos) 0 (.ref it) .none Xg.env).onRaise (leaving Xg.env)) [] s
  rw[compTurn_gen,Sem.onRaise_eq_wrap]
  refine seg_bind_wrap (wpAny_standAt ?_)
  rcases turn i m xs H w with⟨stop,q⟩|⟨go,step⟩
  ·have d:=T.done Xg rfl rfl rfl hc i pa s σg H (λ _ _=>False) I (fpok H hfr) st stop
   rw[hA]at d
   refine seg_bind_wrap (wpAny_mono d (λ r s4 ⟨hr,I5⟩=>?_) λ _ _ z=>z.elim)
   subst hr
   exact seg_end (.ok .next) ⟨rfl,H,I5,xs,q⟩
  ·have d:=T.item Xg rfl rfl rfl hc i pa s σg H (λ _ _=>False) I (fpok H hfr) st go
   rw[hA]at d
   refine seg_bind_wrap (wpAny_mono d (λ r s4 ⟨u,hr,h4⟩=>?_) λ _ _ z=>z.elim)
   subst hr
   refine seg_bind_wrap (wpAny_mono h4 (λ _ s5 ⟨x,H5,I5,r5,y5,st5,fr5⟩=>?_) λ _ _ z=>z.elim)
   have I5':=I5.pinned (fpok H5 fr5) (T.obj _ _ st5)
   have d2:=hg _ s5 σg H5 x u _ I5' r5 (gk _ _ _ _ hk (step x H5 y5))
   rw[hA,hxe]at d2
   refine seg_bind_wrap (wpAny_mono d2 (λ _ s6 ⟨σ6,H6,I6,q6,l6,a6⟩=>?_) λ _ _ z=>z.elim)
   have back:∀{H':Hp} {s':Shared},aB Xg (pa++lR fp s5.heap) σ6 H' s'->aB Xg pa σg H' s'/\tn (i+1) s'.heap/\∀b∈fp,H' b=none:=fun{H' s'} I'=>by
    refine⟨I'.unpinned.weak l6.symm λ j v e=>by rw[a6 j (hown j v e)];exact e,T.keep _ _ _ st5 λ b hb o e=>(I'.pin (b,o) (List.mem_append_right _ (List.mem_append_right _ (nL hb e)))).1,λ b hb=>?_⟩
    obtain⟨o,e,d⟩:=T.obj _ _ st5 b hb
    exact(I'.pin (b,o) (List.mem_append_right _ (List.mem_append_right _ (nL hb e)))).2.1
   have d3:=ht _ s6 σ6 H6 _ I6 q6
   rw[hA,hxe]at d3
   refine seg_bind_wrap (wpAny_mono d3 (λ ok s7 ⟨H7,I7,q7⟩=>?_) λ _ _ z=>z.elim)
   cases ok with
   |false=>
    obtain⟨m',hm,w7⟩:=q7
    obtain⟨J1,J2,J3⟩:=back I7
    simp only[Bool.false_eq_true,if_false]
    exact seg_again rfl (ih m' hm n Qa (i+1) xs H7 s7 s₀ w7 J1 J2 J3)
   |true=>
    simp only[if_true]
    have hy:∀v,yieldOut Xg.env v=yieldValue v:=λ v=>by simp only[yieldOut,hco,Bool.false_eq_true,if_false]
    simp only[hy]
    rw[Sem.bind_eq_wrap',Sem.bind_eq_wrap',Sem.wrap_wrap,Sem.wrap_wrap]
    have d4:=he _ s7 σ6 H7 _ I7 q7
    rw[hA,hxe]at d4
    refine seg_wrap (wpAny_mono d4 (λ y s8 ⟨v,H8,I8,r8,hD,hl,m',hm,w8⟩=>?_) λ _ _ z=>z.elim)
    obtain⟨J1,J2,J3⟩:=back I8
    obtain⟨n',rfl⟩:∃n',n=n'+1:=⟨n-1,Qa⟩
    refine seg_at (seg_yield rfl rfl rfl ⟨v,xs,H8,r8,J1,hD,hl,λ s₂ K2 k2=>?_⟩)
    refine seg_again rfl (ih m' hm n' Qa (i+1) (xs++[v]) (aA H8 D (.lst (xs++[v]))) _ _ w8 K2 (T.keep _ _ _ J2 k2) λ b hb=>?_)
    rw[aR (λ z=>by rw[<-z,J3 b hb]at hD;cases hD)]
    exact J3 b hb
end
section
variable{Xg:Cx}{A:Around}{a:Addr}{gi:Nat}{D:Addr}{σg:St}{pa:Qj}{fp:List Addr}
theorem AM{Fin:Shared->Prop}(hh:A.handled=none)(hroom:A.depth<recursionLimit)(hgen:∀H s,aB Xg pa σg H s->s.heap.IsGen a gi/\gi<s.gens.size)(hDf:∀b∈fp,b≠D)
  (hfin:∀s h' gq,Fin s->fZ s.gens gq->(∀b o,s.heap.get? b=some o->h'.get? b=some o)->Fin {s with heap:=h',gens:=gq}) (hfo:∀s,Fin s->AllBare s.gens):
  ∀(n:Nat) (s:Shared) (gs:GenState) (H:Hp),aB Xg pa σg H s->s.gens[gi]? =some gs->gs.Goes (model Xg.prog Xg.w) A.in1.in1 (tL Fin) (tK (uI Xg pa σg D fp)) n (.send .none) (s.setGen gi .running)->
   codeAny (model Xg.prog Xg.w) A (.builtin "list.extend.loop" ⟨[.ref D,.ref a,.ref D],[]⟩) (λ r s'=>r= .ok (.ret (.ref D))/\Fin s') s:=by
 have fin:∀(s₁:Shared) (h':Heap),Fin s₁->(∀b o,s₁.heap.get? b=some o->h'.get? b=some o)->Fin {s₁ with heap:=h',gens:=s₁.gens.setIfInBounds gi .finished}:=λ s₁ h' hp hk=>hfin s₁ h' _ hp (tM (hfo _ hp) rfl) hk
 intro n
 induction n with
 |zero=>
  intro s gs H I hgs hgo
  obtain⟨hg,_⟩:=hgen H s I
  refine codeAny_builtin F.entry_extend_loop ?_
  rw[Around.under_plainId F.plain_extend_loop _]
  show wpAny _ A.in1 (pyNext (.ref a)>>=_) _ _ s
  refine wpAny_bind (wpAny_pyNext_genexpQ (A:=A.in1) (P:=λ _ _ s₁=>Fin s₁) hh I.nolimit hroom hg hgs hgo (λ v s₁ gs' hbr hv=>?_) (λ s₁ hp h' hk=>wpAny_pure ⟨rfl,fin s₁ h' hp hk⟩))
  obtain⟨x,acc,H1,rx,I1,hD,hl,C⟩:=hv
  obtain⟨z,its,nn,r,hlen,e⟩:=I1.lstM hD
  have I3:=I1.lset (its':=its++[v]) (f:=(·.push v)) (t':=s₁.toks) hD e Qb (r.append (.cons rx .nil)) (by rw[List.length_append,List.length_singleton];omega)
  exact(C _ I3 λ b hb o hbo=>(Heap.get?_update_other _ _ (Ne.symm (hDf b hb))).trans hbo).elim
 |succ n ih=>
  intro s gs H I hgs hgo
  obtain⟨hg,_⟩:=hgen H s I
  refine codeAny_builtin F.entry_extend_loop ?_
  rw[Around.under_plainId F.plain_extend_loop _]
  show wpAny _ A.in1 (pyNext (.ref a)>>=_) _ _ s
  refine wpAny_bind (wpAny_pyNext_genexpQ (A:=A.in1) (P:=λ _ _ s₁=>Fin s₁) hh I.nolimit hroom hg hgs hgo (λ v s₁ gs' hbr hv=>?_) (λ s₁ hp h' hk=>wpAny_pure ⟨rfl,fin s₁ h' hp hk⟩))
  obtain⟨x,acc,H1,rx,I1,hD,hl,C⟩:=hv
  have g1:fZ s₁.gens (s₁.gens.setIfInBounds gi gs'):=tM I1.bare.1 hbr
  have I2:=I1.setGens g1
  obtain⟨z,its,nn,r,hlen,e⟩:=I2.lstM hD
  have lt:=(hgen H1 _ I1).2
  have g2:(s₁.gens.setIfInBounds gi gs')[gi]? =some gs':=by simp[lt]
  show wpAny _ A.in1 (updateSeq D (·.push v)>>=_) _ _ _
  refine wpAny_bind (wpAny_updateSeq e rfl ?_ (by rw[List.size_toArray];omega) (by show(its.toArray.push v).size<=sizeLine+1;rw[Array.size_push,List.size_toArray];omega))
  have I3:=I2.lset (its':=its++[v]) (f:=(·.push v)) (t':=s₁.toks) hD e Qb (r.append (.cons rx .nil)) (by rw[List.length_append,List.length_singleton];omega)
  refine wpAny_pure ⟨plainId_quiet F.plain_extend_loop _,ih _ gs' _ I3 g2 ?_⟩
  have g3:fZ (s₁.gens.setIfInBounds gi gs') ((s₁.gens.setIfInBounds gi gs').setIfInBounds gi .running):=tM g1.1 rfl
  exact C _ (I3.setGens g3) λ b hb o hbo=>(Heap.get?_update_other _ _ (Ne.symm (hDf b hb))).trans hbo
end
section
variable{Xg:Cx}{A:Around}{a:Addr}{gi:Nat}{σg:St}{pa:Qj}{fp:List Addr}{E:Qh}
theorem Ex{s:Shared}(hg:s.heap.IsGen a gi):s.TypeIs (.ref a) "generator" :=by
 obtain⟨o,_,_,ho,hc,_⟩:=hg
 exact⟨o,ho,hc⟩
theorem BD{s:Shared}{H:Hp}{gs:GenState}{Fin:Hp->List V->Prop}{Q:List Value->Shared->Prop}(n:Nat)(hh:A.handled=none)(hroom:A.depth<recursionLimit)(hgen:∀H s,aB Xg pa σg H s->s.heap.IsGen a gi/\gi<s.gens.size)
  (hlt:∀b∈fp,b<s.heap.objs.size) (I:aB Xg pa σg H s) (hgs:s.gens[gi]? =some gs)
  (hgo:∀s3:Shared,aB Xg pa σg (aA H s.heap.objs.size (.lst [])) s3->(∀b o,s.heap.get? b=some o->s3.heap.get? b=some o)->s3.gens=s.gens->
   gs.Goes (model Xg.prog Xg.w) A.in1.in1 (tL λ s'=>∃H',aB Xg pa σg H' s'/\∃acc,H' s.heap.objs.size=some (.lst acc)/\Fin H' acc) (tK (uI Xg pa σg s.heap.objs.size fp)) n (.send .none) (s3.setGen gi .running))
  (hQ:∀H' s' acc its,aB Xg pa σg H' s'->aW acc its->acc.length<=sizeLine->Fin H' acc->Q its s'):
  wpAny (model Xg.prog Xg.w) A (collect (.ref a)) Q E s:=by
 obtain⟨hg,_⟩:=hgen H s I
 have haD:s.heap.objs.size≠a:=λ z=>by
  obtain⟨o,_,_,ho,_⟩:=hg
  have:=Heap.lt_size ho
  rw[z]at this
  exact Nat.lt_irrefl _ this
 unfold collect
 refine wpAny_bind (wpAny_runValue (codeAny_builtin F.entry_proto_collect ?_))
 rw[Around.under_plainId F.plain_proto_collect _]
 show wpAny _ A.in1 (newList []>>=λ l=>again (.builtin "list.__iadd__" ⟨[l,.ref a],[]⟩)) _ _ s
 refine wpAny_bind (wpAny_newObj_type ?_)
 refine wpAny_pure ⟨plainId_quiet F.plain_list_iadd _,codeAny_builtin F.entry_list_iadd ?_⟩
 rw[Around.under_plainId F.plain_list_iadd _]
 have I1:aB Xg pa σg (aA H s.heap.objs.size (.lst [])) {s with heap:=s.heap.push {cls:=.type "list",data:=.seq ([]:List Value).toArray}}:=
  I.laid (t':=s.toks) (λ b u e=>Heap.get?_push_of_some _ e) (Nat.le_refl _) ⟨Nat.zero_le _,[],0,.nil,Heap.get?_push_size _ rfl⟩
 have hT1:=Ex (hgen _ _ I1).1
 show wpAny _ A.in1 (Builtin.List.listExtendWith (.ref s.heap.objs.size) (.ref a) (.ref s.heap.objs.size)) _ _ _
 unfold Builtin.List.listExtendWith
 refine wpAny_bind (wpAny_typeOf hT1 ?_)
 have h1:Builtin.List.listSameRef (.ref s.heap.objs.size) (.ref a)=false:=by simp[Builtin.List.listSameRef,haD]
 have h2:(Value.type "generator" ==Value.type "list")=false:=by decide
 have h3:(Value.type "generator" ==Value.type "tuple")=false:=by decide
 simp only[h1,h2,h3,Bool.or_false,Bool.false_eq_true,if_false]
 refine wpAny_bind (wpAny_pyIter_gen (hgen _ _ I1).1 ?_)
 refine wpAny_bind (wpAny_holding ?_)
 unfold Builtin.List.listLengthHint
 refine wpAny_bind (wpAny_specialOf hT1 F.gen_no_len ?_)
 show wpAny _ A.in1 (specialOf (Value.ref a) (Str.ofString "__length_hint__")>>=_) _ _ _
 refine wpAny_bind (wpAny_specialOf hT1 F.gen_no_hint ?_)
 refine wpAny_pure ?_
 show wpAny _ A.in1 (rule "list.extend.makes-room" >>=λ _=>Builtin.List.listTouch (.ref s.heap.objs.size)>>=λ _=>
  again (.builtin "list.extend.loop" ⟨[.ref s.heap.objs.size,.ref a,.ref s.heap.objs.size],[]⟩)) _ _ _
 refine wpAny_bind (wpAny_rule ?_)
 have hS1:(s.heap.push {cls:=.type "list",data:=.seq ([]:List Value).toArray}).get? s.heap.objs.size=some {cls:=.type "list",data:=.seq ([]:List Value).toArray}:=Heap.get?_push_size _ rfl
 refine wpAny_bind ?_
 show wpAny _ A.in1 (updateSeq s.heap.objs.size (·.push .none)>>=λ _=>updateSeq s.heap.objs.size (·.pop)) _ _ _
 refine wpAny_bind (wpAny_updateSeq hS1 rfl ?_)
 have I2:=I1.lset (l:=s.heap.objs.size) (its':=[.none]) (f:=(·.push Value.none)) (t':=s.toks) (ys:=[.non]) aP hS1 rfl (.cons rfl .nil) (by show 1<=sizeLine;decide)
 obtain⟨_,its2,n2,r2,_,hS2⟩:=I2.lstM aP
 have hS2':=Heap.get?_update_self (Obj.mapSeq (·.push Value.none)) hS1 rfl
 refine wpAny_updateSeq hS2' rfl ?_
 have I3:=I2.lset (l:=s.heap.objs.size) (its':=[]) (f:=(·.pop)) (t':=s.toks) (ys:=[]) aP hS2' (by rfl) .nil (Nat.zero_le _)
 rw[uU,uU]at I3
 have keep:∀b o,s.heap.get? b=some o->(((s.heap.push {cls:=.type "list",data:=.seq ([]:List Value).toArray}).update s.heap.objs.size (Obj.mapSeq (·.push Value.none))).update s.heap.objs.size (Obj.mapSeq (·.pop))).get? b=some o:=λ b o e=>by
  have hne:s.heap.objs.size≠b:=λ z=>by have:=Heap.lt_size e;rw[z]at this;exact Nat.lt_irrefl _ this
  exact(Heap.get?_update_other _ _ hne).trans ((Heap.get?_update_other _ _ hne).trans (Heap.get?_push_of_some _ e))
 refine wpAny_pure ⟨plainId_quiet F.plain_extend_loop _,codeAny_mono (AM (D:=s.heap.objs.size) (fp:=fp) (Fin:=λ s'=>∃H',aB Xg pa σg H' s'/\∃acc,H' s.heap.objs.size=some (.lst acc)/\Fin H' acc) hh hroom hgen (λ b hb z=>by have:=hlt b hb;rw[z]at this;exact Nat.lt_irrefl _ this) ?_ ?_ n _ gs _ I3 hgs (hgo _ I3 keep rfl)) ?_⟩
 ·rintro s' h' gq ⟨H',I',acc,hD,q⟩ hg' hk
  exact⟨H',(I'.kept (t':=s'.toks) hk).setGens hg',acc,hD,q⟩
 ·rintro s' ⟨H',I',_⟩
  exact I'.bare.1
 ·rintro r s' ⟨rfl,H',I',acc,hD,q⟩
  obtain⟨z,its,nn,rv,hl,e⟩:=I'.lstM hD
  show wpAny _ A (load s.heap.objs.size>>=_) _ _ s'
  refine wpAny_bind (wpAny_load e ?_)
  refine wpAny_pure ?_
  have e2:its.toArray.toList=its:=by simp
  show Q its.toArray.toList s'
  rw[e2]
  exact hQ H' s' acc its I' rv z q
theorem BK{s:Shared}{H:Hp}{gs:GenState}{Fin:Hp->List V->Prop}{Q:Qh}(n:Nat)(hh:A.handled=none)(hroom:A.depth<recursionLimit)(hgen:∀H s,aB Xg pa σg H s->s.heap.IsGen a gi/\gi<s.gens.size)
  (hlt:∀b∈fp,b<s.heap.objs.size) (I:aB Xg pa σg H s) (hgs:s.gens[gi]? =some gs)
  (hgo:∀s3:Shared,aB Xg pa σg (aA H s.heap.objs.size (.lst [])) s3->(∀b o,s.heap.get? b=some o->s3.heap.get? b=some o)->s3.gens=s.gens->
   gs.Goes (model Xg.prog Xg.w) A.in1.in1.in1.in1 (tL λ s'=>∃H',aB Xg pa σg H' s'/\∃acc,H' s.heap.objs.size=some (.lst acc)/\Fin H' acc) (tK (uI Xg pa σg s.heap.objs.size fp)) n (.send .none) (s3.setGen gi .running))
  (hQ:∀H' s' acc its,aB Xg pa σg H' s'->aW acc its->acc.length<=sizeLine->Fin H' acc->Q (.ref s'.heap.objs.size) {s' with heap:=s'.heap.push {cls:=.type "tuple",data:=.seq its.toArray}}):
  wpAny (model Xg.prog Xg.w) A (call (.type "tuple") [.ref a]) Q E s:=by
 obtain⟨hg,_⟩:=hgen H s I
 have hTI:=Ex hg
 refine callType_codes (Q₁:=λ obj s₁=>s₁.TypeIs obj "tuple"/\Q obj s₁) F.called_tuple (F.typeCall_tuple_1 _) F.entry_object_init ?new λ obj s₁ h₁=>
  ⟨h₁.1,F.args_object_init_2 obj _,object_init_meets F.called_tuple.init.lookup F.called_tuple.made Qc _ _ A.in1 _ s₁ ⟨h₁.1,rfl,h₁.2⟩⟩
 case new=>
 refine codeAny_of_tree ?_
 show wpAny _ A.in1.in1 (do checkBuiltinCall "tuple.__new__" ⟨[.type "tuple",.ref a],[]⟩;again (.builtin "tuple.__new__" ⟨[.type "tuple",.ref a],[]⟩)) _ _ s
 refine wpAny_bind (wpAny_of_eq (F.newCall_tuple_1 _) (wpAny_pure ⟨plainId_quiet F.plain_tuple_new _,codeAny_builtin F.entry_tuple_new ?_⟩))
 rw[Around.under_plainId F.plain_tuple_new _]
 have hsub:=sub_tuple_self
 have hinit:=init_tuple_lookup
 have hmh:=madeHere_tuple
 wp_walk using wpAny_typeOf hTI,BD (A:=A.in1.in1) n hh hroom hgen hlt I hgs hgo
 intro H' s' acc its I' rv z q
 show wpAny _ _ (Builtin.Tuple.tupleExact its.toArray>>=λ v=>ret v) _ _ _
 unfold Builtin.Tuple.tupleExact
 refine wpAny_bind (wpAny_newObj_type ?_ (by show its.toArray.size<=sizeLine;rw[List.size_toArray,<-rv.length];exact z))
 refine wpAny_pure ?_
 exact⟨⟨_,Heap.get?_push_size _ rfl,rfl⟩,hQ H' s' acc its I' rv z q⟩
end
abbrev Cx.up(X:Cx):Cx:={X with A:=X.A.in1.in1}
theorem aB.up{X:Cx}{pins:Qj}{σ:St}{H:Hp}{s:Shared}(I:aB X pins σ H s):aB X.up pins σ H s:=
 ⟨⟨I.ok.mod,I.ok.kind,I.ok.glob,I.ok.blt,I.ok.above,I.ok.inj,I.ok.has,I.ok.cab,I.ok.hd,I.ok.frames,I.ok.stk,I.ok.exf,I.ok.bs,I.ok.bsz,I.ok.noex,I.ok.exfs,I.ok.funs,I.ok.frf⟩,I.os,I.bare,I.base,I.loc,I.cell,I.free,I.freeC,I.pin,I.hok,I.len⟩
def yL(J:It)(g:TG)(tt:TT)(te:TE)(σc:St)(Q:VK)(D:Addr)(H1:Hp):Prop:=∃W:Nat->Nat->List V->Hp->Prop,(∃m,W 0 m [] (aA H1 D (.lst [])))/\∀i m xs H,W i m xs H->
 (J.stop i H/\H D=some (.lst xs)/\∀q,H q=none->Q (.ref q) (aA H q (.tup xs)))\/
 (J.go i H/\∀x H',J.yld i H x H'->g x σc H' λ σ2 H2=>tt σ2 H2 λ b H3=>if b=true then te σ2 H3 λ v H4=>H4 D=some (.lst xs)/\xs.length<sizeLine/\∃m',m'<m/\W (i+1) m' (xs++[v]) (aA H4 D (.lst (xs++[v])))else∃m',m'<m/\W (i+1) m' xs H3)
def Kl(P:Addr)(k:Nat)(js:List Nat)(wi:TI)(g:TG)(tt:TT)(te:TE):TE:=λ σ H Q=>wi σ H λ J H1=>(∃ps,uF H1 P ps)/\∀ps',uF (aA H1 P (.tbl ps')) P ps'->∀D,(aA H1 P (.tbl ps')) D=none->yL J g tt te (dC k js σ) Q D (aA H1 P (.tbl ps'))
section
variable{X:Cx}
theorem Pp{elt tg iter:Expr}{ifs:List Expr}{scope:Scope}{p pos gpos:Pos}{Nc:List Str}{kk k:Nat}{js:List Nat}{wi:TI}{g:TG}{tt:TT}{te:TE}{c P:Addr}(hr:bV kk X.A)(hc:X.calm=true)(hcode:X.env.code= .ref c)(hd:PySem.W.CodeHd X.base c P)(hbm:jW X.mg X.base)
  (hgl:Gl X "tuple") (hm:X.mg "tuple" =none) (S:Hc X.env scope)
  (hjs:(Nc.drop k).map some=js.map (X.N[·]?)) (hfr:∀x∈Nc.drop k,scope.names.lookup x=some .free) (hk:k<=Nc.length) (hi:PI X tg iter wi)
  (hg:∀C code it s H ex,PG (iT X.up scope Nc C code (.GeneratorExp elt [⟨tg,iter,ifs,0⟩] scope gpos) it s H ex) tg g) (gk:mU k g) (ht:∀C code it s H ex,mS (iT X.up scope Nc C code (.GeneratorExp elt [⟨tg,iter,ifs,0⟩] scope gpos) it s H ex) ifs tt)
  (he:∀C code it s H ex,PE (iT X.up scope Nc C code (.GeneratorExp elt [⟨tg,iter,ifs,0⟩] scope gpos) it s H ex) elt te)
  (hs:∀x,genFold iter X.env x=pure x:=by intro _;rfl):
  PE X (.Call (.Name "tuple" p) [.GeneratorExp elt [⟨tg,iter,ifs,0⟩] scope gpos] [] pos) (Kl P k js wi g tt te):=by
 intro pins s σ H Q I h
 refine wpAny_Call_Name_kw (mE I hgl hm gU ?_ Qc Qc)
 refine PyProof.Rows.callWith_type1 (Q:=EP X pins σ Q) (Calls.spliced_cons (wpAny_GeneratorExp_make S.co (xW λ y hy e=>I.ok.has y.1 (S.free y hy e)) S.cell S.zero S.kind hr.depth ?_ hs)) rfl rfl
 refine aU (hi pins s σ H _ I h) λ v s1 h1=>aU h1 λ itv s2 h2=>?_
 obtain⟨it,fp,tn,J,H2,e,I2,T,st2,f2,⟨ps,tb⟩,rest⟩:=h2
 subst e
 refine⟨I2.nolimit,AB I2 hcode hd tb λ code s3 more I3 tr g3 o3 z3 x3=>?_⟩
 obtain⟨bm,ob,b1,b2,b3,b4,b5,b6⟩:=hbm
 refine wpAny_builtinsFor (globals:=X.env.globals) (by rw[I3.ok.glob];exact I3.mod.glob.keeps I3.bk) b1 b2 (I3.bk _ _ b3) b4 b5 b6 ?_
 intro h4 hn4 hs4
 have neP:∀b∈fp,b≠P:=λ b hb z=>by
  have:=(f2 b hb).1
  rw[z,tb.1]at this
  cases this
 have f3:∀b∈fp,fE X pins (aA H2 P (.tbl (ps++more))) b:=λ b hb=>⟨by rw[aR (neP b hb)];exact(f2 b hb).1,(f2 b hb).2⟩
 have st3:tn 0 s3.heap:=T.keep _ _ _ st2 λ b hb o e=>x3 b o (neP b hb) e
 have lt3:∀b∈fp,b<s3.heap.objs.size:=λ b hb=>by
  obtain⟨o,e,_⟩:=T.obj 0 _ st3 b hb
  exact Heap.lt_size e
 have keep4:∀b o,s3.heap.get? b=some o->h4.get? b=some o:=λ b o e=>hs4.extBut b o (Nat.ne_of_lt (Heap.lt_size e)) (Heap.get?_push_of_some _ e)
 have sz4:h4.objs.size=s3.heap.objs.size+1:=by rw[hs4.1,Heap.size_push]
 generalize eG:s3.gens.push (.fresh (.compStart (.GeneratorExp elt [⟨tg,iter,ifs,0⟩] scope gpos) 0 (.ref it) .none (genEnv scope (fU X.env scope.names) s3.heap.objs.size code builtinsNs X.env)))=gens5
 have gok5:fZ s3.gens gens5:=by
  rw[<-eG]
  exact⟨I3.bare.1.push rfl,Qb⟩
 have I3':aB X pins σ (aA H2 P (.tbl (ps++more))) {s3 with gens:=gens5}:=I3.setGens gok5
 generalize eO:({cls:=.type "generator",data:=.fields #[.int s3.gens.size 0,.str "<genexpr>" (s3.toks+1),.str (X.env.qual++ "<genexpr>") (s3.toks+1+1)]}:Obj)=gobj
 have keep5:∀b o,h4.get? b=some o->(h4.push gobj).get? b=some o:=λ b o e=>Heap.get?_push_of_some _ e
 have I5:aB (iT X.up scope Nc s3.heap.objs.size code (.GeneratorExp elt [⟨tg,iter,ifs,0⟩] scope gpos) it {s3 with gens:=gens5} (aA H2 P (.tbl (ps++more))) fp) [] (dC k js σ) (aA H2 P (.tbl (ps++more)))
   {s3 with gens:=gens5,toks:=s3.toks+1+1+1,heap:=h4.push gobj}:=
  Xf (X:=X.up) (s:={s3 with gens:=gens5}) (s4:={s3 with gens:=gens5,toks:=s3.toks+1+1+1,heap:=h4.push gobj}) I3'.up hc S hjs hfr hk f3 lt3 (Nat.le_refl _) (hn4.push _) (λ b o e=>keep5 b o (keep4 b o e)) rfl ⟨gok5.1,Nat.le_refl _⟩
 have aC:h4.objs.size≠s3.heap.objs.size:=by omega
 have aS:s3.heap.objs.size<=h4.objs.size:=by omega
 have aF:h4.objs.size∉cC X.stack:=λ z=>by
  rcases List.mem_cons.mp (I3.stkSub _ z)with z|z
  ·have l:=I3.lt
   rw[<-z]at l
   exact absurd (Nat.lt_of_lt_of_le l aS) (Nat.lt_irrefl _)
  ·exact I3.nofs aS z
 have aH:(aA H2 P (.tbl (ps++more))) h4.objs.size=none:=I3.hok.fresh aS
 have I6:aB (iT X.up scope Nc s3.heap.objs.size code (.GeneratorExp elt [⟨tg,iter,ifs,0⟩] scope gpos) it {s3 with gens:=gens5} (aA H2 P (.tbl (ps++more))) fp) [(h4.objs.size,gobj)] (dC k js σ) (aA H2 P (.tbl (ps++more)))
   {s3 with gens:=gens5,toks:=s3.toks+1+1+1,heap:=h4.push gobj}:=I5.pins_of λ q hq=>by
  have e:q=(h4.objs.size,gobj):=by simpa using hq
  subst e
  refine⟨Heap.get?_push_size _ (by rw[<-eO];rfl),aH,aC,aF,λ v z=>?_⟩
  rw[<-eO]at z
  cases z
 have afp:∀b∈fp,h4.objs.size≠b:=λ b hb z=>by have:=lt3 b hb;rw[<-z]at this;exact absurd (Nat.lt_of_lt_of_le this aS) (Nat.lt_irrefl _)
 have frz:∀y∈scope.names,y.2= .free->∃c,X.env.cells.lookup y.1=some c:=λ y hy e=>I2.ok.has y.1 (S.free y hy e)
 have fpok:∀H':Hp,(∀b∈fp,H' b=none)->∀b∈fp,fE (iT X.up scope Nc s3.heap.objs.size code (.GeneratorExp elt [⟨tg,iter,ifs,0⟩] scope gpos) it {s3 with gens:=gens5} (aA H2 P (.tbl (ps++more))) fp) [(h4.objs.size,gobj)] H' b:=λ H' hn b hb=>by
  refine⟨hn b hb,Nat.ne_of_lt (lt3 b hb),λ z=>?_,.inl hb,λ x c e=>(f2 b hb).2.2.2.2.1 x c (fQ frz e),λ q hq=>?_⟩
  ·rcases List.mem_cons.mp (I2.stkSub b z)with z|z
   ·exact(f2 b hb).2.1 z
   ·exact(f2 b hb).2.2.1 z
  ·have e:q=(h4.objs.size,gobj):=by simpa using hq
   subst e
   exact afp b hb
 have lenS:k<=(dC k js σ).length:=by rw[tX];omega
 have own:∀(j:Nat) (v:V),(dC k js σ)[j]? =some (some v)->k<=j:=λ j v e=>by
  obtain⟨t,j',rfl,_⟩:=tW e
  omega
 have hh:X.A.handled=none:=I.ok.hd hc
 have hIsGen:∀H' s',aB (iT X.up scope Nc s3.heap.objs.size code (.GeneratorExp elt [⟨tg,iter,ifs,0⟩] scope gpos) it {s3 with gens:=gens5} (aA H2 P (.tbl (ps++more))) fp) [(h4.objs.size,gobj)] (dC k js σ) H' s'->s'.heap.IsGen h4.objs.size s3.gens.size/\s3.gens.size<s'.gens.size:=λ H' s' I'=>by
  obtain⟨p1,_⟩:=I'.pin (h4.objs.size,gobj) Qb
  have g5lt:s3.gens.size<gens5.size:=by rw[<-eG];simp
  exact⟨⟨gobj,_,_,p1,by rw[<-eO],by rw[<-eO],by rw[<-eO]⟩,Nat.lt_of_lt_of_le g5lt I'.bare.2⟩
 have sz5:(h4.push gobj).objs.size=h4.objs.size+1:=Heap.size_push ..
 have ltD:∀b∈fp,b<(h4.push gobj).objs.size:=λ b hb=>Nat.lt_of_lt_of_le (lt3 b hb) (by rw[sz5];omega)
 obtain⟨W,⟨m0,w0⟩,turn⟩:=rest (ps++more) ⟨aP,tr⟩ (h4.push gobj).objs.size (I6.hok.fresh (Nat.le_refl _))
 have seg:=Ms (D:=(h4.push gobj).objs.size) (Xg:=iT X.up scope Nc s3.heap.objs.size code (.GeneratorExp elt [⟨tg,iter,ifs,0⟩] scope gpos) it {s3 with gens:=gens5} (aA H2 P (.tbl (ps++more))) fp) (A:=X.A.in1.in1.in1.in1) rfl rfl S.co rfl (hg _ _ _ _ _ _) gk (ht _ _ _ _ _ _) (he _ _ _ _ _ _) T lenS own fpok W (λ acc H'=>H' (h4.push gobj).objs.size=some (.lst acc)/\∀q,H' q=none->Q (.ref q) (aA H' q (.tup acc))) turn
 refine Calls.spliced_nil (BK (Xg:=iT X.up scope Nc s3.heap.objs.size code (.GeneratorExp elt [⟨tg,iter,ifs,0⟩] scope gpos) it {s3 with gens:=gens5} (aA H2 P (.tbl (ps++more))) fp) (pa:=[(h4.objs.size,gobj)]) (σg:=dC k js σ) (gi:=s3.gens.size) (Fin:=λ H' acc=>∀q,H' q=none->Q (.ref q) (aA H' q (.tup acc))) (fp:=fp) (gs:=.fresh (.compStart (.GeneratorExp elt [⟨tg,iter,ifs,0⟩] scope gpos) 0 (.ref it) .none (genEnv scope (fU X.env scope.names) s3.heap.objs.size code builtinsNs X.env))) (m0+1) hh hr.depth hIsGen (λ b hb=>?_) I6 ?_ (λ s6 J6 k6 g6=>⟨rfl,?_⟩) ?_)
 ·exact ltD b hb
 ·rw[<-eG]
  exact Array.getElem?_push_size ..
 ·
  have gset:fZ s6.gens (s6.gens.setIfInBounds s3.gens.size .running):=tM J6.bare.1 rfl
  have I7:=J6.setGens (g':=s6.gens.setIfInBounds s3.gens.size .running) gset
  have st6:tn 0 s6.heap:=T.keep _ _ _ st3 λ b _ o e=>k6 b o (keep5 b o (keep4 b o e))
  have nD:∀b∈fp,b≠(h4.push gobj).objs.size:=λ b hb=>Nat.ne_of_lt (ltD b hb)
  have loop:=seg m0 (m0+1) (Nat.lt_succ_self _) 0 _ _ _ (s6.setGen s3.gens.size .running) w0 I7 st6 λ b hb=>by rw[aR (nD b hb)];exact(f3 b hb).1
  show Seg _ X.A.in1.in1.in1.in1 _ _ _ _ _ ((compStart (.GeneratorExp elt [⟨tg,iter,ifs,0⟩] scope gpos) 0 (.ref it) .none (genEnv scope (fU X.env scope.names) s3.heap.objs.size code builtinsNs X.env)).onRaise (leaving _)) [] _
  unfold compStart
  rw[Sem.onRaise_eq_wrap]
  show Seg _ X.A.in1.in1.in1.in1 _ _ _ _ _ ((ask>>=_).wrap _ _ _ _) [] _
  refine seg_bind_wrap (wpAny_askSetting ?_)
  have self:∀(A':Around) (Q':Qh) (E':Qh) (s':Shared),tn 0 s'.heap->Q' (.ref it) s'->wpAny (model X.prog X.w) A' (pyIter (.ref it)) Q' E' s':=λ A' Q' E' s' st q=>T.self A' 0 s' Q' E' st q
  split
  ·exact seg_again rfl loop
  ·first
    |exact seg_bind_wrap (wpAny_rule (seg_bind_wrap (wpAny_standAt (seg_bind_wrap (self _ _ _ _ st6 (seg_again rfl loop))))))
    |(refine seg_bind_wrap (wpAny_rule ?_);show Seg _ X.A.in1.in1.in1.in1 _ _ _ _ _ ((standAt iter.pos>>=_).wrap _ _ _ _) [] _;exact seg_bind_wrap (wpAny_standAt (seg_bind_wrap (self _ _ _ _ st6 (seg_again rfl loop)))))
 ·rintro H' s' acc its I' rv z q
  have hu:Un (cC X.stack) fp (aA H2 P (.tbl (ps++more))) H' s3.heap s'.heap:=I'.base
  have I8:aB X pins σ H' s':=I3'.call' I'.os hu I'.hok I'.bare λ b hb=>⟨(f3 b hb).2.2.2.1,(f3 b hb).2.1,(f3 b hb).2.2.2.2.1,(f3 b hb).2.2.2.2.2⟩
  exact⟨.ref s'.heap.objs.size,_,I8.laid (t':=s'.toks) (o:=.tup acc) (λ b o e=>Heap.get?_push_of_some _ e) (Nat.le_refl _) ⟨z,its,rv,IsTup.new _ _,_,Heap.get?_push_size _ rfl,rfl⟩,rfl,q _ (I8.hok.fresh (Nat.le_refl _))⟩
end
theorem Ke{J:It}{ok:Hp->Prop}{ys:List V}{g:TG}{tt:TT}{te:TE}{σc:St}{H:Hp}{Q:VK}{D:Addr}(Y:lC J ok ys)(Pv:Nat->List V->Hp->Prop)(h0:Pv 0 [] (aA H D (.lst [])))(hok:∀i xs H,Pv i xs H->ok H)
  (hD:∀i xs H,Pv i xs H->H D=some (.lst xs))
  (step:∀i x xs H,ys[i]? =some x->i<ys.length->Pv i xs H->g x σc H λ σ2 H2=>tt σ2 H2 λ b H3=>if b=true then te σ2 H3 λ v H4=>H4 D=some (.lst xs)/\xs.length<sizeLine/\Nx ys.length i (Pv (i+1) (xs++[v]) (aA H4 D (.lst (xs++[v]))))else Nx ys.length i (Pv (i+1) xs H3))
  (fin:∀xs H,Pv ys.length xs H->∀p,H p=none->Q (.ref p) (aA H p (.tup xs))):yL J g tt te σc Q D H:=by
 refine⟨λ i m xs H=>m=ys.length-i/\i<=ys.length/\Pv i xs H,⟨ys.length,Qb,Nat.zero_le _,h0⟩,?_⟩
 rintro i m xs H ⟨rfl,hi,p⟩
 have o:=hok i xs H p
 by_cases hlt:i<ys.length
 ·refine .inr ⟨Y.go i H o hlt,λ x H' y=>?_⟩
  obtain⟨e,hx⟩:=Y.yld i H x H' o hlt y
  subst e
  exact step i x xs _ hx hlt p
 ·have e:i=ys.length:=by omega
  subst e
  exact .inl ⟨Y.stop H o,hD _ _ _ p,fin xs H p⟩
theorem Kc{J:It}{ok:Hp->Prop}{ys:List V}{g:TG}{te:TE}{σc:St}{H:Hp}{Q:VK}{D:Addr}(Y:lC J ok ys)(Pv:Nat->List V->Hp->Prop)(h0:Pv 0 [] (aA H D (.lst [])))(hok:∀i xs H,Pv i xs H->ok H)
  (hD:∀i xs H,Pv i xs H->H D=some (.lst xs))
  (step:∀i x xs H,ys[i]? =some x->i<ys.length->Pv i xs H->g x σc H λ σ2 H2=>te σ2 H2 λ v H4=>H4 D=some (.lst xs)/\xs.length<sizeLine/\Nx ys.length i (Pv (i+1) (xs++[v]) (aA H4 D (.lst (xs++[v])))))
  (fin:∀xs H,Pv ys.length xs H->∀p,H p=none->Q (.ref p) (aA H p (.tup xs))):yL J g gJ te σc Q D H:=by
 refine Ke Y Pv h0 hok hD (λ i x xs H hx hi p=>?_) fin
 have e:(λ (σ2:St) (H2:Hp)=>gJ σ2 H2 λ b H3=>if b=true then te σ2 H3 λ v H4=>H4 D=some (.lst xs)/\xs.length<sizeLine/\Nx ys.length i (Pv (i+1) (xs++[v]) (aA H4 D (.lst (xs++[v]))))else Nx ys.length i (Pv (i+1) xs H3))=
   λ σ2 H2=>te σ2 H2 λ v H4=>H4 D=some (.lst xs)/\xs.length<sizeLine/\Nx ys.length i (Pv (i+1) (xs++[v]) (aA H4 D (.lst (xs++[v])))):=by
  funext σ2 H2
  unfold gJ
  dsimp only
  rw[if_pos rfl]
 rw[e]
 exact step i x xs H hx hi p
def Sd.put(s:Sd)(c:Cd):Sd:={s with cs:=s.cs.map λ d=>if(d.nm==c.nm)=true then c else d}
theorem lG.okX{P:Program}{w:World}{K:Qf}{mg:Qk}{base:Heap}{x qual:Str}{st:Stmt}{f:Addr}{fd:FuncData}{c:Addr}{N ps:List Str}{k:Nat}{sp:Sp}(F:lG K x qual st f fd c)(S:bT N ps (aT st))(len:∀vs H Q E,sp vs H Q E->vs.length=ps.length)
  (hbody:∀(A:Around) (outer:List Env) (s:Shared) (H:Hp) (vs:List V) (Q:VK) (E:XK),bV k (A.deeper (envOfC qual (aT st) s.heap.objs.size f (.ref c)))->sp vs H Q E->
   ∃t,eJ (iE (eU P w) P w K mg base N qual (aT st) f (.ref c) A outer s H E) (eE st) t/\t {nx:=λ _ H'=>Q .non H',rt:=Q} (start N vs) H):bD P w K mg base (eU P w) (k+1) f fd ps sp:=by
 obtain⟨oc,od,kV,doc,pm,an,ct,osl,rfl,lk,hcd⟩:=F.ex
 exact tT lk hcd S len hbody
end L2
namespace K10
open PySem PySem.Spec L2 PyProof.Rows PySem.W
def rK(ts:List Addr):Sp:=λ vs H Q _=>∃(s:Sd) (c:Cd) (u cu:V),vs=[u,cu]/\aD [] H s.d u/\aD [] H c.d cu/\s.cs.length<=900/\Tb ts H/\∀r H',aI [] H H'->aD [] H' (s.put c).d r->Q r H'
section
variable{P:Program}{w:World}{K:Qf}{mg:Qk}{base:Heap}{CK CC:Addr}{k:gW}{ts:List Addr}
structure Gy(K:Qf)(mg:Qk):Prop where
 b_tuple:mg "tuple" =none
abbrev wG:Stmt:=top 28
theorem sc_refuse_if_full:bT ["plan","stand","lane","kind","name","bound","most"] ["plan","stand","lane","kind"] (aT wG):=⟨rfl,rfl,rfl,Qd,rfl,Qd,Qd⟩
theorem Sm{f:Addr}{fd:FuncData}(F:bO K "refuse_if_full" "refuse_if_full" wG f fd)(T:qP K mg)(yY:jA P w K mg base "Full" k.Fu 2 ["self","lane","bound"] (dU k.Fu ["lane","bound"]))(yW:jA P w K mg base "KindFull" k.KF 2 ["self","lane","kind","bound"] (dU k.KF ["lane","kind","bound"]))(r1:fG K k.Fu=true)(r2:fG K k.KF=true)
  (zQ:aZ P w K mg base "cards_in" 7 ["plan","stand","lane"] vS) (zP:aZ P w K mg base "kind_bound" 5 ["plan","kind","lane"] vR) (zN:aZ P w K mg base "many_of" 7 ["plan","stand","lane","kind"] vK):bD P w K mg base (eU P w) 8 f fd ["plan","stand","lane","kind"] (rQ k):=by
 refine F.okX sc_refuse_if_full (λ vs H Q E h=>?_) (λ cdv A outer s H vs Q E hr h=>?_)
 ·obtain⟨p,sd,v,u,l,x,z,kd,rfl,_⟩:=h
  rfl
 obtain⟨p,sd,v,u,l,x,z,kd,rfl,hp,hs,hx,Po,So,Bo,hk,hw,q1,q2⟩:=h
 refine'⟨_,?hh,?rr⟩
 case hh=>exists Qg,bS ?_ ?_ bR,jH ?_,wZ nJ lW aK (pv 2) ?_,bL cY rfl T.b_len PySem.boot_len ?_,aE ?_ aG,aN aX (pv 0) aK (λ _ _=>rfl),aV Pa,Qg,bG sc_refuse_if_full.nd (aO 4) (Or.inl rfl) ?_,aN aX ?_ aK (λ _ _=>rfl),aN aX ?_ (pv 2) (λ _ _=>rfl),aN aX (pv 0) aK (λ _ _=>rfl),Qg,bG sc_refuse_if_full.nd (aO 5) (Or.inl rfl) ?_,aN aX ?_ (pv 2) (λ _ _=>rfl),aN aX (pv 1) aK (λ _ _=>rfl),Qg,bS ?_ ?_ bR,bN lX ?_ (pv 5) (bH _),bL cY rfl T.b_len PySem.boot_len ?_,aE ?_ aG,bB zQ hr ?_ rfl ?_,aE (pv 0) ?_,aE (pv 1) ?_,aE (pv 2) aG,Qc,aV ?_,kL dY ?_,kQ yY hr ?_ rfl ?_,aE (pv 4) ?_,aE (pv 5) aG,Qc,Qg,bG sc_refuse_if_full.nd (aO 6) (Or.inl rfl) ?_,bB zP hr ?_ rfl ?_,aE (pv 0) ?_,aE (pv 3) ?_,aE (pv 2) aG,Qc,aV ?_,bS ?_ ?_ bR,bN lX ?_ (pv 6) (bH _),bB zN hr ?_ rfl ?_,aE (pv 0) ?_,aE (pv 1) ?_,aE (pv 2) ?_,aE (pv 3) aG,Qc,aV ?_,kL dY ?_,kQ yW hr ?_ rfl ?_,aE (pv 4) ?_,aE (pv 3) ?_,aE (pv 6) aG,Qc
 obtain⟨b,la,ka,lv,kv,rfl,hb,hla,hls,hka,hks,el,ek⟩:=Pl.view hp
 obtain⟨a,ba,ca,wa,cv,wv,rfl,ha,hba,hca,hcs,hwa,hws,ec,ew⟩:=Sd.view hs
 refine⟨_,rfl,_,_,rfl,rfl,_,rfl,?_⟩
 have q0:¬(0<=l/\l<p.n)->Q .non H:=λ hn=>q1 (by unfold dH;rw[if_neg hn]) H aI.refl
 refine bA (λ c0=>?_) (λ c0=>?_)
 ·refine⟨_,rfl,b,_,_,_,rfl,rfl,aJ.of hb,rfl,la,lv,rfl,.inr (aJ.of hla),_,_,rfl,rfl,_,rfl,?_⟩
  have l0:0<=l:=of_decide_eq_true c0
  rw[el]
  cases c1:decide (l<((p.ls.length:Nat):Int))with
  | false=>
   refine mJ ?_
   exact q0 λ hn=>by
    have:¬l<((p.ls.length:Nat):Int):=of_decide_eq_false c1
    exact this hn.2
  | true=>
   refine fP ?_
   have l1:l<p.n:=of_decide_eq_true c1
   have hlt:l.toNat<p.ls.length:=by unfold Pl.n at l1;omega
   obtain⟨y,hy,hdy⟩:=hls.nth' (List.getElem?_eq_getElem hlt)
   obtain⟨c,rfl,hc⟩:=Dx hdy
   have hbn:l.toNat<sd.bs.length:=by have:=So.nb;omega
   have hmem:p.ls[l.toNat]∈p.ls:=List.getElem_mem hlt
   have hnm:p.ls[l.toNat].1.length<=1000:=Po.ln _ hmem
   have g1:(p.ls.getD l.toNat ("",0))=p.ls[l.toNat]:=by rw[List.getD_eq_getElem?_getD,List.getElem?_eq_getElem hlt];rfl
   have g2:(sd.bs.getD l.toNat 0)=sd.bs[l.toNat]:=by rw[List.getD_eq_getElem?_getD,List.getElem?_eq_getElem hbn];rfl
   have ef:dH p sd l x=if sd.bs[l.toNat]<=((sd.inL p l).length:Int)then some (.full p.ls[l.toNat].1 sd.bs[l.toNat])else if p.kb x l<=(sd.many p l x:Int)then some (.kindFull p.ls[l.toNat].1 x (p.kb x l))else none:=by
    unfold dH
    rw[if_pos ⟨l0,l1⟩,g1,g2]
   refine⟨_,rfl,b,_,_,_,rfl,rfl,aJ.of hb,rfl,_,rfl,la,_,_,_,rfl,rfl,aJ.of hla,cZ l0 hy,c,_,_,_,rfl,rfl,aJ.of hc,rfl,?_⟩
   refine⟨_,rfl,a,_,_,_,rfl,rfl,aJ.of ha,rfl,_,rfl,ba,_,_,.int sd.bs[l.toNat],rfl,rfl,aJ.of hba,cZ l0 (by rw[List.getElem?_map,List.getElem?_eq_getElem hbn];rfl),?_⟩
   refine⟨_,rfl,_,rfl,_,rfl,p,sd,_,_,l,rfl,hp,hs,Po,So,λ d H1 hd0 e1 hd=>?_⟩
   refine⟨d,_,rfl,.inl (aQ.of hd),_,rfl,_,_,rfl,rfl,_,rfl,?_⟩
   rw[List.length_map]
   have sb:eS (.int sd.bs[l.toNat]):=Bo.b _ (List.getElem_mem hbn)
   refine bA (λ c2=>?_) (λ c2=>?_)
   ·have c2':=of_decide_eq_true c2
    rw[if_pos c2']at ef
    exact⟨_,rfl,_,rfl,kI ["lane","bound"] [.str p.ls[l.toNat].1,.int sd.bs[l.toNat]] (q2 _ ef) e1 (wD (iO hnm) sb) r1⟩
   have c2':¬sd.bs[l.toNat]<=((sd.inL p l).length:Int):=λ z=>c2 (decide_eq_true z)
   rw[if_neg c2']at ef
   obtain⟨i1,i2⟩:=Xn (hw l0 l1)
   have hkm:=(eA hk).1
   have hbi:kd.way.findIdx (· ==l)<kd.bds.length:=by
    have:=(List.getElem?_eq_some_iff.mp i1).1
    rw[(Po.kw kd hkm).2.1]
    exact this
   have ekb:p.kb x l=kd.bds[kd.way.findIdx (· ==l)]:=by
    unfold Pl.kb
    rw[hk]
    show kd.bds.getD _ 0=_
    rw[List.getD_eq_getElem?_getD,List.getElem?_eq_getElem hbi]
    rfl
   refine⟨_,rfl,_,rfl,_,rfl,p,_,x,l,kd,_,_,rfl,aD.ext e1 hp,hx,hk,i1,i2,List.getElem?_eq_getElem hbi,λ H2 e2=>?_⟩
   refine⟨_,rfl,_,rfl,_,rfl,_,rfl,p,sd,_,_,l,x,kd,rfl,aD.ext (e1.trans e2) hp,aD.ext (e1.trans e2) hs,Po,So,hx,hk,λ H3 e3=>?_⟩
   refine⟨_,rfl,_,_,rfl,rfl,_,rfl,?_⟩
   rw[<-ekb]
   have sk:eS (.int (p.kb x l)):=by rw[ekb];exact Bo.k kd hkm _ (List.getElem_mem hbi)
   refine bA (λ c3=>?_) (λ c3=>?_)
   ·have c3':=of_decide_eq_true c3
    rw[if_pos c3']at ef
    exact⟨_,rfl,_,rfl,_,rfl,kI ["lane","kind","bound"] [.str p.ls[l.toNat].1,.str x,.int (p.kb x l)] (q2 _ ef) ((e1.trans e2).trans e3) (Ng (iO hnm) (iO hx) sk) r2⟩
   ·have c3':¬p.kb x l<=(sd.many p l x:Int):=λ z=>c3 (decide_eq_true z)
    rw[if_neg c3']at ef
    exact q1 ef H3 ((e1.trans e2).trans e3)
 ·refine⟨_,rfl,mJ (q0 λ hn=>?_)⟩
  have:¬0<=l:=λ z=>c0 (decide_eq_true z)
  exact this hn.1
abbrev hV:Stmt:=top 22
theorem sc_with_card:bT ["stand","new","bounds","cards","waits"] ["stand","new"] (aT hV):=⟨rfl,rfl,rfl,Qd,rfl,Qd,Qd⟩
theorem Rb{f c0 tP:Addr}{fd:FuncData}(F:lG K "with_card" "with_card" hV f fd c0)(T:Gy K mg)(hcd:PySem.W.CodeHd base c0 tP)(hbm:jW mg base)(hts:tP∈ts):bD P w K mg base bM 3 f fd ["stand","new"] (rK ts):=by
 refine F.ok sc_with_card (λ vs H Q E h=>?_) (λ A outer s H vs Q E hr h=>?_)
 ·obtain⟨sd,c,u,cu,rfl,_⟩:=h
  rfl
 obtain⟨sd,c,u,cu,rfl,hs,hc,hn,tb,q⟩:=h
 refine'⟨_,?hh,?rr⟩
 case hh=>exists Qg,nH (pv 0) ?_,lT rfl ?_,cK ?_ ?_,bI sc_with_card.nd (aO 2) (Or.inl rfl) (Or.inl rfl),cK ?_ ?_,bI sc_with_card.nd (aO 3) (Or.inl rfl) (Or.inl rfl),cK ?_ kN,bI sc_with_card.nd (aO 4) (Or.inl rfl) (Or.inl rfl),aV ?_,bF ?_,dF ?_,aE (pv 2) ?_,Qe,Pp hr rfl rfl hcd hbm rfl T.b_tuple ?_ (eH ["card","new"] 1 [1]) ?_ ?_ ?_ ?_ ?_ ?_ ?_,(by exact⟨rfl,rfl,Qd,rfl,(show∀y:Str×NameKind,y∈_->y.2=NameKind.free->(aT hV).names.lookup y.1=some .cell\/(aT hV).names.lookup y.1=some .free from Qd)⟩),Qd,Qc,fL (pv 3),6,bI ?_ (aO 0) (Or.inl rfl) (Or.inr rfl),(by exact(show(["card","new"]:List Str).Nodup from Qd)),eZ Qc,6,kK,6,Dc ?_ (pv 1) (pv 0),bN cG ?_ ?_ (bH _),aN ?_ (pv 0) aK (λ _ _=>rfl),(by exact(show cQ _ (fK K)from aX)),aN ?_ (pv 1) aK (λ _ _=>rfl),(by exact(show cQ _ (fK K)from aX)),aE (pv 4) aG
 obtain⟨ps,hps⟩:=tb tP hts
 obtain⟨a,us,rfl,_,ha,v1,r1,rfl,h1,v2,r2,rfl,h2,v3,r3,rfl,h3,rfl⟩:=hs
 obtain⟨ca,cv,rfl,_,hca,hcs⟩:=h2
 obtain⟨n,rfl,hnw⟩:=Cd.view hc
 have ec:=hcs.length
 rw[List.length_map]at ec
 refine⟨_,rfl,_,_,rfl,aJ.of ha,rfl,_,_,rfl,_,_,rfl,_,_,rfl,rfl,?_⟩
 refine⟨_,rfl,_,rfl,ca,rfl,⟨cv,aJ.of hca⟩,⟨ps,hps⟩,λ ps' tb' D hD=>?_⟩
 have e0:aI [] H (aA H tP (.tbl ps')):=aI.tbl hps.1 tb'.2
 have hD0:H D=none:=e0.free Qb hD
 have hcs':=aL.more hD0 hcs
 have hc':=aD.more hD0 hc
 refine Kc (hJ (ys:=cv)) (λ i xs H2=>aI [] H H2/\H2 D=some (.lst xs)/\aL [D] H2 ((sd.cs.take i).map λ d=>Cd.d (if(d.nm==c.nm)=true then c else d)) xs/\xs.length=i) ⟨Cr e0 hD0,aP,rfl,rfl⟩ (λ _ _ _ h=>aJ.of (h.1.tup Qb hca)) (λ _ _ _ h=>h.2.1) ?_ ?_
 ·rintro i y xs H2 hy hi ⟨e,hDx,hxs,hxl⟩
  obtain⟨d,hd,hdy⟩:=hcs'.nth hy
  have e':aI [D] H H2:=e.mono Qb
  have hdy2:=aD.ext e' hdy
  have hc2:=aD.ext e' hc'
  obtain⟨b,rfl,hb⟩:=Cd.view hdy2
  have tk:=uX hd
  refine⟨_,rfl,b,_,_,.str d.nm,rfl,rfl,aJ.of hb,rfl,_,rfl,n,_,_,.str c.nm,rfl,rfl,aJ.of (e.tup Qb hnw),rfl,rfl,_,rfl,?_⟩
  have small:xs.length<sizeLine:=cB Qa
  have next:∀v,aD [D] H2 (Cd.d (if(d.nm==c.nm)=true then c else d)) v->Nx cv.length i (aI [] H (aA H2 D (.lst (xs++[v])))/\(aA H2 D (.lst (xs++[v]))) D=some (.lst (xs++[v]))/\aL [D] (aA H2 D (.lst (xs++[v]))) ((sd.cs.take (i+1)).map λ d=>Cd.d (if(d.nm==c.nm)=true then c else d)) (xs++[v])/\(xs++[v]).length=i+1):=λ v hv=>by
   refine nx hi ⟨Cr e hD0,aP,?_,by simp[hxl]⟩
   rw[tk,List.map_append]
   exact aL.ext (aI.put Qb _) (aL.append hxs ⟨v,_,rfl,hv,rfl⟩)
  refine bA (λ cc=>?_) (λ cc=>?_)
  ·have cc':(d.nm==c.nm)=true:=by simpa using cc
   rw[if_pos cc']at next
   exact⟨_,rfl,hDx,small,next _ hc2⟩
  ·have cc':¬(d.nm==c.nm)=true:=by simpa using cc
   rw[if_neg cc']at next
   exact⟨_,rfl,hDx,small,next _ hdy2⟩
 ·rintro xs H2 ⟨e,hDx,hxs,hxl⟩ t ht
  rw[ec,List.take_length]at hxs
  have hxs0:=aL.less (ex':=[]) Qb hxs
  have e3:aI [] H2 (aA H2 t (.tup xs)):=aI.new ht _
  generalize hH3:aA H2 t (.tup xs)=H3 at e3⊢
  have ht3:H3 t=some (.tup xs):=by rw[<-hH3];exact aP
  have hx3:=aL.ext e3 hxs0
  refine⟨_,rfl,by show 3<=sizeLine;decide,λ t2 ht2=>?_⟩
  have e4:aI [] H3 (aA H3 t2 (.tup [v1,.ref t,v3])):=aI.new ht2 _
  have e14:=(e.trans e3).trans e4
  refine q _ _ e14 ⟨t2,_,rfl,Qb,aP,v1,_,rfl,aD.ext e14 h1,.ref t,_,rfl,⟨t,xs,rfl,Qb,e4.tup Qb ht3,?_⟩,v3,_,rfl,aD.ext e14 h3,rfl⟩
  have:=aL.ext e4 hx3
  unfold Sd.put
  rw[List.map_map]
  exact this
end
def nA(k:gW)(ts:List Addr)(o:Pl->Sd->Str->Except cS Cd):Sp:=λ vs H Q E=>∃(p:Pl) (s:Sd) (v u:V) (x:Str),vs=[v,u,.str x]/\aD [] H p.d v/\aD [] H s.d u/\x.length<=1000/\gX p/\jT p s/\zX p s/\Tb ts H/\
 (∀c r H',o p s x= .ok c->aI [] H H'->aD [] H' (s.put c).d r->Q r H')/\∀r,o p s x= .error r->dL (r.cls k) (r.fs x) H E
section
variable{P:Program}{w:World}{K:Qf}{mg:Qk}{base:Heap}{CK CC:Addr}{k:gW}{ts:List Addr}
theorem uA{H:Hp}{n kd:Str}{pl:Int}{bk:Bool}{t:Addr}(h:H t=some (.tup [.str n,.str kd,.int pl,.bl bk])):aD [] H (Cd.d ⟨n,kd,pl,bk⟩) (.ref t):=
 ⟨t,_,rfl,Qb,h,_,_,rfl,rfl,_,_,rfl,rfl,_,_,rfl,rfl,_,_,rfl,rfl,rfl⟩
abbrev wI:Stmt:=top 24
theorem sc_pulled:bT ["plan","stand","card","name","kind","place","blocked","lane"] ["plan","stand","card"] (aT wI):=⟨rfl,rfl,rfl,Qd,rfl,Qd,Qd⟩
theorem Rj{f:Addr}{fd:FuncData}(F:bO K "pulled" "pulled" wI f fd)(oN:cI P w K mg base "card_that_can_move" 9 ["plan","stand","card"] (rM k))(fR:aZ P w K mg base "lane_at" 6 ["plan","kind","place"] lL)(zK:cI P w K mg base "refuse_if_it_waits" 9 ["plan","stand","card","lane"] (vW k))
  (oJ:cI P w K mg base "refuse_if_full" 8 ["plan","stand","lane","kind"] (rQ k)) (oI:aZ P w K mg base "with_card" 3 ["stand","new"] (rK ts)) (hts:∀t∈ts,t∉([]:List Addr)):bD P w K mg base (eU P w) 10 f fd ["plan","stand","card"] (nA k ts dN):=by
 refine F.okX sc_pulled (λ vs H Q E h=>?_) (λ cdv A outer s H vs Q E hr h=>?_)
 ·obtain⟨p,sd,v,u,x,rfl,_⟩:=h
  rfl
 obtain⟨p,sd,v,u,x,rfl,hp,hs,hx,Po,So,Bo,tb,q1,q2⟩:=h
 refine'⟨_,?hh,?rr⟩
 case hh=>exists Qg,nH ?_ ?_,fM dY oN hr ?_ rfl ?_,aE (pv 0) ?_,aE (pv 1) ?_,aE (pv 2) aG,Qc,lT rfl ?_,cK ?_ ?_,bI sc_pulled.nd (aO 3) (Or.inl rfl) (Or.inl rfl),cK ?_ ?_,bI sc_pulled.nd (aO 4) (Or.inl rfl) (Or.inl rfl),cK ?_ ?_,bI sc_pulled.nd (aO 5) (Or.inl rfl) (Or.inl rfl),cK ?_ kN,bI sc_pulled.nd (aO 6) (Or.inl rfl) (Or.inl rfl),Qg,bG sc_pulled.nd (aO 7) (Or.inl rfl) ?_,bB fR hr ?_ rfl ?_,aE (pv 0) ?_,aE (pv 4) ?_,aE ?_ aG,bK dZ (pv 5) aK,Qc,Qg,lO ?_,fM dY zK hr ?_ rfl ?_,aE (pv 0) ?_,aE (pv 1) ?_,aE (pv 2) ?_,aE (pv 7) aG,Qc,Qg,lO ?_,fM dY oJ hr ?_ rfl ?_,aE (pv 0) ?_,aE (pv 1) ?_,aE (pv 7) ?_,aE (pv 4) aG,Qc,aV ?_,bF ?_,bB oI hr ?_ rfl ?_,aE (pv 1) ?_,aE ?_ aG,dF ?_,aE (pv 3) ?_,aE (pv 4) ?_,Qe,bK dZ (pv 5) aK,aE (pv 6) aG,Qc
 refine⟨_,rfl,_,rfl,_,rfl,p,sd,v,u,x,rfl,hp,hs,hx,Po,So,λ c cu H1 hm e1 hcu=>?_,λ r hm=>dL.on (q2 r (by unfold dN;rw[hm]))⟩
 obtain⟨hc,hno,hbk⟩:=tE hm
 obtain⟨hcm,hcn⟩:=mO hc
 have Co:=So.c c hcm
 obtain⟨_,kd,hk,p0,p1⟩:=id Co
 have p2:=sW hk p1 hno
 have lk:=gZ.kd Po Co
 obtain⟨a,rfl,ha⟩:=Cd.view hcu
 have ep:dN p sd x=match sd.ws.find? (dJ p sd x (p.at c.kd (c.pl+1)))with
  |some w=>.error (.waits w.ot)
  |none=>match dH p sd (p.at c.kd (c.pl+1)) c.kd with
   |some r=>.error r
   |none=>.ok {c with pl:=c.pl+1}:=by unfold dN;rw[hm]<;>rfl
 refine⟨_,_,rfl,aJ.of ha,rfl,_,_,rfl,_,_,rfl,_,_,rfl,_,_,rfl,rfl,?_⟩
 refine⟨_,rfl,_,rfl,_,rfl,_,_,rfl,rfl,p,v,c.kd,c.pl+1,kd,rfl,aD.ext e1 hp,lk,hk,Qa,λ H2 e2=>?_⟩
 have e12:=e1.trans e2
 refine⟨_,rfl,_,rfl,_,rfl,_,rfl,p,sd,v,u,x,_,rfl,aD.ext e12 hp,aD.ext e12 hs,hx,Po,So,λ hb H3 e3=>?_,λ w' hb=>dL.on ((q2 (.waits w'.ot) (by rw[ep,hb])).up e12)⟩
 rw[hb]at ep
 have e13:=e12.trans e3
 refine⟨_,rfl,_,rfl,_,rfl,_,rfl,p,sd,v,u,_,c.kd,x,kd,rfl,aD.ext e13 hp,aD.ext e13 hs,lk,Po,So,Bo,hk,λ h0 h1=>uC hk Qa h0 h1,λ hf H4 e4=>?_,λ r hf=>dL.on ((q2 r (by rw[ep,hf])).up e13)⟩
 rw[hf]at ep
 have e14:=e13.trans e4
 refine⟨_,rfl,_,rfl,_,rfl,_,rfl,_,_,rfl,rfl,_,rfl,by show 4<=sizeLine;decide,λ t ht=>?_⟩
 have e5:aI [] H4 (aA H4 t (.tup [.str c.nm,.str c.kd,.int (c.pl+1),.bl c.bk])):=aI.new ht _
 have e15:=e14.trans e5
 exact⟨sd,{c with pl:=c.pl+1},u,.ref t,rfl,aD.ext e15 hs,uA aP,So.nc,e15.tb tb hts,λ r H6 e6 hr6=>q1 _ r H6 ep (e15.trans e6) hr6⟩
abbrev wH:Stmt:=top 25
theorem sc_put_back:bT ["plan","stand","card","name","kind","place","blocked"] ["plan","stand","card"] (aT wH):=⟨rfl,rfl,rfl,Qd,rfl,Qd,Qd⟩
theorem Ri{f:Addr}{fd:FuncData}(F:bO K "put_back" "put_back" wH f fd)(yX:jA P w K mg base "InYard" k.IY 2 ["self","card"] (dU k.IY ["card"]))(r1:fG K k.IY=true)(oN:cI P w K mg base "card_that_can_move" 9 ["plan","stand","card"] (rM k))(fR:aZ P w K mg base "lane_at" 6 ["plan","kind","place"] lL)
  (oJ:cI P w K mg base "refuse_if_full" 8 ["plan","stand","lane","kind"] (rQ k)) (oI:aZ P w K mg base "with_card" 3 ["stand","new"] (rK ts)) (hts:∀t∈ts,t∉([]:List Addr)):bD P w K mg base (eU P w) 10 f fd ["plan","stand","card"] (nA k ts dD):=by
 refine F.okX sc_put_back (λ vs H Q E h=>?_) (λ cdv A outer s H vs Q E hr h=>?_)
 ·obtain⟨p,sd,v,u,x,rfl,_⟩:=h
  rfl
 obtain⟨p,sd,v,u,x,rfl,hp,hs,hx,Po,So,Bo,tb,q1,q2⟩:=h
 refine'⟨_,?hh,?rr⟩
 case hh=>exists Qg,nH ?_ ?_,fM dY oN hr ?_ rfl ?_,aE (pv 0) ?_,aE (pv 1) ?_,aE (pv 2) aG,Qc,lT rfl ?_,cK ?_ ?_,bI sc_put_back.nd (aO 3) (Or.inl rfl) (Or.inl rfl),cK ?_ ?_,bI sc_put_back.nd (aO 4) (Or.inl rfl) (Or.inl rfl),cK ?_ ?_,bI sc_put_back.nd (aO 5) (Or.inl rfl) (Or.inl rfl),cK ?_ kN,bI sc_put_back.nd (aO 6) (Or.inl rfl) (Or.inl rfl),Qg,bS ?_ ?_ bR,bN cG (pv 5) aK (bH _),aV ?_,kL dY ?_,kQ yX hr ?_ rfl ?_,aE (pv 2) aG,Qc,Qg,lO ?_,fM dY oJ hr ?_ rfl ?_,aE (pv 0) ?_,aE (pv 1) ?_,Qe,bB fR hr ?_ rfl ?_,aE (pv 0) ?_,aE (pv 4) ?_,aE ?_ aG,bK pR (pv 5) aK,Qc,aE (pv 4) aG,Qc,aV ?_,bF ?_,bB oI hr ?_ rfl ?_,aE (pv 1) ?_,aE ?_ aG,dF ?_,aE (pv 3) ?_,aE (pv 4) ?_,Qe,bK pR (pv 5) aK,aE (pv 6) aG,Qc
 refine⟨_,rfl,_,rfl,_,rfl,p,sd,v,u,x,rfl,hp,hs,hx,Po,So,λ c cu H1 hm e1 hcu=>?_,λ r hm=>dL.on (q2 r (by unfold dD;rw[hm]))⟩
 obtain⟨hc,hno,hbk⟩:=tE hm
 obtain⟨hcm,hcn⟩:=mO hc
 have Co:=So.c c hcm
 obtain⟨_,kd,hk,p0,p1⟩:=id Co
 have p2:=sW hk p1 hno
 have lk:=gZ.kd Po Co
 obtain⟨a,rfl,ha⟩:=Cd.view hcu
 have ep:dD p sd x=if c.pl=0 then .error .inYard else match dH p sd (p.at c.kd (c.pl-1)) c.kd with
   |some r=>.error r
   |none=>.ok {c with pl:=c.pl-1}:=by unfold dD;rw[hm]<;>rfl
 refine⟨_,_,rfl,aJ.of ha,rfl,_,_,rfl,_,_,rfl,_,_,rfl,_,_,rfl,rfl,?_⟩
 refine⟨_,rfl,rfl,_,rfl,?_⟩
 refine bA (λ cc=>?_) (λ cc=>?_)
 ·have cc':c.pl=0:=by simpa using cc
  rw[if_pos cc']at ep
  exact⟨_,rfl,kI ["card"] [.str x] (q2 _ ep) e1 (nB (iO hx)) r1⟩
 have cc':¬c.pl=0:=by simpa using cc
 rw[if_neg cc']at ep
 refine⟨_,rfl,_,rfl,_,rfl,_,rfl,_,rfl,_,_,rfl,rfl,p,v,c.kd,c.pl-1,kd,rfl,aD.ext e1 hp,lk,hk,Qa,λ H2 e2=>?_⟩
 have e12:=e1.trans e2
 refine⟨_,rfl,p,sd,v,u,_,c.kd,x,kd,rfl,aD.ext e12 hp,aD.ext e12 hs,lk,Po,So,Bo,hk,λ h0 h1=>uC hk Qa h0 h1,λ hf H4 e4=>?_,λ r hf=>dL.on ((q2 r (by rw[ep,hf])).up e12)⟩
 rw[hf]at ep
 have e14:=e12.trans e4
 refine⟨_,rfl,_,rfl,_,rfl,_,rfl,_,_,rfl,rfl,_,rfl,by show 4<=sizeLine;decide,λ t ht=>?_⟩
 have e5:aI [] H4 (aA H4 t (.tup [.str c.nm,.str c.kd,.int (c.pl-1),.bl c.bk])):=aI.new ht _
 have e15:=e14.trans e5
 exact⟨sd,{c with pl:=c.pl-1},u,.ref t,rfl,aD.ext e15 hs,uA aP,So.nc,e15.tb tb hts,λ r H6 e6 hr6=>q1 _ r H6 ep (e15.trans e6) hr6⟩
end
end K10
namespace L2
open PySem PySem.Spec PyProof.Rows
theorem Bf:∀{us:List Value} {ys:List Str},StrsAre us ys->aW (ys.map V.str) us
 |_,_,.nil=>.nil
 |_,_,.cons y t r=>.cons ⟨t,rfl⟩ (Bf r)
def Nu(K:Qf):List V->Hp->VK->Prop:=λ vs H Q=>∃(a:Addr) (ys:List Str),vs=[.ref a]/\aQ K H a (ys.map V.str)/\ys.length<64/\∀p zs,H p=none->zs.Perm ys->sortedS zs=true->Q (.ref p) (aA H p (.lst (zs.map V.str)))
theorem BM{X:Cx}:dX X (.builtin "sorted") (Nu X.K):=by
 intro pins s σ H vs us Q I rv h
 obtain⟨a,ys,rfl,hq,h64,q⟩:=h
 obtain⟨u,rfl,ru⟩:=rv.one
 obtain rfl:u= .ref a:=ru
 obtain⟨its,r,pl,hl⟩:=I.list hq
 have hlen:=r.length
 rw[List.length_map]at hlen
 refine sorted_strs pl.isList (strs_of r) Qa λ out ss' a1 a2 a3=>?_
 obtain⟨e,he⟩:=sortedAll_at s.heap its out
 have hl2:=a2.length_eq
 refine⟨.ref (s.heap.objs.size+1),_,I.laid (t':=s.toks) (o:=.lst (ss'.map V.str)) (λ b o q=>sortedAll_old q) (Nat.le_succ _) ⟨?_,out.toList,e,Bf a1,by simpa using he⟩,rfl,q _ ss' (I.hok.fresh (Nat.le_succ _)) a2 a3⟩
 rw[List.length_map]
 exact Nat.le_of_lt (cB Qa)
structure fI(k:Nat)(A:Around):Prop where
 dp:A.depth+3*k+5<recursionLimit
 un:A.units+16*k+200<cLine
theorem bV.zero{k:Nat}{A:Around}(r:bV k A):fI k A:=⟨r.dp,r.un⟩
theorem bV.mark{k:Nat}{A:Around}{v:Option Value}(r:bV k A):fI k (A.mark v):=⟨r.dp,r.un⟩
theorem fI.mono{j k:Nat}{A:Around}(r:fI k A)(h:j<=k):fI j A:=⟨by have:=r.dp;omega,by have:=r.un;omega⟩
theorem fI.deeper{k:Nat}{A:Around}(r:fI (k+1) A)(env:Env):fI k (A.deeper env):=
 ⟨by have:=r.dp;show A.depth+1+3*k+5<_;omega,by have:=r.un;show A.units+3+16*k+200<_;omega⟩
theorem fI.depth{k:Nat}{A:Around}(r:fI k A):A.depth<recursionLimit:=by have:=r.dp;omega
theorem fI.units{k:Nat}{A:Around}(r:fI k A):A.units+64<cLine:=by have:=r.un;omega
structure qT(P:Program)(w:World)(K:Qf)(mg:Qk)(base:Heap)(CX:eL)(k:Nat)(f:Addr)(fd:FuncData)(ps:List Str)(sp:Sp):Prop where
 len:∀vs H Q E,sp vs H Q E->vs.length=ps.length
 run:∀(A:Around) (outer:List Env) (s:Shared) (H:Hp) (args:Args) (us:List Value) (vs:List V) (Q:VK) (E:XK),fI k A->gY P w K mg base A outer s H->BindsTo s fd args (ps.zip us)->aW vs us->sp vs H Q E->
  codeAny (model P w) A (.call (.ref f) args) (CR CX outer P w H s Q E) s
abbrev nX(CX:eL)(P:Program)(w:World)(K:Qf)(mg:Qk)(base:Heap)(N:List Str)(qual:Str)(scope:Scope)(f:Addr)(cd:Value)(A:Around)(outer:List Env)(s:Shared)(H:Hp)(E:XK):Cx:={iE CX P w K mg base N qual scope f cd A outer s H E with calm:=false}
theorem Xd{CX:eL}{P:Program}{w:World}{K:Qf}{mg:Qk}{base:Heap}{N ps:List Str}{qual:Str}{scope:Scope}{f:Addr}{cd:Value}{A:Around}{outer:List Env}{s s1:Shared}{H:Hp}{E:XK}{us:List Value}{vs:List V}
  (S:bT N ps scope) (e0:gY P w K mg base A outer s H) (hl:vs.length=ps.length) (r:aW vs us)
  (x:InCallC s s.heap.objs.size (bindL (envOfC qual scope s.heap.objs.size f cd).kindOf (ps.zip us) λ _=>none) (cellsFrom (s.heap.objs.size+1) scope.names []) (bindC (envOfC qual scope s.heap.objs.size f cd).kindOf (ps.zip us) λ _=>none) s1):
  aB (nX CX P w K mg base N qual scope f cd A outer s H E) [] (start N vs) H s1:=by
 have hpl:ps.length<=N.length:=by have:=congrArg List.length S.pre;rw[List.length_take]at this;omega
 obtain⟨h1,tk,rfl,hk⟩:=x.done
 have noA:∀b:Addr,b∉(nX CX P w K mg base N qual scope f cd A outer s H E).ex:=λ b z=>absurd (show b∈([]:List Addr)from z) Qb
 refine⟨⟨e0.mod,S.kind,rfl,rfl,Nat.le_refl _,λ y z c h1 h2=>?_,λ y hy=>?_,λ y c _ h=>?_,(λ z=>by cases z),Around.frames_deeper e0.frames,.inr ⟨rfl,rfl⟩,λ b z=>absurd z (noA b),e0.bs,e0.bsz,λ b _ _=>noA b,λ b z=>absurd z (noA b),e0.funs,e0.frf⟩,
  rfl,⟨e0.bare,Nat.le_refl _⟩,Un.kept hk,⟨_,x.toInCall.ns,λ i y v h1 h2 h3=>?_⟩,λ y c h=>⟨_,x.cell y c h⟩,e0.hok.fresh (Nat.le_refl _),λ y c h=>?_,λ p hp=>absurd (show p∈([]:Qj)from hp) Qb,e0.hok.kept hk,?_⟩
 ·exact name_of_addr x.apart (PySem.mem_of_lookup h1) (PySem.mem_of_lookup h2)
 ·have hy:scope.names.lookup y=some .cell\/scope.names.lookup y=some .free:=hy
  rcases hy with hy|hy
  ·exact tZ hy
  ·exact absurd rfl (S.nofree _ (PySem.mem_of_lookup hy))
 ·exact Nat.le_of_lt (x.above y c (PySem.mem_of_lookup h))
 ·have hi:i<vs.length:=by
   unfold start at h2
   by_cases hi:i<vs.length
   ·exact hi
   ·rw[List.getElem?_append_right (by simpa using hi)]at h2
    rw[List.getElem?_replicate]at h2
    split at h2<;>cases h2
  have ha:vs[i]? =some v:=by
   unfold start at h2
   rw[List.getElem?_append_left (by simpa using hi),List.getElem?_map]at h2
   cases e:vs[i]? with
   |none=>rw[e]at h2;cases h2
   |some a=>rw[e]at h2;cases h2;rfl
  obtain⟨u,hu,rv⟩:=r.get ha
  have hp:ps[i]? =some y:=by
   rw[<-S.pre,List.getElem?_take_of_lt Qa];exact h1
  have ndP:ps.Nodup:=by rw[<-S.pre];exact S.nd.sublist (List.take_sublist _ _)
  refine⟨u,rv,?_⟩
  rcases S.par y (List.mem_of_getElem? hp)with k|k
  ·exact .inl ⟨k,xZ ndP hp hu k⟩
  ·obtain⟨c,e⟩:=tZ (n:=s.heap.objs.size+1) k
   refine .inr ⟨.inl k,c,e,?_⟩
   have q:=x.cell y c e
   rw[yA ndP hp hu (by show scope.names.lookup y≠_;rw[k];decide)]at q
   exact q
 ·exact e0.hok.fresh (Nat.le_of_lt (x.above y c (PySem.mem_of_lookup h)))
 ·unfold start
  show _=N.length
  rw[List.length_append,List.length_map,List.length_replicate]
  omega
theorem AH{CX:eL}{P:Program}{w:World}{K:Qf}{mg:Qk}{base:Heap}{k:Nat}{f:Addr}{name qual:Str}{params:Arguments}{body:List Stmt}{scope:Scope}{dV kV doc pm cdv ct oc:Value}{an od:Option Addr}
  {osl:Array (Option Value)} {N ps:List Str} {sp:Sp} (lk:K.lookup f=some ⟨oc,od,.func (PySem.W.fnOf name qual params body scope dV kV doc pm an cdv ct),osl⟩) (hcd:PySem.W.codeIn K cdv qual=true) (S:bT N ps scope)
  (len:∀vs H Q E,sp vs H Q E->vs.length=ps.length)
  (hbody:∀(A:Around) (outer:List Env) (s:Shared) (H:Hp) (vs:List V) (Q:VK) (E:XK),fI k (A.deeper (envOfC qual scope s.heap.objs.size f cdv))->sp vs H Q E->
   ∃t,eJ (nX CX P w K mg base N qual scope f cdv A outer s H E) body t/\t {nx:=λ _ H'=>Q .non H',rt:=Q} (start N vs) H):
  qT P w K mg base CX (k+1) f (PySem.W.fnOf name qual params body scope dV kV doc pm an cdv ct) ps sp:=by
 refine⟨len,λ A outer s H args us vs Q E hr e0 hb r hsp=>?_⟩
 have hl:=len _ _ _ _ hsp
 have KX:K.In s.heap:=e0.mod.kin.keeps λ b o e=>(e0.bs b o e).1
 have lim:s.heap.NoLimit:=e0.mod.nolimit.keeps λ b o e=>(e0.bs b o e).1
 have hkind:∀y∈ps.zip us,scope.names.lookup y.1=some .local\/(scope.names.lookup y.1=some .cell/\((cellsFrom (s.heap.objs.size+1) scope.names []).lookup y.1).isSome=true):=λ ⟨n,v⟩ hy=>by
  rcases S.par n (List.of_mem_zip hy).1 with q|q
  ·exact .inl q
  ·exact .inr ⟨q,PySem.W.cellsFrom_some _ _ _ (.inl q)⟩
 refine codeAny_call_function hr.depth (KX _ _ lk) rfl S.co S.gen rfl (PySem.W.codeRec_of KX hcd) (hb _ _ _ _ ?_)
 refine wpAny_newFunctionEnv_cells S.kind hkind λ env he s1 x=>?_
 subst he
 refine⟨lim.keeps x.toInCall.keep,codeAny_func ?_⟩
 obtain⟨t,ht,hq⟩:=hbody A outer s H vs Q E (hr.deeper _) hsp
 have I:aB (nX CX P w K mg base N qual scope f cdv A outer s H E) [] (start N vs) H s1:=Xd S e0 hl r x
 refine wpAny_mono (ht [] s1 (start N vs) H _ I hq) (λ fl s' hs=>?_) λ e s' hs=>hs
 have fin:∀{σ':St} {H':Hp} {v:V} {u:Value},aB (nX CX P w K mg base N qual scope f cdv A outer s H E) [] σ' H' s'->bE v u->Q v H'->CE outer P w H s Q u s':=
  fun{σ' H' v u} J rv q=>⟨v,H',J.os,J.bare,J.base,J.hok,rv,q⟩
 cases fl with
 |ret u=>
  obtain⟨v,σ',H',J,rv,q⟩:=hs
  exact fin J rv q
 |next=>
  obtain⟨σ',H',J,q⟩:=hs
  exact fin (v:=V.non) (u:=Value.none) J rfl q
 |brk=>
  obtain⟨_,_,_,q⟩:=hs
  exact False.elim q
 |cont=>
  obtain⟨_,_,_,q⟩:=hs
  exact False.elim q
section
variable{P:Program}{w:World}{K:Qf}{mg:Qk}{base:Heap}
theorem bO.okH{x qual:Str}{st:Stmt}{f:Addr}{fd:FuncData}{N ps:List Str}{k:Nat}{sp:Sp}(F:bO K x qual st f fd)(S:bT N ps (aT st))(len:∀vs H Q E,sp vs H Q E->vs.length=ps.length)
  (hbody:∀(cdv:Value) (A:Around) (outer:List Env) (s:Shared) (H:Hp) (vs:List V) (Q:VK) (E:XK),fI k (A.deeper (envOfC qual (aT st) s.heap.objs.size f cdv))->sp vs H Q E->
   ∃t,eJ (nX bM P w K mg base N qual (aT st) f cdv A outer s H E).nox (eE st) t/\t {nx:=λ _ H'=>Q .non H',rt:=Q} (start N vs) H):qT P w K mg base bM (k+1) f fd ps sp:=by
 obtain⟨oc,od,kV,doc,pm,an,cdv,ct,osl,rfl,lk,hcd⟩:=F.ex
 refine AH lk hcd S len λ A outer s H vs Q E hr hsp=>?_
 obtain⟨t,h,q⟩:=hbody cdv A outer s H vs Q E hr hsp
 exact⟨t,h.nox,q⟩
def uN(P:Program)(w:World)(K:Qf)(mg:Qk)(base:Heap)(x:Str)(k:Nat)(ps:List Str)(sp:Sp):Prop:=
 ∃f fd,qT P w K mg base bM k f fd ps sp/\mg x=some (.ref f)/\PySem.W.keepIn K (.ref f)=true/\jB K fd ps []
variable{X:Cx}{x:Str}{k j:Nat}{ps:List Str}{sp:Sp}{e:Expr}{es:List Expr}{p pos:Pos}{t:TA}
theorem Ps(C:uN X.prog X.w X.K X.mg X.base x k ps sp)(hr:fI j X.A)(ha:PA X (e::es) t)(hg:Gl X x:=by rfl)(hj:k<=j:=by decide)(hdb:(x==("__debug__" :Str))=false:=by decide)
  (he:starEach (e::es) X.env=(false,eval e X.env)::starEach es X.env:=by rfl) (hpl:(backTo pos (starEach es X.env)).any (·.1)=false:=by rfl):
  PE X (.Call (.Name x p) (e::es) [] pos) (vC sp [] E0 t):=by
 obtain⟨f,fd,F,hm,hk,hb⟩:=C
 intro pins s σ H Q I h
 refine wpAny_Call_Name_kw (nM I hg hm ?_ hdb)
 refine PySem.W.callWith_K (h₀:=X.base) I.ok.mod.kin hk (aU (ha pos pins s σ H _ I h) λ us s1 ⟨vs,H1,I1,r,q⟩=>⟨I1.kIn,?_⟩) he hpl
 have q':sp vs H1 Q E0:=by have q0:sp (vs++[]) H1 Q E0:=q;rw[List.append_nil]at q0;exact q0
 have hl:us.length=ps.length:=by rw[<-r.length];exact F.len _ _ _ _ q'
 have hb':=hb s1 us I1.kIn (by simpa using hl)
 rw[List.append_nil]at hb'
 refine wpAny_call (codeAny_mono (F.run X.A X.stack s1 H1 ⟨us,[]⟩ us vs Q E0 (hr.mono hj) I1.env0 hb' r q') λ r s' hq=>?_)
 cases r with
 |error ev=>exact False.elim hq
 |ok fl=>
  cases fl with
  |ret u=>exact I1.after hq
  |next=>exact False.elim hq
  |brk=>exact False.elim hq
  |cont=>exact False.elim hq
end
section
variable{prog:Program}{w:World}{A:Around}{E:Qh}{s:Shared}{z TI TO i j:Addr}{fp gp:List Addr}{n m k:Nat}{P R:Nat->Value->Prop}{St Su:Nat->Heap->Prop}{a b:Value}
theorem zY{Q:Option Value->Shared->Prop}(Z:ZA z TI TO i j fp gp)(D:Draws prog w A.in1 i fp n P St)(G:Draws prog w A.in1 j gp m R Su)(hz:IsZip s.heap z TI TO .none)(hI:IsPair s.heap TI (.ref i) (.ref j))(hO:IsPair s.heap TO a b)(hk:k<n)(h1:St k s.heap)(hm:k=m)(h2:Su k s.heap)
  (hQ:∀h' tk,(∀c o,c∉[z,TO,i,j]->s.heap.get? c=some o->h'.get? c=some o)->Q none {s with heap:=h',toks:=tk}):wpAny Qi A (pyNext (.ref z)) Q E s:=by
 have nd:=Z.nd
 simp only[List.nodup_cons,List.mem_cons,List.not_mem_nil,or_false,not_or,List.nodup_nil,and_true,not_false_eq_true]at nd
 obtain⟨⟨nzI,nzO,nzi,nzj⟩,⟨nIO,nIi,nIj⟩,⟨nOi,nOj⟩,nij⟩:=nd
 have hT:s.TypeIs (.ref z) "zip" :=⟨_,hz,rfl⟩
 obtain⟨hp,g,d,t0,os⟩:=s
 unfold pyNext
 refine wpAny_bind (wpAny_attempt (wpAny_callSpecial?_slot (name:=Str.ofString "__next__") hT F.slot_zip_next (wpAny_call_entry F.slot_zip_next hT F.entry_zip_next ?_ (F.args_zip_next_1 _))))
 show wpAny _ _ (field (.ref z) 2>>=_) _ _ _
 refine wpAny_bind (wpAny_field hz rfl (x:=.bool false) rfl ?_)
 show wpAny _ _ (field (.ref z) 3>>=_) _ _ _
 refine wpAny_bind (wpAny_field hz rfl (x:=.ref TI) rfl (wpAny_bind (wpAny_seqItems hI rfl ?_)))
 show wpAny _ _ (Builtin.SmallTypes.ownedTupleIsFree (.ref z)>>=_) _ _ _
 refine wpAny_bind ?_
 unfold Builtin.SmallTypes.ownedTupleIsFree
 refine wpAny_bind (wpAny_field hz rfl (x:=.none) rfl (wpAny_pure ?_))
 simp only[if_true]
 refine wpAny_bind (wpAny_rule (wpAny_bind (wpAny_field hz rfl (x:=.ref TO) rfl (wpAny_bind (wpAny_setField_rec hz Qb λ hA zA sA=>wpAny_bind ?_)))))
 replace zA:IsZip hA z TI TO .ellipsis:=zA
 replace sA:Heap.SameBut z hp hA:=sA
 simp only[List.zipIdx_cons,List.zipIdx_nil,List.forIn_cons,List.forIn_nil]
 refine wpAny_bind (wpAny_bind (wpAny_onRaise ?_))
 show wpAny _ _ (Builtin.SmallTypes.nextOf (.ref i)>>=_) _ _ _
 have h1A:St k hA:=D.frame _ _ _ h1 λ b hb o q=>(sA.2 b (Z.f b hb).1).trans q
 refine wpAny_bind (D.item k ⟨hA,g,d,t0,os⟩ _ _ hk h1A λ x hB tB px h1B sB=>wpAny_pure ?_)
 replace sB:Heap.SameBut i hA hB:=sB
 have OB:IsPair hB TO a b:=(sB.2 _ nOi).trans ((sA.2 _ (Ne.symm nzO)).trans hO)
 refine wpAny_bind (wpAny_seqItems OB rfl (wpAny_bind (wpAny_updateSeq_pair (s:=⟨hB,g,d,tB,os⟩) OB λ hC OC sC=>wpAny_bind (wpAny_letGo (wpAny_pure ?_)))))
 replace sC:Heap.SameBut TO hB hC:=sC
 refine wpAny_bind (wpAny_bind (wpAny_onRaise ?_))
 show wpAny _ _ (Builtin.SmallTypes.nextOf (.ref j)>>=_) _ _ _
 have h2C:Su k hC:=G.frame _ _ _ h2 λ b hb o q=>(sC.2 b (Z.g b hb).2.1).trans ((sB.2 b (Z.g b hb).2.2.1).trans ((sA.2 b (Z.g b hb).1).trans q))
 rw[hm]at h2C
 refine wpAny_bind (G.done ⟨hC,g,d,tB,os⟩ _ _ h2C λ hD e sD ⟨oe,he,hce⟩=>?_)
 have zD:IsZip hD z TI TO .ellipsis:=sD _ _ nzj ((sC.2 _ nzO).trans ((sB.2 _ nzi).trans zA))
 have nez:e≠z:=λ x=>by subst x;rw[zD]at he;cases he;simp at hce
 refine wpAny_setField_rec zD Qb λ hE _ sE=>?_
 replace sE:Heap.SameBut z hD hE:=sE
 refine wpAny_bind (wpAny_isInstance (T:= "StopIteration") (b:=true) ⟨oe,(sE.2 _ nez).trans he,hce⟩ isSubtype_stop (wpAny_pure (hQ _ tB λ c o hc q=>?_)))
 simp only[List.mem_cons,List.not_mem_nil,or_false,not_or]at hc
 exact(sE.2 _ hc.1).trans (sD _ _ hc.2.2.2 ((sC.2 _ hc.2.1).trans ((sB.2 _ hc.2.2.1).trans ((sA.2 _ hc.1).trans q))))
end
theorem tO{X:Cx}{pins:Qj}{σ:St}{H:Hp}{s:Shared}{a b:Addr}{xs:List V}(I:aB X pins σ H s)(hf:fE X pins H b)(hq:aQ X.K H a xs):a≠b:=by
 intro e
 subst e
 obtain⟨f0,_,_,f3,_,_⟩:=hf
 rcases hq with(h|⟨o,h⟩)|⟨o,_,_,hk,_⟩
 ·rw[f0]at h;cases h
 ·rw[f0]at h;cases h
 ·have hb:=I.ok.mod.kin _ _ hk
  rcases f3 with z|z
  ·exact I.ok.noex _ _ hb z
  ·exact absurd (Nat.lt_of_lt_of_le (Heap.lt_size (I.ok.bs _ _ hb).1) z) (Nat.lt_irrefl _)
section
variable{prog:Program}{w:World}{A:Around}{E:Qh}{s:Shared}
abbrev rG(l:Addr):Obj:={cls:=.type "tuple_iterator",data:=.fields #[.ref l,.int 0 0]}
abbrev mW(h:Heap)(l:Addr):Heap:=h.push (rG l)
abbrev oV(h:Heap)(l c:Addr):Heap:=(mW h l).push (rG c)
abbrev oS(h:Heap)(l c:Addr):Heap:=(oV h l c).push (kA (.ref h.objs.size) (.ref (mW h l).objs.size))
abbrev qX(h:Heap)(l c:Addr):Heap:=(oS h l c).push (kA .none .none)
abbrev jX(h:Heap)(l c:Addr):Heap:=(qX h l c).push (qW (.ref (oV h l c).objs.size) (.ref (oS h l c).objs.size))
theorem Tl(l c:Addr)(xs ys:Array Value):Meets (Builtin.«zip.__new__» ⟨[.type "zip",.ref l,.ref c],[]⟩) (λ _ R s=>(s.heap.IsTuple l xs/\s.heap.IsTuple c ys)/\R (.ok (.ret (.ref (qX s.heap l c).objs.size))) {s with heap:=jX s.heap l c}):=
 .of_wp λ prog w A R s h=>by
  obtain⟨hp,g,d,tk,os⟩:=s;obtain⟨⟨hl1,hl2⟩,h⟩:=h
  have hsub:=sub_zip
  have hL1:Heap.IsTuple (Shared.heap ⟨hp,g,d,tk,os⟩) l xs:=hl1
  have hL2:Heap.IsTuple (Shared.heap ⟨mW hp l,g,d,tk,os⟩) c ys:=hl2.at λ o e=>Heap.get?_push_of_some _ e
  wp_walk using wpAny_pyIter_tuple hL1,wpAny_pyIter_tuple hL2
  exact⟨_,rfl,h⟩
theorem BI{l c:Addr}{xs ys:Array Value}{Q:Qh}(h1:s.heap.IsTuple l xs)(h2:s.heap.IsTuple c ys)
  (h:∀h',IsZip h' (s.heap.objs.size+4) (s.heap.objs.size+2) (s.heap.objs.size+3) .none->IsPair h' (s.heap.objs.size+2) (.ref s.heap.objs.size) (.ref (s.heap.objs.size+1))->IsPair h' (s.heap.objs.size+3) .none .none->
   h'.IsTupleIter s.heap.objs.size l 0->h'.IsTupleIter (s.heap.objs.size+1) c 0->(∀b o,s.heap.get? b=some o->h'.get? b=some o)->Q (.ref (s.heap.objs.size+4)) {s with heap:=h'}):wpAny Qi A (call (.type "zip") [.ref l,.ref c]) Q E s:=by
 refine callType_new F.called_zip Qc (F.typeCall_zip_2 _ _) (F.newCall_zip_2 _ _) (λ obj=>F.args_object_init_3 obj _ _) F.entry_zip_new (Tl l c xs ys) ⟨⟨h1,h2⟩,?_⟩
 have z1:(mW s.heap l).objs.size=s.heap.objs.size+1:=Heap.size_push ..
 have z2:(oV s.heap l c).objs.size=s.heap.objs.size+2:=(Heap.size_push ..).trans (congrArg (· +1) z1)
 have z3:(oS s.heap l c).objs.size=s.heap.objs.size+3:=(Heap.size_push ..).trans (congrArg (· +1) z2)
 have z4:(qX s.heap l c).objs.size=s.heap.objs.size+4:=(Heap.size_push ..).trans (congrArg (· +1) z3)
 have up:∀{hh:Heap} {o o':Obj} {b:Addr},hh.get? b=some o->(hh.push o').get? b=some o:=λ e=>Heap.get?_push_of_some _ e
 have p1:(jX s.heap l c).get? s.heap.objs.size=some (rG l):=up (up (up (up (Heap.get?_push_size _ rfl))))
 have p2:(jX s.heap l c).get? (mW s.heap l).objs.size=some (rG c):=up (up (up (Heap.get?_push_size _ rfl)))
 have p3:(jX s.heap l c).get? (oV s.heap l c).objs.size=some (kA (.ref s.heap.objs.size) (.ref (mW s.heap l).objs.size)):=up (up (Heap.get?_push_size _ rfl))
 have p4:(jX s.heap l c).get? (oS s.heap l c).objs.size=some (kA .none .none):=up (Heap.get?_push_size _ rfl)
 have p5:(jX s.heap l c).get? (qX s.heap l c).objs.size=some (qW (.ref (oV s.heap l c).objs.size) (.ref (oS s.heap l c).objs.size)):=Heap.get?_push_size _ rfl
 have pp:=λ b o (e:s.heap.get? b=some o)=>show(jX s.heap l c).get? b=some o from up (up (up (up (up e))))
 show _/\_
 generalize jX s.heap l c=hh at p1 p2 p3 p4 p5 pp⊢
 rw[z1]at p2 p3
 rw[z2]at p3 p5
 rw[z3]at p4 p5
 rw[z4]at p5⊢
 exact⟨⟨_,p5,rfl⟩,h _ p5 p3 p4 ⟨_,p1,rfl,rfl⟩ ⟨_,p2,rfl,rfl⟩ pp⟩
end
def zC(K:Qf)(a c:Addr):It:=
  ⟨λ k H=>∃xs ys x y,aJ K H a xs∧aJ K H c ys∧xs[k]? =some x∧ys[k]? =some y,
   λ k H v H'=>∃T x y,v= .ref T∧H T=none∧H'=aA H T (.tup [x,y])∧(∀xs,aJ K H a xs→xs[k]? =some x)∧(∀ys,aJ K H c ys→ys[k]? =some y),
   λ k H=>∃xs ys,aJ K H a xs∧aJ K H c ys∧(xs.length=k∨(k<xs.length∧ys.length=k))⟩
theorem Iw{P:Program}{w:World}{K:Qf}{elts:List Expr}{q}{pos:Pos}(a c z TI TO i j:Addr)(nd:[z,TI,TO,i,j].Nodup):
  jS P w K (.Tuple elts q pos) (zC K a c) [z,TI,TO,i,j] z (λ k h=>IsZip h z TI TO .none/\IsPair h TI (.ref i) (.ref j)/\(∃u v,IsPair h TO u v)/\h.IsTupleIter i a k/\h.IsTupleIter j c k) where
 mem:=by simp
 obj:=λ k h st b hb=>by
  obtain⟨h1,h2,⟨u,v,h3⟩,⟨o4,h4,_,d4⟩,⟨o5,h5,_,d5⟩⟩:=st
  simp only[List.mem_cons,List.not_mem_nil,or_false]at hb
  rcases hb with rfl|rfl|rfl|rfl|rfl
  ·exact⟨_,h1,λ v z=>by cases z⟩
  ·exact⟨_,h2,λ v z=>by cases z⟩
  ·exact⟨_,h3,λ v z=>by cases z⟩
  ·exact⟨_,h4,λ v z=>by rw[d4]at z;cases z⟩
  ·exact⟨_,h5,λ v z=>by rw[d5]at z;cases z⟩
 keep:=λ k h h' st kk=>by
  obtain⟨h1,h2,⟨u,v,h3⟩,h4,h5⟩:=st
  exact⟨kk _ Qb _ h1,kk _ Qb _ h2,⟨u,v,kk _ Qb _ h3⟩,h4.at λ o e=>kk i Qb o e,h5.at λ o e=>kk j Qb o e⟩
 item:=by
  intro X hP hw hK hc k pins s σ H E I hf st hg
  subst hP hw hK
  obtain⟨xs,ys,x,y,hq1,hq2,hx,hy⟩:=hg
  obtain⟨h1,h2,⟨u,v,h3⟩,h4,h5⟩:=st
  obtain⟨its1,rv1,p1,_⟩:=I.tuple hq1
  obtain⟨its2,rv2,p2,_⟩:=I.tuple hq2
  obtain⟨u1,hu1,ru1⟩:=rv1.get hx
  obtain⟨u2,hu2,ru2⟩:=rv2.get hy
  have na:∀b∈[z,TI,TO,i,j],a≠b:=λ b hb=>tQ I (hf b hb) hq1
  have nc:∀b∈[z,TI,TO,i,j],c≠b:=λ b hb=>tQ I (hf b hb) hq2
  have nd':=nd
  simp only[List.nodup_cons,List.mem_cons,List.not_mem_nil,or_false,not_or,List.nodup_nil,and_true,not_false_eq_true]at nd'
  obtain⟨⟨nzI,nzO,nzi,nzj⟩,⟨nIO,nIi,nIj⟩,⟨nOi,nOj⟩,nij⟩:=nd'
  have Z:ZA z TI TO i j [i,a] [j,c]:=⟨nd,λ b hb=>by
   rcases List.mem_cons.mp hb with rfl|hb
   ·exact⟨Ne.symm nzi,Ne.symm nOi,nij,Ne.symm nIi⟩
   ·rw[show b=a by simpa using hb];exact⟨na z Qb,na TO Qb,na j Qb,na TI Qb⟩,λ b hb=>by
   rcases List.mem_cons.mp hb with rfl|hb
   ·exact⟨Ne.symm nzj,Ne.symm nOj,Ne.symm nij,Ne.symm nIj⟩
   ·rw[show b=c by simpa using hb];exact⟨nc z Qb,nc TO Qb,nc i Qb,nc TI Qb⟩⟩
  have D1:=Draws.tuple (prog:=X.prog) (w:=X.w) (A:=X.A.in1) (I.ok.hd hc) i a (na i Qb) its1.toArray
  have D2:=Draws.tuple (prog:=X.prog) (w:=X.w) (A:=X.A.in1) (I.ok.hd hc) j c (nc j Qb) its2.toArray
  refine Cq Z D1 D2 h1 h2 h3 ⟨h4,p1⟩ ⟨h5,p2⟩ (by rw[List.size_toArray];exact(List.getElem?_eq_some_iff.mp hu1).1) (by rw[List.size_toArray];exact(List.getElem?_eq_some_iff.mp hu2).1) λ v1 v2 h' tk e1 e2 a1 a2 a3 a4 a5 a6 a7=>?_
  have e1':its1[k]? =some v1:=by simpa using e1
  have e2':its2[k]? =some v2:=by simpa using e2
  rw[hu1]at e1'
  rw[hu2]at e2'
  cases e1'
  cases e2'
  refine⟨_,rfl,wpAny_letOwnedTupleGo_zip (s:={s with heap:=h',toks:=tk}) a1 λ h3' b1 sb=>?_⟩
  replace sb:Heap.SameBut z h' h3':=sb
  have lt:∀b∈[z,TI,TO,i,j],b<s.heap.objs.size:=λ b hb=>by
   obtain⟨_,q4,_⟩:=id h4
   obtain⟨_,q5,_⟩:=id h5
   simp only[List.mem_cons,List.not_mem_nil,or_false]at hb
   rcases hb with rfl|rfl|rfl|rfl|rfl
   ·exact Heap.lt_size h1
   ·exact Heap.lt_size h2
   ·exact Heap.lt_size h3
   ·exact Heap.lt_size q4
   ·exact Heap.lt_size q5
  have stn:IsZip h3' z TI TO .none/\IsPair h3' TI (.ref i) (.ref j)/\(∃u v,IsPair h3' TO u v)/\h3'.IsTupleIter i a (k+1)/\h3'.IsTupleIter j c (k+1):=
   ⟨b1,(sb.2 _ (Ne.symm nzI)).trans a2,⟨_,_,(sb.2 _ (Ne.symm nzO)).trans a3⟩,a4.1.at λ o e=>(sb.2 i (Ne.symm nzi)).trans e,a5.1.at λ o e=>(sb.2 j (Ne.symm nzj)).trans e⟩
  have J:aB X pins σ (aA H s.heap.objs.size (.tup [x,y])) {s with heap:=h3',toks:=tk}:=by
   refine I.turnedNew (fp:=[z,TI,TO,i,j]) (its:=[u1,u2]) hf (λ b o hb q=>(sb.2 b (λ e=>hb (by simp[e]))).trans (a7 b o (λ e=>hb (by simp only[List.mem_cons,List.not_mem_nil,or_false]at e⊢;rcases e with e|e|e|e<;>simp[e])) q)) (λ b hb=>?_) (Nat.le_refl _) ⟨⟨_,(sb.2 _ (Nat.ne_of_gt (lt z Qb))).trans a6,rfl,0,rfl⟩,_,(sb.2 _ (Nat.ne_of_gt (lt z Qb))).trans a6,rfl⟩ (.cons ru1 (.cons ru2 .nil)) (by show 2<=sizeLine;decide)
   obtain⟨t1,t2,⟨_,_,t3⟩,⟨_,t4,_⟩,⟨_,t5,_⟩⟩:=id stn
   simp only[List.mem_cons,List.not_mem_nil,or_false]at hb
   rcases hb with rfl|rfl|rfl|rfl|rfl
   ·exact⟨_,t1⟩
   ·exact⟨_,t2⟩
   ·exact⟨_,t3⟩
   ·exact⟨_,t4⟩
   ·exact⟨_,t5⟩
  refine⟨.ref s.heap.objs.size,aA H s.heap.objs.size (.tup [x,y]),J,rfl,⟨_,x,y,rfl,I.hok.fresh (Nat.le_refl _),rfl,λ zs hz=>by rw[I.tuple_inj hz hq1];exact hx,λ zs hz=>by rw[I.tuple_inj hz hq2];exact hy⟩,stn,λ b hb=>?_⟩
  rw[aR (Nat.ne_of_lt (lt b hb))]
  exact(hf b hb).1
 done:=by
  intro X hP hw hK hc k pins s σ H E I hf st hg
  subst hP hw hK
  obtain⟨xs,ys,hq1,hq2,hl⟩:=hg
  obtain⟨h1,h2,⟨u,v,h3⟩,h4,h5⟩:=st
  obtain⟨its1,rv1,p1,_⟩:=I.tuple hq1
  have na:∀b∈[z,TI,TO,i,j],a≠b:=λ b hb=>tQ I (hf b hb) hq1
  have nd':=nd
  simp only[List.nodup_cons,List.mem_cons,List.not_mem_nil,or_false,not_or,List.nodup_nil,and_true,not_false_eq_true]at nd'
  obtain⟨⟨nzI,nzO,nzi,nzj⟩,⟨nIO,nIi,nIj⟩,⟨nOi,nOj⟩,nij⟩:=nd'
  obtain⟨its2,rv2,p2,_⟩:=I.tuple hq2
  have nc:∀b∈[z,TI,TO,i,j],c≠b:=λ b hb=>tQ I (hf b hb) hq2
  have Z:ZA z TI TO i j [i,a] [j,c]:=⟨nd,λ b hb=>by
   rcases List.mem_cons.mp hb with rfl|hb
   ·exact⟨Ne.symm nzi,Ne.symm nOi,nij,Ne.symm nIi⟩
   ·rw[show b=a by simpa using hb];exact⟨na z Qb,na TO Qb,na j Qb,na TI Qb⟩,λ b hb=>by
   rcases List.mem_cons.mp hb with rfl|hb
   ·exact⟨Ne.symm nzj,Ne.symm nOj,Ne.symm nij,Ne.symm nIj⟩
   ·rw[show b=c by simpa using hb];exact⟨nc z Qb,nc TO Qb,nc i Qb,nc TI Qb⟩⟩
  have D1:=Draws.tuple (prog:=X.prog) (w:=X.w) (A:=X.A.in1) (I.ok.hd hc) i a (na i Qb) its1.toArray
  have D2:=Draws.tuple (prog:=X.prog) (w:=X.w) (A:=X.A.in1) (I.ok.hd hc) j c (nc j Qb) its2.toArray
  have stepped:∀(h':Heap) (tk:Nat),(∀c o,c∉[z,TO,i,j]->s.heap.get? c=some o->h'.get? c=some o)->aB X pins σ H {s with heap:=h',toks:=tk}:=by
   intro h' tk kk
   refine I.step (g':=s.gens) (d':=s.drawn) (t':=tk) (ch:=[z,TO,i,j]) (λ b hb=>?_) (λ b o _ _ hb q _=>kk b o hb q) (λ b o _ _ hb q _=>⟨o.slots,kk b o hb q⟩) (λ _ _ _ _ n=>n) (λ b o hb q=>⟨o,kk b o hb q⟩) (λ _ _ e=>e) (λ _ _ _ e=>e) (λ b ps e=>⟨#[],by rw[e];simp⟩) (λ m hn=>?_) (λ b u q=>?_) ⟨I.bare.1,Nat.le_refl _⟩
   ·have hb':b∈[z,TI,TO,i,j]:=by simp only[List.mem_cons,List.not_mem_nil,or_false]at hb⊢;rcases hb with e|e|e|e<;>simp[e]
    obtain⟨f0,f1,f2,f3,f4,f5⟩:=hf b hb'
    exact⟨f3,f1,f4,f5⟩
   ·obtain⟨o,es,ep,ho,r⟩:=hn
    refine⟨o,es,ep,kk _ o (λ hb=>?_) ho,r⟩
    have hb':X.env.locals∈[z,TI,TO,i,j]:=by simp only[List.mem_cons,List.not_mem_nil,or_false]at hb⊢;rcases hb with e|e|e|e<;>simp[e]
    exact(hf _ hb').2.1 rfl
   ·refine(I.hok b u q).stay (λ c' v' hc' y=>kk c' v' (λ hb=>?_) y) (λ _ y=>y) λ _ _ y=>y
    have hb':c'∈[z,TI,TO,i,j]:=by simp only[List.mem_cons,List.not_mem_nil,or_false]at hb⊢;rcases hb with e|e|e|e<;>simp[e]
    have:=(hf _ hb').1
    rcases hc' with e|e
    ·rw[e]at this;rw[this]at q;cases q
    ·rw[this]at e;cases e
  rcases hl with hl|⟨hl,hl2⟩
  ·have hk:its1.toArray.size=k:=by rw[List.size_toArray,<-rv1.length];exact hl
   exact zZ Z D1 h1 h2 ⟨by rw[hk];exact h4,p1⟩ λ h' kk=>⟨rfl,stepped h' s.toks kk⟩
  ·have hk:k<its1.toArray.size:=by rw[List.size_toArray,<-rv1.length];exact hl
   have hk2:k=its2.toArray.size:=by rw[List.size_toArray,<-rv2.length];exact hl2.symm
   exact zY Z D1 D2 h1 h2 h3 hk ⟨h4,p1⟩ hk2 ⟨h5,p2⟩ λ h' tk kk=>⟨rfl,stepped h' tk kk⟩
 self:=λ _ _ _ _ _ st h=>wpAny_pyIter_zip st.1 h
section
variable{X:Cx}{elts:List Expr}{q:Nat}{tpos:Pos}
def Er(K:Qf)(ta:TA):TI:=λ σ H R=>ta σ H λ vs H1=>∃a c,vs=[.ref a,.ref c]/\(∃xs,aJ K H1 a xs)/\(∃ys,aJ K H1 c ys)/\R (zC K a c) H1
theorem Pf{l m:Expr}{ta:TA}{p pos:Pos}(hg:Gl X "zip")(hm:X.mg "zip" =none)(ha:PA X [l,m] ta)(hs:starEach [l,m] X.env=(false,eval l X.env)::starEach [m] X.env:=by rfl)(hs2:(backTo pos (starEach [m] X.env)).any (·.1)=false:=by rfl):PI X (.Tuple elts q tpos) (.Call (.Name "zip" p) [l,m] [] pos) (Er X.K ta):=by
 intro pins s σ H R I h
 refine Call_ (mE I hg hm Gd (PyProof.Rows.callWith_type1 (aU (ha pos pins s σ H _ I h) λ us s1 ⟨vs,H1,I1,r1,q1⟩=>?_) hs hs2))
 obtain⟨a,c,e,⟨xs,hq1⟩,⟨ys,hq2⟩,qq⟩:=q1
 subst e
 cases r1 with
 | cons r rr=>
  cases rr with
  | cons r' rr'=>
   cases rr'
   cases r
   cases r'
   obtain⟨its1,rv1,p1,_⟩:=I1.tuple hq1
   obtain⟨its2,rv2,p2,_⟩:=I1.tuple hq2
   refine BI (s:=s1) (show s1.heap.IsTuple a its1.toArray from p1) (show s1.heap.IsTuple c its2.toArray from p2) λ h' h1 h2 h3 h4 h5 kp=>wpAny_pyIter_zip (s:={s1 with heap:=h'}) h1 ?_
   refine⟨s1.heap.objs.size+4,[s1.heap.objs.size+4,s1.heap.objs.size+2,s1.heap.objs.size+3,s1.heap.objs.size,s1.heap.objs.size+1],_,_,H1,rfl,I1.kept (t':=s1.toks) kp,Iw a c _ _ _ _ _ (by simp<;>omega),⟨h1,h2,⟨_,_,h3⟩,h4,h5⟩,λ b hb=>?_,qq⟩
   have:s1.heap.objs.size<=b:=by
    simp only[List.mem_cons,List.not_mem_nil,or_false]at hb
    rcases hb with rfl|rfl|rfl|rfl|rfl<;>omega
   exact I1.fpOk this (I1.hok.fresh this)
end
section
variable{prog:Program}{w:World}{A:Around}{E:Qh}{s:Shared}
abbrev rH(l:Addr):Obj:={cls:=.type "list_iterator",data:=.fields #[.ref l,.int 0 0]}
abbrev mX(h:Heap)(l:Addr):Heap:=h.push (rH l)
abbrev oW(h:Heap)(l c:Addr):Heap:=(mX h l).push (rH c)
abbrev oU(h:Heap)(l c:Addr):Heap:=(oW h l c).push (kA (.ref h.objs.size) (.ref (mX h l).objs.size))
abbrev qY(h:Heap)(l c:Addr):Heap:=(oU h l c).push (kA .none .none)
abbrev jY(h:Heap)(l c:Addr):Heap:=(qY h l c).push (qW (.ref (oW h l c).objs.size) (.ref (oU h l c).objs.size))
theorem Tm(l c:Addr)(xs ys:Array Value):Meets (Builtin.«zip.__new__» ⟨[.type "zip",.ref l,.ref c],[]⟩) (λ _ R s=>(s.heap.IsList l xs/\s.heap.IsList c ys)/\R (.ok (.ret (.ref (qY s.heap l c).objs.size))) {s with heap:=jY s.heap l c}):=
 .of_wp λ prog w A R s h=>by
  obtain⟨hp,g,d,tk,os⟩:=s;obtain⟨⟨hl1,hl2⟩,h⟩:=h
  have hsub:=sub_zip
  have hL1:Heap.IsList (Shared.heap ⟨hp,g,d,tk,os⟩) l xs:=hl1
  have hL2:Heap.IsList (Shared.heap ⟨mX hp l,g,d,tk,os⟩) c ys:=hl2.at λ o e=>Heap.get?_push_of_some _ e
  wp_walk using wpAny_pyIter_list hL1,wpAny_pyIter_list hL2
  exact⟨_,rfl,h⟩
theorem BJ{l c:Addr}{xs ys:Array Value}{Q:Qh}(h1:s.heap.IsList l xs)(h2:s.heap.IsList c ys)
  (h:∀h',IsZip h' (s.heap.objs.size+4) (s.heap.objs.size+2) (s.heap.objs.size+3) .none->IsPair h' (s.heap.objs.size+2) (.ref s.heap.objs.size) (.ref (s.heap.objs.size+1))->IsPair h' (s.heap.objs.size+3) .none .none->
   h'.IsListIter s.heap.objs.size l 0->h'.IsListIter (s.heap.objs.size+1) c 0->(∀b o,s.heap.get? b=some o->h'.get? b=some o)->Q (.ref (s.heap.objs.size+4)) {s with heap:=h'}):wpAny Qi A (call (.type "zip") [.ref l,.ref c]) Q E s:=by
 refine callType_new F.called_zip Qc (F.typeCall_zip_2 _ _) (F.newCall_zip_2 _ _) (λ obj=>F.args_object_init_3 obj _ _) F.entry_zip_new (Tm l c xs ys) ⟨⟨h1,h2⟩,?_⟩
 have z1:(mX s.heap l).objs.size=s.heap.objs.size+1:=Heap.size_push ..
 have z2:(oW s.heap l c).objs.size=s.heap.objs.size+2:=(Heap.size_push ..).trans (congrArg (· +1) z1)
 have z3:(oU s.heap l c).objs.size=s.heap.objs.size+3:=(Heap.size_push ..).trans (congrArg (· +1) z2)
 have z4:(qY s.heap l c).objs.size=s.heap.objs.size+4:=(Heap.size_push ..).trans (congrArg (· +1) z3)
 have up:∀{hh:Heap} {o o':Obj} {b:Addr},hh.get? b=some o->(hh.push o').get? b=some o:=λ e=>Heap.get?_push_of_some _ e
 have p1:(jY s.heap l c).get? s.heap.objs.size=some (rH l):=up (up (up (up (Heap.get?_push_size _ rfl))))
 have p2:(jY s.heap l c).get? (mX s.heap l).objs.size=some (rH c):=up (up (up (Heap.get?_push_size _ rfl)))
 have p3:(jY s.heap l c).get? (oW s.heap l c).objs.size=some (kA (.ref s.heap.objs.size) (.ref (mX s.heap l).objs.size)):=up (up (Heap.get?_push_size _ rfl))
 have p4:(jY s.heap l c).get? (oU s.heap l c).objs.size=some (kA .none .none):=up (Heap.get?_push_size _ rfl)
 have p5:(jY s.heap l c).get? (qY s.heap l c).objs.size=some (qW (.ref (oW s.heap l c).objs.size) (.ref (oU s.heap l c).objs.size)):=Heap.get?_push_size _ rfl
 have pp:=λ b o (e:s.heap.get? b=some o)=>show(jY s.heap l c).get? b=some o from up (up (up (up (up e))))
 show _/\_
 generalize jY s.heap l c=hh at p1 p2 p3 p4 p5 pp⊢
 rw[z1]at p2 p3
 rw[z2]at p3 p5
 rw[z3]at p4 p5
 rw[z4]at p5⊢
 exact⟨⟨_,p5,rfl⟩,h _ p5 p3 p4 ⟨_,p1,rfl,rfl⟩ ⟨_,p2,rfl,rfl⟩ pp⟩
end
def zH(K:Qf)(a c:Addr):It:=
  ⟨λ k H=>∃xs ys x y,aQ K H a xs∧aQ K H c ys∧xs[k]? =some x∧ys[k]? =some y,
   λ k H v H'=>∃T x y,v= .ref T∧H T=none∧H'=aA H T (.tup [x,y])∧(∀xs,aQ K H a xs→xs[k]? =some x)∧(∀ys,aQ K H c ys→ys[k]? =some y),
   λ k H=>∃xs ys,aQ K H a xs∧aQ K H c ys∧(xs.length=k∨(k<xs.length∧ys.length=k))⟩
theorem Ix{P:Program}{w:World}{K:Qf}{elts:List Expr}{q}{pos:Pos}(a c z TI TO i j:Addr)(nd:[z,TI,TO,i,j].Nodup):
  jS P w K (.Tuple elts q pos) (zH K a c) [z,TI,TO,i,j] z (λ k h=>IsZip h z TI TO .none/\IsPair h TI (.ref i) (.ref j)/\(∃u v,IsPair h TO u v)/\h.IsListIter i a k/\h.IsListIter j c k) where
 mem:=by simp
 obj:=λ k h st b hb=>by
  obtain⟨h1,h2,⟨u,v,h3⟩,⟨o4,h4,_,d4⟩,⟨o5,h5,_,d5⟩⟩:=st
  simp only[List.mem_cons,List.not_mem_nil,or_false]at hb
  rcases hb with rfl|rfl|rfl|rfl|rfl
  ·exact⟨_,h1,λ v z=>by cases z⟩
  ·exact⟨_,h2,λ v z=>by cases z⟩
  ·exact⟨_,h3,λ v z=>by cases z⟩
  ·exact⟨_,h4,λ v z=>by rw[d4]at z;cases z⟩
  ·exact⟨_,h5,λ v z=>by rw[d5]at z;cases z⟩
 keep:=λ k h h' st kk=>by
  obtain⟨h1,h2,⟨u,v,h3⟩,h4,h5⟩:=st
  exact⟨kk _ Qb _ h1,kk _ Qb _ h2,⟨u,v,kk _ Qb _ h3⟩,h4.at λ o e=>kk i Qb o e,h5.at λ o e=>kk j Qb o e⟩
 item:=by
  intro X hP hw hK hc k pins s σ H E I hf st hg
  subst hP hw hK
  obtain⟨xs,ys,x,y,hq1,hq2,hx,hy⟩:=hg
  obtain⟨h1,h2,⟨u,v,h3⟩,h4,h5⟩:=st
  obtain⟨its1,rv1,p1,_⟩:=I.list hq1
  obtain⟨its2,rv2,p2,_⟩:=I.list hq2
  obtain⟨u1,hu1,ru1⟩:=rv1.get hx
  obtain⟨u2,hu2,ru2⟩:=rv2.get hy
  have na:∀b∈[z,TI,TO,i,j],a≠b:=λ b hb=>tO I (hf b hb) hq1
  have nc:∀b∈[z,TI,TO,i,j],c≠b:=λ b hb=>tO I (hf b hb) hq2
  have nd':=nd
  simp only[List.nodup_cons,List.mem_cons,List.not_mem_nil,or_false,not_or,List.nodup_nil,and_true,not_false_eq_true]at nd'
  obtain⟨⟨nzI,nzO,nzi,nzj⟩,⟨nIO,nIi,nIj⟩,⟨nOi,nOj⟩,nij⟩:=nd'
  have Z:ZA z TI TO i j [i,a] [j,c]:=⟨nd,λ b hb=>by
   rcases List.mem_cons.mp hb with rfl|hb
   ·exact⟨Ne.symm nzi,Ne.symm nOi,nij,Ne.symm nIi⟩
   ·rw[show b=a by simpa using hb];exact⟨na z Qb,na TO Qb,na j Qb,na TI Qb⟩,λ b hb=>by
   rcases List.mem_cons.mp hb with rfl|hb
   ·exact⟨Ne.symm nzj,Ne.symm nOj,Ne.symm nij,Ne.symm nIj⟩
   ·rw[show b=c by simpa using hb];exact⟨nc z Qb,nc TO Qb,nc i Qb,nc TI Qb⟩⟩
  have D1:=Draws.list (prog:=X.prog) (w:=X.w) (A:=X.A.in1) (I.ok.hd hc) i a (na i Qb) its1.toArray
  have D2:=Draws.list (prog:=X.prog) (w:=X.w) (A:=X.A.in1) (I.ok.hd hc) j c (nc j Qb) its2.toArray
  refine Cq Z D1 D2 h1 h2 h3 ⟨h4,p1.isList⟩ ⟨h5,p2.isList⟩ (by rw[List.size_toArray];exact(List.getElem?_eq_some_iff.mp hu1).1) (by rw[List.size_toArray];exact(List.getElem?_eq_some_iff.mp hu2).1) λ v1 v2 h' tk e1 e2 a1 a2 a3 a4 a5 a6 a7=>?_
  have e1':its1[k]? =some v1:=by simpa using e1
  have e2':its2[k]? =some v2:=by simpa using e2
  rw[hu1]at e1'
  rw[hu2]at e2'
  cases e1'
  cases e2'
  refine⟨_,rfl,wpAny_letOwnedTupleGo_zip (s:={s with heap:=h',toks:=tk}) a1 λ h3' b1 sb=>?_⟩
  replace sb:Heap.SameBut z h' h3':=sb
  have lt:∀b∈[z,TI,TO,i,j],b<s.heap.objs.size:=λ b hb=>by
   obtain⟨_,q4,_⟩:=id h4
   obtain⟨_,q5,_⟩:=id h5
   simp only[List.mem_cons,List.not_mem_nil,or_false]at hb
   rcases hb with rfl|rfl|rfl|rfl|rfl
   ·exact Heap.lt_size h1
   ·exact Heap.lt_size h2
   ·exact Heap.lt_size h3
   ·exact Heap.lt_size q4
   ·exact Heap.lt_size q5
  have stn:IsZip h3' z TI TO .none/\IsPair h3' TI (.ref i) (.ref j)/\(∃u v,IsPair h3' TO u v)/\h3'.IsListIter i a (k+1)/\h3'.IsListIter j c (k+1):=
   ⟨b1,(sb.2 _ (Ne.symm nzI)).trans a2,⟨_,_,(sb.2 _ (Ne.symm nzO)).trans a3⟩,a4.1.at λ o e=>(sb.2 i (Ne.symm nzi)).trans e,a5.1.at λ o e=>(sb.2 j (Ne.symm nzj)).trans e⟩
  have J:aB X pins σ (aA H s.heap.objs.size (.tup [x,y])) {s with heap:=h3',toks:=tk}:=by
   refine I.turnedNew (fp:=[z,TI,TO,i,j]) (its:=[u1,u2]) hf (λ b o hb q=>(sb.2 b (λ e=>hb (by simp[e]))).trans (a7 b o (λ e=>hb (by simp only[List.mem_cons,List.not_mem_nil,or_false]at e⊢;rcases e with e|e|e|e<;>simp[e])) q)) (λ b hb=>?_) (Nat.le_refl _) ⟨⟨_,(sb.2 _ (Nat.ne_of_gt (lt z Qb))).trans a6,rfl,0,rfl⟩,_,(sb.2 _ (Nat.ne_of_gt (lt z Qb))).trans a6,rfl⟩ (.cons ru1 (.cons ru2 .nil)) (by show 2<=sizeLine;decide)
   obtain⟨t1,t2,⟨_,_,t3⟩,⟨_,t4,_⟩,⟨_,t5,_⟩⟩:=id stn
   simp only[List.mem_cons,List.not_mem_nil,or_false]at hb
   rcases hb with rfl|rfl|rfl|rfl|rfl
   ·exact⟨_,t1⟩
   ·exact⟨_,t2⟩
   ·exact⟨_,t3⟩
   ·exact⟨_,t4⟩
   ·exact⟨_,t5⟩
  refine⟨.ref s.heap.objs.size,aA H s.heap.objs.size (.tup [x,y]),J,rfl,⟨_,x,y,rfl,I.hok.fresh (Nat.le_refl _),rfl,λ zs hz=>by rw[I.list_inj hz hq1];exact hx,λ zs hz=>by rw[I.list_inj hz hq2];exact hy⟩,stn,λ b hb=>?_⟩
  rw[aR (Nat.ne_of_lt (lt b hb))]
  exact(hf b hb).1
 done:=by
  intro X hP hw hK hc k pins s σ H E I hf st hg
  subst hP hw hK
  obtain⟨xs,ys,hq1,hq2,hl⟩:=hg
  obtain⟨h1,h2,⟨u,v,h3⟩,h4,h5⟩:=st
  obtain⟨its1,rv1,p1,_⟩:=I.list hq1
  have na:∀b∈[z,TI,TO,i,j],a≠b:=λ b hb=>tO I (hf b hb) hq1
  have nd':=nd
  simp only[List.nodup_cons,List.mem_cons,List.not_mem_nil,or_false,not_or,List.nodup_nil,and_true,not_false_eq_true]at nd'
  obtain⟨⟨nzI,nzO,nzi,nzj⟩,⟨nIO,nIi,nIj⟩,⟨nOi,nOj⟩,nij⟩:=nd'
  obtain⟨its2,rv2,p2,_⟩:=I.list hq2
  have nc:∀b∈[z,TI,TO,i,j],c≠b:=λ b hb=>tO I (hf b hb) hq2
  have Z:ZA z TI TO i j [i,a] [j,c]:=⟨nd,λ b hb=>by
   rcases List.mem_cons.mp hb with rfl|hb
   ·exact⟨Ne.symm nzi,Ne.symm nOi,nij,Ne.symm nIi⟩
   ·rw[show b=a by simpa using hb];exact⟨na z Qb,na TO Qb,na j Qb,na TI Qb⟩,λ b hb=>by
   rcases List.mem_cons.mp hb with rfl|hb
   ·exact⟨Ne.symm nzj,Ne.symm nOj,Ne.symm nij,Ne.symm nIj⟩
   ·rw[show b=c by simpa using hb];exact⟨nc z Qb,nc TO Qb,nc i Qb,nc TI Qb⟩⟩
  have D1:=Draws.list (prog:=X.prog) (w:=X.w) (A:=X.A.in1) (I.ok.hd hc) i a (na i Qb) its1.toArray
  have D2:=Draws.list (prog:=X.prog) (w:=X.w) (A:=X.A.in1) (I.ok.hd hc) j c (nc j Qb) its2.toArray
  have stepped:∀(h':Heap) (tk:Nat),(∀c o,c∉[z,TO,i,j]->s.heap.get? c=some o->h'.get? c=some o)->aB X pins σ H {s with heap:=h',toks:=tk}:=by
   intro h' tk kk
   refine I.step (g':=s.gens) (d':=s.drawn) (t':=tk) (ch:=[z,TO,i,j]) (λ b hb=>?_) (λ b o _ _ hb q _=>kk b o hb q) (λ b o _ _ hb q _=>⟨o.slots,kk b o hb q⟩) (λ _ _ _ _ n=>n) (λ b o hb q=>⟨o,kk b o hb q⟩) (λ _ _ e=>e) (λ _ _ _ e=>e) (λ b ps e=>⟨#[],by rw[e];simp⟩) (λ m hn=>?_) (λ b u q=>?_) ⟨I.bare.1,Nat.le_refl _⟩
   ·have hb':b∈[z,TI,TO,i,j]:=by simp only[List.mem_cons,List.not_mem_nil,or_false]at hb⊢;rcases hb with e|e|e|e<;>simp[e]
    obtain⟨f0,f1,f2,f3,f4,f5⟩:=hf b hb'
    exact⟨f3,f1,f4,f5⟩
   ·obtain⟨o,es,ep,ho,r⟩:=hn
    refine⟨o,es,ep,kk _ o (λ hb=>?_) ho,r⟩
    have hb':X.env.locals∈[z,TI,TO,i,j]:=by simp only[List.mem_cons,List.not_mem_nil,or_false]at hb⊢;rcases hb with e|e|e|e<;>simp[e]
    exact(hf _ hb').2.1 rfl
   ·refine(I.hok b u q).stay (λ c' v' hc' y=>kk c' v' (λ hb=>?_) y) (λ _ y=>y) λ _ _ y=>y
    have hb':c'∈[z,TI,TO,i,j]:=by simp only[List.mem_cons,List.not_mem_nil,or_false]at hb⊢;rcases hb with e|e|e|e<;>simp[e]
    have:=(hf _ hb').1
    rcases hc' with e|e
    ·rw[e]at this;rw[this]at q;cases q
    ·rw[this]at e;cases e
  rcases hl with hl|⟨hl,hl2⟩
  ·have hk:its1.toArray.size=k:=by rw[List.size_toArray,<-rv1.length];exact hl
   exact zZ Z D1 h1 h2 ⟨by rw[hk];exact h4,p1.isList⟩ λ h' kk=>⟨rfl,stepped h' s.toks kk⟩
  ·have hk:k<its1.toArray.size:=by rw[List.size_toArray,<-rv1.length];exact hl
   have hk2:k=its2.toArray.size:=by rw[List.size_toArray,<-rv2.length];exact hl2.symm
   exact zY Z D1 D2 h1 h2 h3 hk ⟨h4,p1.isList⟩ hk2 ⟨h5,p2.isList⟩ λ h' tk kk=>⟨rfl,stepped h' tk kk⟩
 self:=λ _ _ _ _ _ st h=>wpAny_pyIter_zip st.1 h
section
variable{X:Cx}{elts:List Expr}{q:Nat}{tpos:Pos}
def Es(K:Qf)(ta:TA):TI:=λ σ H R=>ta σ H λ vs H1=>∃a c,vs=[.ref a,.ref c]/\(∃xs,aQ K H1 a xs)/\(∃ys,aQ K H1 c ys)/\R (zH K a c) H1
theorem Pg{l m:Expr}{ta:TA}{p pos:Pos}(hg:Gl X "zip")(hm:X.mg "zip" =none)(ha:PA X [l,m] ta)(hs:starEach [l,m] X.env=(false,eval l X.env)::starEach [m] X.env:=by rfl)(hs2:(backTo pos (starEach [m] X.env)).any (·.1)=false:=by rfl):PI X (.Tuple elts q tpos) (.Call (.Name "zip" p) [l,m] [] pos) (Es X.K ta):=by
 intro pins s σ H R I h
 refine Call_ (mE I hg hm Gd (PyProof.Rows.callWith_type1 (aU (ha pos pins s σ H _ I h) λ us s1 ⟨vs,H1,I1,r1,q1⟩=>?_) hs hs2))
 obtain⟨a,c,e,⟨xs,hq1⟩,⟨ys,hq2⟩,qq⟩:=q1
 subst e
 cases r1 with
 | cons r rr=>
  cases rr with
  | cons r' rr'=>
   cases rr'
   cases r
   cases r'
   obtain⟨its1,rv1,p1,_⟩:=I1.list hq1
   obtain⟨its2,rv2,p2,_⟩:=I1.list hq2
   refine BJ (s:=s1) (show s1.heap.IsList a its1.toArray from p1.isList) (show s1.heap.IsList c its2.toArray from p2.isList) λ h' h1 h2 h3 h4 h5 kp=>wpAny_pyIter_zip (s:={s1 with heap:=h'}) h1 ?_
   refine⟨s1.heap.objs.size+4,[s1.heap.objs.size+4,s1.heap.objs.size+2,s1.heap.objs.size+3,s1.heap.objs.size,s1.heap.objs.size+1],_,_,H1,rfl,I1.kept (t':=s1.toks) kp,Ix a c _ _ _ _ _ (by simp<;>omega),⟨h1,h2,⟨_,_,h3⟩,h4,h5⟩,λ b hb=>?_,qq⟩
   have:s1.heap.objs.size<=b:=by
    simp only[List.mem_cons,List.not_mem_nil,or_false]at hb
    rcases hb with rfl|rfl|rfl|rfl|rfl<;>omega
   exact I1.fpOk this (I1.hok.fresh this)
end
end L2
namespace L2
open PySem PySem.SetTable
theorem Ft:∀(m:Nat) (l:List Nat),(∀j<m,j∈l)->m<=l.length
 |0,_,_=>Nat.zero_le _
 |m+1,l,h=>by
  have hm:=h m (Nat.lt_succ_self m)
  have:=Ft m (l.erase m) λ j hj=>(List.mem_erase_of_ne (Nat.ne_of_lt hj)).mpr (h j (Nat.lt_succ_of_lt hj))
  rw[List.length_erase_of_mem hm]at this
  have:=List.length_pos_of_mem hm
  omega
theorem Kh(m:Nat)(l:List Nat)(h:l.length<m):∃j<m,j∉l:=by
 refine Classical.byContradiction λ hc=>?_
 have:=Ft m l λ j hj=>Classical.byContradiction λ hn=>hc ⟨j,hj,hn⟩
 omega
def iG(mask:Nat):Prop:=mask=7\/mask=31\/mask=127\/mask=511
def pX(m i:Nat):Nat:=(i*5+1)%m
def kB(f:Nat->Nat):Nat->Nat->Nat
 |0,i=>i
 |k+1,i=>kB f k (f i)
theorem rF(f:Nat->Nat):∀a b i,kB f (a+b) i=kB f b (kB f a i)
 |0,b,i=>by rw[Nat.zero_add];rfl
 |a+1,b,i=>by rw[Nat.succ_add];exact rF f a b (f i)
def uW(m:Nat):Nat->Nat->List Nat
 |0,_=>[]
 |k+1,i=>i::uW m k (pX m i)
theorem xI{m:Nat}:∀{k i j:Nat},j∈uW m k i->∃b<k,kB (pX m) b i=j
 |0,_,_,h=>nomatch h
 | k+1,i,j,h=>by
  rcases List.mem_cons.mp h with e|h
  ·exact⟨0,Nat.succ_pos _,e.symm⟩
  ·obtain⟨b,hb,e⟩:=xI h
   exact⟨b+1,Nat.succ_lt_succ hb,e⟩
def Ev(m:Nat):Bool:=((List.range m).all λ j=>(uW m m 0).contains j)&&kB (pX m) m 0==0
theorem Xx{mask:Nat}(h:iG mask):Ev (mask+1)=true:=by
 rcases h with rfl|rfl|rfl|rfl<;>decide+kernel
theorem Kf{mask:Nat}(h:iG mask){i j:Nat}(hi:i<mask+1)(hj:j<mask+1):∃k<mask+1,kB (pX (mask+1)) k i=j:=by
 have hg:=Xx h
 generalize mask+1=m at*
 unfold Ev at hg
 rw[Bool.and_eq_true,List.all_eq_true]at hg
 obtain⟨hall,hz⟩:=hg
 have hz:=eq_of_beq hz
 obtain⟨a,ha,ea⟩:=xI (List.contains_iff_mem.mp (hall i (List.mem_range.mpr hi)))
 obtain⟨b,hb,eb⟩:=xI (List.contains_iff_mem.mp (hall j (List.mem_range.mpr hj)))
 by_cases hab:a<=b
 ·refine⟨b-a,Qa,?_⟩
  rw[<-ea,<-rF,show a+(b-a)=b from Qa,eb]
 ·refine⟨m-a+b,Qa,?_⟩
  rw[<-ea,<-rF,show a+(m-a+b)=m+b from Qa,rF,hz,eb]
def fF(mask:Nat):Nat->Nat×Nat->Nat×Nat
 |0,x=>x
 |k+1,x=>fF mask k (leap mask x.1 x.2)
theorem Ee(mask:Nat):∀a b x,fF mask (a+b) x=fF mask b (fF mask a x)
 |0,b,x=>by rw[Nat.zero_add];rfl
 |a+1,b,x=>by rw[Nat.succ_add];exact Ee mask a b _
theorem Eb(mask:Nat):∀k x,(fF mask k x).2=x.2/32^k
 |0,x=>by simp[fF]
 |k+1,x=>by
  show(fF mask k (leap mask x.1 x.2)).2=_
  rw[Eb mask k]
  show x.2/32/32^k=_
  rw[Nat.div_div_eq_div_mul,Nat.pow_succ,Nat.mul_comm 32]
theorem Ec(mask:Nat):∀k x,x.1<mask+1->(fF mask k x).1<mask+1
 |0,x,h=>h
 |k+1,x,h=>Ec mask k _ (Nat.mod_lt _ (Nat.succ_pos _))
theorem Ed(mask:Nat):∀k i,fF mask k (i,0)=(kB (pX (mask+1)) k i,0)
 |0,i=>rfl
 |k+1,i=>by
  show fF mask k ((i*5+1+0/32)%(mask+1),0/32)=_
  rw[Nat.zero_div,Nat.add_zero]
  exact Ed mask k _
theorem Gh(h:Int):bits h<2^64:=by
 unfold bits
 have h1:=Int.emod_nonneg h (show(2^64:Int)≠0 from Qc)
 have h2:=Int.emod_lt_of_pos h (show(0:Int)<2^64 from Qc)
 omega
theorem Ea{mask:Nat}(hs:iG mask){i p j:Nat}(hi:i<mask+1)(hp:p<2^64)(hj:j<mask+1):∃k<mask+14,(fF mask k (i,p)).1=j:=by
 obtain⟨k,hk,e⟩:=Kf hs (Ec mask 13 (i,p) hi) hj
 refine⟨13+k,Qa,?_⟩
 rw[Ee]
 have hz:(fF mask 13 (i,p)).2=0:=by
  rw[Eb]
  exact Nat.div_eq_of_lt (Nat.lt_of_lt_of_le hp Qc)
 rw[show fF mask 13 (i,p)=((fF mask 13 (i,p)).1,0)from Prod.ext rfl hz,Ed]
 exact e
def iW(t:SetTable):Nat->Probe->Probe
 |0,p=>p
 |k+1,p=>iW t k (t.advance p)
theorem Gu(t:SetTable):∀a b p,iW t (a+b) p=iW t b (iW t a p)
 |0,b,p=>by rw[Nat.zero_add];rfl
 |a+1,b,p=>by rw[Nat.succ_add];exact Gu t a b _
theorem CT(t:SetTable)(p:Probe):(t.advance p).dummy=p.dummy:=by
 unfold advance;split<;>rfl
def uQ(t:SetTable)(p:Probe):Prop:=p.j=p.i/\p.more=runEnd t.mask p.i-p.i
theorem Ni(mask i:Nat):runEnd mask i-i<=9:=by unfold runEnd;split<;>omega
theorem Ce(t:SetTable):∀(k:Nat) (p:Probe),p.more=k->∃p',iW t (k+1) p=p'/\uQ t p'/\(p'.i,p'.perturb)=leap t.mask p.i p.perturb
 |0,p,h=>by
  refine⟨_,rfl,?_⟩
  show uQ t (t.advance p)/\((t.advance p).i,(t.advance p).perturb)=_
  unfold advance
  rw[if_neg Qa]
  exact⟨⟨rfl,rfl⟩,rfl⟩
 |k+1,p,h=>by
  have e:t.advance p={p with j:=p.j+1,more:=p.more-1}:=by unfold advance;rw[if_pos Qa]
  obtain⟨p',e1,a1,l1⟩:=Ce t k (t.advance p) (by rw[e];show p.more-1=k;omega)
  refine⟨p',e1,a1,?_⟩
  rw[l1,e]
theorem Az(t:SetTable):∀(r:Nat) (p:Probe),uQ t p->∃c,c<=10*r/\uQ t (iW t c p)/\((iW t c p).i,(iW t c p).perturb)=fF t.mask r (p.i,p.perturb)
 |0,p,h=>⟨0,Nat.le_refl _,h,rfl⟩
 |r+1,p,h=>by
  obtain⟨p',e1,a1,l1⟩:=Ce t _ p rfl
  obtain⟨c,hc,a2,l2⟩:=Az t r p' a1
  have hm:p.more<=9:=by rw[h.2];exact Ni _ _
  refine⟨p.more+1+c,Qa,?_⟩
  rw[Gu,e1]
  refine⟨a2,l2.trans ?_⟩
  rw[l1];rfl
theorem Me{t:SetTable}(hd:t.dummies= #[]){j:Nat}(h:j∉t.place.toList):t.slot j= .empty:=by
 unfold slot
 dsimp only
 rw[if_neg,if_neg]
 ·unfold has;rw[hd];simp
 ·intro e
  have e:=eq_of_beq e
  exact h (by rw[Array.mem_toList_iff];exact Array.mem_of_getElem? e)
theorem Mc{t:SetTable}(hd:t.dummies= #[]){j:Nat}:t.slot j≠ .dummy:=by
 unfold slot
 dsimp only
 split
 ·exact λ e=>nomatch e
 ·rw[if_neg]
  ·exact λ e=>nomatch e
  ·unfold has;rw[hd];simp
theorem Md{t:SetTable}{j i:Nat}(h:t.slot j= .live i):i<t.place.size:=by
 unfold slot at h
 dsimp only at h
 split at h
 ·rename_i e
  injection h with h
  subst h
  have e:=eq_of_beq e
  exact(Array.getElem?_eq_some_iff.mp e).1
 ·split at h<;>exact nomatch h
def mR(t:SetTable)(p:Probe)(k:Nat):Prop:=p.dummy=none/\t.slot (iW t k p).j= .empty
theorem Lu{t:SetTable}(hs:iG t.mask)(hd:t.dummies= #[])(hp:t.place.size<=t.mask)(h:Int):∃k<10*turns t.mask,mR t (t.probeStart h) k:=by
 obtain⟨j,hj,hn⟩:=Kh (t.mask+1) t.place.toList (by rw[Array.length_toList];omega)
 obtain⟨r,hr,e⟩:=Ea hs (i:=bits h%(t.mask+1)) (p:=bits h) (j:=j) (Nat.mod_lt _ (Nat.succ_pos _)) (Gh h) hj
 obtain⟨c,hc,a,l⟩:=Az t r (t.probeStart h) ⟨rfl,rfl⟩
 refine⟨c,by unfold turns;omega,rfl,?_⟩
 have:(iW t c (t.probeStart h)).j=j:=by
  rw[a.1]
  exact(congrArg Prod.fst l).trans e
 rw[this]
 exact Me hd hn
theorem mR.next{t:SetTable}{p:Probe}{k:Nat}(e:mR t p (k+1)):mR t (t.advance p) k:=⟨(CT t p).trans e.1,e.2⟩
theorem Ew{t:SetTable}(hd:t.dummies= #[])(hashAt:Nat->Int)(h:Int):∀(k fuel:Nat) (p:Probe),k<fuel->mR t p k->
  (∃j,probe.go t hashAt h fuel p=some (.empty j none))\/∃j i p' k',probe.go t hashAt h fuel p=some (.candidate j i p')/\t.slot j= .live i/\k'<k/\mR t p' k'
 |k,0,p,hk,_=>absurd hk (Nat.not_lt_zero _)
 |0,fuel+1,p,hk,e=>by
  have e2:t.slot p.j= .empty:=e.2
  refine .inl ⟨p.j,?_⟩
  unfold probe.go
  rw[e2,e.1]
 | k+1,fuel+1,p,hk,e=>by
  unfold probe.go
  cases hsl:t.slot p.j with
  |empty=>exact .inl ⟨p.j,by rw[e.1]⟩
  |dummy=>exact absurd hsl (Mc hd)
  | live i=>
   dsimp only
   split
   ·exact .inr ⟨p.j,i,t.advance p,k,rfl,hsl,Nat.lt_succ_self _,e.next⟩
   ·rcases Ew hd hashAt h k fuel (t.advance p) (Nat.lt_of_succ_lt_succ hk) e.next with hl|⟨j,i',p',k',a,b,c,d⟩
    ·exact .inl hl
    ·exact .inr ⟨j,i',p',k',a,b,Nat.lt_succ_of_lt c,d⟩
theorem Fa{mask:Nat}(owner:Array (Option Nat)){j:Nat}(hn:owner.getD j (some 0)=none):
  ∀(k fuel i p:Nat),k<fuel->(fF mask k (i,p)).1=j->∃j',layClean.free mask owner fuel i p=some j'/\owner.getD j' (some 0)=none
 |k,0,i,p,hk,_=>absurd hk (Nat.not_lt_zero _)
 | k,fuel+1,i,p,hk,e=>by
  unfold layClean.free
  cases hf:(List.range (runEnd mask i+1-i)).find? λ k=>(owner.getD (i+k) (some 0)).isNone with
  |some k'=>
   refine⟨i+k',rfl,?_⟩
   have:=List.find?_some hf
   simpa using this
  | none=>
   dsimp only
   cases k with
   |zero=>
    have e:i=j:=e
    subst e
    have h1:=List.find?_eq_none.mp hf 0 (List.mem_range.mpr (by unfold runEnd;split<;>omega))
    rw[Nat.add_zero,hn]at h1
    exact absurd rfl h1
   |succ k=>exact Fa owner hn k fuel _ _ (Nat.lt_of_succ_lt_succ hk) e
theorem Fv{f g:Nat->Bool}{j:Nat}(hf:f j=false)(hg:g j=true)(ho:∀i,i≠j->g i=f i):∀m,(List.range m).countP g=(List.range m).countP f+if j<m then 1 else 0
 |0=>rfl
 | m+1=>by
  rw[List.range_succ,List.countP_append,List.countP_append,Fv hf hg ho m,List.countP_singleton,List.countP_singleton]
  by_cases e:m=j
  ·subst e
   rw[hf,hg];simp
  ·rw[ho m e]
   by_cases hlt:j<m
   ·have h2:j<m+1:=Nat.lt_succ_of_lt hlt
    simp only[hlt,h2,if_true]
    omega
   ·have h2:¬j<m+1:=by omega
    simp only[hlt,h2,if_false]
    omega
structure lD(mask:Nat)(owner:Array (Option Nat))(k:Nat):Prop where
 size:owner.size=mask+1
 cnt:(List.range (mask+1)).countP (λ j=>(owner.getD j none).isSome)=k
 small:∀j v,owner.getD j none=some v->v<k
theorem Xz{owner:Array (Option Nat)}{j:Nat}(h:owner.getD j (some 0)=none):j<owner.size/\owner.getD j none=none:=by
 unfold Array.getD at h⊢
 split at h
 ·rename_i hlt
  rw[dif_pos hlt]
  exact⟨hlt,h⟩
 ·exact nomatch h
theorem AA{owner:Array (Option Nat)}{j:Nat}(hlt:j<owner.size)(h:owner.getD j none=none):owner.getD j (some 0)=none:=by
 unfold Array.getD at h⊢
 rw[dif_pos hlt]at h⊢
 exact h
theorem lD.put{mask:Nat}{owner:Array (Option Nat)}{k j:Nat}(o:lD mask owner k)(h:owner.getD j (some 0)=none):lD mask (owner.setIfInBounds j (some k)) (k+1):=by
 obtain⟨hlt,hn⟩:=Xz h
 have hself:(owner.setIfInBounds j (some k)).getD j none=some k:=by
  unfold Array.getD
  rw[dif_pos (by rw[Array.size_setIfInBounds];exact hlt)]
  simp
 have hoth:∀i,i≠j->(owner.setIfInBounds j (some k)).getD i none=owner.getD i none:=λ i hi=>by
  unfold Array.getD
  by_cases hl:i<owner.size
  ·rw[dif_pos (by rw[Array.size_setIfInBounds];exact hl),dif_pos hl]
   exact Array.getElem_setIfInBounds_ne hl (Ne.symm hi)
  ·rw[dif_neg (by rw[Array.size_setIfInBounds];exact hl),dif_neg hl]
 refine⟨by rw[Array.size_setIfInBounds,o.size],?_,λ i v e=>?_⟩
 ·rw[Fv (f:=λ i=>(owner.getD i none).isSome) (j:=j) (by rw[hn];rfl) (by rw[hself];rfl) (λ i hi=>by rw[hoth i hi]),o.cnt,if_pos (by rw[<-o.size];exact hlt)]
 ·by_cases hi:i=j
  ·subst hi
   rw[hself]at e
   injection e with e
   omega
  ·rw[hoth i hi]at e
   exact Nat.lt_succ_of_lt (o.small i v e)
theorem lD.free{mask:Nat}(hs:iG mask){owner:Array (Option Nat)}{k:Nat}(o:lD mask owner k)(hk:k<=mask)(h:Int):
  ∃j',layClean.free mask owner (turns mask) (bits h%(mask+1)) (bits h)=some j'/\owner.getD j' (some 0)=none:=by
 have:∃j<mask+1,owner.getD j none=none:=by
  refine Classical.byContradiction λ hc=>?_
  have:(List.range (mask+1)).countP (λ j=>(owner.getD j none).isSome)=(List.range (mask+1)).length:=List.countP_eq_length.mpr λ j hj=>by
   cases q:owner.getD j none with
   |some v=>rfl
   |none=>exact absurd ⟨j,List.mem_range.mp hj,q⟩ hc
  rw[o.cnt,List.length_range]at this
  omega
 obtain⟨j,hj,hn⟩:=this
 obtain⟨r,hr,e⟩:=Ea hs (i:=bits h%(mask+1)) (p:=bits h) (j:=j) (Nat.mod_lt _ (Nat.succ_pos _)) (Gh h) hj
 exact Fa owner (AA (by rw[o.size];exact hj) hn) r _ _ _ (by unfold turns;omega) e
def Eh(mask:Nat)(acc:Option (Array (Option Nat)×Nat))(h:Int):Option (Array (Option Nat)×Nat):=do
 let(owner,k)<-acc
 let j<-layClean.free mask owner (turns mask) (bits h%(mask+1)) (bits h)
 pure (owner.setIfInBounds j (some k),k+1)
theorem Eg{mask:Nat}(hs:iG mask):∀(l:List Int) (owner:Array (Option Nat)) (k:Nat),lD mask owner k->k+l.length<=mask+1->
  ∃owner',l.foldl (Eh mask) (some (owner,k))=some (owner',k+l.length)/\lD mask owner' (k+l.length)
 |[],owner,k,o,_=>⟨owner,rfl,o⟩
 |h::r,owner,k,o,hl=>by
  rw[List.length_cons]at hl
  obtain⟨j,e,hn⟩:=o.free hs Qa h
  obtain⟨owner',e2,o2⟩:=Eg hs r _ (k+1) (o.put hn) Qa
  rw[List.length_cons,show k+(r.length+1)=k+1+r.length from Qa]
  refine⟨owner',?_,o2⟩
  rw[List.foldl_cons,<-e2]
  congr 1
  show Option.bind (layClean.free mask owner (turns mask) (bits h%(mask+1)) (bits h)) (λ j=>some (owner.setIfInBounds j (some k),k+1))=_
  rw[e];rfl
theorem Px(mask:Nat):lD mask (Array.replicate (mask+1) none) 0:=by
 have hg:∀j,(Array.replicate (mask+1) (none:Option Nat)).getD j none=none:=λ j=>by
  unfold Array.getD;split<;>simp
 refine⟨Qb,?_,λ j v e=>?_⟩
 ·rw[List.countP_eq_zero]
  intro j _
  rw[hg];simp
 ·rw[hg]at e;exact nomatch e
theorem Vg(mask:Nat)(hashes:Array Int):layClean mask hashes=(hashes.toList.foldl (Eh mask) (some (Array.replicate (mask+1) none,0))).map (·.1):=by
 unfold layClean
 rw[<-Array.foldl_toList]
 rfl
theorem Vk{mask:Nat}(hs:iG mask)(hashes:Array Int)(hn:hashes.size<=mask)(finger moves:Nat)(led plain:Bool):
  ∃t order,SetTable.laid mask finger moves led plain hashes=some (t,order)/\t.mask=mask/\t.place.size=hashes.size/\t.dummies= #[]/\t.led=led/\t.plain=plain/\
   order.size=hashes.size/\∀i∈order.toList,i<hashes.size:=by
 obtain⟨owner,e,o⟩:=Eg hs hashes.toList _ 0 (Px mask) (by rw[Array.length_toList];omega)
 rw[Nat.zero_add,Array.length_toList]at o
 have hlen:((List.range (mask+1)).filterMap λ j=>(owner.getD j none).map (j,·)).length=hashes.size:=by
  rw[<-o.cnt]
  generalize List.range (mask+1)=l
  induction l with
  |nil=>rfl
  |cons j r ih=>
   rw[List.filterMap_cons,List.countP_cons]
   cases q:owner.getD j none with
   |none=>simpa using ih
   |some v=>simpa using ih
 refine⟨{mask,place:=(((List.range (mask+1)).filterMap λ j=>(owner.getD j none).map (j,·)).map (·.1)).toArray,dummies:= #[],finger,led,moves,plain},
  (((List.range (mask+1)).filterMap λ j=>(owner.getD j none).map (j,·)).map (·.2)).toArray,?_,rfl,?_,rfl,rfl,rfl,?_,?_⟩
 ·unfold SetTable.laid
  rw[Vg,e]
  rfl
 ·simpa using hlen
 ·simpa using hlen
 ·intro i hi
  rw[List.toList_toArray]at hi
  obtain⟨x,hx,rfl⟩:=List.mem_map.mp hi
  obtain⟨j,_,e⟩:=List.mem_filterMap.mp hx
  obtain⟨v,e1,e2⟩:=Option.map_eq_some_iff.mp e
  subst e2
  exact o.small j v e1
theorem Kg{mask n:Nat}(hs:iG mask)(h1:n*5<mask*3)(h2:(n+1)*5≥mask*3)(h3:n<200):iG (sizeAbove (grown (n+1))-1)/\(n+1)*5<(sizeAbove (grown (n+1))-1)*3/\sizeAbove (grown (n+1))<=512:=by
 rcases hs with rfl|rfl|rfl|rfl
 ·obtain rfl:n=4:=by omega
  have:sizeAbove (grown 5)=32:=by decide+kernel
  rw[this];exact⟨.inr (.inl rfl),Qa,Qa⟩
 ·obtain rfl:n=18:=by omega
  have:sizeAbove (grown 19)=128:=by decide+kernel
  rw[this];exact⟨.inr (.inr (.inl rfl)),Qa,Qa⟩
 ·obtain rfl:n=76:=by omega
  have:sizeAbove (grown 77)=512:=by decide+kernel
  rw[this];exact⟨.inr (.inr (.inr rfl)),Qa,Qa⟩
 ·omega
end L2
namespace L2
open PySem PyProof.Rows
def DR(prog:Program)(w:World)(A:Around)(s:Shared)(κ:SortKind)(a₀:Array Keyed):Prop:=
 ∀(E:Qh) (p q:Keyed) (Q:Bool->Shared->Prop),p∈a₀->q∈a₀->(∀b,Q b s)->wpAny Qi A (keyLt' κ p.1 q.1) Q E s
structure cM(κ:SortKind)(a₀:Array Keyed)(st:SortSt):Prop where
 perm:(arrOf st).Perm a₀
 kind:kindOf st=κ
 failed:failedOf st=none
theorem cM.size{κ:SortKind}{a₀:Array Keyed}{st:SortSt}(h:cM κ a₀ st):(arrOf st).size=a₀.size:=h.perm.size_eq
theorem cM.set{κ:SortKind}{a₀:Array Keyed}{st:SortSt}(h:cM κ a₀ st){xs:Array Keyed}(hp:xs.Perm (arrOf st)):cM κ a₀ (setArr st xs):=⟨hp.trans h.perm,h.kind,h.failed⟩
theorem cM.at{κ:SortKind}{a₀:Array Keyed}{st:SortSt}(h:cM κ a₀ st){i:Nat}(hi:i<a₀.size):∃p,(arrOf st)[i]? =some p/\p∈a₀:=by
 have hi':i<(arrOf st).size:=h.size▸hi
 exact⟨(arrOf st)[i],Array.getElem?_eq_getElem hi',h.perm.mem_iff.mp (Array.getElem_mem hi')⟩
def pZ:Bool->Keyed->Array Keyed->Nat->Nat->Nat->StateT SortSt Sem (Option Nat):=sortPriv%PySem.Builtin.gallop
def Gk(left:Bool)(key:Keyed)(arr:Array Keyed)(base i:Nat):StateT SortSt Sem (Option Bool):=
 elem' arr (base+i)>>=λ mid=>if left=true then lt' mid key else lt' key mid>>=λ told=>pure (told.map (!·))
section
variable{prog:Program}{w:World}{A:Around}{E:Qh}{s:Shared}{a₀:Array Keyed}{κ:SortKind}
end
abbrev eP(st:SortSt)(g:Nat):SortSt:=SortSt.mk' (kindOf st) (arrOf st) (pendingOf st) g (failedOf st)
def Dq:Array Keyed->Array Keyed->StateT SortSt Sem (Array Keyed):=sortPriv%PySem.Builtin.mergeLo
def Dr:Array Keyed->Array Keyed->StateT SortSt Sem (Array Keyed):=sortPriv%PySem.Builtin.mergeHi
section
variable{prog:Program}{w:World}{A:Around}{E:Qh}{s:Shared}{a₀:Array Keyed}{κ:SortKind}
theorem dR{st:SortSt}{arr:Array Keyed}{i:Nat}{Q:Keyed->SortSt->Prop}(hi:i<arr.size)(h:∀p,arr[i]? =some p->p∈arr->Q p st):wpS Qi A E s (elem' arr i) Q st:=by
 rw[elem'_eq,Array.getElem?_eq_getElem hi]
 exact wpS_pure (h _ (Array.getElem?_eq_getElem hi) (Array.getElem_mem hi))
def cF(a b out:Array Keyed)(ia ib:Nat):Prop:=out.toList.Perm (a.toList.take ia++b.toList.take ib)
theorem cF.addB{a b out:Array Keyed}{ia ib k:Nat}{y:List Keyed}(h:cF a b out ia ib)(e:b.toList.take (ib+k)=b.toList.take ib++y):(out.toList++y).Perm (a.toList.take ia++b.toList.take (ib+k)):=by
 rw[e,<-List.append_assoc]
 exact List.Perm.append_right _ h
theorem cF.addA{a b out:Array Keyed}{ia ib k:Nat}{y:List Keyed}(h:cF a b out ia ib)(e:a.toList.take (ia+k)=a.toList.take ia++y):(out.toList++y).Perm (a.toList.take (ia+k)++b.toList.take ib):=by
 rw[e,List.append_assoc]
 refine(List.Perm.append_right _ h).trans ?_
 rw[List.append_assoc]
 exact List.Perm.append_left _ List.perm_append_comm
theorem uY{a:Array Keyed}{i:Nat}{x:Keyed}(e:a[i]? =some x):a.toList.take (i+1)=a.toList.take i++[x]:=by
 rw[List.take_add_one]
 have:a.toList[i]? =some x:=by rw[Array.getElem?_toList];exact e
 rw[this]
 rfl
theorem uZ(a:Array Keyed)(i k:Nat):a.toList.take (i+k)=a.toList.take i++(a.extract i (i+k)).toList:=by
 rw[Array.toList_extract,List.take_add,List.extract_eq_drop_take]
 congr 1
 rw[Nat.add_sub_cancel_left]
theorem cF.pushB{a b out:Array Keyed}{ia ib:Nat}{x:Keyed}(h:cF a b out ia ib)(e:b[ib]? =some x):cF a b (out.push x) ia (ib+1):=by
 unfold cF
 rw[Array.toList_push]
 exact h.addB (uY e)
theorem cF.pushA{a b out:Array Keyed}{ia ib:Nat}{x:Keyed}(h:cF a b out ia ib)(e:a[ia]? =some x):cF a b (out.push x) (ia+1) ib:=by
 unfold cF
 rw[Array.toList_push]
 exact h.addA (uY e)
theorem cF.extB{a b out:Array Keyed}{ia ib:Nat}(k:Nat)(h:cF a b out ia ib):cF a b (out++b.extract ib (ib+k)) ia (ib+k):=by
 unfold cF
 rw[Array.toList_append]
 exact h.addB (uZ b ib k)
theorem cF.extA{a b out:Array Keyed}{ia ib:Nat}(k:Nat)(h:cF a b out ia ib):cF a b (out++a.extract ia (ia+k)) (ia+k) ib:=by
 unfold cF
 rw[Array.toList_append]
 exact h.addA (uZ a ia k)
theorem cF.all{a b out:Array Keyed}(h:cF a b out a.size b.size):out.Perm (a++b):=by
 unfold cF at h
 rw[List.take_of_length_le Qb,List.take_of_length_le Qb]at h
 rw[Array.perm_iff_toList_perm,Array.toList_append]
 exact h
theorem cF.done{a b out:Array Keyed}{ia ib:Nat}(h:cF a b out ia ib)(ha:ia<=a.size)(hb:ib<=b.size):(out++a.extract ia a.size++b.extract ib b.size).Perm (a++b):=by
 have h1:=h.extA (a.size-ia)
 rw[Nat.add_sub_cancel' ha]at h1
 have h2:=h1.extB (b.size-ib)
 rw[Nat.add_sub_cancel' hb]at h2
 exact h2.all
theorem cF.last{a b out:Array Keyed}{ia ib:Nat}(h:cF a b out ia ib)(ha:ia<=a.size)(hb:ib<=b.size):(out++b.extract ib b.size++a.extract ia a.size).Perm (a++b):=by
 have h1:=h.extB (b.size-ib)
 rw[Nat.add_sub_cancel' hb]at h1
 have h2:=h1.extA (a.size-ia)
 rw[Nat.add_sub_cancel' ha]at h2
 exact h2.all
end
section
variable{prog:Program}{w:World}{A:Around}{E:Qh}{s:Shared}{a₀:Array Keyed}{κ:SortKind}
def cU(a b out:Array Keyed)(na nb:Nat):Prop:=out.toList.Perm (a.toList.drop na++b.toList.drop nb)
theorem cU.addA{a b out:Array Keyed}{na nb m:Nat}{y z:List Keyed}(h:cU a b out na nb)(e:a.toList.drop m=y++a.toList.drop na)(hz:z.Perm y):(out.toList++z).Perm (a.toList.drop m++b.toList.drop nb):=by
 rw[e,List.append_assoc]
 exact List.perm_append_comm.trans (hz.append h)
theorem cU.addB{a b out:Array Keyed}{na nb m:Nat}{y z:List Keyed}(h:cU a b out na nb)(e:b.toList.drop m=y++b.toList.drop nb)(hz:z.Perm y):(out.toList++z).Perm (a.toList.drop na++b.toList.drop m):=by
 rw[e]
 refine List.perm_append_comm.trans ((hz.append h).trans ?_)
 rw[<-List.append_assoc,<-List.append_assoc]
 exact List.Perm.append_right _ List.perm_append_comm
theorem xU{a:Array Keyed}{n:Nat}{x:Keyed}(h1:1<=n)(e:a[n-1]? =some x):a.toList.drop (n-1)=[x]++a.toList.drop n:=by
 have h2:a.toList[n-1]? =some x:=by rw[Array.getElem?_toList];exact e
 obtain⟨hl,hx⟩:=List.getElem?_eq_some_iff.mp h2
 rw[List.drop_eq_getElem_cons hl,hx,Nat.sub_add_cancel h1]
 rfl
theorem xV(a:Array Keyed){m n:Nat}(h:m<=n):a.toList.drop m=(a.extract m n).toList++a.toList.drop n:=by
 rw[Array.toList_extract,List.extract_eq_drop_take]
 conv=>lhs;rw[<-List.take_append_drop (n-m) (a.toList.drop m),List.drop_drop,Nat.add_sub_cancel' h]
theorem cU.pushA{a b out:Array Keyed}{na nb:Nat}{x:Keyed}(h:cU a b out na nb)(h1:1<=na)(e:a[na-1]? =some x):cU a b (out.push x) (na-1) nb:=by
 unfold cU
 rw[Array.toList_push]
 exact h.addA (xU h1 e) (List.Perm.refl _)
theorem cU.pushB{a b out:Array Keyed}{na nb:Nat}{x:Keyed}(h:cU a b out na nb)(h1:1<=nb)(e:b[nb-1]? =some x):cU a b (out.push x) na (nb-1):=by
 unfold cU
 rw[Array.toList_push]
 exact h.addB (xU h1 e) (List.Perm.refl _)
theorem cU.extA{a b out:Array Keyed}{na nb:Nat}(m:Nat)(h:cU a b out na nb)(hm:m<=na):cU a b (out++(a.extract m na).reverse) m nb:=by
 unfold cU
 rw[Array.toList_append,Array.toList_reverse]
 exact h.addA (xV a hm) (List.reverse_perm _)
theorem cU.extB{a b out:Array Keyed}{na nb:Nat}(m:Nat)(h:cU a b out na nb)(hm:m<=nb):cU a b (out++(b.extract m nb).reverse) na m:=by
 unfold cU
 rw[Array.toList_append,Array.toList_reverse]
 exact h.addB (xV b hm) (List.reverse_perm _)
theorem Fi(a:Array Keyed)(n:Nat):(a.extract 0 n).toList++a.toList.drop n=a.toList:=by
 have:=xV a (Nat.zero_le n)
 rw[List.drop_zero]at this
 exact this.symm
theorem cU.done{a b out:Array Keyed}{na nb:Nat}(h:cU a b out na nb):(a.extract 0 na++b.extract 0 nb++out.reverse).Perm (a++b):=by
 rw[Array.perm_iff_toList_perm,Array.toList_append,Array.toList_append,Array.toList_append,Array.toList_reverse]
 refine(List.Perm.append_left _ ((List.reverse_perm _).trans h)).trans ?_
 conv=>rhs;rw[<-Fi a na,<-Fi b nb]
 simp only[List.append_assoc]
 refine List.Perm.append_left _ ?_
 rw[<-List.append_assoc,<-List.append_assoc]
 exact List.Perm.append_right _ List.perm_append_comm
theorem cU.first{a b out:Array Keyed}{na nb:Nat}(h:cU a b out na nb):(b.extract 0 nb++a.extract 0 na++out.reverse).Perm (a++b):=by
 refine Array.Perm.trans ?_ h.done
 rw[Array.perm_iff_toList_perm,Array.toList_append,Array.toList_append,Array.toList_append,Array.toList_append]
 exact List.Perm.append_right _ List.perm_append_comm
end
abbrev Bn(st:SortSt)(p:Array (Nat×Nat×Nat)):SortSt:=SortSt.mk' (kindOf st) (arrOf st) p (gallopOf st) (failedOf st)
theorem xR{sa:Nat}:∀(l:List Keyed) (n:Nat) (arr:Array Keyed),sa+n+l.length<=arr.size->((l.zipIdx n).foldl (λ (a:Array Keyed) (x:Keyed×Nat)=>a.setIfInBounds (sa+x.2) x.1) arr).toList=arr.toList.take (sa+n)++l++arr.toList.drop (sa+n+l.length)
 |[],n,arr,_=>by simp
 | x::l,n,arr,h=>by
  rw[List.zipIdx_cons,List.foldl_cons]
  have hl:sa+n+(l.length+1)<=arr.size:=h
  have h1:sa+n<arr.toList.length:=by rw[Array.length_toList];omega
  rw[xR l (n+1) (arr.setIfInBounds (sa+n) x) (by rw[Array.size_setIfInBounds];omega)]
  rw[Array.toList_setIfInBounds]
  have e1:(arr.toList.set (sa+n) x).take (sa+(n+1))=arr.toList.take (sa+n)++[x]:=by
   rw[show sa+(n+1)=(sa+n)+1 from Qa,List.take_add_one,List.take_set_of_le (Nat.le_refl _),List.getElem?_set_self h1]
   rfl
  have e2:(arr.toList.set (sa+n) x).drop (sa+(n+1)+l.length)=arr.toList.drop (sa+n+(l.length+1)):=by
   rw[List.drop_set_of_lt Qa]
   congr 1
   omega
  rw[e1,e2]
  simp
theorem Hs{arr m:Array Keyed}{sa k:Nat}(hs:sa+k<=arr.size)(hm:m.Perm (arr.extract sa (sa+k))):(m.toList.zipIdx.foldl (λ (a:Array Keyed) (x:Keyed×Nat)=>a.setIfInBounds (sa+x.2) x.1) arr).Perm arr:=by
 have hl:m.toList.length=k:=by
  have:=hm.size_eq
  rw[Array.length_toList,this,Array.size_extract]
  omega
 rw[Array.perm_iff_toList_perm,xR m.toList 0 arr Qa]
 have e:arr.toList=arr.toList.take sa++(arr.extract sa (sa+k)).toList++arr.toList.drop (sa+k):=by
  rw[<-uZ,List.take_append_drop]
 conv=>rhs;rw[e]
 rw[hl,Nat.add_zero]
 exact List.Perm.append_right _ (List.Perm.append_left _ (Array.perm_iff_toList_perm.mp hm))
section
variable{prog:Program}{w:World}{A:Around}{E:Qh}{s:Shared}{a₀:Array Keyed}{κ:SortKind}
theorem Hv{st st':SortSt}{Q:PUnit->SortSt->Prop}(h:Q ⟨⟩ st'):wpS Qi A E s (set st':StateT SortSt Sem PUnit) Q st:=by
 unfold wpS
 rw[StateT.run_set]
 exact wpAny_pure ⟨rfl,h⟩
theorem tU{arr:Array Keyed}{i j:Nat}{p:Keyed}(h:p∈arr.extract i j):p∈arr:=by
 rw[<-Array.mem_toList_iff,Array.toList_extract]at h
 rw[<-Array.mem_toList_iff]
 rw[List.extract_eq_drop_take]at h
 exact List.mem_of_mem_drop (List.mem_of_mem_take h)
end
def dW(κ:SortKind)(a₀:Array Keyed)(p:Array (Nat×Nat×Nat))(st:SortSt):Prop:=cM κ a₀ st/\pendingOf st=p
section
variable{prog:Program}{w:World}{A:Around}{E:Qh}{s:Shared}{a₀:Array Keyed}{κ:SortKind}{pd:Array (Nat×Nat×Nat)}
theorem dW.set{st:SortSt}(h:dW κ a₀ pd st){xs:Array Keyed}(hp:xs.Perm (arrOf st)):dW κ a₀ pd (setArr st xs):=⟨h.1.set hp,h.2⟩
end
def fD:Nat->List (Nat×Nat×Nat)->Nat->Prop
 |lo,[],hi=>lo=hi
 |lo,x::r,hi=>x.1=lo/\1<=x.2.1/\fD (lo+x.2.1) r hi
theorem fD.le:∀{p:List (Nat×Nat×Nat)} {lo hi:Nat},fD lo p hi->lo<=hi
 |[],_,_,h=>Nat.le_of_eq h
 |x::r,lo,hi,⟨_,h1,h2⟩=>by have:=fD.le h2;omega
theorem fD.two:∀{p:List (Nat×Nat×Nat)} {lo hi i:Nat} {x y:Nat×Nat×Nat},fD lo p hi->p[i]? =some x->p[i+1]? =some y->y.1=x.1+x.2.1/\1<=x.2.1/\1<=y.2.1/\y.1+y.2.1<=hi/\fD lo ((p.set i (x.1,x.2.1+y.2.1,x.2.2)).eraseIdx (i+1)) hi
 |[],_,_,_,_,_,_,h,_=>by simp at h
 |[u],_,_,0,_,_,_,_,h=>by simp at h
 |u::v::r,lo,hi,0,x,y,⟨h1,h2,h3,h4,h5⟩,e1,e2=>by
  obtain rfl:u=x:=by simpa using e1
  obtain rfl:v=y:=by simpa using e2
  refine⟨Qa,h2,h4,by have:=h5.le;omega,?_⟩
  show u.1=lo/\1<=u.2.1+v.2.1/\fD (lo+(u.2.1+v.2.1)) r hi
  exact⟨h1,Qa,by rw[<-Nat.add_assoc];exact h5⟩
 |u::r,lo,hi,i+1,x,y,⟨h1,h2,h3⟩,e1,e2=>by
  obtain⟨a,b,c,d,e⟩:=fD.two (i:=i) h3 (by simpa using e1) (by simpa using e2)
  exact⟨a,b,c,d,h1,h2,e⟩
theorem fD.push:∀{p:List (Nat×Nat×Nat)} {lo hi n k:Nat},fD lo p hi->1<=n->fD lo (p++[(hi,n,k)]) (hi+n)
 |[],_,_,_,_,h,h1=>by cases h;exact⟨rfl,h1,rfl⟩
 |_::_,_,_,_,_,⟨a,b,c⟩,h1=>⟨a,b,fD.push c h1⟩
theorem fD.modify{f:Nat×Nat×Nat->Nat×Nat×Nat}(hf:∀x,(f x).1=x.1/\(f x).2.1=x.2.1):∀{p:List (Nat×Nat×Nat)} {lo hi i:Nat},fD lo p hi->fD lo (p.modify i f) hi
 |[],_,_,i,h=>by cases i<;>exact h
 |x::r,lo,hi,0,⟨a,b,c⟩=>by
  rw[List.modify_zero_cons]
  exact⟨(hf x).1.trans a,by rw[(hf x).2];exact b,by rw[(hf x).2];exact c⟩
 |x::r,lo,hi,i+1,⟨a,b,c⟩=>by
  rw[List.modify_succ_cons]
  exact⟨a,b,fD.modify hf c⟩
theorem Xa{p:Prop}[Decidable p]{a:Nat}:(if p then a-1 else a)<=a:=by split<;>omega
section
variable{prog:Program}{w:World}{A:Around}{E:Qh}{s:Shared}{a₀:Array Keyed}{κ:SortKind}
end
structure SOrd where
 blt:Keyed->Keyed->Bool
 irrefl:∀a,blt a a=false
 trans:∀a b c,blt a b=true->blt b c=true->blt a c=true
 weak:∀a b c,blt a c=true->blt a b=true\/blt b c=true
namespace SOrd
variable{O:SOrd}{a b c:Keyed}
def le(O:SOrd)(a b:Keyed):Prop:=O.blt b a=false
theorem le_refl(a:Keyed):O.le a a:=O.irrefl a
theorem le_of_lt(h:O.blt a b=true):O.le a b:=by
 unfold le
 cases q:O.blt b a with
 |false=>rfl
 |true=>
  have:=O.trans a b a h q
  rw[O.irrefl]at this
  exact nomatch this
theorem le_trans(h1:O.le a b)(h2:O.le b c):O.le a c:=by
 unfold le at*
 cases q:O.blt c a with
 |false=>rfl
 |true=>
  rcases O.weak c b a q with z|z
  ·rw[h2]at z;exact nomatch z
  ·rw[h1]at z;exact nomatch z
theorem lt_le(h1:O.blt a b=true)(h2:O.le b c):O.blt a c=true:=by
 rcases O.weak a c b h1 with z|z
 ·exact z
 ·unfold le at h2;rw[h2]at z;exact nomatch z
end SOrd
def aM(xs:Array Keyed)(i:Nat):Keyed:=(xs[i]?).getD (.none,.none)
theorem eR{xs ys:Array Keyed}{i j:Nat}(h:xs[i]? =ys[j]?):aM xs i=aM ys j:=by unfold aM;rw[h]
def bC(O:SOrd)(xs:Array Keyed)(lo hi:Nat):Prop:=∀i j,lo<=i->i<=j->j<hi->O.le (aM xs i) (aM xs j)
section
variable{prog:Program}{w:World}{A:Around}{E:Qh}{s:Shared}{a₀:Array Keyed}{κ:SortKind}{pd:Array (Nat×Nat×Nat)}{O:SOrd}
def dQ(prog:Program)(w:World)(A:Around)(s:Shared)(κ:SortKind)(a₀:Array Keyed)(O:SOrd):Prop:=
 ∀(E:Qh) (p q:Keyed) (Q:Bool->Shared->Prop),p∈a₀->q∈a₀->Q (O.blt p q) s->wpAny Qi A (keyLt' κ p.1 q.1) Q E s
theorem dQ.cmp(C:dQ prog w A s κ a₀ O):DR prog w A s κ a₀:=λ E p q Q hp hq h=>C E p q Q hp hq (h _)
theorem oY(C:dQ prog w A s κ a₀ O){st:SortSt}(hk:kindOf st=κ){p q:Keyed}(hp:p∈a₀)(hq:q∈a₀){Q:Option Bool->SortSt->Prop}(h:Q (some (O.blt p q)) st):wpS Qi A E s (lt' p q) Q st:=by
 rw[lt'_eq]
 refine wpS_bind (wpS_get ?_)
 rw[hk]
 exact wpS_bind (wpS_lift (wpAny_attempt (C _ p q _ hp hq ⟨rfl,wpS_pure h⟩)))
theorem lH(C:dQ prog w A s κ a₀ O){st:SortSt}(B:cM κ a₀ st){i j:Nat}(hi:i<a₀.size)(hj:j<a₀.size){Q:Option Bool->SortSt->Prop}(h:Q (some (O.blt (aM (arrOf st) i) (aM (arrOf st) j))) st):wpS Qi A E s (ltAt' i j) Q st:=by
 obtain⟨p,ep,hp⟩:=B.at hi
 obtain⟨q,eq,hq⟩:=B.at hj
 have e1:aM (arrOf st) i=p:=by unfold aM;rw[ep];rfl
 have e2:aM (arrOf st) j=q:=by unfold aM;rw[eq];rfl
 rw[e1,e2]at h
 rw[ltAt'_eq]
 refine wpS_bind (wpS_get ?_)
 change wpS Qi A E s (elem' (arrOf st) i>>=λ x=>elem' (arrOf st) j>>=λ y=>lt' x y) Q st
 rw[elem'_eq,elem'_eq,ep,eq]
 exact wpS_bind (wpS_pure (wpS_bind (wpS_pure (oY C B.kind hp hq h))))
theorem Ie(C:dQ prog w A s κ a₀ O){st:SortSt}(B:dW κ a₀ pd st){lo n ok:Nat}(hn:lo+n<=a₀.size)(hok:ok<=n)(hs:bC O (arrOf st) lo (lo+ok)){Q:Bool->SortSt->Prop}
  (h:∀st',dW κ a₀ pd st'->bC O (arrOf st') lo (lo+n)->(∀i,i<lo\/lo+n<=i->(arrOf st')[i]? =(arrOf st)[i]?)->Q true st'):wpS Qi A E s (binarySort' lo n ok) Q st:=by
 rw[binarySort'_eq]
 refine wpS_bind (wpS_mono (wpS_forRange (I:=λ k c st'=>c=(none,())/\dW κ a₀ pd st'/\bC O (arrOf st') lo (lo+min k n)/\∀i,i<lo\/lo+n<=i->(arrOf st')[i]? =(arrOf st)[i]?)
  (Q:=λ c st'=>c=(none,())/\dW κ a₀ pd st'/\bC O (arrOf st') lo (lo+n)/\∀i,i<lo\/lo+n<=i->(arrOf st')[i]? =(arrOf st)[i]?) ?_ ?_ ⟨rfl,B,λ i j a b c=>?_,λ _ _=>rfl⟩) ?_)
 ·rintro k c st1 k1 kn ⟨rfl,B1,a1,o1⟩
  rw[Nat.min_eq_left (Nat.le_of_lt kn)]at a1
  have hk:lo+k<a₀.size:=by omega
  try dsimp only
  refine wpS_bind (wpS_mono (wpS_forRange (I:=λ x c st2=>st2=st1/\∃l r,c=(none,l,r)/\l<=r/\r<=k/\r-l<=k-x/\(∀i,i<l->O.le (aM (arrOf st1) (lo+i)) (aM (arrOf st1) (lo+k)))/\∀i,r<=i->i<k->O.blt (aM (arrOf st1) (lo+k)) (aM (arrOf st1) (lo+i))=true)
   (Q:=λ c st2=>st2=st1/\∃l r,c=(none,l,r)/\l<=k/\(∀i,i<l->O.le (aM (arrOf st1) (lo+i)) (aM (arrOf st1) (lo+k)))/\∀i,l<=i->i<k->O.blt (aM (arrOf st1) (lo+k)) (aM (arrOf st1) (lo+i))=true) ?_ ?_
   ⟨rfl,0,k,rfl,Nat.zero_le _,Nat.le_refl _,Nat.le_refl _,λ i z=>absurd z (Nat.not_lt_zero _),λ i z1 z2=>absurd z2 Qa⟩) ?_)
  ·rintro x c st2 _ xk ⟨rfl,l,r,rfl,lr,rk,m,below,above⟩
   try dsimp only
   by_cases d:l≥r
   ·rw[if_pos d]
    obtain rfl:l=r:=by omega
    exact wpS_pure ⟨rfl,l,l,rfl,rk,below,above⟩
   ·rw[if_neg d]
    refine wpS_bind (lH C B1.1 hk Qa ?_)
    cases q:O.blt (aM (arrOf st2) (lo+k)) (aM (arrOf st2) (lo+(l+r)/2))with
    |true=>exact wpS_pure ⟨rfl,l,(l+r)/2,rfl,Qa,Qa,Qa,below,λ i z1 z2=>SOrd.lt_le q (a1 _ _ Qa Qa Qa)⟩
    |false=>exact wpS_pure ⟨rfl,(l+r)/2+1,r,rfl,Qa,Qa,Qa,λ i z=>SOrd.le_trans (a1 _ _ Qa Qa Qa) q,above⟩
  ·rintro c st2 ⟨rfl,l,r,rfl,lr,rk,m,below,above⟩
   obtain rfl:l=r:=by omega
   exact⟨rfl,l,l,rfl,rk,below,above⟩
  ·rintro c st2 ⟨rfl,l,r,rfl,lk,below,above⟩
   have hks:lo+k<(arrOf st2).size:=by rw[B1.1.size];exact hk
   have g:=getElem?_bubble hks (k-l) Qa
   have e0:lo+k-(lo+l)=k-l:=by omega
   refine wpS_bind ?_
   rw[moveDown'_eq,e0]
   refine wpS_modify (wpS_pure ⟨rfl,B1.set (bubble_perm _ _ _),λ i j z1 z2 z3=>?_,λ i z=>?_⟩)
   ·rw [Nat.min_eq_left Qa]at z3
    have gi:=g i
    have gj:=g j
    rw[show lo+k-(k-l)=lo+l from Qa]at gi gj
    show O.le (aM (bubble (arrOf st2) (lo+k) (k-l)) i) (aM (bubble (arrOf st2) (lo+k) (k-l)) j)
    have bl:∀i,lo<=i->i<lo+l->O.le (aM (arrOf st2) i) (aM (arrOf st2) (lo+k)):=λ i y1 y2=>by
     have:=below (i-lo) Qa
     rwa[show lo+(i-lo)=i from Qa]at this
    have ab:∀i,lo+l<=i->i<lo+k->O.blt (aM (arrOf st2) (lo+k)) (aM (arrOf st2) i)=true:=λ i y1 y2=>by
     have:=above (i-lo) Qa Qa
     rwa[show lo+(i-lo)=i from Qa]at this
    by_cases i1:i=lo+l
    ·rw[if_pos i1]at gi
     rw[eR gi]
     by_cases j1:j=lo+l
     ·rw[if_pos j1]at gj
      rw[eR gj]
      exact SOrd.le_refl _
     ·rw[if_neg j1,if_pos ⟨Qa,Qa⟩]at gj
      rw[eR gj]
      exact SOrd.le_of_lt (ab _ Qa Qa)
    ·by_cases i2:lo+l<i
     ·rw[if_neg i1,if_pos ⟨i2,Qa⟩]at gi
      rw[if_neg Qa,if_pos ⟨Qa,Qa⟩]at gj
      rw[eR gi,eR gj]
      exact a1 _ _ Qa Qa Qa
     ·rw[if_neg i1,if_neg Qa]at gi
      rw[eR gi]
      by_cases j1:j=lo+l
      ·rw[if_pos j1]at gj
       rw[eR gj]
       exact bl _ Qa Qa
      ·by_cases j2:lo+l<j
       ·rw[if_neg j1,if_pos ⟨j2,Qa⟩]at gj
        rw[eR gj]
        exact a1 _ _ Qa Qa Qa
       ·rw[if_neg j1,if_neg Qa]at gj
        rw[eR gj]
        exact a1 _ _ Qa Qa Qa
   ·have gi:=g i
    rw[if_neg Qa,if_neg Qa]at gi
    exact gi.trans (o1 i z)
 ·rintro c st1 ⟨rfl,B1,a1,o1⟩
  rw[show min (max (max ok 1) n) n=n from Qa]at a1
  exact⟨rfl,B1,a1,o1⟩
 ·by_cases z:ok=0
  ·obtain rfl:i=j:=by omega
   exact SOrd.le_refl _
  ·exact hs i j a b Qa
 ·rintro c st1 ⟨rfl,B1,a1,o1⟩
  exact wpS_pure (h st1 B1 a1 o1)
end
def fJ(O:SOrd)(xs:Array Keyed)(lo hi:Nat):Prop:=∀i j,lo<=i->i<=j->j<hi->O.le (aM xs j) (aM xs i)
def uK(O:SOrd)(xs:Array Keyed)(lo hi:Nat):Prop:=∀i j,lo<=i->i<hi->lo<=j->j<hi->O.le (aM xs i) (aM xs j)
theorem fJ.sim{O:SOrd}{xs ys:Array Keyed}{lo hi:Nat}(d:fJ O xs lo hi)(e:∀k,lo<=k->k<hi->O.le (aM ys k) (aM xs k)/\O.le (aM xs k) (aM ys k)):fJ O ys lo hi:=λ i j a b c=>
 SOrd.le_trans (SOrd.le_trans (e j Qa c).1 (d i j a b c)) (e i a Qa).2
theorem xH{O:SOrd}{xs:Array Keyed}{a b:Nat}(hb:b<=xs.size)(e:uK O xs a b)(k:Nat):O.le (aM (mirror xs a b ((b-a)/2)) k) (aM xs k)/\O.le (aM xs k) (aM (mirror xs a b ((b-a)/2)) k):=by
 have g:=getElem?_mirror_all (i:=a) hb k
 by_cases h:a<=k/\k<b
 ·rw[if_pos h]at g
  rw[eR g]
  exact⟨e _ _ Qa Qa h.1 h.2,e _ _ h.1 h.2 Qa Qa⟩
 ·rw[if_neg h]at g
  rw[eR g]
  exact⟨SOrd.le_refl _,SOrd.le_refl _⟩
theorem Tv{O:SOrd}{xs:Array Keyed}{a b:Nat}(hb:b<=xs.size)(d:fJ O xs a b):bC O (mirror xs a b ((b-a)/2)) a b:=λ i j p q r=>by
 have gi:=getElem?_mirror_all (i:=a) hb i
 have gj:=getElem?_mirror_all (i:=a) hb j
 rw[if_pos ⟨p,Qa⟩]at gi
 rw[if_pos ⟨Qa,r⟩]at gj
 rw[eR gi,eR gj]
 exact d _ _ Qa Qa Qa
theorem bC.snoc{O:SOrd}{xs:Array Keyed}{lo n:Nat}(h:bC O xs lo (lo+n))(h1:1<=n)(e:O.le (aM xs (lo+n-1)) (aM xs (lo+n))):bC O xs lo (lo+(n+1)):=λ i j a b c=>by
 by_cases q:j<lo+n
 ·exact h i j a b q
 ·obtain rfl:j=lo+n:=by omega
  by_cases z:i=lo+n
  ·rw[z];exact SOrd.le_refl _
  ·exact SOrd.le_trans (h i (lo+n-1) a Qa Qa) e
theorem fJ.snoc{O:SOrd}{xs:Array Keyed}{lo n:Nat}(h:fJ O xs lo (lo+n))(h1:1<=n)(e:O.le (aM xs (lo+n)) (aM xs (lo+n-1))):fJ O xs lo (lo+(n+1)):=λ i j a b c=>by
 by_cases q:j<lo+n
 ·exact h i j a b q
 ·obtain rfl:j=lo+n:=by omega
  by_cases z:i=lo+n
  ·rw[z];exact SOrd.le_refl _
  ·exact SOrd.le_trans e (h i (lo+n-1) a Qa Qa)
section
variable{prog:Program}{w:World}{A:Around}{E:Qh}{s:Shared}{a₀:Array Keyed}{κ:SortKind}{pd:Array (Nat×Nat×Nat)}{O:SOrd}
theorem oX{st:SortSt}{i j:Nat}{Q:Unit->SortSt->Prop}(B:dW κ a₀ pd st)(h:∀st',dW κ a₀ pd st'->arrOf st'=mirror (arrOf st) i j ((j-i)/2)->Q () st'):wpS Qi A E s (reverseSlice' i j) Q st:=wpS_reverse (h _ (B.set (mirror_perm _ _ _ _)) rfl)
def gA(lo n:Nat)(xs ys:Array Keyed):Prop:=∀i,i<lo\/lo+n<=i->ys[i]? =xs[i]?
theorem gA.mirror{lo n a b:Nat}{xs ys:Array Keyed}(h:gA lo n xs ys)(ha:lo<=a)(hb:b<=lo+n)(hs:b<=ys.size):gA lo n xs (mirror ys a b ((b-a)/2)):=λ i z=>by
 have g:=getElem?_mirror_all (i:=a) hs i
 rw[if_neg Qa]at g
 exact g.trans (h i z)
theorem Ic(C:dQ prog w A s κ a₀ O){st:SortSt}(B:dW κ a₀ pd st){lo nrem:Nat}(h1:1<=nrem)(hn:lo+nrem<=a₀.size){Q:Option Nat->SortSt->Prop}
  (h:∀n st',dW κ a₀ pd st'->1<=n->n<=nrem->bC O (arrOf st') lo (lo+n)->gA lo nrem (arrOf st) (arrOf st')->Q (some n) st'):wpS Qi A E s (countRun' lo nrem) Q st:=by
 rw[countRun'_eq]
 have asc1:∀xs,bC O xs lo (lo+1):=λ xs i j a b c=>by
  obtain rfl:i=j:=by omega
  exact SOrd.le_refl _
 have last:∀(n:Nat) (st1:SortSt),dW κ a₀ pd st1->1<=n->n<=nrem->bC O (arrOf st1) lo (lo+n)->gA lo nrem (arrOf st) (arrOf st1)->
   ∀(P:Option (Option Nat)×Nat->SortSt->Prop),(∀m st2,dW κ a₀ pd st2->1<=m->m<=nrem->bC O (arrOf st2) lo (lo+m)->gA lo nrem (arrOf st) (arrOf st2)->(m<nrem->O.blt (aM (arrOf st2) (lo+m)) (aM (arrOf st2) (lo+m-1))=true)->P (none,m) st2)->
   ∀(f:Nat->Option (Option Nat)×Nat->StateT SortSt Sem (ForInStep (Option (Option Nat)×Nat))),
   (∀i m st2 (R:ForInStep (Option (Option Nat)×Nat)->SortSt->Prop),dW κ a₀ pd st2->1<=m->m<nrem->(O.blt (aM (arrOf st2) (lo+m)) (aM (arrOf st2) (lo+m-1))=true->R (.done (none,m)) st2)->(O.blt (aM (arrOf st2) (lo+m)) (aM (arrOf st2) (lo+m-1))=false->R (.yield (none,m+1)) st2)->wpS Qi A E s (f i (none,m)) R st2)->
   wpS Qi A E s (forIn [n:nrem] (none,n) f) P st1:=by
  intro n st1 B1 n1 n2 a1 o1 P hP f hf
  refine wpS_forRange (I:=λ i c st2=>c=(none,i)/\1<=i/\i<=nrem/\dW κ a₀ pd st2/\bC O (arrOf st2) lo (lo+i)/\gA lo nrem (arrOf st) (arrOf st2)) ?_ ?_ ⟨rfl,n1,n2,B1,a1,o1⟩
  ·rintro i c st2 _ hi ⟨rfl,i1,i2,B2,a2,o2⟩
   refine hf i i st2 _ B2 i1 hi (λ q=>hP i st2 B2 i1 (Nat.le_of_lt hi) a2 o2 λ _=>q) λ q=>⟨rfl,Qa,Qa,B2,a2.snoc i1 q,o2⟩
  ·rintro c st2 ⟨rfl,i1,i2,B2,a2,o2⟩
   exact hP _ st2 B2 i1 i2 a2 o2 λ z=>absurd z Qa
 refine wpS_bind (last 1 st B (Nat.le_refl _) h1 (asc1 _) (λ _ _=>rfl) _ (λ n st1 B1 n1 n2 a1 o1 sm=>?_) _ λ i m st2 R B2 m1 m2 hd hy=>?_)
 rotate_left
 ·try dsimp only
  refine wpS_bind (lH C B2.1 Qa Qa ?_)
  cases q:O.blt (aM (arrOf st2) (lo+m)) (aM (arrOf st2) (lo+m-1))with
  |false=>exact wpS_pure (hy q)
  |true=>exact wpS_pure (hd q)
 try dsimp only
 by_cases c1:(n==nrem)=true
 ·rw[if_pos c1]
  exact wpS_pure (h _ _ B1 n1 n2 a1 o1)
 rw[if_neg c1]
 simp only[beq_iff_eq]at c1
 have nn:n+1<=nrem:=by omega
 have sm:=sm Qa
 have sz1:(arrOf st1).size=a₀.size:=B1.1.size
 by_cases c2:n>1
 rw[if_pos c2]
 refine wpS_bind (lH C B1.1 Qa Qa ?_)
 cases rose:O.blt (aM (arrOf st1) lo) (aM (arrOf st1) (lo+n-1))with
 |true=>exact wpS_pure (h _ _ B1 n1 n2 a1 o1)
 |false=>?_
 simp only[Bool.false_eq_true,if_false]
 refine wpS_bind (oX B1 λ st2 B2 e2=>?_)
 have ev:uK O (arrOf st1) lo (lo+n):=λ i j x1 x2 x3 x4=>SOrd.le_trans (SOrd.le_trans (a1 i (lo+n-1) x1 Qa Qa) rose) (a1 lo j (Nat.le_refl _) x3 x4)
 have me:=xH (xs:=arrOf st1) (a:=lo) (b:=lo+n) Qa ev
 have d2:fJ O (arrOf st2) lo (lo+(n+1)):=by
  rw[e2]
  have d:fJ O (arrOf st1) lo (lo+(n+1)):=fJ.snoc (λ i j x1 x2 x3=>ev j i Qa x3 x1 Qa) n1 (SOrd.le_of_lt sm)
  exact d.sim λ k _ _=>me k
 have o2:gA lo nrem (arrOf st) (arrOf st2):=by
  rw[e2]
  exact o1.mirror (Nat.le_refl _) Qa Qa
 rotate_left
 rw[if_neg c2]
 obtain rfl:n=1:=by omega
 obtain⟨st2,est⟩:∃st2,st2=st1:=⟨_,rfl⟩
 rw[<-est]
 have B2:dW κ a₀ pd st2:=by rw[est];exact B1
 have d2:fJ O (arrOf st2) lo (lo+(1+1)):=by
  rw[est]
  exact fJ.snoc (λ i j x1 x2 x3=>(show i=j from Qa)▸SOrd.le_refl _) (Nat.le_refl _) (SOrd.le_of_lt sm)
 have o2:gA lo nrem (arrOf st) (arrOf st2):=by rw[est];exact o1
 all_goals
  refine wpS_bind (wpS_lift (wpAny_rule ⟨rfl,?_⟩))
  try dsimp only
  refine wpS_bind (wpS_mono (wpS_forRange (I:=λ i c st3=>∃q,c=(none,i,q)/\1<=i/\i<=nrem/\q+1<=i/\dW κ a₀ pd st3/\fJ O (arrOf st3) lo (lo+i)/\uK O (arrOf st3) (lo+i-(q+1)) (lo+i)/\gA lo nrem (arrOf st) (arrOf st3))
   (Q:=λ c st3=>∃m q,c=(none,m,q)/\1<=m/\m<=nrem/\q+1<=m/\dW κ a₀ pd st3/\fJ O (arrOf st3) lo (lo+m)/\uK O (arrOf st3) (lo+m-(q+1)) (lo+m)/\gA lo nrem (arrOf st) (arrOf st3)) ?_ ?_ ⟨0,rfl,Qa,Qa,Qa,B2,d2,?_,o2⟩) ?_)
  ·rintro i c st3 _ hi ⟨q,rfl,i1,i2,q1,B3,d3,e3,o3⟩
   have sz3:(arrOf st3).size=a₀.size:=B3.1.size
   try dsimp only
   refine wpS_bind (lH C B3.1 Qa Qa ?_)
   cases s1:O.blt (aM (arrOf st3) (lo+i)) (aM (arrOf st3) (lo+i-1))with
   | true=>
    have d4:=d3.snoc i1 (SOrd.le_of_lt s1)
    simp only[if_true]
    by_cases c4:q>0
    ·rw[if_pos c4]
     refine wpS_bind (oX B3 λ st4 B4 e4=>wpS_pure ⟨0,rfl,Qa,Qa,Qa,B4,?_,λ a b x1 x2 x3 x4=>?_,?_⟩)
     ·rw[e4]
      exact d4.sim λ k _ _=>xH Qa e3 k
     ·obtain rfl:a=b:=by omega
      exact SOrd.le_refl _
     ·rw[e4]
      exact o3.mirror Qa Qa Qa
    ·rw[if_neg c4]
     exact wpS_pure ⟨0,rfl,Qa,Qa,Qa,B3,d4,λ a b x1 x2 x3 x4=>by
      have:a=b:=by omega
      rw[this];exact SOrd.le_refl _,o3⟩
   | false=>
    simp only[Bool.false_eq_true,if_false]
    refine wpS_bind (lH C B3.1 Qa Qa ?_)
    cases s2:O.blt (aM (arrOf st3) (lo+i-1)) (aM (arrOf st3) (lo+i))with
    |true=>exact wpS_pure ⟨i,q,rfl,i1,i2,q1,B3,d3,e3,o3⟩
    | false=>
     refine wpS_pure ⟨q+1,rfl,Qa,Qa,Qa,B3,d3.snoc i1 s2,λ a b x1 x2 x3 x4=>?_,o3⟩
     have up:∀k,lo+i-(q+1)<=k->k<lo+i->O.le (aM (arrOf st3) k) (aM (arrOf st3) (lo+i))/\O.le (aM (arrOf st3) (lo+i)) (aM (arrOf st3) k):=λ k y1 y2=>
      ⟨SOrd.le_trans (e3 k (lo+i-1) y1 y2 Qa Qa) s1,SOrd.le_trans s2 (e3 (lo+i-1) k Qa Qa y1 y2)⟩
     by_cases za:a=lo+i
     ·by_cases zb:b=lo+i
      ·rw[za,zb];exact SOrd.le_refl _
      ·rw[za];exact(up b Qa Qa).2
     ·by_cases zb:b=lo+i
      ·rw[zb];exact(up a Qa Qa).1
      ·exact e3 a b Qa Qa Qa Qa
  ·rintro c st3 ⟨q,rfl,i1,i2,q1,B3,d3,e3,o3⟩
   exact⟨_,q,rfl,i1,i2,q1,B3,d3,e3,o3⟩
  ·intro a b x1 x2 x3 x4
   have:a=b:=by omega
   rw[this];exact SOrd.le_refl _
  rintro c st3 ⟨m,q,rfl,m1,m2,q1,B3,d3,e3,o3⟩
  have sz3:(arrOf st3).size=a₀.size:=B3.1.size
  try dsimp only
  have fin:∀st5,dW κ a₀ pd st5->fJ O (arrOf st5) lo (lo+m)->gA lo nrem (arrOf st) (arrOf st5)->∀st6,dW κ a₀ pd st6->arrOf st6=mirror (arrOf st5) lo (lo+m) ((lo+m-lo)/2)->bC O (arrOf st6) lo (lo+m)/\gA lo nrem (arrOf st) (arrOf st6):=λ st5 B5 d5 o5 st6 B6 e6=>by
   have sz5:(arrOf st5).size=a₀.size:=B5.1.size
   rw[e6]
   exact⟨Tv Qa d5,o5.mirror (Nat.le_refl _) Qa Qa⟩
  by_cases c3:q>0
  ·rw[if_pos c3]
   refine wpS_bind (oX B3 λ st5 B5 e5=>?_)
   have d5:fJ O (arrOf st5) lo (lo+m):=by
    rw[e5]
    exact d3.sim λ k _ _=>xH Qa e3 k
   have o5:gA lo nrem (arrOf st) (arrOf st5):=by
    rw[e5]
    exact o3.mirror Qa Qa Qa
   refine wpS_bind (oX B5 λ st6 B6 e6=>?_)
   obtain⟨a6,o6⟩:=fin st5 B5 d5 o5 st6 B6 e6
   refine wpS_bind (last m st6 B6 m1 m2 a6 o6 _ (λ n' st7 B7 x1 x2 a7 o7 _=>wpS_pure (h _ _ B7 x1 x2 a7 o7)) _ λ i' m' st7 R B7 y1 y2 hd hy=>?_)
   try dsimp only
   refine wpS_bind (lH C B7.1 Qa Qa ?_)
   cases q':O.blt (aM (arrOf st7) (lo+m')) (aM (arrOf st7) (lo+m'-1))with
   |false=>exact wpS_pure (hy q')
   |true=>exact wpS_pure (hd q')
  ·rw[if_neg c3]
   refine wpS_bind (oX B3 λ st6 B6 e6=>?_)
   obtain⟨a6,o6⟩:=fin st3 B3 d3 o3 st6 B6 e6
   refine wpS_bind (last m st6 B6 m1 m2 a6 o6 _ (λ n' st7 B7 x1 x2 a7 o7 _=>wpS_pure (h _ _ B7 x1 x2 a7 o7)) _ λ i' m' st7 R B7 y1 y2 hd hy=>?_)
   try dsimp only
   refine wpS_bind (lH C B7.1 Qa Qa ?_)
   cases q':O.blt (aM (arrOf st7) (lo+m')) (aM (arrOf st7) (lo+m'-1))with
   |false=>exact wpS_pure (hy q')
   |true=>exact wpS_pure (hd q')
end
theorem SOrd.le_lt{O:SOrd}{a b c:Keyed}(h1:O.le a b)(h2:O.blt b c=true):O.blt a c=true:=by
 rcases O.weak b a c h2 with z|z
 ·unfold SOrd.le at h1;rw[h1]at z;exact nomatch z
 ·exact z
def bU(O:SOrd)(left:Bool)(key x:Keyed):Bool:=if left=true then O.blt x key else !O.blt key x
theorem CD{O:SOrd}{left:Bool}{key x y:Keyed}(h:O.le x y)(b:bU O left key y=true):bU O left key x=true:=by
 unfold bU at*
 cases left
 ·simp only[Bool.false_eq_true,if_false,Bool.not_eq_true']at*
  exact SOrd.le_trans h b
 ·simp only[if_true]at*
  exact SOrd.le_lt h b
theorem yC{O:SOrd}{left:Bool}{key x:Keyed}(b:bU O left key x=true):O.le x key:=by
 unfold bU at b
 cases left
 ·simp only[Bool.false_eq_true,if_false,Bool.not_eq_true']at b
  exact b
 ·simp only[if_true]at b
  exact SOrd.le_of_lt b
theorem yD{O:SOrd}{left:Bool}{key x:Keyed}(b:bU O left key x=false):O.le key x:=by
 unfold bU at b
 cases left
 ·simp only[Bool.false_eq_true,if_false,Bool.not_eq_false']at b
  exact SOrd.le_of_lt b
 ·simp only[if_true]at b
  exact b
section
variable{prog:Program}{w:World}{A:Around}{E:Qh}{s:Shared}{a₀:Array Keyed}{κ:SortKind}{O:SOrd}
theorem oZ(C:dQ prog w A s κ a₀ O){st:SortSt}(hk:kindOf st=κ){left:Bool}{key:Keyed}{arr:Array Keyed}{base i n:Nat}(hkey:key∈a₀)(harr:∀p,p∈arr->p∈a₀)(hb:base+n<=arr.size)(hi:i<n){Q:Option Bool->SortSt->Prop}(h:Q (some (bU O left key (aM arr (base+i)))) st):
  wpS Qi A E s (Gk left key arr base i) Q st:=by
 have hlt:base+i<arr.size:=by omega
 have ek:aM arr (base+i)=arr[base+i]:=by unfold aM;rw[Array.getElem?_eq_getElem hlt];rfl
 rw[ek]at h
 unfold Gk
 rw[elem'_eq,Array.getElem?_eq_getElem hlt]
 refine wpS_bind (wpS_pure ?_)
 have hm:=harr _ (Array.getElem_mem hlt)
 unfold bU at h
 cases left
 ·simp only[Bool.false_eq_true,if_false]at h⊢
  exact wpS_bind (oY C hk hkey hm (wpS_pure h))
 ·simp only[if_true]at h⊢
  exact oY C hk hm hkey h
theorem uS(C:dQ prog w A s κ a₀ O){st:SortSt}(hk:kindOf st=κ){left:Bool}{key:Keyed}{arr:Array Keyed}{base n hint:Nat}(hkey:key∈a₀)(harr:∀p,p∈arr->p∈a₀)(hb:base+n<=arr.size)(hh:hint<n)(hs:bC O arr base (base+n)){Q:Option Nat->SortSt->Prop}
  (h:∀k,k<=n->(∀i,i<k->bU O left key (aM arr (base+i))=true)->(∀i,k<=i->i<n->bU O left key (aM arr (base+i))=false)->Q (some k) st):
  wpS Qi A E s (pZ left key arr base n hint) Q st:=by
 have mono:∀i j,i<=j->j<n->bU O left key (aM arr (base+j))=true->bU O left key (aM arr (base+i))=true:=λ i j ij jn b=>
  CD (hs (base+i) (base+j) Qa Qa Qa) b
 have monf:∀i j,i<=j->j<n->bU O left key (aM arr (base+i))=false->bU O left key (aM arr (base+j))=false:=λ i j ij jn b=>by
  cases q:bU O left key (aM arr (base+j))with
  |false=>rfl
  |true=>rw[mono i j ij jn q]at b;exact nomatch b
 unfold pZ
 refine wpS_bind (oZ C hk hkey harr hb hh ?_)
 dsimp only
 cases b0:bU O left key (aM arr (base+hint))
 ·simp only[Bool.false_eq_true,if_false]
  refine wpS_bind (wpS_mono (wpS_forRange (I:=λ x c st'=>st=st'/\∃l o,c=(none,l,o)/\x+1<=o/\l<o/\l<=hint/\bU O left key (aM arr (base+(hint-l)))=false) (Q:=λ c st'=>st=st'/\∃l o,c=(none,l,o)/\l<o/\l<=hint/\bU O left key (aM arr (base+(hint-l)))=false/\(o≥hint+1\/bU O left key (aM arr (base+(hint-o)))=true)) ?_ ?_ ⟨rfl,0,1,rfl,Qa,Qa,Qa,b0⟩) ?_)
  ·rintro i c st' _ hi ⟨rfl,l,o,rfl,ho,lo,lh,bl⟩
   dsimp only
   by_cases hc:o≥hint+1
   ·rw[if_pos hc]
    exact wpS_pure ⟨rfl,l,o,rfl,lo,lh,bl,.inl hc⟩
   ·rw[if_neg hc]
    refine wpS_bind (oZ C hk hkey harr hb Qa ?_)
    cases b1:bU O left key (aM arr (base+(hint-o)))
    ·exact wpS_pure ⟨rfl,_,_,rfl,Qa,Qa,Qa,b1⟩
    ·exact wpS_pure ⟨rfl,_,_,rfl,lo,lh,bl,.inr b1⟩
  ·rintro c st' ⟨rfl,l,o,rfl,ho,lo,lh,bl⟩
   exact⟨rfl,l,o,rfl,lo,lh,bl,.inl Qa⟩
  ·rintro c st' ⟨rfl,l,o,rfl,lo,lh,bl,ho⟩
   dsimp only
   have i1:∀i,i<hint+1-min o (hint+1)->bU O left key (aM arr (base+i))=true:=λ i hi=>by
    rcases ho with ho|ho
    ·omega
    ·exact mono i (hint-o) Qa Qa ho
   have i2:∀i,hint-l<=i->i<n->bU O left key (aM arr (base+i))=false:=λ i h1 h2=>monf (hint-l) i h1 h2 bl
   refine wpS_bind (wpS_mono (wpS_forRange (I:=λ x c st'=>st=st'/\∃lo hi,c=(none,lo,hi)/\lo<=hi/\hi<=n/\hi-lo<=n-x/\(∀i,i<lo->bU O left key (aM arr (base+i))=true)/\∀i,hi<=i->i<n->bU O left key (aM arr (base+i))=false)
    (Q:=λ c st'=>st=st'/\∃lo hi,c=(none,lo,hi)/\hi<=n/\(∀i,i<hi->bU O left key (aM arr (base+i))=true)/\∀i,hi<=i->i<n->bU O left key (aM arr (base+i))=false) ?_ ?_ ⟨rfl,_,_,rfl,Qa,Qa,Qa,i1,i2⟩) ?_)
   ·rintro i c st' _ hi2 ⟨rfl,lo,hi,rfl,lh',hhi,ms,j1,j2⟩
    dsimp only
    by_cases hc:lo≥hi
    ·rw[if_pos hc]
     obtain rfl:lo=hi:=by omega
     exact wpS_pure ⟨rfl,lo,lo,rfl,hhi,j1,j2⟩
    ·rw[if_neg hc]
     refine wpS_bind (oZ C hk hkey harr hb Qa ?_)
     cases b1:bU O left key (aM arr (base+(lo+(hi-lo)/2)))
     ·exact wpS_pure ⟨rfl,_,_,rfl,Qa,Qa,Qa,j1,λ i h1 h2=>monf _ i h1 h2 b1⟩
     ·exact wpS_pure ⟨rfl,_,_,rfl,Qa,Qa,Qa,λ i h1=>mono i _ Qa Qa b1,j2⟩
   ·rintro c st' ⟨rfl,lo,hi,rfl,lh',hhi,ms,j1,j2⟩
    obtain rfl:lo=hi:=by omega
    exact⟨rfl,lo,lo,rfl,hhi,j1,j2⟩
   ·rintro c st' ⟨rfl,lo,hi,rfl,hhi,j1,j2⟩
    exact wpS_pure (h hi hhi j1 j2)
 ·simp only[if_true]
  refine wpS_bind (wpS_mono (wpS_forRange (I:=λ x c st'=>st=st'/\∃l o,c=(none,l,o)/\x+1<=o/\l<o/\hint+l<n/\bU O left key (aM arr (base+(hint+l)))=true) (Q:=λ c st'=>st=st'/\∃l o,c=(none,l,o)/\l<o/\hint+l<n/\bU O left key (aM arr (base+(hint+l)))=true/\(o≥n-hint\/bU O left key (aM arr (base+(hint+o)))=false)) ?_ ?_ ⟨rfl,0,1,rfl,Qa,Qa,Qa,b0⟩) ?_)
  ·rintro i c st' _ hi ⟨rfl,l,o,rfl,ho,lo,lh,bl⟩
   dsimp only
   by_cases hc:o≥n-hint
   ·rw[if_pos hc]
    exact wpS_pure ⟨rfl,l,o,rfl,lo,lh,bl,.inl hc⟩
   ·rw[if_neg hc]
    refine wpS_bind (oZ C hk hkey harr hb Qa ?_)
    cases b1:bU O left key (aM arr (base+(hint+o)))
    ·exact wpS_pure ⟨rfl,_,_,rfl,lo,lh,bl,.inr b1⟩
    ·exact wpS_pure ⟨rfl,_,_,rfl,Qa,Qa,Qa,b1⟩
  ·rintro c st' ⟨rfl,l,o,rfl,ho,lo,lh,bl⟩
   exact⟨rfl,l,o,rfl,lo,lh,bl,.inl Qa⟩
  ·rintro c st' ⟨rfl,l,o,rfl,lo,lh,bl,ho⟩
   dsimp only
   have i1:∀i,i<hint+l+1->bU O left key (aM arr (base+i))=true:=λ i hi=>mono i (hint+l) Qa Qa bl
   have i2:∀i,hint+min o (n-hint)<=i->i<n->bU O left key (aM arr (base+i))=false:=λ i h1 h2=>by
    rcases ho with ho|ho
    ·omega
    ·by_cases z:o<=n-hint
     ·exact monf (hint+o) i Qa h2 ho
     ·omega
   refine wpS_bind (wpS_mono (wpS_forRange (I:=λ x c st'=>st=st'/\∃lo hi,c=(none,lo,hi)/\lo<=hi/\hi<=n/\hi-lo<=n-x/\(∀i,i<lo->bU O left key (aM arr (base+i))=true)/\∀i,hi<=i->i<n->bU O left key (aM arr (base+i))=false)
    (Q:=λ c st'=>st=st'/\∃lo hi,c=(none,lo,hi)/\hi<=n/\(∀i,i<hi->bU O left key (aM arr (base+i))=true)/\∀i,hi<=i->i<n->bU O left key (aM arr (base+i))=false) ?_ ?_ ⟨rfl,_,_,rfl,Qa,Qa,Qa,i1,i2⟩) ?_)
   ·rintro i c st' _ hi2 ⟨rfl,lo,hi,rfl,lh',hhi,ms,j1,j2⟩
    dsimp only
    by_cases hc:lo≥hi
    ·rw[if_pos hc]
     obtain rfl:lo=hi:=by omega
     exact wpS_pure ⟨rfl,lo,lo,rfl,hhi,j1,j2⟩
    ·rw[if_neg hc]
     refine wpS_bind (oZ C hk hkey harr hb Qa ?_)
     cases b1:bU O left key (aM arr (base+(lo+(hi-lo)/2)))
     ·exact wpS_pure ⟨rfl,_,_,rfl,Qa,Qa,Qa,j1,λ i h1 h2=>monf _ i h1 h2 b1⟩
     ·exact wpS_pure ⟨rfl,_,_,rfl,Qa,Qa,Qa,λ i h1=>mono i _ Qa Qa b1,j2⟩
   ·rintro c st' ⟨rfl,lo,hi,rfl,lh',hhi,ms,j1,j2⟩
    obtain rfl:lo=hi:=by omega
    exact⟨rfl,lo,lo,rfl,hhi,j1,j2⟩
   ·rintro c st' ⟨rfl,lo,hi,rfl,hhi,j1,j2⟩
    exact wpS_pure (h hi hhi j1 j2)
theorem fO{arr:Array Keyed}{i:Nat}{x:Keyed}(h:arr[i]? =some x):aM arr i=x:=by unfold aM;rw[h];rfl
theorem mN{arr:Array Keyed}{i j:Nat}{x:Keyed}(h:x∈(arr.extract i j).toList):∃k,i<=k/\k<j/\arr[k]? =some x:=by
 rw[Array.mem_toList_iff,Array.mem_iff_getElem?]at h
 obtain⟨m,hm⟩:=h
 rw[Array.getElem?_extract]at hm
 split at hm
 ·exact⟨i+m,Qa,Qa,hm⟩
 ·exact nomatch hm
theorem Fl{arr:Array Keyed}{i:Nat}{x:Keyed}(h:x∈arr.toList.drop i):∃k,i<=k/\k<arr.size/\arr[k]? =some x:=by
 obtain⟨m,hm⟩:=List.mem_iff_getElem?.mp h
 rw[List.getElem?_drop,Array.getElem?_toList]at hm
 exact⟨i+m,Qa,(Array.getElem?_eq_some_iff.mp hm).1,hm⟩
theorem vA{arr:Array Keyed}{i:Nat}{x:Keyed}(h:x∈arr.toList.take i):∃k,k<i/\k<arr.size/\arr[k]? =some x:=by
 obtain⟨m,hm⟩:=List.mem_iff_getElem?.mp h
 rw[List.getElem?_take]at hm
 split at hm
 ·rw[Array.getElem?_toList]at hm
  exact⟨m,Qa,(Array.getElem?_eq_some_iff.mp hm).1,hm⟩
 ·exact nomatch hm
theorem Ah(C:dQ prog w A s κ a₀ O){st:SortSt}(hk:kindOf st=κ){left:Bool}{key:Keyed}{arr:Array Keyed}{base n hint:Nat}(hkey:key∈a₀)(harr:∀p,p∈arr->p∈a₀)(hb:base+n<=arr.size)(hh:hint<n)(hs:bC O arr base (base+n)){Q:Option Nat->SortSt->Prop}
  (h:∀k,k<=n->(∀x∈(arr.extract base (base+k)).toList,O.le x key)->(∀x∈(arr.extract (base+k) (base+n)).toList,O.le key x)->Q (some k) st):
  wpS Qi A E s (pZ left key arr base n hint) Q st:=
 uS C hk hkey harr hb hh hs λ k hk j1 j2=>h k hk
  (λ x hx=>by
   obtain⟨m,h1,h2,e⟩:=mN hx
   have:=j1 (m-base) Qa
   rw[show base+(m-base)=m from Qa,fO e]at this
   exact yC this)
  (λ x hx=>by
   obtain⟨m,h1,h2,e⟩:=mN hx
   have:=j2 (m-base) Qa Qa
   rw[show base+(m-base)=m from Qa,fO e]at this
   exact yD this)
end
def gE(O:SOrd)(a b out:Array Keyed):Prop:=out.Perm (a++b)/\out.toList.Pairwise O.le
theorem CL{O:SOrd}{a:Array Keyed}(h:bC O a 0 a.size):a.toList.Pairwise O.le:=by
 rw[List.pairwise_iff_getElem]
 intro i j hi hj hij
 simp only[Array.length_toList]at hi hj
 have:=h i j (Nat.zero_le _) (Nat.le_of_lt hij) hj
 unfold aM at this
 rw[Array.getElem?_eq_getElem hi,Array.getElem?_eq_getElem hj]at this
 simpa using this
theorem iD{O:SOrd}{a:Array Keyed}{i:Nat}{x z:Keyed}(h:bC O a 0 a.size)(e:a[i]? =some x)(hz:z∈a.toList.drop i):O.le x z:=by
 obtain⟨k,h1,h2,e2⟩:=Fl hz
 have:=h i k (Nat.zero_le _) h1 h2
 rw[fO e,fO e2]at this
 exact this
theorem kZ{α:Type}{l:List α}{i j:Nat}{x:α}(h:i<=j)(hx:x∈l.drop j):x∈l.drop i:=by
 obtain⟨k,rfl⟩:=Nat.exists_eq_add_of_le h
 rw[<-List.drop_drop]at hx
 exact List.mem_of_mem_drop hx
structure cN(O:SOrd)(a b out:Array Keyed)(ia ib:Nat):Prop where
 v:cF a b out ia ib
 s:out.toList.Pairwise O.le
 ua:∀x∈out.toList,∀y∈a.toList.drop ia,O.le x y
 ub:∀x∈out.toList,∀y∈b.toList.drop ib,O.le x y
section
variable{O:SOrd}{a b out:Array Keyed}{ia ib:Nat}
theorem rZ{a:Array Keyed}{i:Nat}{x y:Keyed}(h:a[i]? =some x)(h2:a[i]? =some y):y=x:=Option.some.inj (h2.symm.trans h)
theorem yG{a:Array Keyed}{i j:Nat}{x:Keyed}(h:a[j]? =some x)(hij:i<=j):x∈a.toList.drop i:=by
 rw[List.mem_iff_getElem?]
 exact⟨j-i,by rw[List.getElem?_drop,show i+(j-i)=j from Qa,Array.getElem?_toList];exact h⟩
theorem iV{a:Array Keyed}{i j:Nat}{x:Keyed}(h:x∈(a.extract i j).toList):x∈a.toList.drop i:=by
 obtain⟨k,h1,_,e⟩:=mN h
 exact yG e h1
theorem gR(sa:bC O a 0 a.size)(i j:Nat):(a.extract i j).toList.Pairwise O.le:=by
 rw[Array.toList_extract,List.extract_eq_drop_take]
 exact((CL sa).sublist (List.drop_sublist _ _)).sublist (List.take_sublist _ _)
theorem Ff(sa:bC O a 0 a.size){i j:Nat}{x z:Keyed}(hx:x∈(a.extract i j).toList)(hz:z∈a.toList.drop j):O.le x z:=by
 obtain⟨k,h1,h2,e⟩:=mN hx
 exact iD sa e (kZ (Nat.le_of_lt h2) hz)
theorem cN.start(sb:bC O b 0 b.size){p0:Keyed}(e0:b[0]? =some p0)(hF:∀x∈a.toList,O.le p0 x):cN O a b #[p0] 0 1 where
 v:=by
  unfold cF
  rw[show 1=0+1 from rfl,uY e0]
  exact List.Perm.refl _
 s:=List.pairwise_singleton _ _
 ua:=λ x hx y hy=>by
  have:x=p0:=by simpa using hx
  rw[this]
  exact hF y (List.mem_of_mem_drop hy)
 ub:=λ x hx y hy=>by
  have:x=p0:=by simpa using hx
  rw[this]
  exact iD sb e0 (kZ (Nat.zero_le _) hy)
theorem cN.pushA(h:cN O a b out ia ib)(sa:bC O a 0 a.size){x y:Keyed}(e:a[ia]? =some x)(e':a[ia]? =some y)(hb:∀z∈b.toList.drop ib,O.le x z):cN O a b (out.push y) (ia+1) ib:=by
 obtain rfl:=rZ e e'
 refine⟨h.v.pushA e,?_,λ u hu z hz=>?_,λ u hu z hz=>?_⟩
 ·rw[Array.toList_push,List.pairwise_append]
  exact⟨h.s,List.pairwise_singleton _ _,λ u hu z hz=>by rw[List.mem_singleton.mp hz];exact h.ua u hu _ (yG e (Nat.le_refl _))⟩
 ·rw[Array.toList_push,List.mem_append,List.mem_singleton]at hu
  rcases hu with hu|rfl
  ·exact h.ua u hu z (kZ (Nat.le_succ _) hz)
  ·exact iD sa e (kZ (Nat.le_succ _) hz)
 ·rw[Array.toList_push,List.mem_append,List.mem_singleton]at hu
  rcases hu with hu|rfl
  ·exact h.ub u hu z hz
  ·exact hb z hz
theorem cN.pushB(h:cN O a b out ia ib)(sb:bC O b 0 b.size){x y:Keyed}(e:b[ib]? =some x)(e':b[ib]? =some y)(ha:∀z∈a.toList.drop ia,O.le x z):cN O a b (out.push y) ia (ib+1):=by
 obtain rfl:=rZ e e'
 refine⟨h.v.pushB e,?_,λ u hu z hz=>?_,λ u hu z hz=>?_⟩
 ·rw[Array.toList_push,List.pairwise_append]
  exact⟨h.s,List.pairwise_singleton _ _,λ u hu z hz=>by rw[List.mem_singleton.mp hz];exact h.ub u hu _ (yG e (Nat.le_refl _))⟩
 ·rw[Array.toList_push,List.mem_append,List.mem_singleton]at hu
  rcases hu with hu|rfl
  ·exact h.ua u hu z hz
  ·exact ha z hz
 ·rw[Array.toList_push,List.mem_append,List.mem_singleton]at hu
  rcases hu with hu|rfl
  ·exact h.ub u hu z (kZ (Nat.le_succ _) hz)
  ·exact iD sb e (kZ (Nat.le_succ _) hz)
theorem cN.extA(k:Nat)(h:cN O a b out ia ib)(sa:bC O a 0 a.size)(hb:∀x∈(a.extract ia (ia+k)).toList,∀z∈b.toList.drop ib,O.le x z):cN O a b (out++a.extract ia (ia+k)) (ia+k) ib:=by
 refine⟨h.v.extA k,?_,λ u hu z hz=>?_,λ u hu z hz=>?_⟩
 ·rw[Array.toList_append,List.pairwise_append]
  exact⟨h.s,gR sa _ _,λ u hu z hz=>h.ua u hu z (iV hz)⟩
 ·rw[Array.toList_append,List.mem_append]at hu
  rcases hu with hu|hu
  ·exact h.ua u hu z (kZ (Nat.le_add_right _ _) hz)
  ·exact Ff sa hu hz
 ·rw[Array.toList_append,List.mem_append]at hu
  rcases hu with hu|hu
  ·exact h.ub u hu z hz
  ·exact hb u hu z hz
theorem cN.extB(k:Nat)(h:cN O a b out ia ib)(sb:bC O b 0 b.size)(ha:∀x∈(b.extract ib (ib+k)).toList,∀z∈a.toList.drop ia,O.le x z):cN O a b (out++b.extract ib (ib+k)) ia (ib+k):=by
 refine⟨h.v.extB k,?_,λ u hu z hz=>?_,λ u hu z hz=>?_⟩
 ·rw[Array.toList_append,List.pairwise_append]
  exact⟨h.s,gR sb _ _,λ u hu z hz=>h.ub u hu z (iV hz)⟩
 ·rw[Array.toList_append,List.mem_append]at hu
  rcases hu with hu|hu
  ·exact h.ua u hu z hz
  ·exact ha u hu z hz
 ·rw[Array.toList_append,List.mem_append]at hu
  rcases hu with hu|hu
  ·exact h.ub u hu z (kZ (Nat.le_add_right _ _) hz)
  ·exact Ff sb hu hz
theorem AN(a:Array Keyed)(i:Nat):(a.extract i a.size).toList=a.toList.drop i:=by
 rw[Array.toList_extract,List.extract_eq_drop_take,List.take_of_length_le Qb]
theorem cN.done(h:cN O a b out ia ib)(ha:ia<=a.size)(hb:ib<=b.size)(he:ia=a.size\/ib=b.size)(sa:bC O a 0 a.size)(sb:bC O b 0 b.size):gE O a b (out++a.extract ia a.size++b.extract ib b.size):=by
 refine⟨h.v.done ha hb,?_⟩
 have e:∀x∈a.toList.drop ia,∀z∈b.toList.drop ib,O.le x z:=λ x hx z hz=>by
  rcases he with rfl|rfl
  ·rw[List.drop_of_length_le Qb]at hx;exact nomatch hx
  ·rw[List.drop_of_length_le Qb]at hz;exact nomatch hz
 rw[Array.toList_append,Array.toList_append,List.pairwise_append,List.pairwise_append]
 refine⟨⟨h.s,gR sa _ _,λ u hu z hz=>h.ua u hu z (iV hz)⟩,gR sb _ _,λ u hu z hz=>?_⟩
 rw[List.mem_append]at hu
 rcases hu with hu|hu
 ·exact h.ub u hu z (iV hz)
 ·exact e u (iV hu) z (iV hz)
theorem cN.last(h:cN O a b out ia ib)(ha:ia+1=a.size)(hb:ib<=b.size)(hL:∀y∈b.toList,O.le y (aM a (a.size-1)))(sa:bC O a 0 a.size)(sb:bC O b 0 b.size):gE O a b (out++b.extract ib b.size++a.extract ia a.size):=by
 refine⟨h.v.last Qa hb,?_⟩
 have e:∀x∈a.toList.drop ia,∀z∈b.toList.drop ib,O.le z x:=λ x hx z hz=>by
  obtain⟨k,h1,h2,e⟩:=Fl hx
  have:=hL z (List.mem_of_mem_drop hz)
  rw[show a.size-1=k from Qa,fO e]at this
  exact this
 rw[Array.toList_append,Array.toList_append,List.pairwise_append,List.pairwise_append]
 refine⟨⟨h.s,gR sb _ _,λ u hu z hz=>h.ub u hu z (iV hz)⟩,gR sa _ _,λ u hu z hz=>?_⟩
 rw[List.mem_append]at hu
 rcases hu with hu|hu
 ·exact h.ua u hu z (iV hz)
 ·exact e z (iV hz) u (iV hu)
end
section
variable{prog:Program}{w:World}{A:Around}{E:Qh}{s:Shared}{a₀:Array Keyed}{κ:SortKind}{O:SOrd}
theorem Ag(C:dQ prog w A s κ a₀ O){st:SortSt}(hk:kindOf st=κ){left:Bool}{key:Keyed}{arr:Array Keyed}{base n hint:Nat}(hkey:key∈a₀)(harr:∀p,p∈arr->p∈a₀)(hb:base+n=arr.size)(hh:hint<n)(hs:bC O arr 0 arr.size){Q:Option Nat->SortSt->Prop}
  (h:∀k,k<=n->(∀x∈(arr.extract base (base+k)).toList,O.le x key)->(∀x∈arr.toList.drop (base+k),O.le key x)->Q (some k) st):
  wpS Qi A E s (pZ left key arr base n hint) Q st:=
 Ah C hk hkey harr (Nat.le_of_eq hb) hh (λ i j h1 h2 h3=>hs i j (Nat.zero_le _) h2 Qa) λ k hk j1 j2=>h k hk j1 λ x hx=>j2 x (by rw[hb,AN];exact hx)
theorem Af{M:Model}{β X:Type}{c:Prop}[Decidable c]{f:Unit->X->StateT SortSt Sem β}{m m':X}{Q:β->SortSt->Prop}{st:SortSt}(h:∀m,wpS M A E s (f () m) Q st):wpS M A E s (if c then f () m else f () m') Q st:=by
 split<;>exact h _
theorem Ae{M:Model}{β X Y:Type}{c d:Prop}[Decidable c][Decidable d]{f:Unit->X->Y->StateT SortSt Sem β}{n n':X}{o o':Y}{r:StateT SortSt Sem β}{Q:β->SortSt->Prop}{st:SortSt}(P:X->Y->Prop)(h1:c->d->wpS M A E s r Q st)(h2:c->¬d->P n' o')(h3:¬c->P n o)(h:∀n o,P n o->wpS M A E s (f () n o) Q st):wpS M A E s (if c then(if d then r else f () n' o')else f () n o) Q st:=by
 split
 ·split
  ·exact h1 ‹_› ‹_›
  ·exact h _ _ (h2 ‹_› ‹_›)
 ·exact h _ _ (h3 ‹_›)
theorem Ad{M:Model}{β X Y:Type}{c d e:Prop}[Decidable c][Decidable d][Decidable e]{f:Unit->X->Y->StateT SortSt Sem β}{n n':X}{o o':Y}{r r':StateT SortSt Sem β}{Q:β->SortSt->Prop}{st:SortSt}(P:X->Y->Prop)(h1:c->d->wpS M A E s r Q st)(h1':c->¬d->e->wpS M A E s r' Q st)(h2:c->¬d->¬e->P n' o')(h3:¬c->P n o)(h:∀n o,P n o->wpS M A E s (f () n o) Q st):wpS M A E s (if c then(if d then r else if e then r' else f () n' o')else f () n o) Q st:=by
 split
 ·split
  ·exact h1 ‹_› ‹_›
  ·split
   ·exact h1' ‹_› ‹_› ‹_›
   ·exact h _ _ (h2 ‹_› ‹_› ‹_›)
 ·exact h _ _ (h3 ‹_›)
abbrev DG(O:SOrd)(a b:Array Keyed)(st:SortSt)(i:Nat)(c:Option (Array Keyed)×Array Keyed×Nat×Nat×Nat)(st':SortSt):Prop:=∃out ia ib mg g,c=(none,out,ia,ib,mg)/\st'=eP st g/\cN O a b out ia ib/\ia+1<a.size/\ib<b.size/\i+1<=ia+ib
abbrev DD(O:SOrd)(a b:Array Keyed)(st:SortSt)(c:Option (Array Keyed)×Array Keyed×Nat×Nat×Nat)(st':SortSt):Prop:=∃r out ia ib mg g,c=(some r,out,ia,ib,mg)/\st'=eP st g/\gE O a b r
abbrev DF(O:SOrd)(a b:Array Keyed)(st:SortSt)(i:Nat)(g:Nat)(j:Nat)(c:Option (Array Keyed)×Array Keyed×Nat×Nat×Nat×Nat)(st':SortSt):Prop:=∃out ia ib ac bc,c=(none,out,ia,ib,ac,bc)/\st'=eP st g/\cN O a b out ia ib/\ia+1<a.size/\ib<b.size/\i+1+j<=ia+ib
abbrev DC(O:SOrd)(a b:Array Keyed)(st:SortSt)(i:Nat)(g:Nat)(c:Option (Array Keyed)×Array Keyed×Nat×Nat×Nat×Nat)(st':SortSt):Prop:=st'=eP st g/\((∃r out ia ib ac bc,c=(some r,out,ia,ib,ac,bc)/\gE O a b r)\/∃out ia ib ac bc,c=(none,out,ia,ib,ac,bc)/\cN O a b out ia ib/\ia+1<a.size/\ib<b.size/\i+1<=ia+ib)
abbrev DE(O:SOrd)(a b:Array Keyed)(st:SortSt)(i:Nat)(j:Nat)(c:Option (Array Keyed)×Array Keyed×Nat×Nat×Nat×Nat×Nat)(st':SortSt):Prop:=∃out ia ib mg ac bc g,c=(none,out,ia,ib,mg,ac,bc)/\st'=eP st g/\cN O a b out ia ib/\ia+1<a.size/\ib<b.size/\i+1+j<=ia+ib
abbrev DB(O:SOrd)(a b:Array Keyed)(st:SortSt)(i:Nat)(c:Option (Array Keyed)×Array Keyed×Nat×Nat×Nat×Nat×Nat)(st':SortSt):Prop:=∃g,st'=eP st g/\((∃r out ia ib mg ac bc,c=(some r,out,ia,ib,mg,ac,bc)/\gE O a b r)\/∃out ia ib mg ac bc,c=(none,out,ia,ib,mg,ac,bc)/\cN O a b out ia ib/\ia+1<a.size/\ib<b.size/\i+2<=ia+ib)
theorem Hx(C:dQ prog w A s κ a₀ O){st:SortSt}(hk:kindOf st=κ){a b:Array Keyed}(ha:∀p,p∈a->p∈a₀)(hb:∀p,p∈b->p∈a₀)(na:1<=a.size)(nb:1<=b.size)(sa:bC O a 0 a.size)(sb:bC O b 0 b.size)(hF:∀x∈a.toList,O.le (aM b 0) x)(hL:∀y∈b.toList,O.le y (aM a (a.size-1))){Q:Array Keyed->SortSt->Prop}(h:∀out g,gE O a b out->Q out (eP st g)):
  wpS Qi A E s (Dq a b) Q st:=by
 unfold Dq
 have hkg:∀g,kindOf (eP st g)=κ:=λ _=>hk
 refine wpS_bind (wpS_lift (wpAny_rule ⟨rfl,?_⟩))
 try dsimp-zeta-zetaHave only
 refine wpS_bind (dR nb λ p0 e0 _=>?_)
 have v0:cN O a b #[p0] 0 1:=cN.start sb e0 (λ x hx=>fO e0▸hF x hx)
 by_cases c1:(1==b.size)=true
 ·rw[if_pos c1]
  exact wpS_pure (h _ (gallopOf st) (v0.done Qa nb (.inr (eq_of_beq c1)) sa sb))
 rw[if_neg c1]
 by_cases c2:(0+1==a.size)=true
 ·rw[if_pos c2]
  exact wpS_pure (h _ (gallopOf st) (v0.last (eq_of_beq c2) nb hL sa sb))
 rw[if_neg c2]
 simp only[beq_iff_eq]at c1 c2
 refine wpS_bind (wpS_get ?_)
 refine wpS_bind (wpS_mono (wpS_forRange (I:=DG O a b st)
  (Q:=DD O a b st) ?_ ?_ ⟨_,0,1,_,gallopOf st,rfl,rfl,v0,Qa,Qa,Qa⟩) ?_)
 ·rintro i c st' _ hi ⟨out,ia,ib,mg,g,rfl,rfl,v,la,lb,hp⟩
  try dsimp-zeta-zetaHave only
  refine wpS_bind (wpS_mono (wpS_forRange (I:=DF O a b st i g)
   (Q:=DC O a b st i g) ?_ ?_ ⟨_,_,_,_,_,rfl,rfl,v,la,lb,Qa⟩) ?_)
  ·skip
   rintro j c st' _ _ ⟨out,ia,ib,ac,bc,rfl,rfl,v,la,lb,hp⟩
   try dsimp only
   refine wpS_bind (dR lb λ p ep hpm=>?_)
   refine wpS_bind (dR Qa λ q eq hqm=>?_)
   refine wpS_bind (oY C (hkg _) (hb p hpm) (ha q hqm) ?_)
   try dsimp only
   cases bw:O.blt p q
   ·simp only[Bool.false_eq_true,if_false]
    refine wpS_bind (dR Qa λ q' eq' _=>?_)
    have v2:=v.pushA sa eq eq' (λ z hz=>SOrd.le_trans bw (iD sb ep hz))
    by_cases d1:(ia+1+1==a.size)=true
    ·rw[if_pos d1]
     simp only[beq_iff_eq]at d1
     exact wpS_pure ⟨rfl,.inl ⟨_,_,_,_,_,_,rfl,v2.last Qa Qa hL sa sb⟩⟩
    ·rw[if_neg d1]
     simp only[beq_iff_eq]at d1
     split
     ·exact wpS_pure ⟨rfl,.inr ⟨_,_,_,_,_,rfl,v2,Qa,Qa,Qa⟩⟩
     ·exact wpS_pure ⟨_,_,_,_,_,rfl,rfl,v2,Qa,Qa,Qa⟩
   ·simp only[if_true]
    refine wpS_bind (dR lb λ q' eq' _=>?_)
    have v2:=v.pushB sb ep eq' (λ z hz=>SOrd.le_trans (SOrd.le_of_lt bw) (iD sa eq hz))
    by_cases d1:(ib+1==b.size)=true
    ·rw[if_pos d1]
     simp only[beq_iff_eq]at d1
     exact wpS_pure ⟨rfl,.inl ⟨_,_,_,_,_,_,rfl,v2.done Qa Qa Qa sa sb⟩⟩
    ·rw[if_neg d1]
     simp only[beq_iff_eq]at d1
     split
     ·exact wpS_pure ⟨rfl,.inr ⟨_,_,_,_,_,rfl,v2,Qa,Qa,Qa⟩⟩
     ·exact wpS_pure ⟨_,_,_,_,_,rfl,rfl,v2,Qa,Qa,Qa⟩
  ·rintro c st' ⟨out,ia,ib,ac,bc,rfl,rfl,v,la,lb,hp⟩
   exact⟨rfl,.inr ⟨_,_,_,_,_,rfl,v,la,lb,Qa⟩⟩
  ·skip
   rintro c st' ⟨rfl,⟨r,out,ia,ib,ac,bc,rfl,hr⟩|⟨out,ia,ib,ac,bc,rfl,v,la,lb,hp⟩⟩
   ·exact wpS_pure ⟨_,_,_,_,_,_,rfl,rfl,hr⟩
   try dsimp-zeta-zetaHave only
   refine wpS_bind (wpS_lift (wpAny_rule ⟨rfl,?_⟩))
   try dsimp-zeta-zetaHave only
   refine wpS_bind (wpS_mono (wpS_forRange (I:=DE O a b st i)
    (Q:=DB O a b st i) ?_ ?_ ⟨_,_,_,_,_,_,g,rfl,rfl,v,la,lb,Qa⟩) ?_)
   ·rintro j c st' _ _ ⟨out,ia,ib,mg,ac,bc,g,rfl,rfl,v,la,lb,hp⟩
    extract_lets _ out1 _ ia1 _ ib1 _ mg1 _ ac1 bc1 jb jp
    refine Af (f:=jp) λ m=>?_
    refine wpS_bind (wpS_modify ?_)
    refine wpS_bind (dR (i:=ib) lb λ q1 eq1 hq1=>?_)
    refine wpS_bind (Ag (base:=ia) (n:=a.size-ia) (hint:=0) C (hkg _) (hb q1 hq1) ha Qa Qa sa λ k1 hk1 G1 G2=>?_)
    dsimp-zeta-zetaHave only
    extract_lets ack jp2
    refine Ad (f:=jp2) (λ o ix=>cN O a b o ix ib/\ix+1<a.size/\ia<=ix/\∀x∈a.toList.drop ix,O.le q1 x) (λ c d=>?_) (λ c d e=>?_) (λ c d e=>?_) (λ c=>?_) ?_
    ·exact wpS_pure ⟨_,rfl,.inl ⟨_,_,_,_,_,_,_,rfl,(v.extA k1 sa (λ x hx z hz=>SOrd.le_trans (G1 x hx) (iD sb eq1 hz))).last (eq_of_beq d) Qa hL sa sb⟩⟩
    ·exact wpS_pure ⟨_,rfl,.inl ⟨_,_,_,_,_,_,_,rfl,(v.extA k1 sa (λ x hx z hz=>SOrd.le_trans (G1 x hx) (iD sb eq1 hz))).done Qa Qa (.inl (eq_of_beq e)) sa sb⟩⟩
    ·have d:¬ia+k1+1=a.size:=λ h=>d (beq_iff_eq.mpr h)
     have e:¬ia+k1=a.size:=λ h=>e (beq_iff_eq.mpr h)
     exact⟨v.extA k1 sa (λ x hx z hz=>SOrd.le_trans (G1 x hx) (iD sb eq1 hz)),(by omega:ia+k1+1<a.size),Nat.le_add_right _ _,G2⟩
    ·have c:¬k1>0:=c
     rw[show ia+k1=ia from Qa]at G2
     exact⟨v,la,Nat.le_refl _,G2⟩
    rintro o1 ix ⟨v1,l1,z1,F1⟩
    refine wpS_bind (dR (i:=ib) lb λ q2 eq2 _=>?_)
    have v2:=v1.pushB sb eq1 eq2 F1
    extract_lets o2
    split
    ·rename_i d1
     exact wpS_pure ⟨_,rfl,.inl ⟨_,_,_,_,_,_,_,rfl,v2.done Qa Qa (.inr (eq_of_beq d1)) sa sb⟩⟩
    rename_i d1
    have d1:¬ib+1=b.size:=λ h=>d1 (beq_iff_eq.mpr h)
    refine wpS_bind (dR (i:=ix) Qa λ q3 eq3 hq3=>?_)
    refine wpS_bind (Ag (base:=ib+1) (n:=b.size-(ib+1)) (hint:=0) C (hkg _) (ha q3 hq3) hb Qa Qa sb λ k2 hk2 G3 G4=>?_)
    dsimp-zeta-zetaHave only
    extract_lets bck jp3
    refine Ae (f:=jp3) (λ o iy=>cN O a b o ix iy/\iy<b.size/\ib+1<=iy/\∀x∈b.toList.drop iy,O.le q3 x) (λ c d=>?_) (λ c d=>?_) (λ c=>?_) ?_
    ·exact wpS_pure ⟨_,rfl,.inl ⟨_,_,_,_,_,_,_,rfl,(v2.extB k2 sb (λ x hx z hz=>SOrd.le_trans (G3 x hx) (iD sa eq3 hz))).done Qa Qa (.inr (eq_of_beq d)) sa sb⟩⟩
    ·have d:¬ib+1+k2=b.size:=λ h=>d (beq_iff_eq.mpr h)
     exact⟨v2.extB k2 sb (λ x hx z hz=>SOrd.le_trans (G3 x hx) (iD sa eq3 hz)),(by omega:ib+1+k2<b.size),Nat.le_add_right _ _,G4⟩
    ·have c:¬k2>0:=c
     rw[show ib+1+k2=ib+1 from Qa]at G4
     exact⟨v2,(by omega:ib+1<b.size),Nat.le_refl _,G4⟩
    rintro o3 iy ⟨v3,l3,z3,F3⟩
    refine wpS_bind (dR (i:=ix) Qa λ q4 eq4 _=>?_)
    have v4:=v3.pushA sa eq3 eq4 F3
    extract_lets o4
    split
    ·rename_i f1
     exact wpS_pure ⟨_,rfl,.inl ⟨_,_,_,_,_,_,_,rfl,v4.last (eq_of_beq f1) Qa hL sa sb⟩⟩
    rename_i f1
    have f1:¬ix+1+1=a.size:=λ h=>f1 (beq_iff_eq.mpr h)
    have B:ix+1+1<a.size/\i+2<=ix+1+iy/\i+1+(j+1)<=ix+1+iy:=by omega
    split
    ·exact wpS_pure ⟨_,rfl,.inr ⟨_,_,_,_,_,_,rfl,v4,B.1,l3,B.2.1⟩⟩
    ·exact wpS_pure ⟨_,_,_,_,_,_,_,rfl,rfl,v4,B.1,l3,B.2.2⟩
   ·rintro c st' ⟨out,ia,ib,mg,ac,bc,g,rfl,rfl,v,la,lb,hp⟩
    exact absurd hp Qa
   ·skip
    rintro c st' ⟨g,rfl,⟨r,out,ia,ib,mg,ac,bc,rfl,hr⟩|⟨out,ia,ib,mg,ac,bc,rfl,v,la,lb,hp⟩⟩
    ·exact wpS_pure ⟨_,_,_,_,_,_,rfl,rfl,hr⟩
    ·exact wpS_bind (wpS_modify (wpS_pure ⟨_,_,_,_,_,rfl,rfl,v,la,lb,Qa⟩))
 ·rintro c st' ⟨out,ia,ib,mg,g,rfl,rfl,v,la,lb,hp⟩
  exact absurd hp Qa
 ·rintro c st' ⟨r,out,ia,ib,mg,g,rfl,rfl,hr⟩
  exact wpS_pure (h r g hr)
end
theorem iK{O:SOrd}{a:Array Keyed}{i:Nat}{x z:Keyed}(h:bC O a 0 a.size)(e:a[i-1]? =some x)(hz:z∈a.toList.take i):O.le z x:=by
 obtain⟨k,h1,h2,e2⟩:=vA hz
 have hl:i-1<a.size:=(Array.getElem?_eq_some_iff.mp e).1
 have:=h k (i-1) (Nat.zero_le _) Qa hl
 rw[fO e,fO e2]at this
 exact this
theorem lI{α:Type}{l:List α}{i j:Nat}{x:α}(h:i<=j)(hx:x∈l.take i):x∈l.take j:=by
 rw[<-Nat.min_eq_left h,<-List.take_take]at hx
 exact List.mem_of_mem_take hx
structure cO(O:SOrd)(a b out:Array Keyed)(na nb:Nat):Prop where
 v:cU a b out na nb
 s:out.toList.Pairwise (λ x y=>O.le y x)
 ua:∀x∈out.toList,∀y∈a.toList.take na,O.le y x
 ub:∀x∈out.toList,∀y∈b.toList.take nb,O.le y x
section
variable{O:SOrd}{a b out:Array Keyed}{na nb:Nat}
theorem yF{a:Array Keyed}{i j:Nat}{x:Keyed}(h:a[j]? =some x)(hij:j<i):x∈a.toList.take i:=by
 rw[List.mem_iff_getElem?]
 exact⟨j,by rw[List.getElem?_take,if_pos hij,Array.getElem?_toList];exact h⟩
theorem iU{a:Array Keyed}{i j:Nat}{x:Keyed}(h:x∈(a.extract i j).toList):x∈a.toList.take j:=by
 obtain⟨k,_,h1,e⟩:=mN h
 exact yF e h1
theorem Fg(sa:bC O a 0 a.size){i j:Nat}{x z:Keyed}(hx:x∈(a.extract i j).toList)(hz:z∈a.toList.take i):O.le z x:=by
 obtain⟨k,h1,h2,e⟩:=mN hx
 obtain⟨m,g1,g2,e2⟩:=vA hz
 have:=sa m k (Nat.zero_le _) Qa (Array.getElem?_eq_some_iff.mp e).1
 rw[fO e,fO e2]at this
 exact this
theorem cO.start(sa:bC O a 0 a.size)(h1:1<=a.size){p0:Keyed}(e0:a[a.size-1]? =some p0)(hL:∀y∈b.toList,O.le y p0):cO O a b #[p0] (a.size-1) b.size where
 v:=by
  unfold cU
  rw[xU h1 e0,List.drop_of_length_le Qb,List.drop_of_length_le Qb]
  exact List.Perm.refl _
 s:=List.pairwise_singleton _ _
 ua:=λ x hx y hy=>by
  have:x=p0:=by simpa using hx
  rw[this]
  exact iK sa e0 (lI Qa hy)
 ub:=λ x hx y hy=>by
  have:x=p0:=by simpa using hx
  rw[this]
  exact hL y (List.mem_of_mem_take hy)
theorem cO.pushA(h:cO O a b out na nb)(h1:1<=na)(sa:bC O a 0 a.size){x y:Keyed}(e:a[na-1]? =some x)(e':a[na-1]? =some y)(hb:∀z∈b.toList.take nb,O.le z x):cO O a b (out.push y) (na-1) nb:=by
 obtain rfl:=rZ e e'
 refine⟨h.v.pushA h1 e,?_,λ u hu z hz=>?_,λ u hu z hz=>?_⟩
 ·rw[Array.toList_push,List.pairwise_append]
  exact⟨h.s,List.pairwise_singleton _ _,λ u hu z hz=>by rw[List.mem_singleton.mp hz];exact h.ua u hu _ (yF e Qa)⟩
 ·rw[Array.toList_push,List.mem_append,List.mem_singleton]at hu
  rcases hu with hu|rfl
  ·exact h.ua u hu z (lI (Nat.sub_le _ _) hz)
  ·exact iK sa e (lI (Nat.sub_le _ _) hz)
 ·rw[Array.toList_push,List.mem_append,List.mem_singleton]at hu
  rcases hu with hu|rfl
  ·exact h.ub u hu z hz
  ·exact hb z hz
theorem cO.pushB(h:cO O a b out na nb)(h1:1<=nb)(sb:bC O b 0 b.size){x y:Keyed}(e:b[nb-1]? =some x)(e':b[nb-1]? =some y)(ha:∀z∈a.toList.take na,O.le z x):cO O a b (out.push y) na (nb-1):=by
 obtain rfl:=rZ e e'
 refine⟨h.v.pushB h1 e,?_,λ u hu z hz=>?_,λ u hu z hz=>?_⟩
 ·rw[Array.toList_push,List.pairwise_append]
  exact⟨h.s,List.pairwise_singleton _ _,λ u hu z hz=>by rw[List.mem_singleton.mp hz];exact h.ub u hu _ (yF e Qa)⟩
 ·rw[Array.toList_push,List.mem_append,List.mem_singleton]at hu
  rcases hu with hu|rfl
  ·exact h.ua u hu z hz
  ·exact ha z hz
 ·rw[Array.toList_push,List.mem_append,List.mem_singleton]at hu
  rcases hu with hu|rfl
  ·exact h.ub u hu z (lI (Nat.sub_le _ _) hz)
  ·exact iK sb e (lI (Nat.sub_le _ _) hz)
theorem Ch{l:List Keyed}(h:l.Pairwise O.le):l.reverse.Pairwise (λ x y=>O.le y x):=List.pairwise_reverse.mpr h
theorem cO.extA(m:Nat)(h:cO O a b out na nb)(hm:m<=na)(sa:bC O a 0 a.size)(hb:∀x∈(a.extract m na).toList,∀z∈b.toList.take nb,O.le z x):cO O a b (out++(a.extract m na).reverse) m nb:=by
 refine⟨h.v.extA m hm,?_,λ u hu z hz=>?_,λ u hu z hz=>?_⟩
 ·rw[Array.toList_append,Array.toList_reverse,List.pairwise_append]
  exact⟨h.s,Ch (gR sa _ _),λ u hu z hz=>h.ua u hu z (iU (List.mem_reverse.mp hz))⟩
 ·rw[Array.toList_append,Array.toList_reverse,List.mem_append,List.mem_reverse]at hu
  rcases hu with hu|hu
  ·exact h.ua u hu z (lI hm hz)
  ·exact Fg sa hu hz
 ·rw[Array.toList_append,Array.toList_reverse,List.mem_append,List.mem_reverse]at hu
  rcases hu with hu|hu
  ·exact h.ub u hu z hz
  ·exact hb u hu z hz
theorem cO.extB(m:Nat)(h:cO O a b out na nb)(hm:m<=nb)(sb:bC O b 0 b.size)(ha:∀x∈(b.extract m nb).toList,∀z∈a.toList.take na,O.le z x):cO O a b (out++(b.extract m nb).reverse) na m:=by
 refine⟨h.v.extB m hm,?_,λ u hu z hz=>?_,λ u hu z hz=>?_⟩
 ·rw[Array.toList_append,Array.toList_reverse,List.pairwise_append]
  exact⟨h.s,Ch (gR sb _ _),λ u hu z hz=>h.ub u hu z (iU (List.mem_reverse.mp hz))⟩
 ·rw[Array.toList_append,Array.toList_reverse,List.mem_append,List.mem_reverse]at hu
  rcases hu with hu|hu
  ·exact h.ua u hu z hz
  ·exact ha u hu z hz
 ·rw[Array.toList_append,Array.toList_reverse,List.mem_append,List.mem_reverse]at hu
  rcases hu with hu|hu
  ·exact h.ub u hu z (lI hm hz)
  ·exact Fg sb hu hz
theorem cO.done(h:cO O a b out na nb)(he:na=0\/nb=0)(sa:bC O a 0 a.size)(sb:bC O b 0 b.size):gE O a b (a.extract 0 na++b.extract 0 nb++out.reverse):=by
 refine⟨h.v.done,?_⟩
 have e:∀x∈a.toList.take na,∀z∈b.toList.take nb,O.le x z:=λ x hx z hz=>by
  rcases he with rfl|rfl
  ·exact nomatch hx
  ·exact nomatch hz
 rw[Array.toList_append,Array.toList_append,Array.toList_reverse,List.pairwise_append,List.pairwise_append]
 refine⟨⟨gR sa _ _,gR sb _ _,λ u hu z hz=>e u (iU hu) z (iU hz)⟩,List.pairwise_reverse.mpr h.s,λ u hu z hz=>?_⟩
 rw[List.mem_reverse]at hz
 rw[List.mem_append]at hu
 rcases hu with hu|hu
 ·exact h.ua z hz u (iU hu)
 ·exact h.ub z hz u (iU hu)
theorem cO.first(h:cO O a b out na nb)(h1:nb=1)(hF:∀x∈a.toList,O.le (aM b 0) x)(sa:bC O a 0 a.size)(sb:bC O b 0 b.size):gE O a b (b.extract 0 nb++a.extract 0 na++out.reverse):=by
 refine⟨h.v.first,?_⟩
 have e:∀x∈a.toList.take na,∀z∈b.toList.take nb,O.le z x:=λ x hx z hz=>by
  obtain⟨k,g1,g2,e⟩:=vA hz
  have:=hF x (List.mem_of_mem_take hx)
  rw[show 0=k from Qa,fO e]at this
  exact this
 rw[Array.toList_append,Array.toList_append,Array.toList_reverse,List.pairwise_append,List.pairwise_append]
 refine⟨⟨gR sb _ _,gR sa _ _,λ u hu z hz=>e z (iU hz) u (iU hu)⟩,List.pairwise_reverse.mpr h.s,λ u hu z hz=>?_⟩
 rw[List.mem_reverse]at hz
 rw[List.mem_append]at hu
 rcases hu with hu|hu
 ·exact h.ub z hz u (iU hu)
 ·exact h.ua z hz u (iU hu)
end
section
variable{prog:Program}{w:World}{A:Around}{E:Qh}{s:Shared}{a₀:Array Keyed}{κ:SortKind}{O:SOrd}
theorem AK(a:Array Keyed)(i:Nat):(a.extract 0 i).toList=a.toList.take i:=by
 rw[Array.toList_extract,List.extract_eq_drop_take,List.drop_zero,Nat.sub_zero]
theorem Ai(C:dQ prog w A s κ a₀ O){st:SortSt}(hk:kindOf st=κ){left:Bool}{key:Keyed}{arr:Array Keyed}{n hint:Nat}(hkey:key∈a₀)(harr:∀p,p∈arr->p∈a₀)(hb:n<=arr.size)(hh:hint<n)(hs:bC O arr 0 arr.size){Q:Option Nat->SortSt->Prop}
  (h:∀k,k<=n->(∀x∈arr.toList.take k,O.le x key)->(∀x∈(arr.extract k n).toList,O.le key x)->Q (some k) st):
  wpS Qi A E s (pZ left key arr 0 n hint) Q st:=
 Ah C hk hkey harr Qa hh (λ i j h1 h2 h3=>hs i j (Nat.zero_le _) h2 Qa) λ k hk j1 j2=>h k hk (λ x hx=>j1 x (by rw[Nat.zero_add,AK];exact hx)) (λ x hx=>j2 x (by rw[Nat.zero_add,Nat.zero_add];exact hx))
abbrev DN(O:SOrd)(a b:Array Keyed)(st:SortSt)(i:Nat)(c:Option (Array Keyed)×Nat×Nat×Array Keyed×Nat)(st':SortSt):Prop:=∃na nb out mg g,c=(none,na,nb,out,mg)/\st'=eP st g/\cO O a b out na nb/\1<=na/\2<=nb/\na<=a.size/\nb<=b.size/\i+na+nb+1<=a.size+b.size
abbrev DK(O:SOrd)(a b:Array Keyed)(st:SortSt)(c:Option (Array Keyed)×Nat×Nat×Array Keyed×Nat)(st':SortSt):Prop:=∃r na nb out mg g,c=(some r,na,nb,out,mg)/\st'=eP st g/\gE O a b r
abbrev DM(O:SOrd)(a b:Array Keyed)(st:SortSt)(i:Nat)(g:Nat)(j:Nat)(c:Option (Array Keyed)×Nat×Nat×Array Keyed×Nat×Nat)(st':SortSt):Prop:=∃na nb out ac bc,c=(none,na,nb,out,ac,bc)/\st'=eP st g/\cO O a b out na nb/\1<=na/\2<=nb/\na<=a.size/\nb<=b.size/\i+j+na+nb+1<=a.size+b.size
abbrev DJ(O:SOrd)(a b:Array Keyed)(st:SortSt)(i:Nat)(g:Nat)(c:Option (Array Keyed)×Nat×Nat×Array Keyed×Nat×Nat)(st':SortSt):Prop:=st'=eP st g/\((∃r na nb out ac bc,c=(some r,na,nb,out,ac,bc)/\gE O a b r)\/∃na nb out ac bc,c=(none,na,nb,out,ac,bc)/\cO O a b out na nb/\1<=na/\2<=nb/\na<=a.size/\nb<=b.size/\i+na+nb+1<=a.size+b.size)
abbrev DL(O:SOrd)(a b:Array Keyed)(st:SortSt)(i:Nat)(j:Nat)(c:Option (Array Keyed)×Nat×Nat×Array Keyed×Nat×Nat×Nat)(st':SortSt):Prop:=∃na nb out mg ac bc g,c=(none,na,nb,out,mg,ac,bc)/\st'=eP st g/\cO O a b out na nb/\1<=na/\2<=nb/\na<=a.size/\nb<=b.size/\i+j+na+nb+1<=a.size+b.size
abbrev DI(O:SOrd)(a b:Array Keyed)(st:SortSt)(i:Nat)(c:Option (Array Keyed)×Nat×Nat×Array Keyed×Nat×Nat×Nat)(st':SortSt):Prop:=∃g,st'=eP st g/\((∃r na nb out mg ac bc,c=(some r,na,nb,out,mg,ac,bc)/\gE O a b r)\/∃na nb out mg ac bc,c=(none,na,nb,out,mg,ac,bc)/\cO O a b out na nb/\1<=na/\2<=nb/\na<=a.size/\nb<=b.size/\i+na+nb+2<=a.size+b.size)
theorem Hy(C:dQ prog w A s κ a₀ O){st:SortSt}(hk:kindOf st=κ){a b:Array Keyed}(ha:∀p,p∈a->p∈a₀)(hb:∀p,p∈b->p∈a₀)(na1:1<=a.size)(nb1:1<=b.size)(sa:bC O a 0 a.size)(sb:bC O b 0 b.size)(hF:∀x∈a.toList,O.le (aM b 0) x)(hL:∀y∈b.toList,O.le y (aM a (a.size-1))){Q:Array Keyed->SortSt->Prop}(h:∀out g,gE O a b out->Q out (eP st g)):
  wpS Qi A E s (Dr a b) Q st:=by
 unfold Dr
 have hkg:∀g,kindOf (eP st g)=κ:=λ _=>hk
 refine wpS_bind (wpS_lift (wpAny_rule ⟨rfl,?_⟩))
 try dsimp-zeta-zetaHave only
 refine wpS_bind (dR Qa λ p0 e0 _=>?_)
 have v0:cO O a b #[p0] (a.size-1) b.size:=cO.start sa na1 e0 (λ y hy=>fO e0▸hL y hy)
 by_cases c1:(a.size-1==0)=true
 ·rw[if_pos c1]
  exact wpS_pure (h _ (gallopOf st) (v0.done (.inl (eq_of_beq c1)) sa sb))
 rw[if_neg c1]
 by_cases c2:(b.size==1)=true
 ·rw[if_pos c2]
  exact wpS_pure (h _ (gallopOf st) (v0.first (eq_of_beq c2) hF sa sb))
 rw[if_neg c2]
 simp only[beq_iff_eq]at c1 c2
 refine wpS_bind (wpS_get ?_)
 refine wpS_bind (wpS_mono (wpS_forRange (I:=DN O a b st)
  (Q:=DK O a b st) ?_ ?_ ⟨_,_,_,_,gallopOf st,rfl,rfl,v0,Qa,Qa,Qa,Qa,Qa⟩) ?_)
 ·rintro i c st' _ hi ⟨na,nb,out,mg,g,rfl,rfl,v,la,lb,za,zb,hp⟩
  try dsimp-zeta-zetaHave only
  refine wpS_bind (wpS_mono (wpS_forRange (I:=DM O a b st i g)
   (Q:=DJ O a b st i g) ?_ ?_ ⟨_,_,_,_,_,rfl,rfl,v,la,lb,za,zb,Qa⟩) ?_)
  ·rintro j c st' _ _ ⟨na,nb,out,ac,bc,rfl,rfl,v,la,lb,za,zb,hp⟩
   try dsimp only
   refine wpS_bind (dR Qa λ p ep hpm=>?_)
   refine wpS_bind (dR Qa λ q eq hqm=>?_)
   refine wpS_bind (oY C (hkg _) (hb p hpm) (ha q hqm) ?_)
   try dsimp only
   cases bw:O.blt p q
   ·simp only[Bool.false_eq_true,if_false]
    refine wpS_bind (dR Qa λ q' eq' _=>?_)
    have v2:=v.pushB Qa sb ep eq' (λ z hz=>SOrd.le_trans (iK sa eq hz) bw)
    by_cases d1:(nb-1==1)=true
    ·rw[if_pos d1]
     simp only[beq_iff_eq]at d1
     exact wpS_pure ⟨rfl,.inl ⟨_,_,_,_,_,_,rfl,v2.first Qa hF sa sb⟩⟩
    ·rw[if_neg d1]
     simp only[beq_iff_eq]at d1
     split
     ·exact wpS_pure ⟨rfl,.inr ⟨_,_,_,_,_,rfl,v2,Qa,Qa,Qa,Qa,Qa⟩⟩
     ·exact wpS_pure ⟨_,_,_,_,_,rfl,rfl,v2,Qa,Qa,Qa,Qa,Qa⟩
   ·simp only[if_true]
    refine wpS_bind (dR Qa λ q' eq' _=>?_)
    have v2:=v.pushA Qa sa eq eq' (λ z hz=>SOrd.le_trans (iK sb ep hz) (SOrd.le_of_lt bw))
    by_cases d1:(na-1==0)=true
    ·rw[if_pos d1]
     simp only[beq_iff_eq]at d1
     exact wpS_pure ⟨rfl,.inl ⟨_,_,_,_,_,_,rfl,v2.done Qa sa sb⟩⟩
    ·rw[if_neg d1]
     simp only[beq_iff_eq]at d1
     split
     ·exact wpS_pure ⟨rfl,.inr ⟨_,_,_,_,_,rfl,v2,Qa,Qa,Qa,Qa,Qa⟩⟩
     ·exact wpS_pure ⟨_,_,_,_,_,rfl,rfl,v2,Qa,Qa,Qa,Qa,Qa⟩
  ·rintro c st' ⟨na,nb,out,ac,bc,rfl,rfl,v,la,lb,za,zb,hp⟩
   exact⟨rfl,.inr ⟨_,_,_,_,_,rfl,v,la,lb,za,zb,Qa⟩⟩
  ·rintro c st' ⟨rfl,⟨r,na,nb,out,ac,bc,rfl,hr⟩|⟨na,nb,out,ac,bc,rfl,v,la,lb,za,zb,hp⟩⟩
   ·exact wpS_pure ⟨_,_,_,_,_,_,rfl,rfl,hr⟩
   try dsimp-zeta-zetaHave only
   refine wpS_bind (wpS_lift (wpAny_rule ⟨rfl,?_⟩))
   try dsimp-zeta-zetaHave only
   refine wpS_bind (wpS_mono (wpS_forRange (I:=DL O a b st i)
    (Q:=DI O a b st i) ?_ ?_ ⟨_,_,_,_,_,_,g,rfl,rfl,v,la,lb,za,zb,Qa⟩) ?_)
   ·rintro j c st' _ _ ⟨na,nb,out,mg,ac,bc,g,rfl,rfl,v,la,lb,za,zb,hp⟩
    extract_lets _ na1 _ nb1 _ out1 _ mg1 _ ac1 bc1 nm1 jp
    refine Af (f:=jp) λ m=>?_
    refine wpS_bind (wpS_modify ?_)
    refine wpS_bind (dR (i:=nb-1) Qa λ q1 eq1 hq1=>?_)
    refine wpS_bind (Ai (n:=na) (hint:=na-1) C (hkg _) (hb q1 hq1) ha Qa Qa sa λ k1 hk1 G1 G2=>?_)
    dsimp-zeta-zetaHave only
    extract_lets k ack jp2
    refine Ae (f:=jp2) (λ ix o=>cO O a b o ix nb/\1<=ix/\ix<=na/\∀x∈a.toList.take ix,O.le x q1) (λ c d=>?_) (λ c d=>?_) (λ c=>?_) ?_
    ·exact wpS_pure ⟨_,rfl,.inl ⟨_,_,_,_,_,_,_,rfl,(v.extA k1 hk1 sa (λ x hx z hz=>SOrd.le_trans (iK sb eq1 hz) (G2 x hx))).done (.inl (eq_of_beq d)) sa sb⟩⟩
    ·have d:¬k1=0:=λ h=>d (beq_iff_eq.mpr h)
     exact⟨v.extA k1 hk1 sa (λ x hx z hz=>SOrd.le_trans (iK sb eq1 hz) (G2 x hx)),Qa,hk1,G1⟩
    ·have c:¬na-k1>0:=c
     rw[show k1=na from Qa]at G1
     exact⟨v,la,Nat.le_refl _,G1⟩
    rintro ix o1 ⟨v1,l1,z1,F1⟩
    refine wpS_bind (dR (i:=nb-1) Qa λ q2 eq2 _=>?_)
    have v2:=v1.pushB Qa sb eq1 eq2 F1
    extract_lets o2
    split
    ·rename_i d1
     exact wpS_pure ⟨_,rfl,.inl ⟨_,_,_,_,_,_,_,rfl,v2.first (eq_of_beq d1) hF sa sb⟩⟩
    rename_i d1
    have d1:¬nb-1=1:=λ h=>d1 (beq_iff_eq.mpr h)
    refine wpS_bind (dR (i:=ix-1) Qa λ q3 eq3 hq3=>?_)
    refine wpS_bind (Ai (n:=nb-1) (hint:=nb-1-1) C (hkg _) (ha q3 hq3) hb Qa Qa sb λ k2 hk2 G3 G4=>?_)
    dsimp-zeta-zetaHave only
    extract_lets k' bck jp3
    refine Ad (f:=jp3) (λ iy o=>cO O a b o ix iy/\2<=iy/\iy<=nb-1/\∀x∈b.toList.take iy,O.le x q3) (λ c d=>?_) (λ c d e=>?_) (λ c d e=>?_) (λ c=>?_) ?_
    ·exact wpS_pure ⟨_,rfl,.inl ⟨_,_,_,_,_,_,_,rfl,(v2.extB k2 hk2 sb (λ x hx z hz=>SOrd.le_trans (iK sa eq3 hz) (G4 x hx))).first (eq_of_beq d) hF sa sb⟩⟩
    ·exact wpS_pure ⟨_,rfl,.inl ⟨_,_,_,_,_,_,_,rfl,(v2.extB k2 hk2 sb (λ x hx z hz=>SOrd.le_trans (iK sa eq3 hz) (G4 x hx))).done (.inr (eq_of_beq e)) sa sb⟩⟩
    ·have d:¬k2=1:=λ h=>d (beq_iff_eq.mpr h)
     have e:¬k2=0:=λ h=>e (beq_iff_eq.mpr h)
     exact⟨v2.extB k2 hk2 sb (λ x hx z hz=>SOrd.le_trans (iK sa eq3 hz) (G4 x hx)),Qa,hk2,G3⟩
    ·have c:¬nb-1-k2>0:=c
     rw[show k2=nb-1 from Qa]at G3
     exact⟨v2,(by omega:2<=nb-1),Nat.le_refl _,G3⟩
    rintro iy o3 ⟨v3,l3,z3,F3⟩
    refine wpS_bind (dR (i:=ix-1) Qa λ q4 eq4 _=>?_)
    have v4:=v3.pushA Qa sa eq3 eq4 F3
    extract_lets o4
    split
    ·rename_i f1
     exact wpS_pure ⟨_,rfl,.inl ⟨_,_,_,_,_,_,_,rfl,v4.done (.inl (eq_of_beq f1)) sa sb⟩⟩
    rename_i f1
    have f1:¬ix-1=0:=λ h=>f1 (beq_iff_eq.mpr h)
    have B:1<=ix-1/\ix-1<=a.size/\iy<=b.size/\i+(ix-1)+iy+2<=a.size+b.size/\i+j+1+(ix-1)+iy+1<=a.size+b.size:=by omega
    split
    ·exact wpS_pure ⟨_,rfl,.inr ⟨_,_,_,_,_,_,rfl,v4,B.1,l3,B.2.1,B.2.2.1,B.2.2.2.1⟩⟩
    ·exact wpS_pure ⟨_,_,_,_,_,_,_,rfl,rfl,v4,B.1,l3,B.2.1,B.2.2.1,B.2.2.2.2⟩
   ·rintro c st' ⟨na,nb,out,mg,ac,bc,g,rfl,rfl,v,la,lb,za,zb,hp⟩
    exact absurd hp Qa
   ·rintro c st' ⟨g,rfl,⟨r,na,nb,out,mg,ac,bc,rfl,hr⟩|⟨na,nb,out,mg,ac,bc,rfl,v,la,lb,za,zb,hp⟩⟩
    ·exact wpS_pure ⟨_,_,_,_,_,_,rfl,rfl,hr⟩
    ·exact wpS_bind (wpS_modify (wpS_pure ⟨na,nb,out,_,_,rfl,rfl,v,la,lb,za,zb,Qa⟩))
 ·rintro c st' ⟨na,nb,out,mg,g,rfl,rfl,v,la,lb,za,zb,hp⟩
  exact absurd hp Qa
 ·rintro c st' ⟨r,na,nb,out,mg,g,rfl,rfl,hr⟩
  exact wpS_pure (h r g hr)
end
theorem Ht{arr m:Array Keyed}{sa:Nat}(hs:sa+m.size<=arr.size)(i:Nat):(m.toList.zipIdx.foldl (λ (a:Array Keyed) (x:Keyed×Nat)=>a.setIfInBounds (sa+x.2) x.1) arr)[i]? =if i<sa then arr[i]? else if i<sa+m.size then m[i-sa]? else arr[i]?:=by
 have hl:m.toList.length=m.size:=Array.length_toList
 have e:=xR m.toList 0 arr (sa:=sa) Qa
 rw[hl,Nat.add_zero]at e
 rw[<-Array.getElem?_toList,e]
 have h1:sa<=arr.toList.length:=by rw[Array.length_toList];omega
 have ht:(arr.toList.take sa).length=sa:=by rw[List.length_take];omega
 by_cases c1:i<sa
 ·rw[if_pos c1,List.append_assoc,List.getElem?_append_left (by rw[ht];exact c1),List.getElem?_take,if_pos c1,Array.getElem?_toList]
 ·rw[if_neg c1]
  by_cases c2:i<sa+m.size
  ·rw[if_pos c2,List.append_assoc,List.getElem?_append_right (by rw[ht];omega),ht,List.getElem?_append_left (by rw[hl];omega),Array.getElem?_toList]
  ·rw[if_neg c2,List.getElem?_append_right (by rw[List.length_append,ht,hl];omega),List.length_append,ht,hl,List.getElem?_drop,show sa+m.size+(i-(sa+m.size))=i from Qa,Array.getElem?_toList]
theorem Gr{O:SOrd}{xs:Array Keyed}{lo m hi:Nat}(h1:bC O xs lo m)(h2:bC O xs m hi)(hm:lo<m)(e:O.le (aM xs (m-1)) (aM xs m)):bC O xs lo hi:=λ i j a b c=>by
 by_cases q:j<m
 ·exact h1 i j a b q
 ·by_cases z:i<m
  ·exact SOrd.le_trans (h1 i (m-1) a Qa Qa) (SOrd.le_trans e (h2 m j (Nat.le_refl _) Qa c))
  ·exact h2 i j Qa b c
theorem Fh{O:SOrd}{arr:Array Keyed}{lo hi i j:Nat}(h:bC O arr lo hi)(h1:lo<=i)(h2:j<=hi)(h3:j<=arr.size):bC O (arr.extract i j) 0 (arr.extract i j).size:=λ u v _ b c=>by
 have hz:(arr.extract i j).size=j-i:=by rw[Array.size_extract];omega
 rw[hz]at c
 have g:∀k,k<j-i->aM (arr.extract i j) k=aM arr (i+k):=λ k hk=>by
  unfold aM
  rw[Array.getElem?_extract,if_pos Qa]
 rw[g u Qa,g v c]
 exact h _ _ Qa Qa Qa
theorem tF{arr:Array Keyed}{i j:Nat}{x:Keyed}(h:x∈(arr.extract i j).toList):∃k,i<=k/\k<j/\aM arr k=x:=by
 obtain⟨k,h1,h2,e⟩:=mN h
 exact⟨k,h1,h2,fO e⟩
theorem Ot{O:SOrd}{m:Array Keyed}(h:m.toList.Pairwise O.le){i j:Nat}(hij:i<=j)(hj:j<m.size):O.le (aM m i) (aM m j):=by
 by_cases z:i=j
 ·rw[z];exact SOrd.le_refl _
 ·have:=List.pairwise_iff_getElem.mp h i j (by simp;omega) (by simp;omega) Qa
  unfold aM
  rw[Array.getElem?_eq_getElem Qa,Array.getElem?_eq_getElem hj]
  simpa using this
section
variable{prog:Program}{w:World}{A:Around}{E:Qh}{s:Shared}{a₀:Array Keyed}{κ:SortKind}{O:SOrd}
theorem Ia(C:dQ prog w A s κ a₀ O){st:SortSt}(B:cM κ a₀ st){i sa na pw sb nb pw2:Nat}(e1:(pendingOf st)[i]? =some (sa,na,pw))(e2:(pendingOf st)[i+1]? =some (sb,nb,pw2))(hsb:sb=sa+na)(h1:1<=na)(h2:1<=nb)(hz:sb+nb<=a₀.size)
  (aa:bC O (arrOf st) sa sb) (ab:bC O (arrOf st) sb (sb+nb)) {Q:Bool->SortSt->Prop} (h:∀st',cM κ a₀ st'->pendingOf st'=((pendingOf st).setIfInBounds i (sa,na+nb,pw)).eraseIdxIfInBounds (i+1)->bC O (arrOf st') sa (sb+nb)->(∀j,j<sa\/sb+nb<=j->(arrOf st')[j]? =(arrOf st)[j]?)->Q true st'):wpS Qi A E s (mergeAt' i) Q st:=by
 have hsz:=B.size
 have hin:∀p,p∈arrOf st->p∈a₀:=λ p hp=>B.perm.mem_iff.mp hp
 unfold mergeAt'
 refine wpS_bind (wpS_get ?_)
 rw[e1,e2]
 try dsimp only
 refine wpS_bind (Hv ?_)
 obtain⟨st1,es⟩:∃st1,st1=Bn st (((pendingOf st).setIfInBounds i (sa,na+nb,pw)).eraseIdxIfInBounds (i+1)):=⟨_,rfl⟩
 have B1:cM κ a₀ st1:=by rw[es];exact⟨B.perm,B.kind,B.failed⟩
 have ep1:pendingOf st1=((pendingOf st).setIfInBounds i (sa,na+nb,pw)).eraseIdxIfInBounds (i+1):=by rw[es]
 have ea1:arrOf st1=arrOf st:=by rw[es]
 change wpS Qi A E s _ Q (Bn st (((pendingOf st).setIfInBounds i (sa,na+nb,pw)).eraseIdxIfInBounds (i+1)))
 rw[<-es]
 refine wpS_bind (dR (arr:=arrOf st) Qa λ p ep hp=>?_)
 refine wpS_bind (uS (base:=sa) (n:=na) (hint:=0) C B1.kind (hin p hp) hin Qa Qa (by rw[<-hsb];exact aa) λ k hk j1 j2=>?_)
 have kp:aM (arrOf st) sb=p:=fO ep
 have g1:∀t,sa<=t->t<sa+k->O.le (aM (arrOf st) t) (aM (arrOf st) sb):=λ t x1 x2=>by
  rw[kp]
  have:=j1 (t-sa) Qa
  rw[show sa+(t-sa)=t from Qa]at this
  exact yC this
 have g2:∀t,sa+k<=t->t<sb->O.le (aM (arrOf st) sb) (aM (arrOf st) t):=λ t x1 x2=>by
  rw[kp]
  have:=j2 (t-sa) Qa Qa
  rw[show sa+(t-sa)=t from Qa]at this
  exact yD this
 try dsimp only
 by_cases c1:(na-k==0)=true
 ·rw[if_pos c1]
  simp only[beq_iff_eq]at c1
  refine wpS_pure (h _ B1 ep1 ?_ λ j _=>by rw[ea1])
  rw[ea1]
  exact Gr aa ab Qa (g1 _ Qa Qa)
 rw[if_neg c1]
 simp only[beq_iff_eq]at c1
 refine wpS_bind (dR (arr:=arrOf st) Qa λ q eq hq=>?_)
 have kq:aM (arrOf st) (sb-1)=q:=by
  rw[show sb-1=sa+k+(na-k)-1 from Qa]
  exact fO eq
 refine wpS_bind (uS (base:=sb) (n:=nb) (hint:=nb-1) C B1.kind (hin q hq) hin Qa Qa ab λ m hm j3 j4=>?_)
 have g3:∀t,sb<=t->t<sb+m->O.le (aM (arrOf st) t) (aM (arrOf st) (sb-1)):=λ t x1 x2=>by
  rw[kq]
  have:=j3 (t-sb) Qa
  rw[show sb+(t-sb)=t from Qa]at this
  exact yC this
 have g4:∀t,sb+m<=t->t<sb+nb->O.le (aM (arrOf st) (sb-1)) (aM (arrOf st) t):=λ t x1 x2=>by
  rw[kq]
  have:=j4 (t-sb) Qa Qa
  rw[show sb+(t-sb)=t from Qa]at this
  exact yD this
 try dsimp only
 by_cases c2:(m==0)=true
 ·rw[if_pos c2]
  simp only[beq_iff_eq]at c2
  refine wpS_pure (h _ B1 ep1 ?_ λ j _=>by rw[ea1])
  rw[ea1]
  exact Gr aa ab Qa (g4 _ Qa Qa)
 rw[if_neg c2]
 simp only[beq_iff_eq]at c2
 have zx:((arrOf st).extract (sa+k) sb).size=na-k:=by rw[Array.size_extract];omega
 have zy:((arrOf st).extract sb (sb+m)).size=m:=by rw[Array.size_extract];omega
 have ax:bC O ((arrOf st).extract (sa+k) sb) 0 ((arrOf st).extract (sa+k) sb).size:=Fh aa Qa (Nat.le_refl _) Qa
 have ay:bC O ((arrOf st).extract sb (sb+m)) 0 ((arrOf st).extract sb (sb+m)).size:=Fh ab (Nat.le_refl _) Qa Qa
 have ky:aM ((arrOf st).extract sb (sb+m)) 0=aM (arrOf st) sb:=by
  unfold aM
  rw[Array.getElem?_extract,if_pos Qa,Nat.add_zero]
 have kx:aM ((arrOf st).extract (sa+k) sb) (((arrOf st).extract (sa+k) sb).size-1)=aM (arrOf st) (sb-1):=by
  rw[zx]
  unfold aM
  rw[Array.getElem?_extract,if_pos Qa,show sa+k+(na-k-1)=sb-1 from Qa]
 have hF:∀x∈((arrOf st).extract (sa+k) sb).toList,O.le (aM ((arrOf st).extract sb (sb+m)) 0) x:=λ x hx=>by
  rw[ky]
  obtain⟨t,t1,t2,rfl⟩:=tF hx
  exact g2 t t1 t2
 have hL:∀y∈((arrOf st).extract sb (sb+m)).toList,O.le y (aM ((arrOf st).extract (sa+k) sb) (((arrOf st).extract (sa+k) sb).size-1)):=λ y hy=>by
  rw[kx]
  obtain⟨t,t1,t2,rfl⟩:=tF hy
  exact g3 t t1 t2
 have fin:∀(out:Array Keyed) (g:Nat),gE O ((arrOf st).extract (sa+k) sb) ((arrOf st).extract sb (sb+m)) out->wpS Qi A E s (do
   modify λ s=>setArr s (out.toList.zipIdx.foldl (λ a (x:Keyed×Nat)=>a.setIfInBounds (sa+k+x.2) x.1) (arrOf s))
   let s'<-get
   return(failedOf s').isNone) Q (eP st1 g):=by
  intro out g ⟨ho,hpw⟩
  have src:∀x∈out.toList,∃t,sa+k<=t/\t<sb+m/\aM (arrOf st) t=x:=λ x hx=>by
   have:=(Array.perm_iff_toList_perm.mp ho).mem_iff.mp hx
   rw[Array.toList_append,List.mem_append]at this
   rcases this with h|h
   ·obtain⟨t,t1,t2,e⟩:=tF h
    exact⟨t,t1,Qa,e⟩
   ·obtain⟨t,t1,t2,e⟩:=tF h
    exact⟨t,Qa,t2,e⟩
  have zo:out.size=na-k+m:=by
   have:=ho.size_eq
   rw[Array.size_append,zx,zy]at this
   exact this
  have he:(arrOf st).extract (sa+k) sb++(arrOf st).extract sb (sb+m)=(arrOf st).extract (sa+k) (sa+k+(na-k+m)):=by
   rw[Array.extract_append_extract]
   congr 1<;>omega
  rw[he]at ho
  have wp:(out.toList.zipIdx.foldl (λ a (x:Keyed×Nat)=>a.setIfInBounds (sa+k+x.2) x.1) (arrOf st1)).Perm (arrOf st1):=Hs (sa:=sa+k) (k:=na-k+m) (by rw[ea1];omega) (by rw[ea1];exact ho)
  have wg:=Ht (arr:=arrOf st) (m:=out) (sa:=sa+k) Qa
  rw[<-ea1]at wg
  refine wpS_bind (wpS_modify (wpS_bind (wpS_get ?_)))
  have B2:cM κ a₀ (setArr (eP st1 g) (out.toList.zipIdx.foldl (λ a (x:Keyed×Nat)=>a.setIfInBounds (sa+k+x.2) x.1) (arrOf st1))):=⟨wp.trans B1.perm,B1.kind,B1.failed⟩
  have hf:(failedOf st1).isNone=true:=by rw[B1.failed];rfl
  show wpS _ _ _ _ (pure (failedOf st1).isNone) _ _
  rw[hf]
  refine wpS_pure (h _ B2 ep1 ?_ λ j hj=>?_)
  ·show bC O (out.toList.zipIdx.foldl (λ a (x:Keyed×Nat)=>a.setIfInBounds (sa+k+x.2) x.1) (arrOf st1)) sa (sb+nb)
   generalize out.toList.zipIdx.foldl (λ a (x:Keyed×Nat)=>a.setIfInBounds (sa+k+x.2) x.1) (arrOf st1)=arr' at wg
   rw[ea1]at wg
   have out_at:∀t,sa+k<=t->t<sb+m->aM arr' t=aM out (t-(sa+k))/\aM out (t-(sa+k))∈out.toList:=λ t t1 t2=>by
    have w:=wg t
    rw[if_neg Qa,if_pos Qa]at w
    refine⟨eR w,?_⟩
    unfold aM
    rw[Array.getElem?_eq_getElem Qa]
    exact Array.mem_toList_iff.mpr (Array.getElem_mem _)
   have old_at:∀t,t<sa+k\/sb+m<=t->aM arr' t=aM (arrOf st) t:=λ t ht=>by
    have w:=wg t
    rcases ht with ht|ht
    ·rw[if_pos ht]at w;exact eR w
    ·rw[if_neg Qa,if_neg Qa]at w;exact eR w
   have ft:∀u t,sa<=u->u<sa+k->sa+k<=t->t<sb+nb->O.le (aM (arrOf st) u) (aM (arrOf st) t):=λ u t u1 u2 t1 t2=>by
    by_cases z:t<sb
    ·exact aa u t u1 Qa z
    ·exact SOrd.le_trans (g1 u u1 u2) (ab sb t (Nat.le_refl _) Qa t2)
   have tt:∀u t,sa+k<=u->u<sb+m->sb+m<=t->t<sb+nb->O.le (aM (arrOf st) u) (aM (arrOf st) t):=λ u t u1 u2 t1 t2=>by
    by_cases z:u<sb
    ·exact SOrd.le_trans (aa u (sb-1) Qa Qa Qa) (g4 t t1 t2)
    ·exact ab u t Qa Qa t2
   intro i j a b c
   by_cases i1:i<sa+k
   ·rw[old_at i (.inl i1)]
    by_cases j1:j<sa+k
    ·rw[old_at j (.inl j1)]
     exact aa i j a b Qa
    ·by_cases j2:j<sb+m
     ·obtain⟨e,hm⟩:=out_at j Qa j2
      rw[e]
      obtain⟨t,t1,t2,et⟩:=src _ hm
      rw[<-et]
      exact ft i t a i1 t1 Qa
     ·rw[old_at j (.inr Qa)]
      exact ft i j a i1 Qa c
   ·by_cases i2:i<sb+m
    ·obtain⟨e,hm⟩:=out_at i Qa i2
     rw[e]
     by_cases j2:j<sb+m
     ·obtain⟨e2,_⟩:=out_at j Qa j2
      rw[e2]
      exact Ot hpw Qa Qa
     ·rw[old_at j (.inr Qa)]
      obtain⟨t,t1,t2,et⟩:=src _ hm
      rw[<-et]
      exact tt t j t1 t2 Qa c
    ·rw[old_at i (.inr Qa),old_at j (.inr Qa)]
     exact ab i j Qa b c
  ·have w:=wg j
   rw[<-ea1]
   rcases hj with hj|hj
   ·rw[if_pos Qa]at w;exact w
   ·rw[if_neg Qa,if_neg Qa]at w;exact w
 by_cases c3:na-k<=m
 ·rw[if_pos c3]
  exact wpS_bind (Hx C B1.kind (λ p hp=>hin p (tU hp)) (λ p hp=>hin p (tU hp)) Qa Qa ax ay hF hL fin)
 ·rw[if_neg c3]
  exact wpS_bind (Hy C B1.kind (λ p hp=>hin p (tU hp)) (λ p hp=>hin p (tU hp)) Qa Qa ax ay hF hL fin)
end
def Gz(lo hi:Nat)(xs ys:Array Keyed):Prop:=∀i,lo<=i->i<hi->ys[i]? =xs[i]?
theorem Gq{O:SOrd}{xs ys:Array Keyed}{lo hi a b:Nat}(s:Gz lo hi xs ys)(h:bC O xs a b)(h1:lo<=a)(h2:b<=hi):bC O ys a b:=λ i j x y z=>by
 rw[eR (s i Qa Qa),eR (s j Qa Qa)]
 exact h i j x y z
def bQ(O:SOrd)(xs:Array Keyed):Nat->List (Nat×Nat×Nat)->Nat->Prop
 |lo,[],hi=>lo=hi
 |lo,x::r,hi=>x.1=lo/\1<=x.2.1/\bC O xs lo (lo+x.2.1)/\bQ O xs (lo+x.2.1) r hi
section
variable{O:SOrd}{xs ys:Array Keyed}
theorem bQ.le:∀{p:List (Nat×Nat×Nat)} {lo hi:Nat},bQ O xs lo p hi->lo+p.length<=hi
 |[],_,_,h=>Nat.le_of_eq h
 |x::r,lo,hi,⟨_,h1,_,h2⟩=>by have:=bQ.le h2;rw[List.length_cons];omega
theorem bQ.congr:∀{p:List (Nat×Nat×Nat)} {lo hi:Nat},bQ O xs lo p hi->Gz lo hi xs ys->bQ O ys lo p hi
 |[],_,_,h,_=>h
 |x::r,lo,hi,⟨h0,h1,h2,h3⟩,s=>by
  have:=h3.le
  exact⟨h0,h1,Gq s h2 (Nat.le_refl _) Qa,bQ.congr h3 λ i a b=>s i Qa b⟩
theorem bQ.two:∀{p:List (Nat×Nat×Nat)} {lo hi i:Nat} {x y:Nat×Nat×Nat},bQ O xs lo p hi->p[i]? =some x->p[i+1]? =some y->
  lo<=x.1/\y.1=x.1+x.2.1/\1<=x.2.1/\1<=y.2.1/\y.1+y.2.1<=hi/\bC O xs x.1 y.1/\bC O xs y.1 (y.1+y.2.1)/\
  ∀ys,(∀j,j<x.1\/y.1+y.2.1<=j->ys[j]? =xs[j]?)->bC O ys x.1 (y.1+y.2.1)->bQ O ys lo ((p.set i (x.1,x.2.1+y.2.1,x.2.2)).eraseIdx (i+1)) hi
 |[],_,_,_,_,_,_,h,_=>by simp at h
 |[u],_,_,0,_,_,_,_,h=>by simp at h
 | u::v::r,lo,hi,0,x,y,⟨h1,h2,ha,h3,h4,hb,h5⟩,e1,e2=>by
  obtain rfl:u=x:=by simpa using e1
  obtain rfl:v=y:=by simpa using e2
  refine⟨Qa,Qa,h2,h4,by have:=h5.le;omega,by rw[h1,h3];exact ha,by rw[h3];exact hb,λ ys s a=>?_⟩
  show u.1=lo/\1<=u.2.1+v.2.1/\bC O ys lo (lo+(u.2.1+v.2.1))/\bQ O ys (lo+(u.2.1+v.2.1)) r hi
  refine⟨h1,Qa,?_,?_⟩
  ·rw[h1,h3,Nat.add_assoc]at a
   exact a
  ·rw[<-Nat.add_assoc]
   exact h5.congr λ j a _=>s j (.inr Qa)
 |u::r,lo,hi,i+1,x,y,⟨h1,h2,ha,h3⟩,e1,e2=>by
  obtain⟨z,a,b,c,d,f,g,e⟩:=bQ.two (i:=i) h3 (by simpa using e1) (by simpa using e2)
  refine⟨Qa,a,b,c,d,f,g,λ ys s as=>?_⟩
  exact⟨h1,h2,Gq (hi:=lo+u.2.1) (λ j _ q=>s j (.inl Qa)) ha (Nat.le_refl _) (Nat.le_refl _),e ys s as⟩
theorem bQ.push:∀{p:List (Nat×Nat×Nat)} {lo hi n k:Nat},bQ O xs lo p hi->1<=n->bC O xs hi (hi+n)->bQ O xs lo (p++[(hi,n,k)]) (hi+n)
 |[],_,_,_,_,h,h1,a=>by cases h;exact⟨rfl,h1,a,rfl⟩
 |_::_,_,_,_,_,⟨a,b,c,d⟩,h1,h2=>⟨a,b,c,bQ.push d h1 h2⟩
theorem bQ.modify{f:Nat×Nat×Nat->Nat×Nat×Nat}(hf:∀x,(f x).1=x.1/\(f x).2.1=x.2.1):∀{p:List (Nat×Nat×Nat)} {lo hi i:Nat},bQ O xs lo p hi->bQ O xs lo (p.modify i f) hi
 |[],_,_,i,h=>by cases i<;>exact h
 |x::r,lo,hi,0,⟨a,b,c,d⟩=>by
  rw[List.modify_zero_cons]
  exact⟨(hf x).1.trans a,by rw[(hf x).2];exact b,by rw[(hf x).2];exact c,by rw[(hf x).2];exact d⟩
 |x::r,lo,hi,i+1,⟨a,b,c,d⟩=>by
  rw[List.modify_succ_cons]
  exact⟨a,b,c,bQ.modify hf d⟩
end
theorem bQ.modifyL{O:SOrd}{xs:Array Keyed}{f:Nat×Nat×Nat->Nat×Nat×Nat}(hf:∀x,(f x).1=x.1/\(f x).2.1=x.2.1):∀{p q:List (Nat×Nat×Nat)} {lo hi i:Nat},bQ O xs lo (p++q) hi->bQ O xs lo (p.modify i f++q) hi
 |[],_,_,_,i,h=>by cases i<;>exact h
 |x::r,q,lo,hi,0,⟨a,b,c,d⟩=>by
  rw[List.modify_zero_cons]
  exact⟨(hf x).1.trans a,by rw[(hf x).2];exact b,by rw[(hf x).2];exact c,by rw[(hf x).2];exact d⟩
 |x::r,q,lo,hi,i+1,⟨a,b,c,d⟩=>by
  rw[List.modify_succ_cons]
  exact⟨a,b,c,bQ.modifyL hf d⟩
theorem Mn{α:Type}{p q:List α}{i:Nat}{x:α}(h:i+1<p.length):((p++q).set i x).eraseIdx (i+1)=(p.set i x).eraseIdx (i+1)++q:=by
 rw[List.set_append_left _ _ Qa,List.eraseIdx_append_of_lt_length (by rw[List.length_set];exact h)]
section
variable{prog:Program}{w:World}{A:Around}{E:Qh}{s:Shared}{a₀:Array Keyed}{κ:SortKind}{O:SOrd}
theorem Ac(C:dQ prog w A s κ a₀ O){st:SortSt}(B:cM κ a₀ st){hi i:Nat}{q:List (Nat×Nat×Nat)}(R:bQ O (arrOf st) 0 ((pendingOf st).toList++q) hi)(hz:hi<=a₀.size)(hi2:i+1<(pendingOf st).size){Q:Bool->SortSt->Prop}
  (h:∀st',cM κ a₀ st'->bQ O (arrOf st') 0 ((pendingOf st').toList++q) hi->(pendingOf st').size+1=(pendingOf st).size->Q true st'):wpS Qi A E s (mergeAt' i) Q st:=by
 obtain⟨⟨sa,na,pw⟩,e1⟩:∃x,(pendingOf st)[i]? =some x:=⟨_,Array.getElem?_eq_getElem Qa⟩
 obtain⟨⟨sb,nb,pw2⟩,e2⟩:∃x,(pendingOf st)[i+1]? =some x:=⟨_,Array.getElem?_eq_getElem hi2⟩
 have hl:(pendingOf st).toList.length=(pendingOf st).size:=Array.length_toList
 obtain⟨_,a,b,c,d,f,g,e⟩:=R.two (i:=i) (by rw[List.getElem?_append_left Qa,Array.getElem?_toList];exact e1) (by rw[List.getElem?_append_left Qa,Array.getElem?_toList];exact e2)
 refine Ia C B e1 e2 a b c (Nat.le_trans d hz) f g λ st' B' ep as ss=>h st' B' ?_ ?_
 ·rw[ep]
  have:(((pendingOf st).setIfInBounds i (sa,na+nb,pw)).eraseIdxIfInBounds (i+1)).toList=((pendingOf st).toList.set i (sa,na+nb,pw)).eraseIdx (i+1):=by
   simp
  rw[this,<-Mn Qa]
  exact e _ ss as
 ·rw[ep]
  have:(((pendingOf st).setIfInBounds i (sa,na+nb,pw)).eraseIdxIfInBounds (i+1)).toList.length+1=(pendingOf st).size:=by
   simp only[Array.toList_eraseIdxIfInBounds,Array.toList_setIfInBounds]
   rw[List.length_eraseIdx_of_lt (by rw[List.length_set,Array.length_toList];exact hi2),List.length_set,Array.length_toList]
   omega
  rw[Array.length_toList]at this
  exact this
theorem Hz(C:dQ prog w A s κ a₀ O){st:SortSt}(B:cM κ a₀ st){hi i:Nat}{q:List (Nat×Nat×Nat)}(R:bQ O (arrOf st) 0 ((pendingOf st).toList++q) hi)(hz:hi<=a₀.size)(hi2:i+1<(pendingOf st).size){Q:Bool->SortSt->Prop}
  (h:∀st',cM κ a₀ st'->bQ O (arrOf st') 0 ((pendingOf st').toList++q) hi->Q true st'):wpS Qi A E s (mergeAt' i) Q st:=Ac C B R hz hi2 λ st' b r _=>h st' b r
theorem Ib(C:dQ prog w A s κ a₀ O){st:SortSt}(B:cM κ a₀ st){hi i:Nat}(R:bQ O (arrOf st) 0 (pendingOf st).toList hi)(hz:hi<=a₀.size)(hi2:i+1<(pendingOf st).size){Q:Bool->SortSt->Prop}
  (h:∀st',cM κ a₀ st'->bQ O (arrOf st') 0 (pendingOf st').toList hi->(pendingOf st').size+1=(pendingOf st).size->Q true st'):wpS Qi A E s (mergeAt' i) Q st:=
 Ac (q:=[]) C B (by rw[List.append_nil];exact R) hz hi2 λ st' b r e=>h st' b (by rw[List.append_nil]at r;exact r) e
theorem Hu(C:dQ prog w A s κ a₀ O){st:SortSt}(B:cM κ a₀ st)(e0:pendingOf st= #[]){Q:Unit->SortSt->Prop}(h:∀st',cM κ a₀ st'->bC O (arrOf st') 0 a₀.size->Q () st'):wpS Qi A E s sortRuns' Q st:=by
 rw[sortRuns'_eq]
 refine wpS_bind (wpS_get ?_)
 try dsimp only
 have hsz:=B.size
 rw[hsz]
 generalize minRun' a₀.size a₀.size 0=mr
 refine wpS_bind (wpS_mono (wpS_forRange (I:=λ i c st'=>∃lo,c=(none,lo)/\i<=lo/\lo<=a₀.size/\cM κ a₀ st'/\bQ O (arrOf st') 0 (pendingOf st').toList lo) (Q:=λ c st'=>c=(none,a₀.size)/\cM κ a₀ st'/\bQ O (arrOf st') 0 (pendingOf st').toList a₀.size) ?_ ?_ ⟨0,rfl,Qa,Qa,B,by rw[e0];rfl⟩) ?_)
 ·rintro i c st' _ hi ⟨lo,rfl,hil,hlo,B,R⟩
  try dsimp only
  by_cases c1:lo≥a₀.size
  ·rw[if_pos c1]
   obtain rfl:lo=a₀.size:=by omega
   exact wpS_pure ⟨rfl,B,R⟩
  rw[if_neg c1]
  refine wpS_bind (Ic C ⟨B,rfl⟩ Qa Qa λ n st1 B1 n1 n2 a1 o1=>?_)
  try dsimp only
  obtain⟨B1,ep1⟩:=B1
  have R1:bQ O (arrOf st1) 0 (pendingOf st1).toList lo:=by rw[ep1];exact R.congr λ j _ q=>o1 j (.inl q)
  by_cases c2:n<mr
  rw[if_pos c2]
  refine wpS_bind (wpS_lift (wpAny_rule ⟨rfl,?_⟩))
  try dsimp only
  refine wpS_bind (Ie C ⟨B1,rfl⟩ Qa Qa a1 λ st2 B2 a2 o2=>?_)
  obtain⟨B2,ep2⟩:=B2
  have R2:bQ O (arrOf st2) 0 (pendingOf st2).toList lo:=by rw[ep2];exact R1.congr λ j _ q=>o2 j (.inl q)
  have hm1:1<=min (a₀.size-lo) mr:=by omega
  simp only[Bool.not_true,Bool.false_eq_true,if_false]
  obtain⟨m,em⟩:∃m,m=min (a₀.size-lo) mr:=⟨_,rfl⟩
  rw[<-em]at hm1 a2⊢
  have hm2:lo+m<=a₀.size:=by omega
  rotate_left
  rw[if_neg c2]
  obtain⟨st2,es2⟩:∃st2,st2=st1:=⟨_,rfl⟩
  rw[<-es2]at B1 R1 a1⊢
  have B2:=B1
  have R2:=R1
  have a2:=a1
  have hm1:=n1
  obtain⟨m,em⟩:∃m,m=n:=⟨_,rfl⟩
  rw[<-em]at hm1 a2⊢
  have hm2:lo+m<=a₀.size:=by omega
  all_goals
   refine wpS_bind (wpS_get ?_)
   try dsimp only
   cases hbk:(pendingOf st2).back? with
   |none=>
    try dsimp only
    refine wpS_bind (wpS_modify (wpS_pure ⟨_,rfl,Qa,Qa,⟨B2.perm,B2.kind,B2.failed⟩,?_⟩))
    show bQ O (arrOf st2) 0 ((pendingOf st2).push (lo,m,0)).toList (lo+m)
    rw[Array.toList_push]
    exact R2.push hm1 a2
   | some x=>
    obtain⟨s1,k1,z1⟩:=x
    try dsimp only
    refine wpS_bind (wpS_mono (wpS_forRange (I:=λ _ c st'=>c=(none,())/\cM κ a₀ st'/\bQ O (arrOf st') 0 ((pendingOf st').toList++[(lo,m,0)]) (lo+m)) (Q:=λ c st'=>c=(none,())/\cM κ a₀ st'/\bQ O (arrOf st') 0 ((pendingOf st').toList++[(lo,m,0)]) (lo+m)) ?_ (λ _ _ z=>z) ⟨rfl,B2,R2.push hm1 a2⟩) ?_)
    ·rintro j c st4 _ _ ⟨rfl,B4,R4⟩
     refine wpS_bind (wpS_get ?_)
     by_cases d:(pendingOf st4).size>1
     ·rw[if_pos d]
      obtain⟨⟨u1,u2,u3⟩,eu⟩:∃x,(pendingOf st4)[(pendingOf st4).size-2]? =some x:=⟨_,Array.getElem?_eq_getElem Qa⟩
      rw[eu]
      try dsimp only
      split
      ·exact wpS_pure ⟨rfl,B4,R4⟩
      ·refine wpS_bind (Hz C B4 R4 Qa Qa λ st5 B5 R5=>?_)
       exact wpS_pure ⟨rfl,B5,R5⟩
     ·rw[if_neg d]
      exact wpS_pure ⟨rfl,B4,R4⟩
    ·rintro c st4 ⟨rfl,B4,R4⟩
     try dsimp only
     refine wpS_bind (wpS_modify (wpS_bind (wpS_modify (wpS_pure ⟨_,rfl,Qa,Qa,⟨B4.perm,B4.kind,B4.failed⟩,?_⟩))))
     show bQ O (arrOf st4) 0 (((pendingOf st4).modify _ _).push (lo,m,0)).toList (lo+m)
     rw[Array.toList_push,Array.toList_modify]
     refine bQ.modifyL ?_ R4
     exact λ _=>⟨rfl,rfl⟩
 ·rintro c st' ⟨lo,rfl,hil,hlo,B,R⟩
  obtain rfl:lo=a₀.size:=by omega
  exact⟨rfl,B,R⟩
 ·rintro c st' ⟨rfl,B,R⟩
  try dsimp only
  have z0:=R.le
  rw[Array.length_toList]at z0
  refine wpS_bind (wpS_mono (wpS_forRange (I:=λ i c st'=>c=(none,())/\cM κ a₀ st'/\bQ O (arrOf st') 0 (pendingOf st').toList a₀.size/\((pendingOf st').size+i<=a₀.size\/(pendingOf st').size<=1)) (Q:=λ c st'=>c=(none,())/\cM κ a₀ st'/\bQ O (arrOf st') 0 (pendingOf st').toList a₀.size/\(pendingOf st').size<=1) ?_ (λ _ _ z=>⟨z.1,z.2.1,z.2.2.1,by have:=z.2.2.2;omega⟩) ⟨rfl,B,R,Qa⟩) ?_)
  ·rintro i c st2 _ hi ⟨rfl,B2,R2,zi⟩
   refine wpS_bind (wpS_get ?_)
   by_cases d:(pendingOf st2).size<=1
   ·rw[if_pos d]
    exact wpS_pure ⟨rfl,B2,R2,d⟩
   ·rw[if_neg d]
    refine wpS_bind (Ib C B2 R2 (Nat.le_refl _) (Nat.lt_of_le_of_lt (Nat.add_le_add_right Xa 1) Qa) λ st3 B3 R3 z3=>?_)
    exact wpS_pure ⟨rfl,B3,R3,Qa⟩
  ·rintro c st2 ⟨rfl,B2,R2,z2⟩
   refine wpS_pure (h _ B2 ?_)
   have one:(pendingOf st2).toList.length<=1:=by rw[Array.length_toList];exact z2
   generalize(pendingOf st2).toList=p at R2 one
   match p,R2,one with
   |[],e,_=>
    have e:0=a₀.size:=e
    exact λ i j _ _ c=>absurd c Qa
   |[x],⟨x0,_,a,e⟩,_=>
    have e:0+x.2.1=a₀.size:=e
    rw[e]at a
    exact a
end
section
variable{prog:Program}{w:World}{A:Around}{E:Qh}{s:Shared}
def oA(h:Heap)(a:Addr)(vs:List Value):Heap:=((h.update a (Obj.mapSeq λ _=>#[])).push (seqObj "tuple" vs.toArray 0)).push (seqObj "list" #[] 0)
theorem Gs{h:Heap}{a b:Addr}{vs:List Value}(lt:b<h.objs.size):(oA h a vs).get? b=(h.update a (Obj.mapSeq λ _=>#[])).get? b:=by
 unfold oA
 have l1:b<(h.update a (Obj.mapSeq λ _=>#[])).objs.size:=by rw[Heap.size_update];exact lt
 rw[Heap.get?_push_ne _ _ _ (Nat.ne_of_lt (by rw[size_push'];exact Nat.lt_succ_of_lt l1))]
 exact Heap.get?_push_ne _ _ _ (Nat.ne_of_lt l1)
end
section
variable{prog:Program}{w:World}{A:Around}{E:Qh}{s:Shared}{O:SOrd}
def yN(prog:Program)(w:World)(A:Around)(s:Shared)(a:Addr)(vs:List Value)(O:SOrd):Prop:=
 ∀sI:Shared,(∀b o,b≠a->s.heap.get? b=some o->sI.heap.get? b=some o)->∃κ:SortKind,(∀(E:Qh) (Q:SortKind->Shared->Prop),Q κ sI->wpAny Qi A (keyKind' vs.toArray) Q E sI)/\dQ prog w A sI κ (pairsOf vs) O
def qQ(O:SOrd)(us:List Value):Prop:=us.Pairwise λ x y=>O.le (x,x) (y,y)
theorem Cg{vs:List Value}{xs:Array Keyed}(p:xs.Perm (pairsOf vs))(a:bC O xs 0 vs.length):(xs.map (·.2)).toList.Perm vs/\qQ O (xs.map (·.2)).toList:=by
 have same:∀q∈xs,q.1=q.2:=λ q hq=>by
  have:=p.mem_iff.mp hq
  rw[<-Array.mem_toList_iff,pairsOf_toList]at this
  have e:∀(l:List Value) (q:Keyed),q∈l.zip l->q.1=q.2:=λ l=>by
   induction l with
   |nil=>intro q h;simp at h
   |cons v l ih=>
    intro q h
    rcases List.mem_cons.mp h with rfl|h
    ·rfl
    ·exact ih q h
  exact e vs q this
 have sz:xs.size=vs.length:=p.size_eq.trans (pairsOf_size _)
 constructor
 ·rw[Array.toList_map]
  have:=(Array.perm_iff_toList_perm.mp p).map (·.2)
  rw[pairsOf_toList]at this
  have e:∀l:List Value,(l.zip l).map (·.2)=l:=λ l=>by
   induction l with
   |nil=>rfl
   |cons v l ih=>simp[ih]
  rw[e]at this
  exact this
 ·unfold qQ
  rw[List.pairwise_iff_getElem]
  intro i j hi hj hij
  simp only[Array.length_toList,Array.size_map]at hi hj
  have g:∀k (hk:k<xs.size),aM xs k=((xs.map (·.2)).toList[k]'(by simpa using hk),(xs.map (·.2)).toList[k]'(by simpa using hk)):=λ k hk=>by
   unfold aM
   rw[Array.getElem?_eq_getElem hk]
   have:=same xs[k] (Array.getElem_mem hk)
   simp only[Option.getD_some,Array.getElem_toList,Array.getElem_map]
   exact Prod.ext this rfl
  have:=a i j (Nat.zero_le _) (Nat.le_of_lt hij) Qa
  rw[g i hi,g j hj]at this
  exact this
theorem Dz{a:Addr}{vs:List Value}{n:Nat}{P:Fin->Shared->Prop}(hob:s.heap.get? a=some (seqObj "list" vs.toArray n))(hS:2<=vs.length->yN prog w A s a vs O)(hlen:vs.length<=1000)
  (h:∀out:Array Value,out.toList.Perm vs->qQ O out.toList->P (.done (.ret .none)) {s with heap:=sortedHeap s.heap a vs out}):wpAny Qi A (Builtin.«list.sort» ⟨[.ref a],[]⟩) P E s:=by
 rw[list_sort_plain]
 have few:vs.toArray.size=vs.length:=List.size_toArray
 have fit:vs.toArray.size<=sizeLine:=by rw[few];exact Nat.le_trans hlen iM
 obtain⟨ep,gone⟩:∃ep,(s.heap.update a (Obj.mapSeq λ _=>#[])).get? a=some (seqObj "list" #[] ep):=⟨_,get?_update_seq hob _⟩
 have gone':(oA s.heap a vs).get? a=some (seqObj "list" #[] ep):=(Gs (Heap.lt_size hob)).trans gone
 refine wpAny_bind (listItems_at hob rfl (wpAny_bind (listUpdate_at hob rfl ?_ (hsz:=fit) (hsz2:=Nat.zero_le _))))
 refine wpAny_bind (seqEpoch_at gone rfl (wpAny_bind (wpAny_newTuple (wpAny_bind (wpAny_newList (wpAny_holding ?_))))))
 change wpAny Qi A _ P E {s with heap:=oA s.heap a vs}
 dsimp only
 by_cases two:vs.toArray.size<2
 ·rw[if_pos two,if_pos two]
  refine wpAny_bind (wpAny_pure ?_)
  rw[StateT.run_pure]
  refine wpAny_bind (wpAny_pure (wpAny_bind (seqEpoch_at gone' rfl (wpAny_bind (listUpdate_at gone' rfl ?_ (hsz2:=?_))))))
  ·rw[bne_self_eq_false,if_neg Bool.false_ne_true]
   have r:=Cg (O:=O) (vs:=vs) (xs:=pairsOf vs) (Array.Perm.refl _) λ i j _ hij hj=>by
    have:i=j:=by omega
    rw[this];exact SOrd.le_refl _
   exact wpAny_pure (h _ r.1 r.2)
  ·rw[Array.size_map]
   show(pairsOf vs).size<=_
   rw[pairsOf_size,<-few]
   omega
 ·rw[if_neg two,if_neg two]
  obtain⟨κ,kk,cmp⟩:=hS Qa {s with heap:=oA s.heap a vs} λ b o ne get=>by
   show(oA s.heap a vs).get? b=some o
   rw[Gs (Heap.lt_size get),Heap.get?_update_ne _ _ _ _ ne]
   exact get
  have sz0:(pairsOf vs).size=vs.length:=pairsOf_size _
  refine wpAny_bind (kk _ _ (wpAny_bind (wpAny_mono (Hu (a₀:=pairsOf vs) cmp (st:=SortSt.mk' κ (vs.toArray.zip vs.toArray) #[] 7 none) ⟨Array.Perm.refl _,rfl,rfl⟩ rfl
   (Q:=λ _ st'=>(arrOf st').Perm (pairsOf vs)/\failedOf st'=none/\bC O (arrOf st') 0 vs.length) λ _ B up=>⟨B.perm,B.failed,by rw[<-sz0];exact up⟩) ?_ λ _ _ z=>z)))
  rintro⟨_,st'⟩ _ ⟨rfl,perm,sound,up⟩
  refine wpAny_bind (seqEpoch_at gone' rfl (wpAny_bind (listUpdate_at gone' rfl ?_ (hsz2:=?_))))
  ·rw[bne_self_eq_false,if_neg Bool.false_ne_true]
   dsimp only
   rw[sound]
   have r:=Cg perm up
   exact wpAny_pure (h _ r.1 r.2)
  ·have:=(Array.size_map (f:=λ x:Keyed=>x.2) (xs:=arrOf st')).trans (perm.size_eq.trans (pairsOf_size _))
   exact Nat.le_trans (Nat.le_of_eq this) Qa
end
end L2
namespace L2
open PySem PySem.Spec PyProof.Rows PySem.W
def W3(h:Heap)(v:Value):Prop:=∃a o n x t i u y k,v= .ref a/\h.get? a=some o/\o.cls= .type "tuple"/\o.data= .seq #[.str x t,.int i u,.str y k] n
def gH(x:List Nat)(i:Int)(y:List Nat):List Int:=x.map Int.ofNat++(-1::i::y.map Int.ofNat)
def mH:Option Obj->List Int
 | some o=>match o.data with
  |.seq its _=>match(its[0]?:Option Value),(its[1]?:Option Value),(its[2]?:Option Value)with
   |some (.str x _),some (.int i _),some (.str y _)=>gH x.cps.toList i y.cps.toList
   |_,_,_=>[]
  |_=>[]
 |none=>[]
def fH(h:Heap):Value->List Int
 |.ref a=>mH (h.get? a)
 |_=>[]
theorem Ek{o:Obj}{x y:Str}{t k:Tok}{i:Int}{u:Tok}{n:Nat}(hd:o.data= .seq #[.str x t,.int i u,.str y k] n):mH (some o)=gH x.cps.toList i y.cps.toList:=by
 unfold mH
 dsimp only
 rw[hd]
 rfl
def sO(h:Heap):SOrd where
 blt p q:=decide (fH h p.1<fH h q.1)
 irrefl a:=decide_eq_false (List.lt_irrefl _)
 trans a b c h1 h2:=decide_eq_true (List.lt_trans (of_decide_eq_true h1) (of_decide_eq_true h2))
 weak a b c h1:=by
  by_cases z:fH h a.1<fH h b.1
  ·exact .inl (decide_eq_true z)
  ·exact .inr (decide_eq_true (List.lt_of_le_of_lt (List.not_lt.mp z) (of_decide_eq_true h1)))
theorem app_lt{α:Type}[LT α][DecidableLT α][Std.Irrefl (α:=α) (· < ·)]:∀{a r r':List α},(a++r<a++r')↔r<r'
 |[],_,_=>Iff.rfl
 | x::a,r,r'=>by
  rw[List.cons_append,List.cons_append,List.cons_lt_cons_iff]
  constructor
  ·rintro(h|⟨_,h⟩)
   ·exact absurd h (Std.Irrefl.irrefl x)
   ·exact app_lt.mp h
  ·exact λ h=>.inr ⟨rfl,app_lt.mpr h⟩
theorem xN:∀{a b:List Nat} {r r':List Int},a≠b->((a.map Int.ofNat++(-1::r)<b.map Int.ofNat++(-1::r'))↔a<b)
 |[],[],_,_,h=>absurd rfl h
 |[],y::b,r,r',_=>by
  show(-1::r<(Int.ofNat y::(b.map Int.ofNat++(-1::r'))))↔_
  rw[List.cons_lt_cons_iff]
  exact⟨λ _=>List.nil_lt_cons _ _,λ _=>.inl (by show(-1:Int)<(y:Int);omega)⟩
 | x::a,[],r,r',_=>by
  show(Int.ofNat x::(a.map Int.ofNat++(-1::r))<(-1::r'))↔_
  rw[List.cons_lt_cons_iff]
  refine⟨λ h=>?_,λ h=>absurd h (List.not_lt_nil _)⟩
  rcases h with h|⟨h,_⟩
  ·have h:(x:Int)< -1:=h
   omega
  ·have h:(x:Int)= -1:=h
   omega
 | x::a,y::b,r,r',h=>by
  show(Int.ofNat x::(a.map Int.ofNat++(-1::r))<(Int.ofNat y::(b.map Int.ofNat++(-1::r'))))↔_
  rw[List.cons_lt_cons_iff,List.cons_lt_cons_iff]
  by_cases e:x=y
  ·subst e
   have hab:a≠b:=λ z=>h (by rw[z])
   constructor
   ·rintro(h|⟨_,h⟩)
    ·exact absurd h (Int.lt_irrefl _)
    ·exact .inr ⟨rfl,(xN hab).mp h⟩
   ·rintro(h|⟨_,h⟩)
    ·exact absurd h (Nat.lt_irrefl _)
    ·exact .inr ⟨rfl,(xN hab).mpr h⟩
  ·constructor
   ·rintro(h|⟨h,_⟩)
    ·exact .inl (by have h:(x:Int)<(y:Int):=h;omega)
    ·exact absurd (Int.ofNat.inj h) e
   ·rintro(h|⟨h,_⟩)
    ·exact .inl (by show(x:Int)<(y:Int);omega)
    ·exact absurd h e
theorem Du:∀{a b:List Nat},(a.map Int.ofNat<b.map Int.ofNat)↔a<b
 |[],[]=>⟨λ h=>absurd h (List.not_lt_nil _),λ h=>absurd h (List.not_lt_nil _)⟩
 |[],_::_=>⟨λ _=>List.nil_lt_cons _ _,λ _=>List.nil_lt_cons _ _⟩
 |_::_,[]=>⟨λ h=>absurd h (List.not_lt_nil _),λ h=>absurd h (List.not_lt_nil _)⟩
 | x::a,y::b=>by
  rw[List.map_cons,List.map_cons,List.cons_lt_cons_iff,List.cons_lt_cons_iff,Du]
  constructor
  ·rintro(h|⟨h,g⟩)
   ·exact .inl (by have h:(x:Int)<(y:Int):=h;omega)
   ·exact .inr ⟨Int.ofNat.inj h,g⟩
  ·rintro(h|⟨h,g⟩)
   ·exact .inl (by show(x:Int)<(y:Int);omega)
   ·exact .inr ⟨by rw[h],g⟩
theorem Il{x x' y y':List Nat}{i i':Int}(h:x≠x'):(gH x i y<gH x' i' y')↔x<x':=xN h
theorem Ik{x y y':List Nat}{i i':Int}(h:i≠i'):(gH x i y<gH x i' y')↔i<i':=by
 unfold gH
 rw[app_lt,List.cons_lt_cons_iff,List.cons_lt_cons_iff]
 constructor
 ·rintro(h|⟨_,h|⟨e,_⟩⟩)
  ·exact absurd h (Int.lt_irrefl _)
  ·exact h
  ·exact absurd e h
 ·exact λ h=>.inr ⟨rfl,.inl h⟩
theorem Ij{x y y':List Nat}{i:Int}:(gH x i y<gH x i y')↔y<y':=by
 unfold gH
 rw[app_lt,List.cons_lt_cons_iff,List.cons_lt_cons_iff,Du]
 constructor
 ·rintro(h|⟨_,h|⟨_,h⟩⟩)
  ·exact absurd h (Int.lt_irrefl _)
  ·exact absurd h (Int.lt_irrefl _)
  ·exact h
 ·exact λ h=>.inr ⟨rfl,.inr ⟨rfl,h⟩⟩
theorem W3.stayK{h h':Heap}{v:Value}(x:W3 h v)(k:∀b o,v= .ref b->h.get? b=some o->h'.get? b=some o):W3 h' v/\fH h' v=fH h v:=by
 obtain⟨a,o,n,x,t,i,u,y,j,rfl,ho,hc,hd⟩:=x
 refine⟨⟨a,o,n,x,t,i,u,y,j,rfl,k a o rfl ho,hc,hd⟩,?_⟩
 show mH (h'.get? a)=mH (h.get? a)
 rw[ho,k a o rfl ho]
theorem BA{x y:Str}(h:(x==y)=false):x.cps.toList≠y.cps.toList:=λ z=>by
 have:x.cps=y.cps:=Array.toList_inj.mp z
 have e:x=y:=by
  cases x
  cases y
  cases this
  rfl
 rw[e]at h
 simp at h
section
variable{prog:Program}{w:World}{A:Around}{E:Qh}{s:Shared}
theorem BF{a₀:Array Keyed}{h0:Heap}(h3:∀p,p∈a₀->W3 s.heap p.1/\fH s.heap p.1=fH h0 p.1):dQ prog w A s (tuples' true) a₀ (sO h0):=by
 intro E p q Q hp hq hQ
 obtain⟨p1,p2⟩:=p
 obtain⟨q1,q2⟩:=q
 obtain⟨⟨a,o,n,x,t,i,u,y,k,rfl,ho,_,hd⟩,ka⟩:=h3 _ hp
 obtain⟨⟨a',o',n',x',t',i',u',y',k',rfl,ho',_,hd'⟩,kb⟩:=h3 _ hq
 have ea:fH h0 (.ref a)=gH x.cps.toList i y.cps.toList:=by
  rw[<-ka]
  show mH (s.heap.get? a)=_
  rw[ho,Ek hd]
 have eb:fH h0 (.ref a')=gH x'.cps.toList i' y'.cps.toList:=by
  rw[<-kb]
  show mH (s.heap.get? a')=_
  rw[ho',Ek hd']
 have hQ:Q (decide (fH h0 (.ref a)<fH h0 (.ref a'))) s:=hQ
 rw[ea,eb]at hQ
 refine kat_lt ho hd ho' hd' ?_
 show KatLex prog w A true _ Q [(.str x t,.str x' t'),(.int i u,.int i' u'),(.str y k,.str y' k')] 0 s
 refine kat_cons (eqBool_str (kat_go (λ e=>kat_yes ?_) λ e=>kat_no (oneLt_str ?_)))
 ·have ex:x=x':=eq_of_beq e
  subst ex
  refine kat_cons (wpAny_eqBool_int (kat_go (λ e=>kat_yes ?_) λ e=>kat_no (kat_one _ _ (lt_int ?_))))
  ·have ei:i=i':=eq_of_beq e
   subst ei
   refine kat_cons (eqBool_str (kat_go (λ e=>kat_yes (kat_nil ?_)) λ e=>kat_no (kat_one _ _ (lt_str ?_))))
   ·have ey:y=y':=eq_of_beq e
    subst ey
    rw[decide_eq_false (List.lt_irrefl _)]at hQ
    exact hQ
   ·rw[decide_eq_decide.mpr Ij]at hQ
    exact hQ
  ·have ni:i≠i':=by simpa using e
   rw[decide_eq_decide.mpr (Ik ni)]at hQ
   exact hQ
 ·rw[decide_eq_decide.mpr (Il (BA e))]at hQ
  exact hQ
theorem Vq{vs:List Value}(h3:∀v∈vs,W3 s.heap v)(hne:0<vs.length){Q:SortKind->Shared->Prop}(h:Q (tuples' true) s):wpAny Qi A (keyKind' vs.toArray) Q E s:=by
 have:∀{vs:List Value},(∀v∈vs,W3 s.heap v)->∃fs,KatTups s.heap vs fs/\fs.length=vs.length/\∀v∈fs,∃x t,v= .str x t:=by
  intro vs h3
  induction vs with
  |nil=>exact⟨[],.nil,rfl,λ _ h=>nomatch h⟩
  |cons v r ih=>
   obtain⟨fs,hk,hl,hs⟩:=ih λ v hv=>h3 v (List.mem_cons_of_mem _ hv)
   obtain⟨a,o,n,x,t,i,u,y,k,rfl,ho,hc,hd⟩:=h3 v List.mem_cons_self
   refine⟨.str x t::fs,.cons ho hc hd rfl hk,by simp[hl],λ v hv=>?_⟩
   rcases List.mem_cons.mp hv with rfl|hv
   ·exact⟨_,_,rfl⟩
   ·exact hs v hv
 obtain⟨fs,hk,hl,hs⟩:=this h3
 refine kat_kind (T:=.type "str") hk Qa (λ v hv=>?_) Qc h
 obtain⟨x,t,rfl⟩:=hs v hv
 exact .now
theorem Mb{a:Addr}{vs:List Value}{h0:Heap}(h3:∀v∈vs,(W3 s.heap v/\fH s.heap v=fH h0 v)/\v≠ .ref a)(hne:0<vs.length):yN prog w A s a vs (sO h0):=by
 intro sI hsI
 have at3:∀v∈vs,W3 sI.heap v/\fH sI.heap v=fH h0 v:=λ v hv=>by
  obtain⟨⟨c,k⟩,ne⟩:=h3 v hv
  obtain⟨c',k'⟩:=c.stayK (h':=sI.heap) λ b o e g=>hsI b o (λ z=>ne (by rw[e,z])) g
  exact⟨c',k'.trans k⟩
 have inv:∀p,p∈pairsOf vs->p.1∈vs:=λ p hp=>by
  rw[<-Array.mem_toList_iff,pairsOf_toList]at hp
  exact(List.of_mem_zip (a:=p.1) (b:=p.2) hp).1
 exact⟨tuples' true,λ E Q h=>Vq (λ v hv=>(at3 v hv).1) hne h,BF λ p hp=>at3 _ (inv p hp)⟩
end
end L2
namespace L2
open PySem PySem.Spec PyProof.Rows PySem.W PySem.SetTable
structure fY(t:SetTable)(n:Nat):Prop where
 place:t.place.size=n
 dum:t.dummies= #[]
 sz:iG t.mask
 room:n*5<t.mask*3
theorem fY.le{t:SetTable}{n:Nat}(h:fY t n):n<=t.mask:=by have:=h.room;omega
theorem fY.fits{t:SetTable}{n:Nat}(h:fY t n):t.fits n=true:=by
 unfold SetTable.fits SetTable.fill
 rw[h.dum,h.place]
 simpa using h.le
theorem fY.gave{t:SetTable}{n:Nat}(h:fY t n):t.gaveWay=false:=by
 unfold SetTable.gaveWay
 rcases h.sz with e|e|e|e<;>rw[e]<;>rfl
section
variable{prog:Program}{w:World}{A:Around}{E:Qh}{s:Shared}
theorem W3.key{h:Heap}{v:Value}(x:W3 h v):∃a ks,v= .ref a/\IsTupleKey (nK prog w) h ks a:=by
 obtain⟨a,o,n,x,t,i,u,y,k,rfl,ho,hc,hd⟩:=x
 exact⟨a,[.inr x,.inl i,.inr y],rfl,o,_,n,ho,hc,hd,.cons (Dp ..) (.cons (Tu ..) (.cons (Dp ..) .nil))⟩
theorem W3.eqB{u v:Value}(x:W3 s.heap u)(y:W3 s.heap v)(hu:A.units<cLine){Q:Bool->Shared->Prop}(h:∀b,Q b s):wpAny Qi A (eqBool u v) Q E s:=by
 obtain⟨a,ka,rfl,ha⟩:=x.key (prog:=prog) (w:=w)
 obtain⟨b,kb,rfl,hb⟩:=y.key (prog:=prog) (w:=w)
 exact wpAny_eqBool_tuple hu ha hb (h _)
theorem W3.quiet{v:Value}(x:W3 s.heap v){Q:Bool->Shared->Prop}(h:Q true s):wpAny Qi A (eqIsQuiet 8 v) Q E s:=by
 obtain⟨a,ka,rfl,ha⟩:=x.key (prog:=prog) (w:=w)
 exact wpAny_eqIsQuiet_tuple ha h
theorem W3.noCls{v:Value}(x:W3 s.heap v){Q:Bool->Shared->Prop}(h:Q false s):wpAny Qi A (ofAClassStatement 8 v) Q E s:=by
 obtain⟨a,o,n,x,t,i,u,y,k,rfl,ho,hc,hd⟩:=x
 unfold ofAClassStatement
 refine wpAny_bind (wpAny_typeOf (T:= "tuple") ⟨o,ho,hc⟩ ?_)
 refine wpAny_bind (wpAny_pure ?_)
 refine wpAny_bind (wpAny_seqItems ho hd ?_)
 refine wpAny_bind ?_
 rw[<-Array.forIn_toList]
 refine wpAny_forIn_list _ (λ rest r s'=>r.1=none/\s'=s/\∀v∈rest,carriedByValue v=true) _ ?_ ?_ _ _ ⟨rfl,rfl,?_⟩
 ·rintro v rest r s' ⟨hr,rfl,hall⟩
  have:ofAClassStatement 7 v=pure false:=by
   have:=hall v List.mem_cons_self
   cases v<;>first|rfl|(simp[carriedByValue]at this)|(unfold ofAClassStatement;rfl)
  rw[this]
  exact wpAny_bind (wpAny_pure (wpAny_pure ⟨rfl,rfl,λ u hu=>hall u (List.mem_cons_of_mem _ hu)⟩))
 ·rintro⟨r1,r2⟩ s' ⟨hr,rfl,_⟩
  simp only at hr
  subst hr
  exact wpAny_pure h
 ·intro v hv
  simp only[List.mem_cons,List.not_mem_nil,or_false]at hv
  rcases hv with rfl|rfl|rfl<;>rfl
theorem W3.byVal{v:Value}(x:W3 s.heap v){Q:Bool->Shared->Prop}(h:Q false s):wpAny Qi A (hashByValue 8 v) Q E s:=by
 obtain⟨a,o,n,x,t,i,u,y,k,rfl,ho,hc,hd⟩:=x
 unfold hashByValue
 refine wpAny_bind (wpAny_specialOf (T:= "tuple") ⟨o,ho,hc⟩ F.slot_tuple_hash.lookup ?_)
 dsimp only
 refine wpAny_bind (wpAny_seqItems ho hd ?_)
 refine wpAny_bind ?_
 show wpAny _ _ (forIn (#[.str x t,.int i u,.str y k]:Array Value) _ _) _ _ _
 rw[<-Array.forIn_toList]
 rw[List.forIn_cons]
 refine wpAny_bind ?_
 refine wpAny_bind (m:=hashByValue 7 (.str x t)) (wpAny_pure ?_)
 exact wpAny_pure (wpAny_pure (wpAny_pure h))
theorem Mt{x:Value}(hx:W3 s.heap x){ys:List Value}(hy:∀y∈ys,W3 s.heap y){Q:Bool->Shared->Prop}(h:Q false s):wpAny Qi A (searchCouldBeSeen x ys) Q E s:=by
 unfold searchCouldBeSeen
 obtain⟨ax,_,rfl,_⟩:=hx.key (prog:=prog) (w:=w)
 refine wpAny_bind ?_
 refine wpAny_forIn_list _ (λ rest r s'=>r.1=none/\s'=s/\∀v∈rest,W3 s.heap v) _ ?_ ?_ _ _ ⟨rfl,rfl,hy⟩
 ·rintro v rest r s' ⟨hr,rfl,hall⟩
  have hv:=hall v List.mem_cons_self
  have hend:r.1=none/\s'=s'/\∀v∈rest,W3 s'.heap v:=⟨hr,rfl,λ u hu=>hall u (List.mem_cons_of_mem _ hu)⟩
  obtain⟨av,_,rfl,_⟩:=hv.key (prog:=prog) (w:=w)
  dsimp only
  by_cases hb:(ax==av||carriedByValue (.ref ax)&&carriedByValue (.ref av))=true
  ·rw[if_pos hb]
   exact wpAny_pure ⟨rfl,hend.2⟩
  ·rw[if_neg hb]
   refine wpAny_bind (hx.quiet ?_)
   simp only[Bool.not_true,Bool.false_eq_true,if_false]
   refine wpAny_bind (hv.quiet ?_)
   simp only[Bool.not_true,Bool.false_eq_true,if_false]
   refine wpAny_bind (hx.noCls ?_)
   simp only[Bool.false_eq_true,if_false]
   refine wpAny_bind (hv.noCls ?_)
   simp only[Bool.false_eq_true,if_false]
   exact wpAny_pure ⟨rfl,hend.2⟩
 ·rintro⟨r1,r2⟩ s' ⟨hr,rfl,_⟩
  simp only at hr
  subst hr
  exact wpAny_pure h
end
section
variable{prog:Program}{w:World}{A:Around}{E:Qh}{s:Shared}
theorem Br{a:Addr}{o:Obj}{es:Array (Int×Value)}{ep:Nat}{t:SetTable}{x:Value}{h:Int}(ho:s.heap.get? a=some o)(hd:o.data= .set es ep t)(ht:fY t es.size)
  (hx:W3 s.heap x) (hes:∀e∈es.toList,W3 s.heap e.2) (hu:A.units<cLine) {Q:SetFound->Shared->Prop} (hf:∀j,Q (.free j false) s) (hq:Q (.there none) s):
  ∀(fuel k:Nat) (stand:Option Probe),k<fuel->k<10*turns t.mask->mR t (stand.getD (t.probeStart h)) k->wpAny Qi A (setSearchFrom a x h true fuel stand) Q E s
 |0,k,_,hk,_,_=>absurd hk (Nat.not_lt_zero _)
 | fuel+1,k,stand,hk,hk2,e=>by
  unfold setSearchFrom
  refine wpAny_bind (wpAny_setState_of ho hd ht.fits ?_)
  dsimp only
  rw[ht.gave]
  simp only[Bool.false_eq_true,if_false]
  generalize hg:t.probe _ h (stand.getD (t.probeStart h))=pr
  rcases Ew ht.dum _ h k (10*turns t.mask) _ hk2 e with⟨j,e1⟩|⟨j,i,p',k',e1,e2,e3,e4⟩
  ·have e1:pr=some (.empty j none):=hg.symm.trans e1
   subst e1
   exact wpAny_pure (hf j)
  ·have e1:pr=some (.candidate j i p'):=hg.symm.trans e1
   subst e1
   dsimp only
   have hi:i<es.size:=by rw[<-ht.place];exact Md e2
   have hei:es[i]? =some (es[i].1,es[i].2):=by rw[Array.getElem?_eq_getElem hi]
   have hwi:W3 s.heap es[i].2:=hes _ (by rw[Array.mem_toList_iff];exact Array.getElem_mem hi)
   by_cases hl:(!t.led)=true
   rw[if_pos hl]
   refine wpAny_bind (Mt hx (λ y hy=>?_) ?_)
   ·obtain⟨e',he',rfl⟩:=List.mem_map.mp hy
    exact hes e' (Array.mem_toList_iff.mpr (Array.mem_filter.mp (Array.mem_toList_iff.mp he')).1)
   rw[if_neg Bool.false_ne_true]
   rotate_left
   rw[if_neg hl]
   all_goals
    rw[hei]
    dsimp only
    refine wpAny_bind (wpAny_holding (hwi.eqB hx hu λ b=>?_))
    refine wpAny_bind (wpAny_setState_of ho hd ht.fits ?_)
    dsimp only
    cases b with
    |true=>exact wpAny_pure hq
    |false=>
     simp only[Bool.and_false,Bool.false_eq_true,if_false]
     have hm:t.sameMemory t.moves t.mask=some true:=by unfold sameMemory;rw[if_pos (beq_self_eq_true _)]
     rw[hm]
     dsimp only
     rw[if_pos rfl,e2]
     dsimp only
     rw[hei]
     dsimp only
     obtain⟨ai,_,hv,_⟩:=hwi.key (prog:=prog) (w:=w)
     rw[hv]
     refine wpAny_bind (wpAny_isSame_ref_self (wpAny_bind (wpAny_pure ?_)))
     exact Br ho hd ht hx hes hu hf hq fuel k' (some p') Qa Qa e4
def dO(w:World)(h:Heap)(a:Addr)(P:Value->Prop)(m:Nat):Prop:=∃o es ep t,h.get? a=some o/\o.ExactSet/\o.data= .set es ep t/\fY t es.size/\
 t.led=(!w.params.followText "set-order")/\(es.size≠0->t.plain=false)/\(∀e∈es.toList,P e.2)/\es.size<=m
theorem dO.mono{w:World}{h:Heap}{a:Addr}{P P':Value->Prop}{m m':Nat}(x:dO w h a P m)(hp:∀v,P v->P' v)(hm:m<=m'):dO w h a P' m':=by
 obtain⟨o,es,ep,t,h1,h2,h3,h4,h5,h6,h7,h8⟩:=x
 exact⟨o,es,ep,t,h1,h2,h3,h4,h5,h6,λ e he=>hp _ (h7 e he),Nat.le_trans h8 hm⟩
theorem dO.stay{w:World}{h h':Heap}{a:Addr}{P:Value->Prop}{m:Nat}(x:dO w h a P m)(k:∀o,h.get? a=some o->h'.get? a=some o):dO w h' a P m:=by
 obtain⟨o,es,ep,t,h1,r⟩:=x
 exact⟨o,es,ep,t,k o h1,r⟩
theorem En{α:Type}(xs:Array α)(p:Nat)(x:α):(SetTable.insertAt xs p x).size=xs.size+1:=by
 unfold SetTable.insertAt
 rw[Array.size_append,Array.size_push,Array.size_extract,Array.size_extract]
 omega
theorem Ds{α:Type}{xs:Array α}{a b:Nat}{y:α}(h:y∈xs.extract a b):y∈xs:=by
 obtain⟨i,hi,e⟩:=Array.mem_iff_getElem.mp h
 rw[<-e,Array.getElem_extract]
 exact Array.getElem_mem _
theorem Xj{α:Type}{xs:Array α}{p:Nat}{x y:α}(h:y∈SetTable.insertAt xs p x):y∈xs\/y=x:=by
 unfold SetTable.insertAt at h
 rcases Array.mem_append.mp h with h|h
 ·rcases Array.mem_push.mp h with h|h
  ·exact .inl (Ds h)
  ·exact .inr h
 ·exact .inl (Ds h)
theorem Ow{t:SetTable}{n:Nat}(ht:fY t n)(j:Nat):(t.put j).1.place.size=n+1/\(t.put j).1.dummies= #[]/\(t.put j).1.mask=t.mask/\(t.put j).1.led=t.led/\(t.put j).1.plain=t.plain:=by
 unfold SetTable.put
 dsimp only
 refine⟨by rw[En,ht.place],?_,rfl,rfl,rfl⟩
 rw[if_neg]
 ·exact ht.dum
 ·unfold SetTable.has;rw[ht.dum];simp
theorem Bi{a:Addr}{o:Obj}{es es':Array (Int×Value)}{ep:Nat}{t t':SetTable}{h:Heap}(ho:h.get? a=some o)(hd:o.data= .set es ep t):
  (h.update a (Obj.putSet es' t')).get? a=some {o with data:=.set es' (ep+1) t'}:=by
 have:=Heap.get?_update_self (Obj.putSet es' t') ho (by rw[putSet_of es' t' hd];rfl)
 rw[putSet_of es' t' hd]at this
 exact this
theorem Nm{a:Addr}{o:Obj}{es:Array (Int×Value)}{ep:Nat}{t:SetTable}{wanted:Nat}{P:Value->Prop}(ho:s.heap.get? a=some o)(hex:o.ExactSet)(hd:o.data= .set es ep t)
  (hf:t.fits es.size=true) (hl:t.led=(!w.params.followText "set-order")) (hp:es.size≠0->t.plain=false) (hP:∀e∈es.toList,P e.2)
  (hs:iG (sizeAbove wanted-1)) (hr:es.size*5<(sizeAbove wanted-1)*3) (h5:sizeAbove wanted<=512) {Q:Unit->Shared->Prop}
  (h:∀h',Heap.SameBut a s.heap h'->dO w h' a P es.size->Q () {s with heap:=h'}):wpAny Qi A (setRelay a wanted) Q E s:=by
 obtain⟨t',order,e,m1,m2,m3,m4,m5,m6,m7⟩:=Vk hs (es.map (·.1)) (by rw[Array.size_map];omega) t.finger (t.movedTo (sizeAbove wanted-1)) t.led t.plain
 rw[Array.size_map]at m2 m6 m7
 unfold setRelay
 refine wpAny_bind (wpAny_setState_of ho hd hf ?_)
 dsimp only
 have hline:¬sizeAbove wanted>sizeLine:=by
  have:(512:Nat)<=sizeLine:=by decide+kernel
  omega
 rw[if_neg hline]
 have hsz:(order.filterMap (es[·]?)).size=es.size:=by
  rw[<-m6]
  have:∀l:List Nat,(∀i∈l,i<es.size)->(l.filterMap (es[·]?)).length=l.length:=by
   intro l
   induction l with
   |nil=>intro _;rfl
   |cons i r ih=>
    intro hl
    have hi:=hl i List.mem_cons_self
    rw[List.filterMap_cons,Array.getElem?_eq_getElem hi]
    simp[ih λ j hj=>hl j (List.mem_cons_of_mem _ hj)]
  rw[<-Array.length_toList,Array.toList_filterMap,this _ m7,Array.length_toList]
 have e':t.relaid (es.map (·.1)) wanted=some (t',order):=e
 rw[e']
 refine wpAny_bind (wpAny_of_eq (a:=(order.filterMap (es[·]?),t')) ?_ ?_)
 ·show(if((order.filterMap (es[·]?)).size !=es.size)=true then _ else _)=_
  rw[hsz,bne_self_eq_false,if_neg Bool.false_ne_true]
 dsimp only
 refine wpAny_storeSet_of ho hd (h _ (Heap.SameBut.update s.heap a _) ?_) ?_
 ·refine⟨_,_,_,t',Bi ho hd,hex,rfl,⟨by rw[hsz,m2],m3,by rw[m1];exact hs,by rw[hsz,m1];exact hr⟩,by rw[m4,hl],λ hz=>by rw[m5];exact hp (by rw[<-hsz];exact hz),λ e he=>?_,by rw[hsz];exact Nat.le_refl _⟩
  rw[Array.toList_filterMap]at he
  obtain⟨i,_,hi⟩:=List.mem_filterMap.mp he
  exact hP e (Array.mem_toList_iff.mpr (Array.mem_of_getElem? hi))
 ·rw[hsz]
  have:(512:Nat)<=sizeLine:=by decide+kernel
  omega
theorem Mr{a:Addr}{x:Value}{P:Value->Prop}{m:Nat}(hS:dO w s.heap a P m)(hm:m<200)(hP:∀v,P v->W3 s.heap v)(hx:P x)(hu:A.units<cLine){Q:Bool->Shared->Prop}
  (h:∀b h' tk,Heap.SameBut a s.heap h'->dO w h' a P (m+1)->s.toks<=tk->Q b {s with heap:=h',toks:=tk}):wpAny Qi A (setAdd a x) Q E s:=by
 have hx3:=hP x hx
 obtain⟨ax,kx,rfl,hk⟩:=hx3.key (prog:=prog) (w:=w)
 unfold setAdd
 refine wpAny_holding (wpAny_bind (wpAny_pyHash_tuple hu hk ?_))
 generalize hs2:({s with toks:=s.toks+(kx.length+1)}:Shared)=s2
 have hh:s2.heap=s.heap:=by rw[<-hs2]
 have hS':=hS
 obtain⟨o,es,ep,t,ho,hex,hd,ht,hl,hpl,hall,hle⟩:=hS
 rw[<-hh]at ho
 have hbs:byScan (.ref ax) es=false:=rfl
 unfold setAddHashed
 refine wpAny_holding ?_
 show wpAny _ _ (setAddHashedIn a (.ref ax) _ (99999+1)) _ _ _
 unfold setAddHashedIn
 refine wpAny_bind (wpAny_setState_of ho hd ht.fits ?_)
 dsimp only
 rw[hbs]
 simp only[Bool.false_eq_true,if_false]
 generalize tupleKeyHash (nK prog w) kx=hv
 obtain⟨k,hk1,hk2⟩:=Lu ht.sz ht.dum (by rw[ht.place];exact ht.le) hv
 have hkf:k<100000:=by
  unfold turns at hk1
  rcases ht.sz with e|e|e|e<;>rw[e]at hk1<;>omega
 refine wpAny_bind (Br ho hd ht (by rw[hh];exact hx3) (λ e he=>by rw[hh];exact hP _ (hall e he)) hu (λ j=>?_) ?_ 100000 k none hkf hk1 hk2)
 ·dsimp only
  refine wpAny_bind (wpAny_setState_of ho hd ht.fits ?_)
  dsimp only
  obtain⟨q1,q2,q3,q4,q5⟩:=Ow ht j
  generalize t.put j=tp at q1 q2 q3 q4 q5⊢
  obtain⟨t1,p⟩:=tp
  dsimp only at q1 q2 q3 q4 q5⊢
  have hsz:(SetTable.insertAt es p (hv,Value.ref ax)).size=es.size+1:=En _ _ _
  have hmem:∀e∈(SetTable.insertAt es p (hv,Value.ref ax)).toList,P e.2:=λ e he=>by
   rcases Xj (Array.mem_toList_iff.mp he)with h1|rfl
   ·exact hall e (Array.mem_toList_iff.mpr h1)
   ·exact hx
  have hbig:es.size+1<=sizeLine:=by
   have:(512:Nat)<=sizeLine:=by decide+kernel
   omega
  have fin:∀t2:SetTable,t2.place.size=es.size+1->t2.dummies= #[]->t2.mask=t.mask->t2.led=t.led->t2.plain=false->
    wpAny Qi A (do
     storeSet a (SetTable.insertAt es p (hv,Value.ref ax)) t2
     if !false&&t2.tooFull then setRelay a (SetTable.grown (es.size+1))
     return true) Q E s2:=by
   intro t2 r1 r2 r3 r4 r5
   refine wpAny_bind (wpAny_storeSet_of ho hd ?_ (by rw[hsz];exact hbig))
   have hst:(s2.heap.update a (Obj.putSet (SetTable.insertAt es p (hv,Value.ref ax)) t2)).get? a=some {o with data:=.set (SetTable.insertAt es p (hv,Value.ref ax)) (ep+1) t2}:=Bi ho hd
   have hsb:Heap.SameBut a s2.heap (s2.heap.update a (Obj.putSet (SetTable.insertAt es p (hv,Value.ref ax)) t2)):=Heap.SameBut.update s2.heap a _
   have back:∀h',s2={s2 with heap:=s2.heap}->({s2 with heap:=h'}:Shared)={s with heap:=h',toks:=s.toks+(kx.length+1)}:=λ h' _=>by rw[<-hs2]
   by_cases hfull:t2.tooFull=true
   ·simp only[hfull,Bool.not_false,Bool.and_self,if_true]
    have hfull:(es.size+1)*5≥t.mask*3:=by
     unfold SetTable.tooFull SetTable.fill at hfull
     rw[r1,r2,r3]at hfull
     simpa using hfull
    obtain⟨g1,g2,g3⟩:=Kg ht.sz ht.room hfull Qa
    refine wpAny_bind (Nm (s:={s2 with heap:=s2.heap.update a (Obj.putSet (SetTable.insertAt es p (hv,Value.ref ax)) t2)}) (P:=P) hst hex rfl ?_ (by rw[r4,hl]) (λ _=>r5) hmem g1 (by rw[hsz];exact g2) g3 λ h' sb2 hR=>?_)
    ·unfold SetTable.fits SetTable.fill
     rw[r1,r2,r3,hsz]
     have:=ht.room
     simp;omega
    ·refine wpAny_pure ?_
     rw[hsz]at hR
     have:=h true h' (s.toks+(kx.length+1)) (by rw[<-hh];exact hsb.trans sb2) (hR.mono (λ _ z=>z) Qa) Qa
     rw[<-hs2];exact this
   ·simp only[hfull,Bool.and_false,Bool.false_eq_true,if_false]
    have hfull:(es.size+1)*5<t.mask*3:=by
     unfold SetTable.tooFull SetTable.fill at hfull
     rw[r1,r2,r3]at hfull
     simpa using hfull
    refine wpAny_pure ?_
    have:=h true _ (s.toks+(kx.length+1)) (by rw[<-hh];exact hsb) ⟨_,_,_,t2,hst,hex,rfl,⟨by rw[r1,hsz],r2,by rw[r3];exact ht.sz,by rw[hsz,r3];exact hfull⟩,by rw[r4,hl],λ _=>r5,hmem,by rw[hsz];omega⟩ Qa
    rw[<-hs2]at this⊢;exact this
  by_cases hpl1:t1.plain=true
  ·rw[if_pos hpl1]
   refine wpAny_bind (W3.byVal (by rw[hh];exact hx3) ?_)
   simp only[Bool.false_eq_true,if_false]
   exact fin {t1 with plain:=false} q1 q2 q3 q4 rfl
  ·rw[if_neg hpl1]
   refine wpAny_bind (wpAny_pure ?_)
   simp only[if_true]
   exact fin t1 q1 q2 q3 q4 (by simpa using hpl1)
 ·dsimp only
  refine wpAny_pure ?_
  have:=h false s.heap (s.toks+(kx.length+1)) (Heap.SameBut.refl a s.heap) (hS'.mono (λ _ z=>z) (Nat.le_succ m)) Qa
  rw[<-hs2];exact this
end
theorem W3.stay{h h':Heap}{v:Value}(x:W3 h v)(k:∀b o,v= .ref b->h.get? b=some o->h'.get? b=some o):W3 h' v:=by
 obtain⟨a,o,n,x,t,i,u,y,j,rfl,ho,r⟩:=x
 exact⟨a,o,n,x,t,i,u,y,j,rfl,k a o rfl ho,r⟩
section
variable{prog:Program}{w:World}{A:Around}{R:Result->Shared->Prop}{I:Addr}{fp wr:List Addr}{G:Array GenState->Array GenState->Prop}{n:Nat}{Pi:Nat->Value->Prop}{St:Nat->Shared->Prop}
theorem Iq(W:WalksS prog w A.in1 I fp wr G n Pi St)(S:Addr)(hSf:S∉fp){P:Value->Prop}(hPi:∀i v,Pi i v->P v)(hne:∀b,P (.ref b)->b∉S::wr)(hn:n<200)(hu:A.in1.units<cLine):
  ∀(k i:Nat) (s:Shared),n-i=k->i<=n->St i s->(∀v,P v->W3 s.heap v)->dO w s.heap S P i->
   (∀s',Moved (S::wr) G s s'->dO w s'.heap S P n->R (.ok (.ret .none)) s')->codeAny Qi A (.builtin "set.update.loop" ⟨[.ref S,.ref I],[]⟩) R s:=by
 have hSw:S∉wr:=λ z=>hSf (W.sub S z)
 have up:∀b∈wr,b∈S::wr:=λ b z=>List.mem_cons_of_mem S z
 intro k
 induction k with
 |zero=>
  intro i s hk hi st hW hS fin
  obtain rfl:i=n:=by omega
  refine codeAny_builtin F.entry_set_update_loop ?_
  rw[Around.under_plainId F.plain_set_update_loop _]
  show wpAny _ A.in1 (pyNext (.ref I)>>=_) _ _ s
  refine wpAny_bind (W.done s _ _ st λ s1 hm=>?_)
  exact wpAny_pure (fin s1 (hm.mono up) (hS.stay λ o e=>hm.heap S o hSw e))
 | succ k ih=>
  intro i s hk hi st hW hS fin
  have lt:i<n:=by omega
  refine codeAny_builtin F.entry_set_update_loop ?_
  rw[Around.under_plainId F.plain_set_update_loop _]
  show wpAny _ A.in1 (pyNext (.ref I)>>=_) _ _ s
  refine wpAny_bind (W.item i s _ _ lt st λ v s1 hv st1 hm=>?_)
  have hW1:∀v,P v->W3 s1.heap v:=λ u hp=>(hW u hp).stay λ b o e q=>hm.heap b o (λ z=>hne b (by rw[<-e];exact hp) (up b z)) q
  have hS1:dO w s1.heap S P i:=hS.stay λ o e=>hm.heap S o hSw e
  show wpAny _ A.in1 (holding [v] (setAdd S v)>>=_) _ _ s1
  refine wpAny_bind (wpAny_holding (Mr hS1 Qa hW1 (hPi i v hv) hu λ _ h' tk sb hS2 htk=>?_))
  refine wpAny_pure ⟨plainId_quiet F.plain_set_update_loop _,ih (i+1) _ Qa lt (W.frame _ s1 _ _ st1 htk λ b hb o e=>?_) (λ u hp=>(hW1 u hp).stay λ b o e q=>?_) hS2 λ s2 hm2 hS3=>?_⟩
  ·rw[sb.2 b (λ z=>hSf (by rw[<-z];exact hb))];exact e
  ·show h'.get? b=some o
   rw[sb.2 b (λ z=>hne b (by rw[<-e];exact hp) (by rw[z];exact List.mem_cons_self))];exact q
  ·refine fin s2 (Moved.trans W.gtrans ((hm.mono up).then_heap htk λ b o hb e=>?_) hm2) hS3
   rw[sb.2 b (λ z=>hb (by rw[z];exact List.mem_cons_self))];exact e
end
section
variable{prog:Program}{w:World}{A:Around}{E:Qh}{s:Shared}
def gQ(w:World):Obj:={cls:=.type "set",dict:=none,data:=.set #[] 0 (.fresh 0 0 (!w.params.followText "set-order"))}
theorem Mk(x:Value){Q:Qh}(h:Q (.ref s.heap.objs.size) {s with heap:=s.heap.push (gQ w)}):
  codeAny Qi A (.call (.builtin "set.__new__") ⟨[.type "set",x],[]⟩) (wants Q E) s:=by
 refine codeAny_of_tree ?_
 show wpAny _ A.in1 (do checkBuiltinCall "set.__new__" ⟨[.type "set",x],[]⟩;again (.builtin "set.__new__" ⟨[.type "set",x],[]⟩)) _ _ s
 refine wpAny_bind (wpAny_of_eq (F.newCall_set_1 x) (wpAny_pure ⟨plainId_quiet F.plain_set_new _,codeAny_builtin F.entry_set_new ?_⟩))
 rw[Around.under_plainId F.plain_set_new _]
 unfold Builtin.«set.__new__» Builtin.Frozenset.newClass
 have sub:=sub_set_self
 cases s with
 |mk hp g d tk os=>
  dsimp only at h⊢
  wp_walk
  refine wpAny_askSetting (wpAny_pure ?_)
  dsimp only
  simp only[newObj]
  exact wpAny_bind (wpAny_alloc (wpAny_pure (wpAny_pure h)))
theorem AG(P:Value->Prop){h:Heap}{a:Addr}(e:h.get? a=some (gQ w)):dO w h a P 0:=
 ⟨_,#[],0,_,e,⟨rfl,rfl,rfl⟩,rfl,⟨rfl,rfl,.inl rfl,show 0*5<7*3 from Qc⟩,rfl,λ z=>absurd rfl z,λ e he=>by simp at he,Nat.le_refl _⟩
theorem BP{l:Addr}{its:Array Value}{P:Value->Prop}{Q:Qh}(hh:A.handled=none)(hl:s.heap.IsList l its)(hP:∀(i:Nat) v,its[i]? =some v->P v)(hW:∀v,P v->W3 s.heap v)(hn:its.size<200)
  (hu:A.units+64<cLine) (h:∀h' tk,dO w h' s.heap.objs.size P its.size->(∀b o,s.heap.get? b=some o->h'.get? b=some o)->Q (.ref s.heap.objs.size) {s with heap:=h',toks:=tk}):
  wpAny Qi A (call (.type "set") [.ref l]) Q E s:=by
 obtain⟨c,tl,mro⟩:=F.called_set.mro
 have made:=F.called_set.made
 have sub:=F.called_set.sub
 refine wpAny_call (codeAny_of_tree ?_)
 show wpAny _ _ (callAny (.type "set") _) _ _ _
 refine wpAny_pure ⟨Code.quiet_builtin _ Qd,codeAny_builtin F.entry_type_call ?_⟩
 rw[Around.under_plain (weight_type_call_type "set" [.ref l] []) rfl]
 have notT:=F.called_set.notType
 have canC:=F.called_set.canCreate
 have tcall:=F.typeCall_set_1 (.ref l)
 repeat (any_goals (first|assumption|wp_step))
 refine codeAny_mono (Mk (.ref l) (E:=E) (Q:=λ obj s₁=>obj= .ref s.heap.objs.size/\s₁={s with heap:=s.heap.push (gQ w)}) ⟨rfl,rfl⟩) λ r s₁ hr=>?_
 cases r with
 |error e=>exact hr
 | ok fl=>
  cases fl with
  | ret obj=>
   obtain⟨rfl,rfl⟩:=hr
   have gS:(s.heap.push (gQ w)).get? s.heap.objs.size=some (gQ w):=Heap.get?_push_size _ rfl
   have tS:Shared.TypeIs {s with heap:=s.heap.push (gQ w)} (.ref s.heap.objs.size) "set" :=⟨_,gS,rfl⟩
   have ini:=F.called_set.init.lookup
   have bnd:=F.called_set.init.bind (.ref s.heap.objs.size)
   repeat (any_goals (first|assumption|wp_step))
   refine codeAny_mono (codeAny_call_builtin (R:=wants (λ r s₂=>r= .none/\∃h' tk,s₂={s with heap:=h',toks:=tk}/\dO w h' s.heap.objs.size P its.size/\
    (∀b o,s.heap.get? b=some o->h'.get? b=some o)) E) F.called_set.init.plain F.entry_set_init (check_set_init_1 tS ?_)) λ r₂ s₂ hr₂=>?_
   ·have hl0:=hl
    obtain⟨⟨oc,od,oda,osl⟩,hol,hcl,nl,hdl⟩:=hl
    simp only at hcl hdl
    subst hcl;subst hdl
    have lt:l<s.heap.objs.size:=Heap.lt_size hol
    have hol':(s.heap.push (gQ w)).get? l=some {cls:=.type "list",dict:=od,data:=.seq its nl,slots:=osl}:=Heap.get?_push_of_some _ hol
    have n1:=F.sub_list_set
    have n2:=F.sub_list_frozenset
    have n3:(Value.type "list" ==Value.type "dict")=false:=by decide
    have hl1:(s.heap.push (gQ w)).IsList l its:=⟨_,hol',rfl,nl,rfl⟩
    unfold Builtin.«set.__init__» noKeywords Builtin.Frozenset.updateFrom
    generalize hPI:pyIter=PI
    wp_walk
    subst hPI
    refine wpAny_pyIter_list hl1 ?_
    refine wpAny_bind (wpAny_runValue ?_)
    have hh3:A.in1.in1.in1.handled=none:=by simp[hh]
    have szI:(s.heap.push (gQ w)).objs.size=s.heap.objs.size+1:=Heap.size_push ..
    have neI:l≠(s.heap.push (gQ w)).objs.size:=by rw[szI];exact Nat.ne_of_lt (Nat.lt_succ_of_lt lt)
    have nf:s.heap.objs.size∉[(s.heap.push (gQ w)).objs.size,l]:=by
     simp only[List.mem_cons,List.not_mem_nil,or_false,not_or]
     exact⟨by rw[szI];exact Nat.ne_of_lt (Nat.lt_succ_self _),Nat.ne_of_gt lt⟩
    have old:∀b o,s.heap.get? b=some o->((s.heap.push (gQ w)).push {cls:=.type "list_iterator",data:=.fields #[.ref l,.int 0 0]}).get? b=some o:=λ b o e=>Heap.get?_push_of_some _ (Heap.get?_push_of_some _ e)
    refine Iq ((Walks.list hh3 _ l neI its).toS) s.heap.objs.size nf (P:=P) hP (λ b hb=>?_) hn (by show A.units+1+1+1<cLine;omega) its.size 0 _ Qa (Nat.zero_le _)
     ⟨⟨_,Heap.get?_push_size _ rfl,rfl,rfl⟩,hl1.push _⟩ (λ v hp=>(hW v hp).stay λ b o _ e=>old b o e) (AG P (Heap.get?_push_of_some _ gS)) λ s' hm hS'=>?_
    ·obtain⟨b',o',_,_,_,_,_,_,_,hv,ho',_⟩:=hW _ hb
     injection hv with hv
     subst hv
     have:=Heap.lt_size ho'
     simp only[List.mem_cons,List.not_mem_nil,or_false,not_or]
     exact⟨Nat.ne_of_lt this,by rw[szI];exact Nat.ne_of_lt (Nat.lt_succ_of_lt this)⟩
    ·obtain⟨h',g',d',tk',os'⟩:=s'
     have eg:g'=s.gens:=hm.gens
     have ed:d'=s.drawn:=hm.drawn
     have eo:os'=s.os:=hm.os
     subst eg;subst ed;subst eo
     show wpAny _ _ _ _ _ _
     refine wpAny_pure ?_
     show wpAny _ _ (ret Value.none) _ _ _
     refine wpAny_pure ⟨rfl,h',tk',rfl,hS',λ b o e=>?_⟩
     have:=Heap.lt_size e
     exact hm.heap b o (by simp only[List.mem_cons,List.not_mem_nil,or_false,not_or];exact⟨Nat.ne_of_lt this,by rw[szI];exact Nat.ne_of_lt (Nat.lt_succ_of_lt this)⟩) (old b o e)
   ·cases r₂ with
    |error e=>exact hr₂
    | ok fl₂=>
     cases fl₂ with
     |ret r=>
      obtain⟨rfl,h',tk,rfl,hS',hk'⟩:=hr₂
      repeat (any_goals (first|assumption|wp_step))
      exact h _ _ hS' hk'
     |_=>exact hr₂.elim
  |_=>exact hr.elim
end
theorem si_slot:Slot "set_iterator" "__next__" "set_iterator.__next__" := .of (owner:= "set_iterator") (n:= "__next__") (by rw[typeLookup_type,builtinLookup_eq_fast];kernel_rfl) Qd Qd Qd (by first|exact .inl Qd|exact .inr Qd) (by rw[isSubtype_type];kernel_rfl)
theorem Bj:entryFor table "set_iterator.__next__" =some Builtin.«set_iterator.__next__»:=entryFor_of_tree (by kernel_rfl)
theorem Mi:Manifest.owners.lookup (String.ofList ['r','o','t','a','r','e','t','i','_','t','e','s'].reverse)=some Manifest.sig_set_iterator:=by kernel_rfl
theorem Bk(a:Value):argsOk "set_iterator.__next__" ⟨[a],[]⟩:=by
 unfold argsOk;rw[signature?_of (id:= "set_iterator.__next__") (n:=['_','_','t','x','e','n','_','_']) (o:=['r','o','t','a','r','e','t','i','_','t','e','s']) (by kernel_rfl) Mi];kernel_rfl
theorem Mm:entryFor table "set.__iter__" =some Builtin.«frozenset.__iter__»:=entryFor_alias (id':= "frozenset.__iter__") (by kernel_rfl) rfl Qd (by kernel_rfl)
theorem Cy{α:Type}(next:Nat->Nat):∀(fuel k:Nat) (left:List α) (out:Array α),fuel=left.length->(pickOrder.go next fuel k left out).size=out.size+left.length/\∀x∈pickOrder.go next fuel k left out,x∈out\/x∈left
 |0,k,left,out,h=>by
  obtain rfl:left=[]:=List.length_eq_zero_iff.mp h.symm
  unfold pickOrder.go
  exact⟨rfl,λ x hx=>.inl hx⟩
 | fuel+1,k,left,out,h=>by
  unfold pickOrder.go
  have hlt:next k%left.length<left.length:=Nat.mod_lt _ Qa
  rw[List.getElem?_eq_getElem hlt]
  dsimp only
  obtain⟨h1,h2⟩:=Cy next fuel (k+1) (left.eraseIdx (next k%left.length)) (out.push left[next k%left.length]) (by rw[List.length_eraseIdx_of_lt hlt];omega)
  refine⟨by rw[h1,Array.size_push,List.length_eraseIdx_of_lt hlt];omega,λ x hx=>?_⟩
  rcases h2 x hx with h3|h3
  ·rcases Array.mem_push.mp h3 with h4|rfl
   ·exact .inl h4
   ·exact .inr (List.getElem_mem hlt)
  ·exact .inr (List.mem_of_mem_eraseIdx h3)
theorem Cw{α:Type}(next:Nat->Nat)(xs:Array α):(pickOrder next xs).size=xs.size/\∀x∈pickOrder next xs,x∈xs:=by
 unfold pickOrder
 obtain⟨h1,h2⟩:=Cy next xs.size 0 xs.toList #[] Qb
 refine⟨by simpa using h1,λ x hx=>?_⟩
 rcases h2 x hx with h|h
 ·simp at h
 ·exact Array.mem_toList_iff.mp h
section
variable{prog:Program}{w:World}{A:Around}{E:Qh}{s:Shared}
theorem Fm{α:Type}:∀(n:Nat) (xs:List α) (s:Shared) {Q:List α->Shared->Prop},n=xs.length->(∀ys d,ys.length=n->(∀y∈ys,y∈xs)->Q ys {s with drawn:=d})->wpAny Qi A (drawOrder n xs) Q E s
 |0,xs,s,Q,_,h=>by
  unfold drawOrder
  exact wpAny_pure (h [] s.drawn rfl λ _ z=>nomatch z)
 |n+1,[],s,Q,e,h=>nomatch e
 |n+1,x::r,s,Q,e,h=>by
  unfold drawOrder
  refine wpAny_bind ?_
  intro Γ p hΓ
  refine⟨Qb,?_⟩
  show Sem.wp _ _ (Sem.pure _) _ _ _ _
  generalize hi:(Qi).w.draws Source.order (s.drawn.get Source.order)%(x::r).length=i
  have hlt:i<(x::r).length:=by rw[<-hi];exact Nat.mod_lt _ Qb
  show wpAny Qi A _ Q E _
  rw[List.getElem?_eq_getElem hlt]
  dsimp only
  refine wpAny_bind (Fm n ((x::r).eraseIdx i) _ (by rw[List.length_eraseIdx_of_lt hlt];omega) λ ys d hl hm=>?_)
  refine wpAny_pure (h _ d (by simp[hl]) λ y hy=>?_)
  rcases List.mem_cons.mp hy with rfl|hy
  ·exact List.getElem_mem hlt
  ·exact List.mem_of_mem_eraseIdx (hm y hy)
end
inductive qO(w:World)(h:Heap)(T:Addr)(n i:Nat)(t:SetTable):Value->Prop
 |text {k:Int} {u:Tok} (e:w.params.followText "set-order" =true):qO w h T n i t (.int k u)
 |drawn {ps:List Nat} {m:Nat} (e:w.params.followText "set-order" =false) (hT:h.get? T=some {cls:=.type "tuple",data:=.seq (ps.map λ (p:Nat)=>rawInt p).toArray m}) (hl:ps.length=n) (hp:∀p∈ps,p<n):qO w h T n i t (.ref T)
 |few {k:Nat} {u:Tok} (e:w.params.followText "set-order" =false) (hn:n<=1) (hl:t.led=true) (h0:i=0->k=0) (h1:i=1->∃j,t.place[0]? =some j/\k=j+1):qO w h T n i t (.int k u)
def lE(w:World)(P:Value->Prop)(S I T:Addr)(n i:Nat)(h:Heap):Prop:=∃o es ep t first,h.get? S=some o/\o.data= .set es ep t/\fY t es.size/\es.size=n/\(∀e∈es.toList,P e.2)/\
 h.get? I=some {cls:=.type "set_iterator",data:=.fields #[first,.int i 0,.ref S,.int n 0,.int ep 0]}/\qO w h T n i t first
section
variable{prog:Program}{w:World}{A:Around}{E:Qh}{s:Shared}{P:Value->Prop}{S I T:Addr}{n i:Nat}
theorem qL{b:Bool}(e:w.params.followText "set-order" =b){Q:Bool->Shared->Prop}(h:Q b s):wpAny Qi A setsByText Q E s:=by
 unfold setsByText
 refine wpAny_bind (wpAny_askSetting (wpAny_pure ?_))
 have:(Qi).w.params.followText "set-order" =b:=e
 rw[this]
 exact h
section
variable{o:Obj}{es:Array (Int×Value)}{ep:Nat}{t:SetTable}
theorem Mo(e:w.params.followText "set-order" =true)(hS:s.heap.get? S=some o)(hd:o.data= .set es ep t)(ht:fY t es.size){Q:Array (Int×Value)->Shared->Prop}(h:∀xs,xs.size=es.size->(∀x∈xs,x∈es)->Q xs s):
  wpAny Qi A (setWalk S) Q E s:=by
 unfold setWalk
 refine wpAny_bind (wpAny_setState_of hS hd ht.fits ?_)
 dsimp only
 refine wpAny_bind (qL e ?_)
 rw[if_pos rfl]
 refine wpAny_bind (wpAny_askSetting (wpAny_pure ?_))
 exact h _ (Cw _ es).1 (Cw _ es).2
theorem Bp(e:w.params.followText "set-order" =true)(hS:s.heap.get? S=some o)(hd:o.data= .set es ep t)(ht:fY t es.size){slot given:Nat}{Q:Option (Value×Nat)->Shared->Prop}
  (h:∀r,(given<es.size->∃x∈es.toList,r=some (x.2,slot))->(es.size<=given->r=none)->Q r s):wpAny Qi A (setNext S slot given ep) Q E s:=by
 unfold setNext
 refine wpAny_bind (wpAny_setState_of hS hd ht.fits ?_)
 dsimp only
 refine wpAny_bind (qL e ?_)
 rw[if_pos rfl]
 simp only[bne_self_eq_false,Bool.false_eq_true,if_false]
 refine wpAny_bind (Mo e hS hd ht λ xs h1 h2=>wpAny_pure (h _ (λ hlt=>?_) λ hle=>?_))
 ·have hx:given<xs.size:=by omega
  exact⟨xs[given],Array.mem_toList_iff.mpr (h2 _ (Array.getElem_mem hx)),by rw[Array.getElem?_eq_getElem hx];rfl⟩
 ·rw[Array.getElem?_eq_none Qa];rfl
theorem Gm{xs:Array Nat}{j:Nat}(h:xs[0]? =some j)(hs:xs.size=1):below xs 0=0/\below xs (j+1)=1:=by
 obtain⟨l⟩:=xs
 match l,hs,h with
 |[y],_,h=>
  have e:y=j:=by simpa using h
  subst e
  unfold below
  show below.go _ _ 1 0 1=0/\below.go _ _ 1 0 1=1
  unfold below.go
  constructor
  ·simp[below.go]
  ·simp[below.go]
theorem Bq(e:w.params.followText "set-order" =false)(hS:s.heap.get? S=some o)(hd:o.data= .set es ep t)(ht:fY t es.size)(hn:es.size<=1)(hl:t.led=true){slot given:Nat}{Q:Option (Value×Nat)->Shared->Prop}
  (h:∀r,(∀x,es[below t.place slot]? =some x->∀j,t.place[below t.place slot]? =some j->r=some (x.2,j+1))->(es[below t.place slot]? =none->r=none)->Q r s):wpAny Qi A (setNext S slot given ep) Q E s:=by
 unfold setNext
 refine wpAny_bind (wpAny_setState_of hS hd ht.fits ?_)
 dsimp only
 refine wpAny_bind (qL e ?_)
 rw[if_neg Bool.false_ne_true]
 show wpAny _ _ (if(!t.plain&&decide (es.size>1))=true then _ else _) _ _ _
 rw[if_neg (by rw[decide_eq_false Qa];simp)]
 refine wpAny_bind ?_
 show wpAny _ _ (if(!t.led&& !es.isEmpty)=true then _ else _) _ _ _
 rw[hl,Bool.not_true,Bool.false_and,if_neg Bool.false_ne_true]
 refine wpAny_pure (wpAny_pure (h _ (λ x e1 j e2=>?_) λ e1=>?_))
 ·rw[e1,e2]
 ·rw[e1]
theorem Mq(hS:s.heap.get? S=some o)(hd:o.data= .set es ep t)(ht:fY t es.size){p:Nat}(hp:p<es.size){Q:Qh}(h:Q es[p].2 s):wpAny Qi A (setNextDrawn S p ep) Q E s:=by
 unfold setNextDrawn
 refine wpAny_bind (wpAny_setState_of hS hd ht.fits ?_)
 dsimp only
 simp only[bne_self_eq_false,Bool.false_eq_true,if_false]
 rw[Array.getElem?_eq_getElem hp]
 exact wpAny_pure h
end
theorem jZ{h:Heap}{I:Addr}{fs:Array Value}{k:Nat}{v:Value}(hI:h.get? I=some {cls:=.type "set_iterator",data:=.fields fs}):
  (h.update I (Obj.mapFields (·.setIfInBounds k v))).get? I=some {cls:=.type "set_iterator",data:=.fields (fs.setIfInBounds k v)}:=by
 have:=Heap.get?_update_self (Obj.mapFields (·.setIfInBounds k v)) hI (Obj.isFreed_of_fields (Obj.data_mapFields rfl _))
 exact this
theorem Th(st:lE w P S I T n i s.heap)(hIS:I≠S)(hIT:I≠T)(hi:i<n){Q:Option Value->Shared->Prop}
  (h:∀v h',P v->lE w P S I T n (i+1) h'->Heap.SameBut I s.heap h'->Q (some v) {s with heap:=h'}):wpAny Qi A (pyNext (.ref I)) Q E s:=by
 obtain⟨o,es,ep,t,first,hS,hd,ht,hn,hP,hI,way⟩:=st
 have tI:s.TypeIs (.ref I) "set_iterator" :=⟨_,hI,rfl⟩
 unfold pyNext
 refine wpAny_bind (wpAny_attempt (wpAny_callSpecial?_slot (name:=Str.ofString "__next__") tI si_slot (wpAny_call_entry si_slot tI Bj ?_ (Bk _))))
 unfold Builtin.«set_iterator.__next__»
 refine wpAny_bind (m:=slotArgs "__next__" 0 _) (wpAny_pure ?_)
 dsimp only
 refine wpAny_bind (wpAny_fieldsOf hI rfl ?_)
 dsimp only
 refine wpAny_bind (wpAny_setEntries_of hS hd ht.fits ?_)
 rw[hn]
 simp only[bne_self_eq_false,Bool.false_eq_true,if_false]
 cases way with
 | @text k u e=>
  dsimp only
  refine wpAny_bind (Bp e hS hd ht λ r h1 _=>?_)
  obtain⟨x,hx,rfl⟩:=h1 (by rw[hn];simpa using hi)
  dsimp only
  refine wpAny_bind (wpAny_setField hI rfl Qb ?_)
  refine wpAny_bind (wpAny_setField (jZ hI) rfl Qb ?_)
  refine wpAny_pure ⟨_,rfl,wpAny_pure (h x.2 _ (hP x hx) ⟨o,es,ep,t,rawInt k.toNat,?_,hd,ht,hn,hP,?_,.text e⟩ ((Heap.SameBut.update ..).trans (Heap.SameBut.update ..)))⟩
  ·rw[Heap.get?_update_other _ _ hIS,Heap.get?_update_other _ _ hIS];exact hS
  ·exact jZ (jZ hI)
 | @drawn ps m e hT hl hp=>
  dsimp only
  refine wpAny_bind (wpAny_seqItems hT rfl ?_)
  dsimp only
  have hpi:(ps.map λ (p:Nat)=>rawInt p).toArray[(i:Int).toNat]? =some (rawInt (ps[i]' Qa:Nat)):=by
   simp[hl,hi]
  rw[hpi]
  have hpb:ps[i]' Qa<es.size:=by rw[hn];exact hp _ (List.getElem_mem _)
  show wpAny _ _ (setNextDrawn S ((ps[i]' Qa:Nat):Int).toNat (ep:Int).toNat>>=_) _ _ _
  rw[Int.toNat_natCast,Int.toNat_natCast]
  refine wpAny_bind (Mq hS hd ht hpb ?_)
  refine wpAny_bind (wpAny_setField hI rfl Qb ?_)
  refine wpAny_pure ⟨_,rfl,wpAny_pure (h _ _ (hP _ (Array.mem_toList_iff.mpr (Array.getElem_mem hpb))) ⟨o,es,ep,t,.ref T,?_,hd,ht,hn,hP,?_,.drawn (ps:=ps) (m:=m) e ?_ hl hp⟩ (Heap.SameBut.update ..))⟩
  ·rw[Heap.get?_update_other _ _ hIS];exact hS
  ·exact jZ hI
  ·rw[Heap.get?_update_other _ _ hIT];exact hT
 | @few k u e hn1 hl h0 h1=>
  dsimp only
  obtain rfl:i=0:=by omega
  obtain rfl:n=1:=by omega
  obtain rfl:k=0:=h0 rfl
  have hp0:(0:Nat)<t.place.size:=by rw[ht.place];omega
  obtain⟨b0,b1⟩:=Gm (Array.getElem?_eq_getElem hp0) (by rw[ht.place];omega)
  refine wpAny_bind (Bq e hS hd ht Qa hl λ r h1 _=>?_)
  have he0:(0:Nat)<es.size:=by omega
  obtain rfl:=h1 es[0] (by show es[below t.place 0]? =_;rw[b0];exact Array.getElem?_eq_getElem he0) t.place[0] (by show t.place[below t.place 0]? =_;rw[b0];exact Array.getElem?_eq_getElem hp0)
  dsimp only
  refine wpAny_bind (wpAny_setField hI rfl Qb ?_)
  refine wpAny_bind (wpAny_setField (jZ hI) rfl Qb ?_)
  refine wpAny_pure ⟨_,rfl,wpAny_pure (h es[0].2 _ (hP _ (Array.mem_toList_iff.mpr (Array.getElem_mem he0))) ⟨o,es,ep,t,rawInt (t.place[0]+1:Nat),?_,hd,ht,hn,hP,?_,.few e (Nat.le_refl _) hl (λ z=>nomatch z) λ _=>⟨_,Array.getElem?_eq_getElem hp0,rfl⟩⟩ ((Heap.SameBut.update ..).trans (Heap.SameBut.update ..)))⟩
  ·rw[Heap.get?_update_other _ _ hIS,Heap.get?_update_other _ _ hIS];exact hS
  ·exact jZ (jZ hI)
end
section
variable{prog:Program}{w:World}{A:Around}{E:Qh}{s:Shared}{P:Value->Prop}{S I T:Addr}{n i:Nat}
theorem vF(hh:A.handled=none){P2:PySem.Fin->Shared->Prop}(h:∀e h',(∀b o,s.heap.get? b=some o->h'.get? b=some o)->Shared.TypeIs {s with heap:=h'} e "StopIteration"->E e {s with heap:=h'}):
  wpAny Qi A (newExc (.type "StopIteration") []>>=raiseNew (α:=PySem.Fin)) P2 E s:=by
 refine wpAny_bind ?_
 simp only[newExc,newTuple]
 refine wpAny_bind (wpAny_newObj_type ?_ (by size_fits))
 refine wpAny_bind (m:=firstArgMember _ _) (wpAny_of_eq (a:=Value.none) (by first|rfl|(simp only[firstArgMember];rfl)) ?_)
 refine wpAny_newObj_type ?_ (by size_fits)
 simp only[raiseNew]
 refine wpAny_bind (wpAny_handled ?_)
 rw[hh]
 refine wpAny_bind (wpAny_pure (wpAny_throw ?_))
 exact h _ _ (λ b o e=>Heap.get?_push_of_some _ (Heap.get?_push_of_some _ e)) ⟨_,Heap.get?_push_size _ rfl,rfl⟩
theorem Ti(st:lE w P S I T n n s.heap)(hh:A.handled=none){Q:Option Value->Shared->Prop}(h:∀h',(∀b o,b≠I->s.heap.get? b=some o->h'.get? b=some o)->Q none {s with heap:=h'}):
  wpAny Qi A (pyNext (.ref I)) Q E s:=by
 obtain⟨o,es,ep,t,first,hS,hd,ht,hn,hP,hI,way⟩:=st
 have tI:s.TypeIs (.ref I) "set_iterator" :=⟨_,hI,rfl⟩
 unfold pyNext
 refine wpAny_bind (wpAny_attempt (wpAny_callSpecial?_slot (name:=Str.ofString "__next__") tI si_slot (wpAny_call_entry si_slot tI Bj ?_ (Bk _))))
 unfold Builtin.«set_iterator.__next__»
 refine wpAny_bind (m:=slotArgs "__next__" 0 _) (wpAny_pure ?_)
 dsimp only
 refine wpAny_bind (wpAny_fieldsOf hI rfl ?_)
 dsimp only
 refine wpAny_bind (wpAny_setEntries_of hS hd ht.fits ?_)
 rw[hn]
 simp only[bne_self_eq_false,Bool.false_eq_true,if_false]
 have fin:∀e h',(∀b o,b≠I->s.heap.get? b=some o->h'.get? b=some o)->Shared.TypeIs {s with heap:=h'} e "StopIteration" ->
   wpAny Qi A (do if<-isInstance e (.type "StopIteration")then pure none else throw e) Q E {s with heap:=h'}:=λ e h' hk hT=>by
  refine wpAny_bind (wpAny_isInstance (b:=true) hT isSubtype_stop ?_)
  exact wpAny_pure (h h' hk)
 have one:∀(k:Nat) (v:Value) (b:Addr) (o:Obj),b≠I->s.heap.get? b=some o->(s.heap.update I (Obj.mapFields (·.setIfInBounds k v))).get? b=some o:=λ k v b o hb e=>by
  rw[Heap.get?_update_other _ _ (Ne.symm hb)];exact e
 cases way with
 | @text k u e=>
  dsimp only
  refine wpAny_bind (Bp e hS hd ht λ r _ h2=>?_)
  obtain rfl:=h2 (by rw[hn];simp)
  dsimp only
  refine wpAny_bind (wpAny_setField hI rfl Qb ?_)
  refine vF (A:=A.in1) hh ?_
  exact λ e h' hk hT=>fin e h' (λ b o hb q=>hk b o (one _ _ b o hb q)) hT
 | @drawn ps m e hT hl hp=>
  dsimp only
  refine wpAny_bind (wpAny_seqItems hT rfl ?_)
  dsimp only
  have hpi:(ps.map λ (p:Nat)=>rawInt p).toArray[(n:Int).toNat]? =none:=by simp[hl]
  rw[hpi]
  dsimp only
  refine wpAny_bind (wpAny_setField hI rfl Qb ?_)
  refine wpAny_bind (wpAny_setField (jZ hI) rfl Qb ?_)
  refine vF (A:=A.in1) hh ?_
  exact λ e h' hk hT=>fin e h' (λ b o hb q=>hk b o (by
   show((s.heap.update I _).update I _).get? b=some o
   rw[Heap.get?_update_other _ _ (Ne.symm hb)];exact one _ _ b o hb q)) hT
 | @few k u e hn1 hl h0 h1=>
  dsimp only
  refine wpAny_bind (Bq e hS hd ht Qa hl λ r _ h2=>?_)
  obtain rfl:=h2 (by
   rcases(show n=0\/n=1 from Qa)with rfl|rfl
   ·exact Array.getElem?_eq_none Qa
   ·obtain⟨j,hj,rfl⟩:=h1 rfl
    obtain⟨_,b1⟩:=Gm hj (by rw[ht.place];omega)
    show es[below t.place (j+1)]? =none
    rw[b1]
    exact Array.getElem?_eq_none Qa)
  dsimp only
  refine wpAny_bind (wpAny_setField hI rfl Qb ?_)
  refine vF (A:=A.in1) hh ?_
  exact λ e h' hk hT=>fin e h' (λ b o hb q=>hk b o (one _ _ b o hb q)) hT
theorem Vz(hS:dO w s.heap S P n)(hn:n<=1000){Q:Qh}(h:∀I T m h' d,m<=n->s.heap.objs.size<=I->I≠T->I≠S->I<h'.objs.size->(T=S\/s.heap.objs.size<=T)->(∀b o,s.heap.get? b=some o->h'.get? b=some o)->lE w P S I T m 0 h'->Q (.ref I) {s with heap:=h',drawn:=d}):
  wpAny Qi A (pyIter (.ref S)) Q E s:=by
 obtain⟨o,es,ep,t,ho,hex,hd,ht,hl,hpl,hP,hle⟩:=hS
 have tS:s.TypeIs (.ref S) "set" :=⟨o,ho,hex.1⟩
 have ltS:S<s.heap.objs.size:=Heap.lt_size ho
 refine wpAny_pyIter_slot tS F.slot_set_iter (wpAny_call_entry F.slot_set_iter tS Mm ?_ (F.args_set_iter_1 _))
 unfold Builtin.«frozenset.__iter__» Builtin.Frozenset.slot0
 refine wpAny_bind (wpAny_bind (m:=slotArgs "__iter__" 0 _) (wpAny_pure ?_))
 refine wpAny_pure ?_
 unfold Builtin.Frozenset.sizeOf
 refine wpAny_bind (wpAny_bind (wpAny_setEntries_of ho hd ht.fits (wpAny_pure ?_)))
 refine wpAny_bind ?_
 unfold setDrawn
 have line:(1000:Nat)<=sizeLine:=by decide+kernel
 have fin:∀(first:Value) (T:Addr) (h1:Heap) (d:Drawn),(∀b o,s.heap.get? b=some o->h1.get? b=some o)->s.heap.objs.size<=h1.objs.size->T<h1.objs.size->(T=S\/s.heap.objs.size<=T)->qO w h1 T es.size 0 t first->
   wpAny Qi A.in1 (do ret (<-newFields "set_iterator" [first,rawInt 0,.ref S,rawInt es.size,rawInt (<-setEpoch S)])) (λ fin s'=>∃r,fin= .done (.ret r)/\∃T' r',s'.TypeIs r T'/\typeLookup (.type T') "__next__" =pure (some r')/\Q r s') E {s with heap:=h1,drawn:=d}:=by
  intro first T h1 d hk hle1 hT hTS way
  refine wpAny_bind (wpAny_setEpoch_of (s:={s with heap:=h1,drawn:=d}) (hk S o ho) hd ht.fits ?_)
  refine wpAny_bind (wpAny_newObj_type ?_)
  have keep:∀b o,h1.get? b=some o->(h1.push {cls:=.type "set_iterator",data:=.fields #[first,rawInt 0,.ref S,rawInt es.size,rawInt ep]}).get? b=some o:=λ b o e=>Heap.get?_push_of_some _ e
  refine wpAny_pure ⟨_,rfl,"set_iterator",_,⟨_,Heap.get?_push_size _ rfl,rfl⟩,si_slot.lookup,?_⟩
  refine h h1.objs.size T es.size _ d hle hle1 (Nat.ne_of_gt hT) (Nat.ne_of_gt (Nat.lt_of_lt_of_le ltS hle1)) (by rw[Heap.size_push];exact Nat.lt_succ_self _) hTS (λ b o e=>keep b o (hk b o e))
   ⟨o,es,ep,t,first,keep S o (hk S o ho),hd,ht,rfl,hP,Heap.get?_push_size _ rfl,?_⟩
  cases way with
  |text e=>exact .text e
  |drawn e q hl hp=>exact .drawn e (keep _ _ q) hl hp
  |few e hn hl h0 h1=>exact .few e hn hl h0 h1
 refine wpAny_bind (wpAny_setState_of ho hd ht.fits ?_)
 dsimp only
 cases e:w.params.followText "set-order" with
 |true=>
  refine wpAny_bind (qL e (wpAny_pure ?_))
  simp only[Bool.not_true,Bool.false_and,Bool.false_eq_true,if_false]
  refine wpAny_bind (wpAny_pure ?_)
  exact fin (rawInt 0) S s.heap s.drawn (λ _ _ q=>q) (Nat.le_refl _) ltS (.inl rfl) (.text e)
 | false=>
  refine wpAny_bind (qL e (wpAny_pure ?_))
  by_cases h1:es.size<=1
  ·have:(!false&&(!t.plain&&decide (es.size>1)))=false:=by rw[decide_eq_false Qa];simp
   show wpAny _ _ (if(!false&&(!t.plain&&decide (es.size>1)))=true then _ else _) _ _ _
   rw[this,if_neg Bool.false_ne_true]
   refine wpAny_bind (wpAny_pure ?_)
   exact fin (rawInt 0) S s.heap s.drawn (λ _ _ q=>q) (Nat.le_refl _) ltS (.inl rfl) (.few (k:=0) e h1 (by rw[hl,e];rfl) (λ _=>rfl) λ z=>nomatch z)
  ·have:(!false&&(!t.plain&&decide (es.size>1)))=true:=by rw[decide_eq_true Qa,hpl Qa];simp
   show wpAny _ _ (if(!false&&(!t.plain&&decide (es.size>1)))=true then _ else _) _ _ _
   rw[this,if_pos rfl]
   refine wpAny_bind (Fm _ _ _ Qb λ ys d hly hmy=>?_)
   refine wpAny_bind (wpAny_newTuple ?_ (by rw[List.length_map,hly];omega))
   exact fin (.ref s.heap.objs.size) s.heap.objs.size _ d (λ b o q=>Heap.get?_push_of_some _ q) (by rw[Heap.size_push];exact Nat.le_succ _) (by rw[Heap.size_push];exact Nat.lt_succ_self _) (.inr (Nat.le_refl _))
    (.drawn (m:=0) e (Heap.get?_push_size _ rfl) hly λ p hp=>List.mem_range.mp (hmy p hp))
end
theorem lE.stay{w:World}{P:Value->Prop}{S I T:Addr}{n i:Nat}{h h':Heap}(x:lE w P S I T n i h)(k:∀b o,b=S\/b=I\/b=T->h.get? b=some o->h'.get? b=some o):lE w P S I T n i h':=by
 obtain⟨o,es,ep,t,first,hS,hd,ht,hn,hP,hI,way⟩:=x
 refine⟨o,es,ep,t,first,k S o (.inl rfl) hS,hd,ht,hn,hP,k I _ (.inr (.inl rfl)) hI,?_⟩
 cases way with
 |text e=>exact .text e
 |drawn e q hl hp=>exact .drawn e (k T _ (.inr (.inr rfl)) q) hl hp
 |few e hn hl h0 h1=>exact .few e hn hl h0 h1
section
variable{prog:Program}{w:World}{A:Around}{E:Qh}{s:Shared}{P:Value->Prop}{S I T L:Addr}{n i:Nat}{R:Result->Shared->Prop}
theorem AL(hIS:I≠S)(hIT:I≠T)(hLI:L≠I)(hLS:L≠S)(hLT:L≠T)(hh:A.handled=none)(hn:n<=1000)(res:Value):∀(k i:Nat) (s:Shared) (acc:Array Value) (c:Nat),n-i=k->i<=n->lE w P S I T n i s.heap->
  s.heap.get? L=some {cls:=.type "list",data:=.seq acc c}->acc.size=i->(∀v∈acc.toList,P v)->
  (∀h' acc' c',h'.get? L=some {cls:=.type "list",data:=.seq acc' c'}->acc'.size=n->(∀v∈acc'.toList,P v)->(∀b o,b≠I->b≠L->s.heap.get? b=some o->h'.get? b=some o)->R (.ok (.ret res)) {s with heap:=h'})->
  codeAny Qi A (.builtin "list.extend.loop" ⟨[.ref L,.ref I,res],[]⟩) R s:=by
 have line:(1000:Nat)<=sizeLine:=by decide+kernel
 intro k
 induction k with
 |zero=>
  intro i s acc c hk hi st hL hsz hP fin
  obtain rfl:i=n:=by omega
  refine codeAny_builtin F.entry_extend_loop ?_
  rw[Around.under_plainId F.plain_extend_loop _]
  show wpAny _ A.in1 (pyNext (.ref I)>>=_) _ _ s
  refine wpAny_bind (Ti (A:=A.in1) st hh λ h' hk'=>?_)
  exact wpAny_pure (fin h' acc c (hk' L _ hLI hL) hsz hP λ b o hb _ e=>hk' b o hb e)
 | succ k ih=>
  intro i s acc c hk hi st hL hsz hP fin
  have lt:i<n:=by omega
  refine codeAny_builtin F.entry_extend_loop ?_
  rw[Around.under_plainId F.plain_extend_loop _]
  show wpAny _ A.in1 (pyNext (.ref I)>>=_) _ _ s
  refine wpAny_bind (Th st hIS hIT lt λ v h' hv st1 sb=>?_)
  have hL1:h'.get? L=some {cls:=.type "list",data:=.seq acc c}:=by rw[sb.2 L hLI];exact hL
  show wpAny _ A.in1 (updateSeq L (·.push v)>>=_) _ _ _
  refine wpAny_bind ?_
  refine wpAny_updateSeq (s:={s with heap:=h'}) hL1 rfl (wpAny_pure ⟨plainId_quiet F.plain_extend_loop _,ih (i+1) _ (acc.push v) _ Qa lt (st1.stay λ b o hb e=>?_) (Heap.get?_update_self _ hL1 rfl) (by rw[Array.size_push,hsz]) (λ u hu=>?_) λ h2 acc' c' q1 q2 q3 q4=>?_⟩) Qa (by show(acc.push v).size<=sizeLine+1;rw[Array.size_push];omega)
  ·refine(Heap.get?_update_other _ _ ?_).trans e
   rcases hb with rfl|rfl|rfl
   ·exact hLS
   ·exact hLI
   ·exact hLT
  ·rcases Array.mem_push.mp (Array.mem_toList_iff.mp hu)with z|rfl
   ·exact hP u (Array.mem_toList_iff.mpr z)
   ·exact hv
  ·refine fin h2 acc' c' q1 q2 q3 λ b o hb1 hb2 e=>q4 b o hb1 hb2 ?_
   refine(Heap.get?_update_other _ _ (Ne.symm hb2)).trans ?_
   show h'.get? b=some o
   rw[sb.2 b hb1];exact e
theorem BC(hS:dO w s.heap S P n)(hn:n<=1000)(hh:A.handled=none){Q:List Value->Shared->Prop}
  (h:∀(vs:List Value) h' d,vs.length<=n->(∀v∈vs,P v)->(∀b o,s.heap.get? b=some o->h'.get? b=some o)->s.heap.objs.size<h'.objs.size->Q vs {s with heap:=h',drawn:=d}):wpAny Qi A (collect (.ref S)) Q E s:=by
 have hS0:=hS
 obtain⟨o,es,ep,t,ho,hex,hd,ht,hl,hpl,hP,hle⟩:=hS
 have ltS:S<s.heap.objs.size:=Heap.lt_size ho
 unfold collect
 refine wpAny_bind (wpAny_runValue (codeAny_builtin F.entry_proto_collect ?_))
 rw[Around.under_plainId F.plain_proto_collect _]
 show wpAny _ A.in1 (newList []>>=λ l=>again (.builtin "list.__iadd__" ⟨[l,.ref S],[]⟩)) _ _ s
 refine wpAny_bind (wpAny_newList ?_ (by size_fits))
 refine wpAny_pure ⟨plainId_quiet F.plain_list_iadd _,codeAny_builtin F.entry_list_iadd ?_⟩
 rw[Around.under_plainId F.plain_list_iadd _]
 show wpAny _ A.in1 (Builtin.List.listExtendWith (.ref s.heap.objs.size) (.ref S) (.ref s.heap.objs.size)) _ _ _
 unfold Builtin.List.listExtendWith
 have gL:(s.heap.push {cls:=.type "list",data:=.seq ([]:List Value).toArray}).get? s.heap.objs.size=some {cls:=.type "list",data:=.seq ([]:List Value).toArray}:=Heap.get?_push_size _ rfl
 have old:∀b o,s.heap.get? b=some o->(s.heap.push {cls:=.type "list",data:=.seq ([]:List Value).toArray}).get? b=some o:=λ b o e=>Heap.get?_push_of_some _ e
 refine wpAny_bind (wpAny_typeOf (T:= "set") ⟨o,old S o ho,hex.1⟩ ?_)
 have h1:Builtin.List.listSameRef (.ref s.heap.objs.size) (.ref S)=false:=by simp[Builtin.List.listSameRef,Nat.ne_of_gt ltS]
 have h2:(Value.type "set" ==Value.type "list")=false:=by decide
 have h3:(Value.type "set" ==Value.type "tuple")=false:=by decide
 simp only[h1,h2,h3,Bool.or_false,Bool.false_eq_true,if_false]
 refine wpAny_bind (Vz (hS0.stay λ o e=>old S o e) hn λ I T m h2 d hm hI hIT hIS hlI hT keep st=>?_)
 have sz1:(s.heap.push {cls:=.type "list",data:=.seq ([]:List Value).toArray}).objs.size=s.heap.objs.size+1:=Heap.size_push ..
 have hLI:s.heap.objs.size≠I:=Nat.ne_of_lt (Nat.lt_of_lt_of_le (by rw[sz1];exact Nat.lt_succ_self _) hI)
 have hLS:s.heap.objs.size≠S:=Nat.ne_of_gt ltS
 have hLT:s.heap.objs.size≠T:=by
  rcases hT with rfl|hT
  ·exact hLS
  ·exact Nat.ne_of_lt (Nat.lt_of_lt_of_le (by rw[sz1];exact Nat.lt_succ_self _) hT)
 have tS2:Shared.TypeIs {s with heap:=h2,drawn:=d} (.ref S) "set" :=⟨o,keep S o (old S o ho),hex.1⟩
 refine wpAny_bind (wpAny_holding ?_)
 unfold Builtin.List.listLengthHint
 refine wpAny_bind (wpAny_specialOf tS2 F.slot_set_len.lookup ?_)
 dsimp only
 have sp:splitId "set.__len__" =some ("set","__len__"):=by kernel_rfl
 rw[sp]
 dsimp only
 refine wpAny_bind (wpAny_isInstance tS2 sub_set_self ?_)
 simp only[Bool.not_true,Bool.false_eq_true,if_false]
 rw[if_pos Qd]
 refine wpAny_bind (wpAny_typeOf tS2 ?_)
 dsimp only
 refine wpAny_pure ?_
 rw[if_pos Qd]
 refine wpAny_bind (wpAny_rule ?_)
 have g2:=keep _ _ gL
 refine wpAny_bind ?_
 show wpAny _ A.in1 (updateSeq s.heap.objs.size (·.push .none)>>=λ _=>updateSeq s.heap.objs.size (·.pop)) _ _ _
 refine wpAny_bind (wpAny_updateSeq (s:={s with heap:=h2,drawn:=d}) g2 rfl ?_)
 have g3:=Heap.get?_update_self (Obj.mapSeq (·.push Value.none)) g2 rfl
 refine wpAny_updateSeq (s:={s with heap:=h2.update s.heap.objs.size (Obj.mapSeq (·.push Value.none)),drawn:=d}) g3 rfl ?_
 have g4:=Heap.get?_update_self (Obj.mapSeq (·.pop)) g3 rfl
 have oth:∀b o,b≠s.heap.objs.size->h2.get? b=some o->((h2.update s.heap.objs.size (Obj.mapSeq (·.push Value.none))).update s.heap.objs.size (Obj.mapSeq (·.pop))).get? b=some o:=λ b o hb e=>
  (Heap.get?_update_other _ _ (Ne.symm hb)).trans ((Heap.get?_update_other _ _ (Ne.symm hb)).trans e)
 refine wpAny_pure ⟨plainId_quiet F.plain_extend_loop _,AL (A:=A) hIS hIT hLI hLS hLT hh (Nat.le_trans hm hn) _ m 0 _ #[] _ rfl (Nat.zero_le _) (st.stay λ b o hb e=>oth b o ?_ e) g4 rfl (λ v z=>by simp at z) λ h3 acc c q1 q2 q3 q4=>?_⟩
 ·rcases hb with rfl|rfl|rfl
  ·exact Ne.symm hLS
  ·exact Ne.symm hLI
  ·exact Ne.symm hLT
 ·show wpAny _ A (load s.heap.objs.size>>=_) _ _ _
  refine wpAny_bind (wpAny_load q1 ?_)
  refine wpAny_pure (h acc.toList h3 d (by rw[Array.length_toList,q2];exact hm) q3 (λ b o e=>?_) (Heap.lt_size q1))
  have lt:=Heap.lt_size e
  exact q4 b o (λ z=>Nat.lt_irrefl _ (Nat.lt_of_lt_of_le lt (z▸Nat.le_trans (by rw[sz1];exact Nat.le_succ _) hI))) (Nat.ne_of_lt lt) (oth b o (Nat.ne_of_lt lt) (keep b o (old b o e)))
end
section
variable{prog:Program}{w:World}{A:Around}{E:Qh}{s:Shared}{P:Value->Prop}{S:Addr}{n:Nat}
theorem Ly(hS:dO w s.heap S P n)(hn:n<=1000)(hh:A.handled=none)(hW:∀v,P v->W3 s.heap v){Q:Qh}
  (h:∀L (us:List Value) e h' d,s.heap.objs.size<=L->us.length<=n->(∀v∈us,P v)->qQ (sO s.heap) us->(∀b o,s.heap.get? b=some o->h'.get? b=some o)->h'.get? L=some {cls:=.type "list",data:=.seq us.toArray e}->Q (.ref L) {s with heap:=h',drawn:=d}):
  wpAny Qi A (call (.builtin "sorted") [.ref S]) Q E s:=by
 refine Calls.call_function_entry kind_sorted plain_sorted entry_sorted (args_sorted1 _) ?_
 unfold Builtin.«sorted»
 refine wpAny_bind (m:=checkCount "sorted" 1 1 _) (wpAny_pure ?_)
 refine wpAny_bind (BC (A:=A.in1) hS hn hh λ vs h1 d hlen hP keep big=>?_)
 have line:(1000:Nat)<=sizeLine:=by decide+kernel
 refine wpAny_bind (wpAny_newList ?_ Qa)
 have hoL:(h1.push (seqObj "list" vs.toArray 0)).get? h1.objs.size=some (seqObj "list" vs.toArray 0):=Heap.get?_push_size _ rfl
 have old:∀b o,s.heap.get? b=some o->(h1.push (seqObj "list" vs.toArray 0)).get? b=some o:=λ b o e=>Heap.get?_push_of_some _ (keep b o e)
 show wpAny _ _ _ _ _ {s with heap:=h1.push (seqObj "list" vs.toArray 0),drawn:=d}
 refine wpAny_bind (wpAny_holding (wpAny_call_entry slot_list_sort ⟨_,hoL,rfl⟩ entry_list_sort (Dz (s:={s with heap:=h1.push (seqObj "list" vs.toArray 0),drawn:=d}) (O:=sO s.heap) hoL (λ h2=>Mb (λ v hv=>?_) Qa) Qa λ out perm ris=>⟨_,rfl,?_⟩) (args_list_sort _)))
 ·refine⟨(hW v (hP v hv)).stayK λ b o _ e=>old b o e,λ z=>?_⟩
  obtain⟨b,o,_,_,_,_,_,_,_,hv',ho,_⟩:=hW v (hP v hv)
  rw[hv']at z
  injection z with z
  exact Nat.lt_irrefl _ (Nat.lt_of_lt_of_le (Heap.lt_size ho) (z▸Nat.le_of_lt big))
 ·obtain⟨e,he⟩:=sortedHeap_at (out:=out) hoL
  refine wpAny_pure ⟨_,rfl,h h1.objs.size out.toList e _ d (Nat.le_of_lt big) ?_ (λ v hv=>hP v (perm.mem_iff.mp hv)) ris (λ b o q=>?_) (by rw[Array.toArray_toList];exact he)⟩
  ·rw[perm.length_eq];exact hlen
  ·have lt:=Heap.lt_size (keep b o q)
   show(sortedHeap _ _ _ _).get? b=some o
   rw[sortedHeap_old (Nat.ne_of_lt lt) (by rw[size_push'];exact Nat.lt_succ_of_lt lt)]
   exact old b o q
end
def rX(ps:List Addr):Value->Prop:=λ v=>∃p∈ps,v= .ref p
def oB(w:World)(a:Addr)(ps:List Addr):HO:=.ext λ h=>dO w h a (rX ps) ps.length
theorem Mp{P:Program}{w:World}{H:Hp}{h:Heap}{a:Addr}{ps:List Addr}(x:dO w h a (rX ps) ps.length):cT P w H h a (oB w a ps):=by
 refine⟨x,?_,λ h1 h2 y k=>y.stay k⟩
 obtain⟨o,_,_,_,e,_⟩:=x
 exact⟨o,e⟩
theorem Ao{ex:List Addr}{H:Hp}:∀{ws:List Wt} {vs:List V},aL ex H (ws.map Wt.d) vs->∃ps:List Addr,vs=ps.map V.ref/\ps.length=ws.length/\∀p∈ps,∃w∈ws,aD ex H w.d (.ref p)
 |[],vs,h=>by
  obtain rfl:vs=[]:=List.length_eq_zero_iff.mp h.length
  exact⟨[],rfl,rfl,λ _ z=>nomatch z⟩
 | w::ws,vs,h=>by
  obtain⟨v,vs',rfl,h1,h2⟩:=h
  obtain⟨ps,rfl,e,hp⟩:=Ao h2
  obtain⟨a,rfl,_⟩:=Wt.view h1
  refine⟨a::ps,rfl,by simp[e],λ p hpp=>?_⟩
  rcases List.mem_cons.mp hpp with rfl|hpp
  ·exact⟨w,List.mem_cons_self,h1⟩
  ·obtain⟨w',hw',i⟩:=hp p hpp
   exact⟨w',List.mem_cons_of_mem _ hw',i⟩
theorem Cj{ex:List Addr}{H:Hp}{ws:List Wt}{ps:List Addr}(h:∀p∈ps,∃w∈ws,aD ex H w.d (.ref p)):∀zs:List Addr,(∀z∈zs,z∈ps)->∃ws':List Wt,ws'.length=zs.length/\(∀w∈ws',w∈ws)/\aL ex H (ws'.map Wt.d) (zs.map V.ref)
 |[],_=>⟨[],rfl,(λ w (z:w∈[])=>nomatch z),rfl⟩
 |z::zs,hz=>by
  obtain⟨ws',e,hm,i⟩:=Cj h zs λ y hy=>hz y (List.mem_cons_of_mem _ hy)
  obtain⟨w,hw,iw⟩:=h z (hz z List.mem_cons_self)
  refine⟨w::ws',by simp[e],λ y hy=>?_,⟨_,_,rfl,iw,i⟩⟩
  rcases List.mem_cons.mp hy with rfl|hy
  ·exact hw
  ·exact hm y hy
section
variable{X:Cx}
theorem aB.w3{pins:Qj}{σ:St}{H:Hp}{s:Shared}{ex:List Addr}(I:aB X pins σ H s){w:Wt}{p:Addr}(h:aD ex H w.d (.ref p)):W3 s.heap (.ref p):=by
 obtain⟨a,e,q⟩:=Wt.view h
 injection e with e
 subst e
 obtain⟨_,its,r,⟨o,ho,hc,n,hd⟩,_⟩:=(I.hok p _ q:cT X.prog X.w H s.heap p (.tup _))
 cases r with
 | cons r1 r=>cases r with
  | cons r2 r=>cases r with
   | cons r3 r=>cases r with
    |nil=>
     obtain⟨t,rfl⟩:=r1
     obtain⟨u,rfl⟩:=r2
     obtain⟨k,rfl⟩:=r3
     exact⟨p,o,n,_,t,_,u,_,k,rfl,ho,hc,hd⟩
def Oa(X:Cx):List V->Hp->VK->Prop:=λ vs H Q=>∃(z:Zn) (ws:List Wt) (x:V),vs=[x]/\aD z.ex H (.list (ws.map Wt.d)) x/\ws.length<200/\Cz z H/\
 ∀(p:Addr) (ps:List Addr) (H':Hp),aY z H H'->H' p=some (oB X.w p ps)->ps.length=ws.length->(∀q∈ps,∃w∈ws,aD z.ex H' w.d (.ref q))->Q (.ref p) H'
theorem BO(hc:X.calm=true)(hu:X.A.units+64<cLine):dX X (.type "set") (Oa X):=by
 intro pins s σ H vs us Q I rv h
 obtain⟨z,ws,x,rfl,hx,hlen,cz,q⟩:=h
 obtain⟨u,rfl,ru⟩:=rv.one
 obtain⟨a,vs,rfl,hax,ha,hds⟩:=hx
 obtain rfl:u= .ref a:=ru
 obtain⟨ps,rfl,hpl,hps⟩:=Ao hds
 obtain⟨its,r,pl,hl⟩:=I.list (aQ.of ha)
 have hn:=r.length
 rw[List.length_map]at hn
 have him:∀(i:Nat) v,its.toArray[i]? =some v->rX ps v:=λ i v hv=>by
  rw[List.getElem?_toArray]at hv
  have hi:i<ps.length:=by rw[hn];exact(List.getElem?_eq_some_iff.mp hv).1
  obtain⟨u,hu,ru⟩:=r.get (i:=i) (x:=.ref ps[i]) (by simp[hi])
  rw[hv]at hu
  injection hu with hu
  subst hu
  exact⟨ps[i],List.getElem_mem hi,ru⟩
 refine BP (I.ok.hd hc) pl.isList him (λ v hv=>?_) (by simp;omega) hu λ h' tk hS keep=>?_
 ·obtain⟨p,hp,rfl⟩:=hv
  obtain⟨w,_,i⟩:=hps p hp
  exact I.w3 i
 ·have hsz:its.toArray.size=ps.length:=by simp[hn]
  rw[hsz]at hS
  have hnone:H s.heap.objs.size=none:=I.hok.fresh (Nat.le_refl _)
  have stp:aY z H (aA H s.heap.objs.size (oB X.w s.heap.objs.size ps)):=aY.of cz (aI.new hnone _)
  refine⟨.ref s.heap.objs.size,_,I.laid (t':=tk) (o:=oB X.w s.heap.objs.size ps) keep (Nat.le_refl _) (Mp hS),rfl,q _ ps _ stp aP hpl λ p hp=>?_⟩
  obtain⟨w,hw,i⟩:=hps p hp
  exact⟨w,hw,i.stp stp⟩
def Nt(X:Cx):List V->Hp->VK->Prop:=λ vs H Q=>∃(z:Zn) (ws:List Wt) (p:Addr) (ps:List Addr),vs=[.ref p]/\H p=some (oB X.w p ps)/\ps.length<200/\Cz z H/\(∀q∈ps,∃w∈ws,aD z.ex H w.d (.ref q))/\
 ∀ws':List Wt,ws'.length<=ps.length->(∀w∈ws',w∈ws)->gD z Q (.list (ws'.map Wt.d)) H
theorem BL(hc:X.calm=true):dX X (.builtin "sorted") (Nt X):=by
 intro pins s σ H vs us Q I rv h
 obtain⟨z,ws,p,ps,rfl,hp,hlen,cz,hps,q⟩:=h
 obtain⟨u,rfl,ru⟩:=rv.one
 obtain rfl:u= .ref p:=ru
 have hS:dO X.w s.heap p (rX ps) ps.length:=(I.hok p _ hp:cT X.prog X.w H s.heap p (oB X.w p ps)).1
 refine Ly hS Qa (I.ok.hd hc) (λ v hv=>?_) λ L us e h' d hL hus hP ris keep hg=>?_
 ·obtain⟨b,hb,rfl⟩:=hv
  obtain⟨w,_,i⟩:=hps b hb
  exact I.w3 i
 ·have hnone:H L=none:=I.hok.fresh hL
  have:∃zs:List Addr,us=zs.map Value.ref/\(∀z∈zs,z∈ps):=by
   clear hus hg ris
   induction us with
   |nil=>exact⟨[],rfl,λ _ z=>nomatch z⟩
   |cons u us ih=>
    obtain⟨zs,rfl,hz⟩:=ih λ v hv=>hP v (List.mem_cons_of_mem _ hv)
    obtain⟨b,hb,rfl⟩:=hP u List.mem_cons_self
    refine⟨b::zs,rfl,λ y hy=>?_⟩
    rcases List.mem_cons.mp hy with rfl|hy
    ·exact hb
    ·exact hz y hy
  obtain⟨zs,rfl,hz⟩:=this
  rw[List.length_map]at hus
  obtain⟨ws',hwl,hwm,hwd⟩:=Cj hps zs hz
  have rel:∀l:List Addr,aW (l.map V.ref) (l.map Value.ref):=λ l=>by
   induction l with
   |nil=>exact .nil
   |cons y l ih=>exact .cons rfl ih
  have line:zs.length<=sizeLine:=Nat.le_trans Qa iM
  have I2:aB X pins σ (aA H L (.lst (zs.map V.ref))) {s with heap:=h',drawn:=d}:=
   I.call (g':=s.gens) (t':=s.toks) (d':=d) (ch:=[]) (Un.laid keep hL hnone) (I.hok.laid keep hL ⟨by rw[List.length_map];exact line,zs.map Value.ref,e,rel zs,hg⟩) ⟨I.bare.1,Nat.le_refl _⟩ (λ _ z=>nomatch z)
  exact⟨.ref L,_,I2,rfl,(q ws' Qa hwm).lst cz hwd hnone⟩
end
end L2
namespace K10
open PySem L2 PyProof.Rows
structure Txt(K:Qf)(mg:Qk):Prop where
 b_len:mg "len" =none
 b_range:mg "range" =none
 b_sorted:mg "sorted" =none
 b_set:mg "set" =none
 b_zip:mg "zip" =none
 b_tuple:mg "tuple" =none
 b_list:mg "list" =none
 b_isinstance:mg "isinstance" =none
 b_ValueError:mg "ValueError" =none
 b_int:mg "int" =none
 b_bool:mg "bool" =none
 b_all:mg "all" =none
 b_min:mg "min" =none
section
variable{P:Program}{w:World}{K:Qf}{mg:Qk}{base:Heap}
abbrev wR:Stmt:=top 31
theorem sc__law_take:bT ["_law_held","_law_many","_law_found"] ["_law_held","_law_many"] (aT wR):=⟨rfl,rfl,rfl,Qd,rfl,Qd,Qd⟩
theorem Rf{f:Addr}{fd:FuncData}(F:bO K "_law_take" "_law_take" wR f fd):bD P w K mg base bM 1 f fd ["_law_held","_law_many"] lK:=by
 refine F.ok sc__law_take (λ vs H Q E h=>?_) (λ cdv A outer s H vs Q E hr h=>?_)
 ·obtain⟨z,m,rfl,_⟩:=h
  rfl
 obtain⟨z,m,rfl,c,h0,h1,q⟩:=h
 obtain⟨n,hp⟩:=c.held
 refine'⟨_,?hh,?rr⟩
 case hh=>(exists Qg,bG sc__law_take.nd (aO 2) (Or.inl rfl) ?_,bK sP ?_ (pv 1),aN ix_list (pv 0) aK (λ _ _=>rfl),Qg,nH ?_ ?_,bK Py ?_ (pv 1),aN ix_list (pv 0) aK (λ _ _=>rfl),Pk (pv 0) aK Ml,aV ?_,bF (pv 2))
 refine⟨_,rfl,z.p,_,_,_,rfl,rfl,aQ.of hp,rfl,_,rfl,_,_,rfl,rfl,h0,?_⟩
 refine⟨_,rfl,z.p,_,_,_,rfl,rfl,aQ.of hp,rfl,_,rfl,_,_,rfl,rfl,⟨h0,h1⟩,?_⟩
 refine⟨_,rfl,z.p,_,_,_,rfl,rfl,hp,rfl,?_⟩
 exact⟨_,rfl,q _ _ (Int.emod_nonneg _ Qa) (Int.emod_lt_of_pos _ h0) ⟨aI.put Qb _,c.extp (aI.put Qb _) ⟨_,aP⟩⟩⟩
abbrev wU:Stmt:=top 30
theorem sc__law_digits:bT ["_law_script","_law_k","_law_cell","_law_total","_law_number","_law_turn"] ["_law_script","_law_k"] (aT wU):=⟨rfl,rfl,rfl,Qd,rfl,Qd,Qd⟩
theorem Sn{f:Addr}{fd:FuncData}(F:bO K "_law_digits" "_law_digits" wU f fd)(T:Txt K mg):bD P w K mg base bM 1 f fd ["_law_script","_law_k"] (vV K):=by
 refine F.ok sc__law_digits (λ vs H Q E h=>?_) (λ cdv A outer s H vs Q E hr h=>?_)
 ·obtain⟨a,ns,k,rfl,_⟩:=h
  rfl
 obtain⟨a,ns,k,rfl,hS,h63,h0,h1,q⟩:=h
 refine'⟨_,?hh,?rr⟩
 case hh=>(exists Qg,bG sc__law_digits.nd (aO 2) (Or.inl rfl) ?_,Dc ?_ ?_ aK,bN lW (pv 1) ?_ (bH _),bL cY rfl T.b_len PySem.boot_len ?_,aE (pv 0) aG,aN ix_list (pv 0) (pv 1) (λ _ _=>rfl),Qg,bS ?_ ?_ bR,bN lX (pv 2) ?_ (bH _),bK De aK aK,aV ?_,bF ?_,gB ?_,aE ?_ aG,bK pR (pv 2) ?_,bK De aK aK,Qg,bG sc__law_digits.nd (aO 3) (Or.inl rfl) aK,Qg,bG sc__law_digits.nd (aO 4) (Or.inl rfl) ?_,bK sP ?_ aK,bK dZ ?_ aK,bK dZ ?_ ?_,bK lV (pv 2) aK,bK lV aK (pv 1),Qg,iA PassesOwn.never rfl ?_ ?_ ?_,lS rfl T.b_range ?_,aE aK aG,bI sc__law_digits.nd (aO 5) (Or.inl rfl) (Or.inl rfl),Qg,bG sc__law_digits.nd (aO 4) (Or.inl rfl) ?_,bK sP ?_ aK,bK dZ ?_ (pv 5),bK dZ ?_ ?_,bK lV (pv 4) (pv 4),bK lV aK (pv 4),aV ?_,bG sc__law_digits.nd (aO 3) (Or.inl rfl) ?_,bK dZ ?_ ?_,bK lV (pv 3) aK,bK sP ?_ aK,bK lV (pv 4) aK,aV ?_,bF ?_,gB ?_,aE (pv 3) aG)
 have hl:(ns.map V.int).length=ns.length:=List.length_map _
 have d1:He 10 18:=⟨Qc,Qc,Qc⟩
 have one:∀x:V,([x]:List V).length<=sizeLine:=λ x=>by show 1<=sizeLine;decide
 refine⟨_,rfl,_,rfl,a,_,rfl,.inl hS,_,_,rfl,rfl,_,rfl,?_⟩
 refine bA (λ c=>?_) (λ c=>?_)
 ·have c':k<(((ns.map V.int).length:Nat):Int):=of_decide_eq_true c
  rw[hl]at c'
  have hk:k.toNat<ns.length:=by omega
  have hv:iF (ns.map V.int) k=some (.int ns[k.toNat]):=cZ h0 (by rw[List.getElem?_map,List.getElem?_eq_getElem hk]<;>rfl)
  refine⟨_,rfl,_,rfl,a,_,_,_,rfl,rfl,hS,hv,?_⟩
  refine⟨_,rfl,_,_,rfl,rfl,d1,_,_,rfl,rfl,_,rfl,?_⟩
  refine bA (λ c1=>?_) (λ c1=>?_)
  ·exact⟨_,rfl,_,_,rfl,rfl,d1,_,_,rfl,rfl,one _,λ p hp=>q p _ hp⟩
  ·refine⟨_,rfl,_,_,rfl,rfl,.inr ⟨Qc,Qc⟩,_,rfl,_,_,rfl,rfl,.inl ⟨Qc,Qc⟩,_,_,rfl,rfl,_,_,rfl,rfl,_,_,rfl,rfl,(by show(0:Int)<2147483647;decide),?_⟩
   refine⟨12,rfl,Qc,Qc,nV (n:=12) (λ i σ H2=>∃(c:Option V) (total number:Int) (t:Option V),σ=[some (V.ref a),some (V.int k),c,some (V.int total),some (V.int number),t]/\H2=H/\0<=number/\number<2147483648)
    ⟨_,_,_,_,rfl,rfl,Int.emod_nonneg _ Qc,Int.lt_trans (Int.emod_lt_of_pos _ Qc) Qc⟩ ?_ ?_⟩
   ·rintro i σ H2 hi ⟨c,total,number,t,rfl,rfl,n0,n1⟩
    refine⟨_,rfl,_,rfl,_,_,rfl,rfl,.inl ⟨Qa,Qa⟩,_,rfl,_,_,rfl,rfl,.inl ⟨Qc,Qc⟩,_,_,rfl,rfl,_,rfl,_,_,rfl,rfl,_,_,rfl,rfl,(by show(0:Int)<2147483629;decide),?_⟩
    refine⟨_,rfl,_,_,rfl,rfl,.inr ⟨Qc,Qc⟩,_,rfl,_,_,rfl,rfl,.inr ⟨Qc,Qc⟩,_,_,rfl,rfl,(by show(0:Int)<2147483587;decide),_,_,rfl,rfl,?_⟩
    exact⟨_,_,_,_,rfl,rfl,Int.emod_nonneg _ Qc,Int.lt_trans (Int.emod_lt_of_pos _ Qc) Qc⟩
   ·rintro σ H2 ⟨c,total,number,t,rfl,rfl,_,_⟩
    exact⟨_,rfl,one _,λ p hp=>q p _ hp⟩
 ·skip
  refine⟨_,rfl,_,_,rfl,rfl,d1,_,_,rfl,rfl,_,rfl,?_⟩
  refine bA (λ c1=>?_) (λ c1=>?_)
  ·exact⟨_,rfl,_,_,rfl,rfl,d1,_,_,rfl,rfl,one _,λ p hp=>q p _ hp⟩
  ·refine⟨_,rfl,_,_,rfl,rfl,.inr ⟨Qc,Qc⟩,_,rfl,_,_,rfl,rfl,.inl ⟨Qc,Qc⟩,_,_,rfl,rfl,_,_,rfl,rfl,_,_,rfl,rfl,(by show(0:Int)<2147483647;decide),?_⟩
   refine⟨12,rfl,Qc,Qc,nV (n:=12) (λ i σ H2=>∃(c:Option V) (total number:Int) (t:Option V),σ=[some (V.ref a),some (V.int k),c,some (V.int total),some (V.int number),t]/\H2=H/\0<=number/\number<2147483648)
    ⟨_,_,_,_,rfl,rfl,Int.emod_nonneg _ Qc,Int.lt_trans (Int.emod_lt_of_pos _ Qc) Qc⟩ ?_ ?_⟩
   ·rintro i σ H2 hi ⟨c,total,number,t,rfl,rfl,n0,n1⟩
    refine⟨_,rfl,_,rfl,_,_,rfl,rfl,.inl ⟨Qa,Qa⟩,_,rfl,_,_,rfl,rfl,.inl ⟨Qc,Qc⟩,_,_,rfl,rfl,_,rfl,_,_,rfl,rfl,_,_,rfl,rfl,(by show(0:Int)<2147483629;decide),?_⟩
    refine⟨_,rfl,_,_,rfl,rfl,.inr ⟨Qc,Qc⟩,_,rfl,_,_,rfl,rfl,.inr ⟨Qc,Qc⟩,_,_,rfl,rfl,(by show(0:Int)<2147483587;decide),_,_,rfl,rfl,?_⟩
    exact⟨_,_,_,_,rfl,rfl,Int.emod_nonneg _ Qc,Int.lt_trans (Int.emod_lt_of_pos _ Qc) Qc⟩
   ·rintro σ H2 ⟨c,total,number,t,rfl,rfl,_,_⟩
    exact⟨_,rfl,one _,λ p hp=>q p _ hp⟩
abbrev wV:Stmt:=top 33
theorem Nd:bT ["_law_held"] ["_law_held"] (aT wV):=⟨rfl,rfl,rfl,Qd,rfl,Qd,Qd⟩
theorem Rt{f:Addr}{fd:FuncData}(F:bO K "_law_bound" "_law_bound" wV f fd)(bY:aZ P w K mg base "_law_take" 1 ["_law_held","_law_many"] lK):bD P w K mg base bM 2 f fd ["_law_held"] rT:=by
 refine F.ok Nd (λ vs H Q E h=>?_) (λ cdv A outer s H vs Q E hr h=>?_)
 ·obtain⟨z,rfl,_⟩:=h
  rfl
 obtain⟨z,rfl,c,q⟩:=h
 refine'⟨_,?hh,?rr⟩
 case hh=>(exists aV ?_,bF ?_,aN cX ?_ ?_ (λ _ _=>rfl),jI ?_,aE aK ?_,aE aK ?_,aE aK ?_,aE aK ?_,aE aK ?_,aE aK ?_,aE aK ?_,aE ?_ aG,bK dZ aK ?_,bB bY hr ?_ rfl ?_,aE (pv 0) ?_,aE aK aG,Qc,bB bY hr ?_ rfl ?_,aE (pv 0) ?_,aE aK aG,Qc)
 refine⟨_,rfl,z,99,rfl,c,Qc,Qc,λ i H1 i0 i1 s1=>?_⟩
 refine⟨_,_,rfl,rfl,z,[.int 1,.int 1,.int 2,.int 2,.int 3,.int 5,.int 99,.int (1+i)],⟨_,_,rfl,rfl,_,_,rfl,rfl,_,_,rfl,rfl,_,_,rfl,rfl,_,_,rfl,rfl,_,_,rfl,rfl,_,_,rfl,rfl,_,_,rfl,rfl,rfl⟩,(by show 8<=1000;decide),s1.cz,λ v H2 s2 f2=>?_⟩
 refine⟨_,rfl,z,8,rfl,s2.cz,Qc,Qc,λ k H3 k0 k1 s3=>?_⟩
 obtain⟨d,hd,md⟩:=xP (xs:=[PyData.int 1,.int 1,.int 2,.int 2,.int 3,.int 5,.int 99,.int (1+i)]) k0 (by show k<8;exact k1)
 refine⟨z,_,k,d,.inr (f2.stp s3),rfl,k0,hd,λ v fv=>?_⟩
 obtain⟨j,rfl,j1,j2⟩:∃j:Int,d= .int j/\1<=j/\j<=99:=by
  simp only[List.mem_cons,List.not_mem_nil,or_false]at md
  rcases md with rfl|rfl|rfl|rfl|rfl|rfl|rfl|rfl<;>exact⟨_,rfl,Qa,Qa⟩
 obtain rfl:v= .int j:=fv
 exact q j H3 j1 j2 ((s1.trans s2).trans s3)
abbrev jE:Stmt:=top 32
theorem sc__law_words:bT ["_law_held","_law_many","_law_letters","_law_word","_law_at","_law_start","_law_signs","_law_ahead","_law_behind","_law_turned","_law_found"] ["_law_held","_law_many"] (aT jE):=⟨rfl,rfl,rfl,Qd,rfl,Qd,Qd⟩
theorem Ra{f:Addr}{fd:FuncData}(F:bO K "_law_words" "_law_words" jE f fd)(T:Txt K mg)(bY:aZ P w K mg base "_law_take" 1 ["_law_held","_law_many"] lK):bD P w K mg base bM 2 f fd ["_law_held","_law_many"] pB:=by
 refine F.ok sc__law_words (λ vs H Q E h=>?_) (λ cdv A outer s H vs Q E hr h=>?_)
 ·obtain⟨z,m,rfl,_⟩:=h
  rfl
 obtain⟨z,many,rfl,my0,my52,c,q⟩:=h
 refine'⟨_,?hh,?rr⟩
 case hh=>(exists Qg,bG sc__law_words.nd (aO 2) (Or.inr rfl) bJ,Qg,bG sc__law_words.nd (aO 3) (Or.inl rfl) ?_,jJ PySem.F.plainAttrs_str PySem.F.slot_str_join PySem.F.type_str_join Tr bJ ?_,aE ?_ aG,kR rfl ?_ (eH ["_law_k","_law_held","_law_letters"] 1 [0,2]) ?_ ?_ ?_ ?_ ?_ ?_ ?_,(by exact⟨rfl,Qd,Qd,(show∀y:Str×NameKind,y∈_->y.2=NameKind.free->(aT jE).names.lookup y.1=some .cell\/(aT jE).names.lookup y.1=some .free from Qd)⟩),Qd,Qc,lS rfl T.b_range ?_,aE ?_ aG,bK dZ aK ?_,bB bY hr ?_ rfl ?_,aE (pv 0) ?_,aE aK aG,Qc,4,bI ?_ (aO 0) (Or.inl rfl) (Or.inr rfl),(by exact(show(["_law_k","_law_held","_law_letters"]:List Str).Nodup from Qd)),eZ Qc,4,kK,4,aN Vy (pv 2) ?_ (λ _ _=>rfl),bB bY hr ?_ rfl ?_,aE (pv 1) ?_,aE aK aG,Qc,Qg,bG sc__law_words.nd (aO 4) (Or.inl rfl) ?_,bB bY hr ?_ rfl ?_,aE (pv 0) ?_,aE ?_ aG,bL BR rfl T.b_len PySem.boot_len ?_,aE (pv 3) aG,Qc,Qg,bG sc__law_words.nd (aO 5) (Or.inl rfl) ?_,bB bY hr ?_ rfl ?_,aE (pv 0) ?_,aE aK aG,Qc,Qg,bG sc__law_words.nd (aO 6) (Or.inl rfl) bJ,Qg,bG sc__law_words.nd (aO 7) (Or.inr rfl) ?_,lU rV (pv 3) lQ ?_,lP (pv 4),Qg,bG sc__law_words.nd (aO 8) (Or.inr rfl) ?_,lU rV (pv 3) ?_ lQ,lP ?_,bK dZ (pv 4) aK,Qg,bG sc__law_words.nd (aO 9) (Or.inl rfl) ?_,bK sR ?_ ?_,lU rV (pv 6) ?_ lQ,lP (pv 5),lU rV (pv 6) lQ ?_,lP (pv 5),Qg,iP sc__law_words.nd (aO 10) (Or.inl rfl) rfl ?_ (eH ["_law_sign","_law_ahead","_law_behind"] 1 [7,8]) ?_ ?_ ?_ ?_ ?_ ?_ ?_,(by exact⟨rfl,Qd,Qd,(show∀y:Str×NameKind,y∈_->y.2=NameKind.free->(aT jE).names.lookup y.1=some .cell\/(aT jE).names.lookup y.1=some .free from Qd)⟩),Qd,Qc,Pj (pv 9),4,bI ?_ (aO 0) (Or.inl rfl) (Or.inr rfl),(by exact(show(["_law_sign","_law_ahead","_law_behind"]:List Str).Nodup from Qd)),eZ Qc,4,kK,4,bK sR ?_ (pv 2),bK sR (pv 1) (pv 0),aV ?_,bF ?_,lU vX ?_ lQ ?_,bK xD (pv 10) ?_,kR rfl ?_ (eH ["_law_one"] 1 []) ?_ ?_ ?_ ?_ ?_ ?_ ?_,(by exact⟨rfl,Qd,Qd,(show∀y:Str×NameKind,y∈_->y.2=NameKind.free->(aT jE).names.lookup y.1=some .cell\/(aT jE).names.lookup y.1=some .free from Qd)⟩),Qd,Qc,nI (pv 10),4,bI ?_ (aO 0) (Or.inl rfl) (Or.inr rfl),(by exact(show(["_law_one"]:List Str).Nodup from Qd)),eZ Qc,4,kK,4,bK sR (pv 0) bJ,lP (pv 1))
 refine⟨rfl,_,rfl,z,7,rfl,c,Qc,Qc,λ m H1 m0 m1 s1=>?_⟩
 refine⟨_,_,rfl,rfl,_,rfl,Qa,Qa,nN Aa (λ i xs H3=>aY z H H3/\∃l:List Nat,xs=(l.map λ c=>tx [c]).map V.str/\l.length=i/\∀c∈l,97<=c/\c<=109) ⟨s1,[],rfl,rfl,Qb⟩ (λ _ _ _ _=>trivial) ?_ ?_⟩
 ·rintro i x xs H3 hx hi ⟨s3,l,rfl,hl,hc⟩
  rw[List.length_map,List.length_range]at hi
  have hi':i<8:=by omega
  refine⟨_,rfl,_,rfl,z,13,rfl,s3.cz,Qc,Qc,λ k H4 k0 k1 s4=>?_⟩
  obtain⟨c1,hc1,mc1⟩:=CJ (xs:=(("abcdefghijklm" :Str)).cps.toList) (i:=k) k0 (by
   have:((("abcdefghijklm" :Str)).cps.toList.length:Int)=13:=by decide+kernel
   rw[this]
   exact k1)
  refine⟨_,_,c1,rfl,rfl,line Qd,hc1,?_,nx (by rw[List.length_map,List.length_range];exact hi) ⟨s3.trans s4,l++[c1],?_,by simp[hl],?_⟩⟩
  ·rw[List.length_map,List.length_map,hl]
   exact cB Qa
  ·rw[List.map_append,List.map_append]
   rfl
  ·intro y hm
   rcases List.mem_append.mp hm with hm|hm
   ·exact hc y hm
   ·simp only[List.mem_cons,List.not_mem_nil,or_false]at hm
    subst hm
    exact CM _ mc1
 ·rintro xs H3 ⟨s3,l,rfl,hl,hc⟩ a ha
  rw[List.length_map,List.length_range]at hl
  have hl1:1<=l.length:=by omega
  have hl7:l.length<=7:=by omega
  have s4:aY z H (aA H3 a (.lst ((l.map λ c=>tx [c]).map V.str))):=s3.trans (aY.of s3.cz (aI.new ha _))
  refine⟨_,a,_,rfl,rfl,aQ.of aP,(by rw[Tw,List.length_map,show(("" :Str)).length=0 from Qd];omega),?_⟩
  generalize aA H3 a (.lst ((l.map λ c=>tx [c]).map V.str))=H4 at s4⊢
  generalize hj:Txt.join ("" :Str) (l.map λ c=>tx [c])=wd
  rw[Iv]at hj
  subst hj
  have hw:(tx l).length<=sizeLine:=line (by rw[gI];omega)
  refine⟨_,rfl,_,rfl,_,rfl,hw,z,_,rfl,s4.cz,(by rw[gI];omega),(by rw[gI];omega),λ k H5 k0 k1 s5=>?_⟩
  rw[gI]at k1
  refine⟨_,rfl,z,26,rfl,s5.cz,Qc,Qc,λ st H6 st0 st1 s6=>?_⟩
  have s06:=(s4.trans s5).trans s6
  refine⟨_,rfl,_,rfl,_,rfl,_,rfl,hw,?_⟩
  generalize ha':Txt.slice (tx l) none (some k)=ahead
  rw[Aw k0 Qa]at ha'
  subst ha'
  refine⟨_,rfl,_,rfl,_,_,rfl,rfl,_,rfl,_,rfl,hw,?_⟩
  generalize hb':Txt.slice (tx l) (some (k+1)) none=behind
  rw[Ax Qa Qa]at hb'
  subst hb'
  have hz26:(("abcdefghijklmnopqrstuvwxyz" :Str)).length<=sizeLine:=line Qd
  refine⟨_,rfl,_,rfl,_,rfl,_,rfl,hz26,_,rfl,_,rfl,_,rfl,_,rfl,hz26,_,_,rfl,rfl,?_,?_⟩
  ·have h1:=Txt.slice_le ("abcdefghijklmnopqrstuvwxyz" :Str) (some st) none
   have h2:=Txt.slice_le ("abcdefghijklmnopqrstuvwxyz" :Str) none (some st)
   have h3:(("abcdefghijklmnopqrstuvwxyz" :Str)).length=26:=by decide+kernel
   exact line Qa
  generalize ht:Txt.slice ("abcdefghijklmnopqrstuvwxyz" :Str) (some st) none++Txt.slice ("abcdefghijklmnopqrstuvwxyz" :Str) none (some st)=turned
  rw[CG,Ax st0 (by show st<=26;omega),Aw st0 (by show st<=26;omega),jD]at ht
  subst ht
  have nodup:=CH st.toNat Qa
  have inaz:∀c∈azl.drop st.toNat++azl.take st.toNat,97<=c/\c<=122:=λ c hc=>by
   rcases List.mem_append.mp hc with h|h
   ·exact Gp c (List.mem_of_mem_drop h)
   ·exact Gp c (List.mem_of_mem_take h)
  have hlen:(azl.drop st.toNat++azl.take st.toNat).length=26:=by
   rw[List.length_append,List.length_drop,List.length_take,show azl.length=26 from Qc]
   omega
  have hA:∀x∈l.take k.toNat,97<=x/\x<=109:=λ x hx=>hc x (List.mem_of_mem_take hx)
  have hB:∀x∈l.drop (k+1).toNat,97<=x/\x<=109:=λ x hx=>hc x (List.mem_of_mem_drop hx)
  have hAB:(l.take k.toNat).length+(l.drop (k+1).toNat).length<=6:=by
   rw[List.length_take,List.length_drop]
   omega
  generalize l.take k.toNat=A' at hA hAB⊢
  generalize l.drop (k+1).toNat=B' at hB hAB⊢
  generalize azl.drop st.toNat++azl.take st.toNat=S at nodup inaz hlen⊢
  refine⟨_,rfl,_,rfl,nN Hh (λ i xs H7=>H7=H6/\xs=(L2.dA A' B' (S.take i)).map V.str) ⟨rfl,rfl⟩ (λ _ _ _ _=>trivial) ?_ ?_⟩
  ·rintro i y xs H7 hy hi ⟨rfl,rfl⟩
   have hi2:=hi
   rw[wC]at hy
   rw[wC,List.length_map]at hi
   rw[List.getElem?_map,List.getElem?_eq_getElem hi]at hy
   obtain rfl:=Option.some.inj hy
   have l1:∀c:Nat,(tx [c]).length=1:=λ c=>gI _
   refine⟨_,rfl,_,rfl,_,_,rfl,rfl,line (by rw[gI,l1];omega),_,rfl,_,_,rfl,rfl,line (by rw[Str.length_append,gI,l1,gI];omega),?_,nx hi2 ⟨rfl,?_⟩⟩
   ·rw[List.length_map]
    unfold L2.dA
    rw[List.length_map,List.length_take]
    exact cB Qa
   ·rw[jD,jD,List.append_assoc]
    unfold L2.dA
    rw[List.take_add_one,List.getElem?_eq_getElem hi,List.map_append,List.map_append]
    rfl
  ·rintro xs H7 ⟨rfl,rfl⟩ b hb
   have e7:(lM (tx S)).length=S.length:=by rw[wC,List.length_map]
   rw[e7,List.take_length]
   have e8:aI [] H7 (aA H7 b (.lst ((L2.dA A' B' S).map V.str))):=aI.new hb _
   have s8:aY z H7 (aA H7 b (.lst ((L2.dA A' B' S).map V.str))):=aY.of s06.cz e8
   have f8:aD z.ex (aA H7 b (.lst ((L2.dA A' B' S).map V.str))) (.list ((L2.dA A' B' S).map .str)) (.ref b):=⟨b,_,rfl,s06.cz.free hb,aP,aL.strs _⟩
   have hb8:(aA H7 b (.lst ((L2.dA A' B' S).map V.str))) b=some (.lst ((L2.dA A' B' S).map V.str)):=aP
   generalize aA H7 b (.lst ((L2.dA A' B' S).map V.str))=H8 at s8 f8 hb8⊢
   have hnl:(L2.dA A' B' S).length=26:=by unfold L2.dA;rw[List.length_map,hlen]
   have hnn:∀x∈L2.dA A' B' S,x.length<=8:=λ x hx=>by
    obtain⟨y,_,rfl⟩:=List.mem_map.mp hx
    rw[gI,List.length_append,List.length_cons]
    omega
   have nd:(L2.dA A' B' S).Nodup:=Do nodup
   have nms:∀x∈L2.dA A' B' S,nm x=true:=λ x hx=>by
    obtain⟨y,hy,rfl⟩:=List.mem_map.mp hx
    exact Tp Qa hA hB (inaz y hy)
   have ndz:(L2.dA A' B' S++(L2.dA A' B' S).map λ x=>x++("z" :Str)).Nodup:=Tn nodup
   have nmz:∀x∈(L2.dA A' B' S).map (λ x=>x++("z" :Str)),nm x=true:=λ x hx=>by
    obtain⟨y,hy,rfl⟩:=List.mem_map.mp hx
    obtain⟨u,hu,rfl⟩:=List.mem_map.mp hy
    exact To Qa hA hB (inaz u hu)
   generalize L2.dA A' B' S=names at hnl hnn nd nms ndz nmz f8 hb8⊢
   refine⟨_,rfl,_,rfl,b,rfl,⟨_,aQ.of hb8⟩,nN (qZ (ys:=names.map V.str)) (λ i xs H9=>H9=H8/\xs=((names.take i).map λ x=>x++("z" :Str)).map V.str) ⟨rfl,rfl⟩ (λ _ _ _ h=>by rw[h.1];exact aQ.of hb8) ?_ ?_⟩
   ·rintro i y xs H9 hy hi ⟨rfl,rfl⟩
    have hi2:=hi
    rw[List.length_map]at hi
    rw[List.getElem?_map,List.getElem?_eq_getElem hi]at hy
    obtain rfl:=Option.some.inj hy
    have hx:=hnn _ (List.getElem_mem hi)
    refine⟨_,rfl,_,_,rfl,rfl,line (by rw[show(("z" :Str)).length=1 from Qd];omega),?_,nx hi2 ⟨rfl,?_⟩⟩
    ·rw[List.length_map,List.length_map,List.length_take]
     exact cB Qa
    ·rw[List.take_add_one,List.getElem?_eq_getElem hi,List.map_append,List.map_append]
     rfl
   ·rintro xs H9 ⟨rfl,rfl⟩ b2 hb2
    rw[List.length_map,List.take_length]
    have s9:aY z H9 (aA H9 b2 (.lst ((names.map λ x=>x++("z" :Str)).map V.str))):=aY.of s8.cz (aI.new hb2 _)
    have f9:aD z.ex (aA H9 b2 (.lst ((names.map λ x=>x++("z" :Str)).map V.str))) (.list ((names.map λ x=>x++("z" :Str)).map .str)) (.ref b2):=⟨b2,_,rfl,s8.cz.free hb2,aP,aL.strs _⟩
    generalize aA H9 b2 (.lst ((names.map λ x=>x++("z" :Str)).map V.str))=H10 at s9 f9⊢
    refine⟨z,_,_,f8.stp s9,f9,(by simp[hnl]),s9.cz,λ v H11 s11 f11=>?_⟩
    refine⟨_,rfl,_,rfl,z,_,f11,s11.cz,λ v2 H12 s12 f12=>?_⟩
    rw[AY my0,<-List.map_append,<-List.map_take]at f12
    refine q _ v2 H12 ?_ (ndz.sublist (List.take_sublist _ _)) (λ x hx=>?_) ((((s06.trans s8).trans s9).trans s11).trans s12) f12
    ·rw[List.length_take,List.length_append,List.length_map,hnl]
     omega
    ·rcases List.mem_append.mp (List.mem_of_mem_take hx)with h|h
     ·exact nms x h
     ·exact nmz x h
end
end K10
namespace L2
open PySem PySem.Spec PyProof.Rows
def sX:PyData->Bool
 |.str x=>nm x
 |_=>false
def lB:PyData->Bool
 |.int i=>decide (1<=i)&&decide (i<=99)
 |_=>false
def eV(d:PyData)(lo hi:Int):Bool:=match d with
 |.tuple ds=>decide (lo<=(ds.length:Int))&&decide ((ds.length:Int)<=hi)
 |_=>false
def mF:PyData->Bool
 |.tuple [n,b]=>sX n&&lB b
 |_=>false
def gG(cnt:Int):Int->List PyData->Bool
 |_,[]=>true
 |a,.int i::r=>(decide (a<i)&&decide (i<cnt))&&gG cnt i r
 |_,_::_=>false
def pW:PyData->Int
 |.tuple ds=>ds.length
 |_=>0
def An(d:PyData)(cnt:Int):Bool:=match d with
 |.tuple ds=>eV d 1 cnt&&gG cnt (-1) ds
 |_=>false
def Gc(d:PyData)(many:Int):Bool:=match d with
 |.tuple ds=>eV d many many&&ds.all lB
 |_=>false
def jL(cnt:Int):PyData->Bool
 |.tuple [n,wy,bs]=>sX n&&(An wy cnt&&Gc bs (pW wy))
 |_=>false
def mM:PyData->Str
 |.tuple (.str x::_)=>x
 |_=>""
def jC(ds:List PyData):Bool:=decide ((ds.map mM).Nodup)
def pY(d:PyData):Bool:=match d with
 |.tuple ds=>eV d 1 6&&(ds.all mF&&jC ds)
 |_=>false
def xM(d:PyData)(cnt:Int):Bool:=match d with
 |.tuple ds=>eV d 1 6&&(ds.all (jL cnt)&&jC ds)
 |_=>false
def pP:PyData->Bool
 |.tuple [l,k]=>pY l&&xM k (pW l)
 |_=>false
theorem rD{ds:List PyData}{lo hi:Int}(c:eV (.tuple ds) lo hi=true):lo<=(ds.length:Int)/\(ds.length:Int)<=hi:=by
 have c':(decide (lo<=(ds.length:Int))&&decide ((ds.length:Int)<=hi))=true:=c
 rw[Bool.and_eq_true,decide_eq_true_eq,decide_eq_true_eq]at c'
 exact c'
theorem Vj{d:PyData}(h:mF d=true):∃x b,d= .tuple [.str x,.int b]/\nm x=true/\1<=b/\b<=99:=by
 match d,h with
 | .tuple [n,b],h=>
  have h':(sX n&&lB b)=true:=h
  rw[Bool.and_eq_true]at h'
  match n,b,h' with
  |.str x,.int i,h'=>
   have h2:(decide (1<=i)&&decide (i<=99))=true:=h'.2
   rw[Bool.and_eq_true,decide_eq_true_eq,decide_eq_true_eq]at h2
   exact⟨x,i,rfl,h'.1,h2.1,h2.2⟩
structure DP(ls:List PyData):Prop where
 one:1<=ls.length
 six:ls.length<=6
 all:∀d∈ls,mF d=true
 nd:(ls.map mM).Nodup
theorem Xy{ls:List PyData}(h:pY (.tuple ls)=true):DP ls:=by
 have h':(eV (.tuple ls) 1 6&&(ls.all mF&&jC ls))=true:=h
 rw[Bool.and_eq_true,Bool.and_eq_true]at h'
 have t:=rD h'.1
 exact⟨Qa,Qa,List.all_eq_true.mp h'.2.1,of_decide_eq_true h'.2.2⟩
theorem Al{cnt:Int}:∀{ws:List PyData} {a:Int},gG cnt a ws=true->∀d∈ws,∃i,d= .int i/\a<i/\i<cnt
 |[],_,_=>by simp
 | .int j::r,a,h=>by
  have h':((decide (a<j)&&decide (j<cnt))&&gG cnt j r)=true:=h
  rw[Bool.and_eq_true,Bool.and_eq_true,decide_eq_true_eq,decide_eq_true_eq]at h'
  intro d hd
  rcases List.mem_cons.mp hd with rfl|hd
  ·exact⟨j,rfl,h'.1.1,h'.1.2⟩
  ·obtain⟨i,rfl,h1,h2⟩:=Al h'.2 d hd
   exact⟨i,rfl,Qa,h2⟩
structure DQ(n:Int)(x:Str)(ws bs:List PyData):Prop where
 nmx:nm x=true
 one:1<=ws.length
 most:(ws.length:Int)<=n
 way:gG n (-1) ws=true
 len:bs.length=ws.length
 bds:∀d∈bs,lB d=true
theorem Vo{n:Int}{d:PyData}(h:jL n d=true):∃x ws bs,d= .tuple [.str x,.tuple ws,.tuple bs]/\DQ n x ws bs:=by
 match d,h with
 | .tuple [nm1,w,b],h=>
  have h':(sX nm1&&(An w n&&Gc b (pW w)))=true:=h
  rw[Bool.and_eq_true,Bool.and_eq_true]at h'
  match nm1,w,b,h' with
  |.str x,.tuple ws,.tuple bs,h'=>
   have h1:(eV (.tuple ws) 1 n&&gG n (-1) ws)=true:=h'.2.1
   have h2:(eV (.tuple bs) (ws.length:Nat) (ws.length:Nat)&&bs.all lB)=true:=h'.2.2
   rw[Bool.and_eq_true]at h1 h2
   have t1:=rD h1.1
   have t2:=rD h2.1
   exact⟨x,ws,bs,rfl,⟨h'.1,Qa,t1.2,h1.2,Qa,List.all_eq_true.mp h2.2⟩⟩
structure DO(ls ks:List PyData):Prop where
 lanes:pY (.tuple ls)=true
 one:1<=ks.length
 six:ks.length<=6
 all:∀d∈ks,jL (ls.length:Nat) d=true
theorem Pe{d:PyData}(h:pP d=true):∃ls ks,d= .tuple [.tuple ls,.tuple ks]/\DO ls ks:=by
 match d,h with
 | .tuple [l,k],h=>
  have h':(pY l&&xM k (pW l))=true:=h
  rw[Bool.and_eq_true]at h'
  match l,k,h' with
  |.tuple ls,.tuple ks,h'=>
   have h2:(eV (.tuple ks) 1 6&&(ks.all (jL (ls.length:Nat))&&jC ks))=true:=h'.2
   rw[Bool.and_eq_true,Bool.and_eq_true]at h2
   have t:=rD h2.1
   exact⟨ls,ks,rfl,h'.1,Qa,Qa,List.all_eq_true.mp h2.2.1⟩
theorem Vm{d:PyData}{ls ks:List PyData}(h:pP (.tuple [.tuple ls,.tuple ks])=true):(ks.map mM).Nodup:=by
 have h':(pY (.tuple ls)&&xM (.tuple ks) (pW (.tuple ls)))=true:=h
 rw[Bool.and_eq_true]at h'
 have h2:(eV (.tuple ks) 1 6&&(ks.all (jL (ls.length:Nat))&&jC ks))=true:=h'.2
 rw[Bool.and_eq_true,Bool.and_eq_true]at h2
 exact of_decide_eq_true h2.2.2
theorem Xl{c:Nat}(h:inL ⟨#[c]⟩=true):c<1114112:=by
 unfold inL at h
 rw[PySem.StrLaws.found_one]at h
 have h1:c∈az.cps.toList:=of_decide_eq_true h
 have h2:∀x∈az.cps.toList,x<1114112:=by decide+kernel
 exact h2 c h1
theorem pU{x:Str}(h:nm x=true):PySem.PyData.strOk x=true/\x.length<=8:=by
 unfold nm at h
 split at h
 ·cases h
 ·rw[Bool.and_eq_true,Bool.and_eq_true,decide_eq_true_eq,decide_eq_true_eq]at h
  refine⟨?_,Qa⟩
  unfold PySem.PyData.strOk
  rw[Array.all_eq_true']
  intro c hc
  have:=List.all_eq_true.mp h.2.2 ⟨#[c]⟩ (List.mem_map.mpr ⟨c,Array.mem_toList_iff.mpr hc,rfl⟩)
  exact decide_eq_true (Xl this)
def Sh(n:Nat)(d:PyData):Prop:=d.canLay0=true/\d.depth<=n
theorem Sh.more{n m:Nat}{d:PyData}(h:Sh n d)(k:n<=m):Sh m d:=⟨h.1,Nat.le_trans h.2 k⟩
theorem wA{n:Nat}:∀{ds:List PyData},(∀d∈ds,Sh n d)->PyData.canLayAll0 ds=true/\PyData.depthAll ds<=n
 |[],_=>⟨rfl,Nat.zero_le _⟩
 | d::ds,h=>by
  obtain⟨a,b⟩:=h d List.mem_cons_self
  obtain⟨c,e⟩:=wA λ x hx=>h x (List.mem_cons_of_mem _ hx)
  refine⟨?_,?_⟩
  ·show(d.canLay0&&PyData.canLayAll0 ds)=true
   rw[a,c]
   rfl
  ·show max d.depth (PyData.depthAll ds)<=n
   omega
theorem Sh.tup{n:Nat}{ds:List PyData}(h:∀d∈ds,Sh n d):Sh (n+1) (.tuple ds):=by
 obtain⟨a,b⟩:=wA h
 exact⟨a,by show PyData.depthAll ds+1<=n+1;omega⟩
theorem Sh.lst{n:Nat}{ds:List PyData}(h:∀d∈ds,Sh n d):Sh (n+1) (.list ds):=by
 obtain⟨a,b⟩:=wA h
 exact⟨a,by show PyData.depthAll ds+1<=n+1;omega⟩
theorem Sh.shaped{n:Nat}{d:PyData}(h:Sh n d)(k:n<=64:=by decide):SeqAt.shaped d=true:=by
 unfold SeqAt.shaped
 rw[h.1,decide_eq_true (Nat.le_trans h.2 k)]
 rfl
theorem Sh.refl{n:Nat}{d:PyData}(h:Sh n d):PyData.eqv d d=true:=SeqAt.eqv_refl d h.1
theorem vY(i:Int):Sh 0 (.int i):=⟨rfl,Nat.le_refl _⟩
theorem vZ(b:Bool):Sh 0 (.bool b):=⟨rfl,Nat.le_refl _⟩
theorem rW{x:Str}(h:nm x=true):Sh 0 (.str x):=⟨(pU h).1,Nat.le_refl _⟩
structure dP(p:Pl):Prop where
 l1:1<=p.ls.length
 l6:p.ls.length<=6
 k1:1<=p.ks.length
 k6:p.ks.length<=6
 ln:∀l∈p.ls,nm l.1=true/\1<=l.2/\l.2<=99
 lnd:(p.ls.map (·.1)).Nodup
 kn:∀k∈p.ks,nm k.nm=true/\1<=k.way.length/\k.way.length<=p.ls.length/\k.way.Pairwise (· < ·)/\(∀i∈k.way,0<=i/\i<p.n)/\k.bds.length=k.way.length/\∀b∈k.bds,1<=b/\b<=99
 knd:(p.ks.map (·.nm)).Nodup
theorem uE{α:Type}{f:α->PyData}{P:α->Prop}:∀{ds:List PyData},(∀d∈ds,∃a,d=f a/\P a)->∃l:List α,ds=l.map f/\∀a∈l,P a
 |[],_=>⟨[],rfl,λ _ z=>nomatch z⟩
 |d::ds,h=>by
  obtain⟨l,rfl,hl⟩:=uE (ds:=ds) λ x hx=>h x (List.mem_cons_of_mem _ hx)
  obtain⟨a,rfl,ha⟩:=h d List.mem_cons_self
  refine⟨a::l,rfl,λ x hx=>?_⟩
  rcases List.mem_cons.mp hx with rfl|hx
  ·exact ha
  ·exact hl x hx
theorem Am{n:Int}:∀{ws:List PyData} {a:Int},gG n a ws=true->∃w:List Int,ws=w.map .int/\w.Pairwise (· < ·)/\∀i∈w,a<i/\i<n
 |[],a,_=>⟨[],rfl,.nil,λ _ z=>nomatch z⟩
 | d::ws,a,h=>by
  obtain⟨i,rfl,h1,h2⟩:=Al h d List.mem_cons_self
  have h3:gG n i ws=true:=by
   have h':((decide (a<i)&&decide (i<n))&&gG n i ws)=true:=h
   rw[Bool.and_eq_true]at h'
   exact h'.2
  obtain⟨w,rfl,hp,hw⟩:=Am h3
  refine⟨i::w,rfl,List.pairwise_cons.mpr ⟨λ x hx=>(hw x hx).1,hp⟩,λ x hx=>?_⟩
  rcases List.mem_cons.mp hx with rfl|hx
  ·exact⟨h1,h2⟩
  ·have:=hw x hx
   omega
theorem BU:∀{bs:List PyData},(∀d∈bs,lB d=true)->∃b:List Int,bs=b.map .int/\∀i∈b,1<=i/\i<=99:=fun{bs} h=>uE λ d hd=>by
 have:=h d hd
 match d,this with
 |.int i,z=>
  have z':(decide (1<=i)&&decide (i<=99))=true:=z
  rw[Bool.and_eq_true,decide_eq_true_eq,decide_eq_true_eq]at z'
  exact⟨i,rfl,z'⟩
theorem Pc{d:PyData}(h:pP d=true):∃p:Pl,d=p.d/\dP p:=by
 obtain⟨ls,ks,rfl,g⟩:=Pe h
 have gl:=Xy g.lanes
 have kd:=Vm (d:=.tuple []) h
 obtain⟨l,rfl,hl⟩:=uE (f:=pV) (P:=λ l=>nm l.1=true/\1<=l.2/\l.2<=99) (λ d hd=>by
  obtain⟨x,b,rfl,h1⟩:=Vj (gl.all d hd)
  exact⟨(x,b),rfl,h1⟩)
 have hll:(l.map pV).length=l.length:=List.length_map ..
 obtain⟨k,rfl,hk⟩:=uE (f:=Kd.d) (ds:=ks) (P:=λ k=>nm k.nm=true/\1<=k.way.length/\k.way.length<=l.length/\k.way.Pairwise (· < ·)/\(∀i∈k.way,0<=i/\i<(l.length:Int))/\k.bds.length=k.way.length/\∀b∈k.bds,1<=b/\b<=99) (λ d hd=>by
  obtain⟨x,ws,bs,rfl,gk⟩:=Vo (g.all d hd)
  rw[hll]at gk
  obtain⟨w,rfl,hp,hw⟩:=Am gk.way
  obtain⟨b,rfl,hb⟩:=BU gk.bds
  have e1:=gk.one
  have e2:=gk.most
  have e3:=gk.len
  rw[List.length_map]at e1 e2 e3
  rw[List.length_map]at e3
  exact⟨⟨x,w,b⟩,rfl,gk.nmx,e1,(by show w.length<=l.length;omega),hp,λ i hi=>by have:=hw i hi;omega,e3,hb⟩)
 refine⟨⟨l,k⟩,rfl,by have:=gl.one;rw[hll]at this;exact this,by have:=gl.six;rw[hll]at this;exact this,by have:=g.one;rw[List.length_map]at this;exact this,by have:=g.six;rw[List.length_map]at this;exact this,hl,?_,hk,?_⟩
 ·have:=gl.nd
  rw[List.map_map]at this
  exact this
 ·rw[List.map_map]at kd
  exact kd
theorem lZ{x:Str}(h:nm x=true):x.length<=1000:=Nat.le_trans (pU h).2 Qc
theorem dP.ok{p:Pl}(g:dP p):gX p where
 nl:=Nat.le_trans g.l6 Qc
 nk:=Nat.le_trans g.k6 Qc
 ln:=λ l hl=>lZ (g.ln l hl).1
 kw:=λ k hk=>by
  obtain⟨h1,h2,h3,h4,h5,h6,h7⟩:=g.kn k hk
  exact⟨by have:=g.l6;omega,h6,lZ h1,h5⟩
def vJ:Sp:=λ vs H Q _=>∃z:Zn,vs=[.ref z.p]/\Cz z H/\∀(p:Pl) (v:V) (H':Hp),dP p->aY z H H'->aD z.ex H' p.d v->Q v H'
end L2
namespace K10
open PySem PySem.Spec L2 PyProof.Rows
theorem Mj(w:List Int):SeqAt.shaped (.list (w.map .int))=true:=by
 have h1:PyData.canLayAll0 (w.map .int)=true:=by
  induction w with
  |nil=>rfl
  |cons x r ih=>
   rw[List.map_cons]
   show(PyData.canLay0 (.int x)&&PyData.canLayAll0 (r.map .int))=true
   rw[ih]
   rfl
 have h2:PyData.depthAll (w.map .int)=0:=by
  induction w with
  |nil=>rfl
  | cons x r ih=>
   rw[List.map_cons]
   show max (PyData.depth (.int x)) (PyData.depthAll (r.map .int))=0
   rw[ih]
   ·rfl
   ·have h1':(PyData.canLay0 (.int x)&&PyData.canLayAll0 (r.map .int))=true:=h1
    exact(Bool.and_eq_true_iff.mp h1').2
 show(PyData.canLayAll0 (w.map .int)&&decide (PyData.depthAll (w.map .int)+1<=64))=true
 rw[h1,h2]
 rfl
theorem AV(w:List Int):PyData.eqv (.list (w.map .int)) (.list [])=w.isEmpty:=by
 cases w<;>rfl
theorem Ak{n:Int}:∀{w:List Int} {a:Int},w.Pairwise (· < ·)->(∀x∈w,a<x/\x<n)->gG n a (w.map .int)=true
 |[],_,_,_=>rfl
 |x::r,a,hp,hb=>by
  have h1:=hb x List.mem_cons_self
  rw[List.map_cons]
  show((decide (a<x)&&decide (x<n))&&gG n x (r.map .int))=true
  rw[decide_eq_true h1.1,decide_eq_true h1.2,Ak (w:=r) (a:=x) (List.pairwise_cons.mp hp).2 λ y hy=>⟨(List.pairwise_cons.mp hp).1 y hy,(hb y (List.mem_cons_of_mem _ hy)).2⟩]
  rfl
theorem BT{bs:List Int}(h:∀x∈bs,1<=x/\x<=99):(bs.map PyData.int).all lB=true:=by
 rw[List.all_eq_true]
 intro d hd
 obtain⟨x,hx,rfl⟩:=List.mem_map.mp hd
 have:=h x hx
 show(decide _&&decide _)=true
 rw[decide_eq_true this.1,decide_eq_true this.2]
 rfl
theorem Vn{n:Nat}{x:Str}{w bs:List Int}(hx:nm x=true)(h0:w≠[])(hn:w.length<=n)(hp:w.Pairwise (· < ·))(hb:∀x∈w,0<=x/\x<(n:Int))(hl:bs.length=w.length)(hbb:∀x∈bs,1<=x/\x<=99):jL n (.tuple [.str x,.tuple (w.map .int),.tuple (bs.map .int)])=true:=by
 have l0:1<=w.length:=by cases w with|nil=>exact absurd rfl h0|cons _ _=>simp
 show(nm x&&((eV (.tuple (w.map .int)) 1 n&&gG n (-1) (w.map .int))&&(eV (.tuple (bs.map .int)) ((w.map PyData.int).length:Nat) ((w.map PyData.int).length:Nat)&&(bs.map PyData.int).all lB)))=true
 have t1:eV (.tuple (w.map .int)) 1 n=true:=by
  show(decide ((1:Int)<=((w.map PyData.int).length:Nat))&&decide ((((w.map PyData.int).length:Nat):Int)<=n))=true
  rw[List.length_map,decide_eq_true Qa,decide_eq_true Qa]
  rfl
 have t2:eV (.tuple (bs.map .int)) ((w.map PyData.int).length:Nat) ((w.map PyData.int).length:Nat)=true:=by
  show(decide ((((w.map PyData.int).length:Nat):Int)<=((bs.map PyData.int).length:Nat))&&decide ((((bs.map PyData.int).length:Nat):Int)<=((w.map PyData.int).length:Nat)))=true
  rw[List.length_map,List.length_map,hl,decide_eq_true Qa]
  rfl
 rw[hx,t1,t2,Ak hp (λ y hy=>⟨by have:=hb y hy;omega,(hb y hy).2⟩),BT hbb]
 rfl
theorem Pd{ls ks:List PyData}(l1:1<=ls.length)(l6:ls.length<=6)(k1:1<=ks.length)(k6:ks.length<=6)(hl:∀d∈ls,mF d=true)(hk:∀d∈ks,jL (ls.length:Nat) d=true)(nl:(ls.map mM).Nodup)(nk:(ks.map mM).Nodup):pP (.tuple [.tuple ls,.tuple ks])=true:=by
 show((eV (.tuple ls) 1 6&&(ls.all mF&&jC ls))&&(eV (.tuple ks) 1 6&&(ks.all (jL (ls.length:Nat))&&jC ks)))=true
 have t:∀{ds:List PyData},1<=ds.length->ds.length<=6->eV (.tuple ds) 1 6=true:=fun{ds} h1 h2=>by
  show(decide ((1:Int)<=(ds.length:Nat))&&decide (((ds.length:Nat):Int)<=6))=true
  rw[decide_eq_true Qa,decide_eq_true Qa]
  rfl
 rw[t l1 l6,t k1 k6,List.all_eq_true.mpr hl,List.all_eq_true.mpr hk,show jC ls=true from decide_eq_true nl,show jC ks=true from decide_eq_true nk]
 rfl
section
variable{P:Program}{w:World}{K:Qf}{mg:Qk}{base:Heap}
abbrev lN:Stmt:=top 34
theorem sc__law_plan:bT ["_law_held","_law_names","_law_lanes","_law_k","_law_shift","_law_kinds","_law_way","_law_bounds"] ["_law_held"] (aT lN):=⟨rfl,rfl,rfl,Qd,rfl,Qd,Qd⟩
theorem Rq{f:Addr}{fd:FuncData}(F:bO K "_law_plan" "_law_plan" lN f fd)(T:Txt K mg)(bY:aZ P w K mg base "_law_take" 1 ["_law_held","_law_many"] lK)(jV:aZ P w K mg base "_law_words" 2 ["_law_held","_law_many"] pB)(mV:aZ P w K mg base "_law_bound" 2 ["_law_held"] rT):bD P w K mg base bM 3 f fd ["_law_held"] vJ:=by
 refine F.ok sc__law_plan (λ vs H Q E h=>?_) (λ cdv A outer s H vs Q E hr h=>?_)
 ·obtain⟨z,rfl,_⟩:=h
  rfl
 obtain⟨z,rfl,c,q⟩:=h
 have hu:=hr.units
 refine'⟨_,?hh,?rr⟩
 case hh=>(exists Qg,bG sc__law_plan.nd (aO 1) (Or.inl rfl) ?_,bB jV hr ?_ rfl ?_,aE (pv 0) ?_,aE aK aG,Qc,Qg,bG sc__law_plan.nd (aO 2) (Or.inl rfl) ?_,gB aG,Qg,iA PassesOwn.never rfl ?_ ?_ ?_,lS rfl T.b_range ?_,aE ?_ aG,bK dZ aK ?_,bB bY hr ?_ rfl ?_,aE (pv 0) ?_,aE aK aG,Qc,bI sc__law_plan.nd (aO 3) (Or.inl rfl) (Or.inl rfl),aV ?_,lO ?_,jJ PySem.F.plainAttrs_list PySem.F.slot_list_append PySem.F.type_list_append sZ (pv 2) ?_,aE ?_ aG,kP ?_,Qe,aN cX (pv 1) (pv 3) (λ _ _=>rfl),aE ?_ aG,bB mV hr ?_ rfl ?_,aE (pv 0) aG,Qc,Qg,bG sc__law_plan.nd (aO 4) (Or.inl rfl) ?_,bB bY hr ?_ rfl ?_,aE (pv 0) ?_,aE aK aG,Qc,Qg,bG sc__law_plan.nd (aO 5) (Or.inl rfl) ?_,gB aG,Qg,iA PassesOwn.never rfl ?_ ?_ ?_,lS rfl T.b_range ?_,aE ?_ aG,bK dZ aK ?_,bB bY hr ?_ rfl ?_,aE (pv 0) ?_,aE aK aG,Qc,bI sc__law_plan.nd (aO 3) (Or.inl rfl) (Or.inl rfl),Qg,iP sc__law_plan.nd (aO 6) (Or.inl rfl) rfl ?_ (eH ["_law_lane_here","_law_held"] 1 [0]) ?_ ?_ ?_ ?_ ?_ ?_ ?_,(by exact⟨rfl,Qd,Qd,(show∀y:Str×NameKind,y∈_->y.2=NameKind.free->(aT lN).names.lookup y.1=some .cell\/(aT lN).names.lookup y.1=some .free from Qd)⟩),Qd,Qc,lS rfl T.b_range ?_,aE ?_ aG,bL cY rfl T.b_len PySem.boot_len ?_,aE (pv 2) aG,4,bI ?_ (aO 0) (Or.inl rfl) (Or.inr rfl),(by exact(show(["_law_lane_here","_law_held"]:List Str).Nodup from Qd)),eZ Qc,4,hZ ?_,bN Dh ?_ aK (bH _),bB bY hr ?_ rfl ?_,aE (pv 1) ?_,aE aK aG,Qc,4,(pv 0),Qg,bS ?_ ?_ bR,bN (pT hu) (pv 6) ?_ (bH _),jI aG,aV ?_,bG sc__law_plan.nd (aO 6) (Or.inl rfl) ?_,jI ?_,aE ?_ aG,bB bY hr ?_ rfl ?_,aE (pv 0) ?_,aE ?_ aG,bL cY rfl T.b_len PySem.boot_len ?_,aE (pv 2) aG,Qc,Qg,bG sc__law_plan.nd (aO 7) (Or.inl rfl) ?_,iC uB rfl T.b_tuple gU ?_,aE ?_ aG,kR rfl ?_ (eH ["_law_lane_here","_law_held"] 1 [0]) ?_ ?_ ?_ ?_ ?_ ?_ ?_,(by exact⟨rfl,Qd,Qd,(show∀y:Str×NameKind,y∈_->y.2=NameKind.free->(aT lN).names.lookup y.1=some .cell\/(aT lN).names.lookup y.1=some .free from Qd)⟩),Qd,Qc,nI (pv 6),4,bI ?_ (aO 0) (Or.inl rfl) (Or.inr rfl),(by exact(show(["_law_lane_here","_law_held"]:List Str).Nodup from Qd)),eZ Qc,4,kK,4,bB mV hr ?_ rfl ?_,aE (pv 1) aG,Qc,aV ?_,lO ?_,jJ PySem.F.plainAttrs_list PySem.F.slot_list_append PySem.F.type_list_append sZ (pv 5) ?_,aE ?_ aG,kP ?_,Qe,aN cX (pv 1) ?_ (λ _ _=>rfl),bK dZ (pv 3) (pv 4),Qe,iC uB rfl T.b_tuple gU ?_,aE (pv 6) aG,aE (pv 7) aG,aV ?_,bF ?_,kP ?_,Qe,iC qJ rfl T.b_tuple gU ?_,aE (pv 2) aG,aE ?_ aG,iC qJ rfl T.b_tuple gU ?_,aE (pv 5) aG)
 refine⟨_,rfl,z,12,rfl,Qc,Qc,c,λ ns v1 H1 hn' hnd hm s1 f1=>?_⟩
 have hn:ns.length=12:=by omega
 refine⟨(by show 0<=sizeLine;decide),λ l hl=>?_⟩
 have lp:l≠z.p:=λ e=>by
  obtain⟨n,h⟩:=s1.cz.held
  rw[e,h]at hl
  cases hl
 have nlp:l∉[z.p]:=λ h=>lp (List.mem_singleton.mp h)
 have a2:cR z l H1 (aA H1 l (.lst [])):=cR.new s1.cz hl
 have hl2:(aA H1 l (.lst [])) l=some (.lst []):=aP
 have f1':aD (z.with l).ex H1 (.list (ns.map .str)) v1:=aD.more hl f1
 generalize aA H1 l (.lst [])=H2 at a2 hl2⊢
 refine⟨_,rfl,z.with l,6,rfl,a2.cz,Qc,Qc,λ m H3 m0 m1 s3=>?_⟩
 have a3:=a2.stp s3
 have hl3:=s3.ext.lst nlp hl2
 refine⟨_,_,rfl,rfl,_,rfl,Qa,Qa,nV (n:=(1+m).toNat) (λ i σ H4=>∃(ls:List PyData) (xs:List V) (kk:Option V),σ=[some (V.ref z.p),some v1,some (V.ref l),kk,none,none,none,none]/\cR z l H1 H4/\H4 l=some (.lst xs)/\aL (z.with l).ex H4 ls xs/\ls.length=i/\(∀d∈ls,mF d=true)/\ls.map mM=ns.take i)
  ⟨[],[],_,rfl,a3,hl3,rfl,rfl,Qb,rfl⟩ ?_ ?_⟩
 ·rintro i σ H4 hi ⟨ls,xs,kk,rfl,a4,hx,hds,hll,hla,hfi⟩
  have hin:i<ns.length:=by omega
  refine⟨_,rfl,.inl ⟨rfl,xs,aQ.of hx⟩,?_⟩
  refine⟨_,rfl,_,rfl,z.with l,_,_,.str ns[i],.inr (f1'.stl a4),rfl,Qa,?_,λ vn fvn=>?_⟩
  ·rw[show((0:Int)+(i:Nat)).toNat=i from Qa,List.getElem?_map,List.getElem?_eq_getElem hin]
   rfl
  refine⟨_,rfl,z.with l,rfl,a4.cz,λ b H5 b1 b2 s5=>?_⟩
  refine⟨z.with l,[.str ns[i],.int b],⟨_,_,rfl,fvn.stp s5,_,_,rfl,rfl,rfl⟩,(by show 2<=1000;decide),s5.cz,λ v6 H6 s6 f6=>?_⟩
  have s56:=s5.trans s6
  refine⟨l,xs,v6,rfl,rfl,s56.ext.lst nlp hx,?_,?_⟩
  ·rw[hds.length,hll]
   exact cB Qa
  refine⟨ls++[.tuple [.str ns[i],.int b]],xs++[v6],_,rfl,(a4.stp s56).put lp,aP,?_,by rw[List.length_append,hll];rfl,?_,?_⟩
  ·exact sM List.mem_cons_self (aL.append (hds.stp s56) ⟨v6,_,rfl,f6,rfl⟩)
  ·intro d hd
   rcases List.mem_append.mp hd with h|h
   ·exact hla d h
   ·rw[List.mem_singleton.mp h]
    show(nm ns[i]&&(decide (1<=b)&&decide (b<=99)))=true
    rw[hm _ (List.getElem_mem hin),decide_eq_true b1,decide_eq_true b2]
    rfl
  ·rw[List.map_append,hfi,List.take_add_one,List.getElem?_eq_getElem hin]
   rfl
 rintro σ H4 ⟨ls,xs,kk,rfl,a4,hx,hds,hll,hla,hfi⟩
 have hl1:1<=ls.length:=by omega
 have hl6:ls.length<=6:=by omega
 refine⟨_,rfl,z.with l,7,rfl,a4.cz,Qc,Qc,λ sh H5 sh0 sh1 s5=>?_⟩
 have a5:=a4.stp s5
 have hx5:=s5.ext.lst nlp hx
 have hds5:=hds.stp s5
 refine⟨(by show 0<=sizeLine;decide),λ l2 hl2=>?_⟩
 have l2p:l2≠(z.with l).p:=λ e=>by
  obtain⟨n,h⟩:=s5.cz.held
  rw[e,h]at hl2
  cases hl2
 have nl2p:l2∉[((z.with l).with l2).p]:=λ h=>l2p (List.mem_singleton.mp h)
 have ll2:l≠l2:=λ e=>by
  rw[<-e,hx5]at hl2
  cases hl2
 have nll:l∉[l2,(z.with l).p]:=λ h=>by
  rcases List.mem_cons.mp h with h|h
  ·exact ll2 h
  ·exact lp (List.mem_singleton.mp h)
 have a6:cR (z.with l) l2 H5 (aA H5 l2 (.lst [])):=cR.new s5.cz hl2
 have hl6':(aA H5 l2 (.lst [])) l2=some (.lst []):=aP
 have fn:aD ((z.with l).with l2).ex H5 (.list (ns.map .str)) v1:=aD.more hl2 (f1'.stl a5)
 have hdsb:aL ((z.with l).with l2).ex H5 ls xs:=aL.more hl2 hds5
 generalize aA H5 l2 (.lst [])=H6 at a6 hl6'⊢
 refine⟨_,rfl,(z.with l).with l2,6,rfl,a6.cz,Qc,Qc,λ m2 H7 m20 m21 s7=>?_⟩
 have a7':=a6.stp s7
 have hl7:=s7.ext.lst nl2p hl6'
 refine⟨_,_,rfl,rfl,_,rfl,Qa,Qa,nV (n:=(1+m2).toNat) (λ i σ H8=>∃(ks:List PyData) (ys:List V) (kk wy bd:Option V),σ=[some (V.ref z.p),some v1,some (V.ref l),kk,some (V.int sh),some (V.ref l2),wy,bd]/\cR (z.with l) l2 H5 H8/\H8 l2=some (.lst ys)/\aL ((z.with l).with l2).ex H8 ks ys/\ks.length=i/\(∀d∈ks,jL (ls.length:Nat) d=true)/\ks.map mM=(ns.drop sh.toNat).take i)
  ⟨[],[],_,_,_,rfl,a7',hl7,rfl,rfl,Qb,rfl⟩ ?_ ?_⟩
 ·rintro i σ H8 hi ⟨ks,ys,kk,wy,bd,rfl,a7,hy,hky,hkl,hkk,hkf⟩
  have hi6:i<6:=by omega
  have hx8:H8 l=some (.lst xs):=a7.ext.lst nll hx5
  have exs:=hds.length
  refine dS λ R2 h2=>?_
  refine⟨_,rfl,l,xs,rfl,.inl (aQ.of hx8),_,rfl,Qa,Qa,?_⟩
  refine gP Aa (λ j us H9=>aY ((z.with l).with l2) H8 H9/\∃w:List Int,us=w.map V.int/\w.length<=j/\w.Pairwise (· < ·)/\∀x∈w,0<=x/\x<(j:Nat)) ⟨aY.refl a7.cz,[],rfl,Qb,List.Pairwise.nil,Qb⟩ (λ _ _ _ _=>trivial) ?_ ?_
  ·rintro j x us H9 hx9 hj ⟨s9,w,rfl,hwl,hwp,hwb⟩
   have hj2:=hj
   rw[List.length_map,List.length_range]at hj
   rw[List.getElem?_map,List.getElem?_range hj]at hx9
   obtain rfl:=Option.some.inj hx9
   refine⟨_,rfl,(z.with l).with l2,3,rfl,s9.cz,Qc,Qc,λ t H10 t0 t1 s10=>?_⟩
   refine⟨_,_,rfl,rfl,_,rfl,?_⟩
   refine bA (λ c1=>?_) (λ c1=>?_)
   ·refine⟨_,rfl,?_,nx hj2 ⟨s9.trans s10,w++[(0:Int)+(j:Nat)],by rw[List.map_append];rfl,by simp;omega,?_,?_⟩⟩
    ·rw[List.length_map]
     exact cB Qa
    ·rw[List.pairwise_append]
     refine⟨hwp,Qb,λ a ha b hb=>?_⟩
     rw[List.mem_singleton.mp hb]
     have:=hwb a ha
     omega
    ·intro x hx
     rcases List.mem_append.mp hx with h|h
     ·have:=hwb x h
      omega
     ·rw[List.mem_singleton.mp h]
      omega
   ·exact nx hj2 ⟨s9.trans s10,w,rfl,Qa,hwp,λ x hx=>by have:=hwb x hx;omega⟩
  rintro us H9 ⟨s9,w,rfl,hwl,hwp,hwb⟩ a ha
  rw[List.length_map,List.length_range]at hwl hwb
  have hwn:w.length<=ls.length:=by omega
  replace hwb:∀x∈w,0<=x/\x<(ls.length:Nat):=λ x hx=>by have:=hwb x hx;omega
  have s10:aY ((z.with l).with l2) H9 (aA H9 a (.lst (w.map V.int))):=aY.of s9.cz (aI.new ha _)
  have f10:aD ((z.with l).with l2).ex (aA H9 a (.lst (w.map V.int))) (.list (w.map .int)) (.ref a):=⟨a,_,rfl,s9.cz.free ha,aP,aL.ints _⟩
  generalize aA H9 a (.lst (w.map V.int))=H10 at s10 f10⊢
  refine h2 _ _ (dS λ R3 h3=>?_)
  have tail:∀(Hw:Hp) (vw:V) (w:List Int),aY ((z.with l).with l2) H8 Hw->aD ((z.with l).with l2).ex Hw (.list (w.map .int)) vw->w≠[]->w.length<=ls.length->w.Pairwise (· < ·)->(∀x∈w,0<=x/\x<(ls.length:Nat))->R3 (([some (V.ref z.p),some v1,some (V.ref l),kk,some (V.int sh),some (V.ref l2),wy,bd].set 3 (some (V.int (0+(i:Nat))))).set 6 (some vw)) Hw:=by
   clear f10 s10 s9 hwb hwp hwn ha
   intro Hw vw w sw fw hw0 hwn hwp hwb
   refine h3 _ _ ?_
   obtain⟨b,xw,rfl,nb,hb,hxw⟩:=fw
   obtain rfl:=aL.ints_of hxw
   have nbp:b∉[z.p]:=λ h=>nb (by rw[List.mem_singleton.mp h];exact sw.cz.mem)
   refine⟨_,rfl,b,rfl,⟨_,aQ.of hb⟩,nN (qZ (ys:=w.map V.int)) (λ j xs H9=>aY ((z.with l).with l2) Hw H9/\∃bs:List Int,xs=bs.map V.int/\bs.length=j/\∀x∈bs,1<=x/\x<=99) ⟨aY.refl sw.cz,[],rfl,rfl,Qb⟩ (λ _ _ _ h=>aQ.of (h.1.ext.lst nbp hb)) ?_ ?_⟩
   ·rintro j x xs H9 hx hj ⟨s9,bs,rfl,hbl,hbb⟩
    refine⟨_,rfl,(z.with l).with l2,rfl,s9.cz,λ t H10 t1 t2 s10=>?_⟩
    rw[List.length_map]at hj
    refine⟨?_,nx (by rw[List.length_map];exact hj) ⟨s9.trans s10,bs++[t],by rw[List.map_append];rfl,by simp[hbl],λ x hx=>?_⟩⟩
    ·rw[List.length_map,hbl]
     exact cB Qa
    ·rcases List.mem_append.mp hx with h|h
     ·exact hbb x h
     ·rw[List.mem_singleton.mp h]
      exact⟨t1,t2⟩
   rintro xs H9 ⟨s9,bs,rfl,hbl,hbb⟩ a3 ha3
   rw[List.length_map]at hbl
   have s10:aY ((z.with l).with l2) H9 (aA H9 a3 (.lst (bs.map V.int))):=aY.of s9.cz (aI.new ha3 _)
   have f10:aD ((z.with l).with l2).ex (aA H9 a3 (.lst (bs.map V.int))) (.list (bs.map .int)) (.ref a3):=⟨a3,_,rfl,s9.cz.free ha3,aP,aL.ints _⟩
   generalize aA H9 a3 (.lst (bs.map V.int))=H10 at s10 f10⊢
   refine⟨(z.with l).with l2,_,_,rfl,f10,s10.cz,λ vb H11 s11 fb=>?_⟩
   have fw2:aD ((z.with l).with l2).ex Hw (.list (w.map .int)) (.ref b):=⟨b,_,rfl,nb,hb,aL.ints _⟩
   have sA:=(s9.trans s10).trans s11
   have hx11:H11 l2=some (.lst ys):=(sw.trans sA).ext.lst nl2p hy
   refine⟨_,rfl,.inl ⟨rfl,ys,aQ.of hx11⟩,?_⟩
   have hsh:i+sh.toNat<ns.length:=by omega
   refine⟨_,rfl,_,rfl,_,rfl,_,_,rfl,rfl,(z.with l).with l2,_,_,.str ns[i+sh.toNat],.inr (fn.stl (a7.stp (sw.trans sA))),rfl,Qa,?_,λ vn fvn=>?_⟩
   ·rw[show((0:Int)+(i:Nat)+sh).toNat=i+sh.toNat from Qa,List.getElem?_map,List.getElem?_eq_getElem hsh]
    rfl
   refine⟨_,rfl,(z.with l).with l2,_,_,rfl,fw2.stp sA,sA.cz,λ vt H12 s12 ft=>?_⟩
   refine⟨_,rfl,(z.with l).with l2,[.str ns[i+sh.toNat],.tuple (w.map .int),.tuple (bs.map .int)],⟨_,_,rfl,fvn.stp s12,_,_,rfl,ft,_,_,rfl,fb.stp s12,rfl⟩,(by show 3<=1000;decide),s12.cz,λ vk H13 s13 fk=>?_⟩
   have sB:=(sw.trans sA).trans (s12.trans s13)
   have hx13:H13 l2=some (.lst ys):=sB.ext.lst nl2p hy
   refine⟨l2,ys,vk,rfl,rfl,hx13,?_,?_⟩
   ·rw[hky.length,hkl]
    exact cB Qa
   refine⟨ks++[.tuple [.str ns[i+sh.toNat],.tuple (w.map .int),.tuple (bs.map .int)]],ys++[vk],_,_,_,rfl,(a7.stp sB).put l2p,aP,?_,by rw[List.length_append,hkl];rfl,?_,?_⟩
   ·exact sM List.mem_cons_self (aL.append (hky.stp sB) ⟨vk,_,rfl,fk,rfl⟩)
   ·intro d hd
    rcases List.mem_append.mp hd with h|h
    ·exact hkk d h
    ·rw[List.mem_singleton.mp h]
     exact Vn (hm _ (List.getElem_mem hsh)) hw0 Qa hwp hwb hbl hbb
   ·rw[List.map_append,hkf,List.take_add_one,List.getElem?_drop,Nat.add_comm sh.toNat i,List.getElem?_eq_getElem hsh]
    rfl
  refine⟨_,rfl,(z.with l).with l2,[],rfl,(by show 0<=1000;decide),s10.cz,λ v11 H11 s11 f11=>?_⟩
  refine⟨.list (w.map .int),.list [],aD.less Qb (f10.stp s11),aD.less Qb f11,Mj w,rfl,_,rfl,?_⟩
  rw[AV]
  have sw0:=(s9.trans s10).trans s11
  have fw0:=f10.stp s11
  refine bA (λ c1=>?_) (λ c1=>?_)
  ·have hx11:H11 l=some (.lst xs):=sw0.ext.lst nlp hx8
   refine⟨_,rfl,_,rfl,l,xs,rfl,.inl (aQ.of hx11),(z.with l).with l2,_,rfl,s11.cz,Qa,Qa,λ t H12 t0 t1 s12=>?_⟩
   refine⟨(z.with l).with l2,[.int t],⟨_,_,rfl,rfl,rfl⟩,(by show 1<=1000;decide),s12.cz,λ vw Hw s13 fw=>?_⟩
   have sw:=(sw0.trans s12).trans s13
   replace fw:aD ((z.with l).with l2).ex Hw (.list (([t]:List Int).map .int)) vw:=fw
   have hw0:([t]:List Int)≠[]:=by simp
   replace hwn:([t]:List Int).length<=ls.length:=hl1
   replace hwp:([t]:List Int).Pairwise (· < ·):=by simp
   replace hwb:∀x∈([t]:List Int),0<=x/\x<(ls.length:Nat):=λ x hx=>by rw[List.mem_singleton.mp hx];omega
   exact tail Hw vw [t] sw fw hw0 hwn hwp hwb
  ·exact tail H11 (.ref a) w sw0 fw0 (λ e=>c1 (by rw[e];rfl)) hwn hwp hwb
 rintro σ H8 ⟨ks,ys,kk,wy,bd,rfl,a7,hy,hky,hkl,hkk,hkf⟩
 have hx8:H8 l=some (.lst xs):=a7.ext.lst nll hx5
 have hls8:aL ((z.with l).with l2).ex H8 ls xs:=hdsb.stl a7
 refine⟨_,rfl,l,xs,rfl,.inl ⟨aQ.of hx8,λ t1 ht1=>?_⟩⟩
 have s9:aY ((z.with l).with l2) H8 (aA H8 t1 (.tup xs)):=aY.of a7.cz (aI.new ht1 _)
 have f9:aD ((z.with l).with l2).ex (aA H8 t1 (.tup xs)) (.tuple ls) (.ref t1):=⟨t1,_,rfl,a7.cz.free ht1,aP,hls8.stp s9⟩
 generalize aA H8 t1 (.tup xs)=H9 at s9 f9⊢
 have hy9:=s9.ext.lst nl2p hy
 refine⟨_,rfl,l2,ys,rfl,.inl ⟨aQ.of hy9,λ t2 ht2=>?_⟩⟩
 have s10:aY ((z.with l).with l2) H9 (aA H9 t2 (.tup ys)):=aY.of s9.cz (aI.new ht2 _)
 have f10:aD ((z.with l).with l2).ex (aA H9 t2 (.tup ys)) (.tuple ks) (.ref t2):=⟨t2,_,rfl,s9.cz.free ht2,aP,(hky.stp s9).stp s10⟩
 generalize aA H9 t2 (.tup ys)=H10 at s10 f10⊢
 refine⟨(z.with l).with l2,[.tuple ls,.tuple ks],⟨_,_,rfl,f9.stp s10,_,_,rfl,f10,rfl⟩,(by show 2<=1000;decide),s10.cz,λ v H11 s11 f11=>?_⟩
 have b1:aY (z.with l) H5 H11:=(((a7.stp s9).stp s10).stp s11).back hl2 a5.cz.mem
 have b2:aY z H1 H11:=(a5.stp b1).back hl c.mem
 have hpl:pP (.tuple [.tuple ls,.tuple ks])=true:=Pd hl1 hl6 Qa Qa hla hkk ?u1 ?u2
 obtain⟨p,ep,gp⟩:=Pc hpl
 refine q p v H11 gp (s1.trans b2) ?_
 ·rw[<-ep]
  exact aD.less (λ b hb=>List.mem_cons_of_mem _ (List.mem_cons_of_mem _ hb)) f11
 ·rw[hfi]
  exact hnd.sublist (List.take_sublist _ _)
 ·rw[hkf]
  exact(hnd.sublist (List.drop_sublist _ _)).sublist (List.take_sublist _ _)
end
end K10
namespace K10
open PySem PySem.Spec L2 PyProof.Rows PySem.W
def rO:Sp:=λ vs H Q _=>∃(p:Pl) (v:V) (x:Str) (k:Kd),vs=[v,.str x]/\aD [] H p.d v/\gX p/\p.kd? x=some k/\∀u H',aI [] H H'->aD [] H' k.d u->Q u H'
def iL:Sp:=λ vs H Q _=>∃(p:Pl) (v:V) (b:Addr) (x kd:Str) (j:Int) (r:List V) (k:Kd),vs=[v,.ref b]/\aD [] H p.d v/\gX p/\H b=some (.tup (.str x::.str kd::.int j::r))/\p.kd? kd=some k/\1<=k.way.length/\0<=j/\j<=k.way.length+1/\∀H',aI [] H H'->Q (.int (p.at kd j)) H'
section
variable{P:Program}{w:World}{K:Qf}{mg:Qk}{base:Heap}
theorem nW{α:Type}{p:α->Bool}:∀(l:List α),(l.filter p)[0]? =l.find? p
 |[]=>rfl
 |a::l=>by
  by_cases h:p a=true
  ·rw[List.filter_cons_of_pos h,List.find?_cons_of_pos h];rfl
  ·rw[List.filter_cons_of_neg h,List.find?_cons_of_neg h];exact nW l
abbrev pI:Stmt:=top 35
theorem Nb:bT ["_law_plan_here","_law_name"] ["_law_plan_here","_law_name"] (aT pI):=⟨rfl,rfl,rfl,Qd,rfl,Qd,Qd⟩
theorem Rs{f:Addr}{fd:FuncData}(F:bO K "_law_kind" "_law_kind" pI f fd):bD P w K mg base bM 1 f fd ["_law_plan_here","_law_name"] rO:=by
 refine F.ok Nb (λ vs H Q E h=>?_) (λ cdv A outer s H vs Q E hr h=>?_)
 ·obtain⟨p,v,x,k,rfl,_⟩:=h
  rfl
 obtain⟨p,v,x,k,rfl,hp,Po,hk,q⟩:=h
 refine'⟨_,?hh,?rr⟩
 case hh=>exists aV ?_,bF ?_,aN ix_list ?_ aK (λ _ _=>rfl),kR rfl ?_ (eH ["_law_kind_here","_law_name"] 1 [1]) ?_ ?_ ?_ ?_ ?_ ?_ ?_,(by exact⟨rfl,Qd,Qd,(show∀y:Str×NameKind,y∈_->y.2=NameKind.free->(aT pI).names.lookup y.1=some .cell\/(aT pI).names.lookup y.1=some .free from Qd)⟩),Qd,Qc,fL ?_,aN aX (pv 0) aK (λ _ _=>rfl),4,bI ?_ (aO 0) (Or.inl rfl) (Or.inr rfl),(by exact(show(["_law_kind_here","_law_name"]:List Str).Nodup from Qd)),eZ Qc,4,hZ ?_,bN cG ?_ (pv 1) (bH _),aN ?_ (pv 0) aK (λ _ _=>rfl),(by exact(show cQ _ (fK K)from aX)),4,(pv 0)
 obtain⟨a,la,ka,lv,kv,rfl,ha,hla,hls,hka,hks,el,ek⟩:=Pl.view hp
 refine⟨_,rfl,a,_,_,_,rfl,rfl,aJ.of ha,rfl,ka,rfl,⟨kv,aJ.of hka⟩,gP (hJ (ys:=kv)) (λ i xs H2=>aI [] H H2/\aL [] H2 (((p.ks.take i).filter λ k=>k.nm==x).map Kd.d) xs) ⟨aI.refl,rfl⟩ (λ _ _ _ h=>aJ.of (h.1.tup Qb hka)) ?_ ?_⟩
 ·rintro i y xs H2 hy hi ⟨e,hxs⟩
  obtain⟨k',hk',hdy⟩:=hks.nth hy
  have hdy2:=aD.ext e hdy
  obtain⟨b,wa,ba,rfl,hb,_⟩:=Kd.view hdy2
  have tk:p.ks.take (i+1)=p.ks.take i++[k']:=by rw[List.take_add_one,hk'];rfl
  refine⟨_,rfl,b,_,_,.str k'.nm,rfl,rfl,aJ.of hb,rfl,_,rfl,rfl,_,rfl,?_⟩
  have small:xs.length<1000:=by
   rw[hxs.length,List.length_map]
   have:=List.length_filter_le (λ k:Kd=>k.nm==x) (p.ks.take i)
   rw[List.length_take]at this
   have:=Po.nk
   omega
  refine bA (λ cc=>?_) (λ cc=>?_)
  ·have ck:k'.nm=x:=by simpa using cc
   refine⟨_,rfl,cB Qa,nx hi ⟨e,?_⟩⟩
   rw[tk,List.filter_append,List.map_append]
   refine aL.append hxs ?_
   simp only[List.filter_cons,ck,beq_self_eq_true,if_true,List.filter_nil,List.map_cons,List.map_nil]
   exact⟨_,_,rfl,hdy2,rfl⟩
  ·have ck:¬k'.nm=x:=by simpa using cc
   refine nx hi ⟨e,?_⟩
   rw[tk,List.filter_append,List.map_append]
   have:([k'].filter λ k=>k.nm==x)=[]:=by simp[ck]
   rw[this,List.map_nil,List.append_nil]
   exact hxs
 ·rintro xs H2 ⟨e,hxs⟩ b hb
  rw[ek,List.take_length]at hxs
  have hg:((p.ks.filter λ k=>k.nm==x).map Kd.d)[0]? =some k.d:=by
   rw[List.getElem?_map,nW]
   show(p.kd? x).map Kd.d=_
   rw[hk];rfl
  obtain⟨u,hu,hd⟩:=hxs.get hg
  refine⟨b,xs,_,u,rfl,rfl,aQ.of aP,cZ Qc hu,?_⟩
  exact q u _ (e.trans (aI.new hb _)) (aD.ext (aI.new hb _) hd)
abbrev wT:Stmt:=top 36
theorem sc__law_lane:bT ["_law_plan_here","_law_one","_law_way"] ["_law_plan_here","_law_one"] (aT wT):=⟨rfl,rfl,rfl,Qd,rfl,Qd,Qd⟩
theorem Rr{f:Addr}{fd:FuncData}(F:bO K "_law_lane" "_law_lane" wT f fd)(T:Txt K mg)(oQ:aZ P w K mg base "_law_kind" 1 ["_law_plan_here","_law_name"] rO):bD P w K mg base bM 2 f fd ["_law_plan_here","_law_one"] iL:=by
 refine F.ok sc__law_lane (λ vs H Q E h=>?_) (λ cdv A outer s H vs Q E hr h=>?_)
 ·obtain⟨p,v,b,x,kd,j,r,k,rfl,_⟩:=h
  rfl
 obtain⟨p,v,b,x,kd,j,r,k,rfl,hp,Po,hb,hk,hw1,j0,j1,q⟩:=h
 refine'⟨_,?hh,?rr⟩
 case hh=>exists Qg,bG sc__law_lane.nd (aO 2) (Or.inl rfl) ?_,aN aX ?_ aK (λ _ _=>rfl),bB oQ hr ?_ rfl ?_,aE (pv 0) ?_,aE ?_ aG,aN aX (pv 1) aK (λ _ _=>rfl),Qc,aV ?_,bF ?_,aN aX ?_ ?_ (λ _ _=>rfl),bK xC ?_ ?_,bK xC ?_ (pv 2),dF ?_,aE ?_ aG,Pn Ir aK,dF ?_,aE ?_ aG,bL cY rfl T.b_len PySem.boot_len ?_,aE ?_ aG,aN aX (pv 0) aK (λ _ _=>rfl),aN aX (pv 1) aK (λ _ _=>rfl)
 obtain⟨a,la,ka,lv,kv,rfl,ha,hla,hls,hka,hks,el,ek⟩:=Pl.view hp
 have kw:=Po.kw k (eA hk).1
 refine⟨_,rfl,_,rfl,b,_,_,.str kd,rfl,rfl,aJ.of hb,cZ Qc rfl,p,_,kd,k,rfl,hp,Po,hk,λ u H1 e1 hd=>?_⟩
 obtain⟨ua,wa,ba,rfl,hua,hwa,hba⟩:=Kd.view hd
 refine⟨ua,_,_,.ref wa,rfl,rfl,aJ.of hua,rfl,?_⟩
 refine⟨_,rfl,(by show 1<=sizeLine;decide),λ t1 ht1=>?_⟩
 have e2:aI [] H1 (aA H1 t1 (.tup [V.int (-1)])):=aI.new ht1 _
 have h1:(aA H1 t1 (.tup [V.int (-1)])) t1=some (.tup [V.int (-1)]):=aP
 generalize aA H1 t1 (.tup [V.int (-1)])=H2 at e2 h1⊢
 refine⟨_,rfl,t1,wa,_,_,rfl,rfl,aJ.of h1,aJ.of (e2.tup Qb hwa),Qb,?_,λ z=>?_,λ _ t2 ht2=>?_⟩
 ·rw[List.length_map];exact Nat.le_of_lt (cB (by have:=kw.1;simp;omega))
 ·exfalso
  have z2:(k.way.map V.int).length=0:=by rw[z];rfl
  rw[List.length_map]at z2
  omega
 have e3:aI [] H2 (aA H2 t2 (.tup ([V.int (-1)]++k.way.map V.int))):=aI.new ht2 _
 have h2:(aA H2 t2 (.tup ([V.int (-1)]++k.way.map V.int))) t2=some (.tup ([V.int (-1)]++k.way.map V.int)):=aP
 generalize aA H2 t2 (.tup ([V.int (-1)]++k.way.map V.int))=H3 at e3 h2⊢
 have e123:=(e1.trans e2).trans e3
 refine⟨_,rfl,a,_,_,.ref la,rfl,rfl,aJ.of (e123.tup Qb ha),rfl,la,lv,rfl,.inr (aJ.of (e123.tup Qb hla)),(by show 1<=sizeLine;decide),λ t3 ht3=>?_⟩
 have e4:aI [] H3 (aA H3 t3 (.tup [V.int (lv.length:Nat)])):=aI.new ht3 _
 have h3:(aA H3 t3 (.tup [V.int (lv.length:Nat)])) t3=some (.tup [V.int (lv.length:Nat)]):=aP
 generalize aA H3 t3 (.tup [V.int (lv.length:Nat)])=H4 at e4 h3⊢
 refine⟨t2,t3,_,_,rfl,rfl,aJ.of (e4.tup Qb h2),aJ.of h3,Qb,?_,λ z=>absurd z Qb,λ _ t4 ht4=>?_⟩
 ·simp only[List.length_append,List.length_map,List.length_cons,List.length_nil]
  exact Nat.le_of_lt (cB (by have:=kw.1;omega))
 have e5:aI [] H4 (aA H4 t4 (.tup (([V.int (-1)]++k.way.map V.int)++[V.int (lv.length:Nat)]))):=aI.new ht4 _
 have h4:(aA H4 t4 (.tup (([V.int (-1)]++k.way.map V.int)++[V.int (lv.length:Nat)]))) t4=some (.tup (([V.int (-1)]++k.way.map V.int)++[V.int (lv.length:Nat)])):=aP
 generalize aA H4 t4 (.tup (([V.int (-1)]++k.way.map V.int)++[V.int (lv.length:Nat)]))=H5 at e5 h4⊢
 have e15:=(e123.trans e4).trans e5
 refine⟨_,rfl,b,_,_,.int j,rfl,rfl,aJ.of (e15.tup Qb hb),cZ Qc rfl,t4,_,_,.int (p.at kd j),rfl,rfl,aJ.of h4,cZ j0 ?_,q _ e15⟩
 rcases(show j=0\/(1<=j/\j<=k.way.length)\/j=k.way.length+1 from Qa)with rfl|⟨g1,g2⟩|rfl
 ·rw[qM];rfl
 ·obtain⟨wv,hw,ew⟩:=qN hk g1 g2
  rw[ew,List.append_assoc,List.cons_append,List.nil_append]
  rw[show j.toNat=(j-1).toNat+1 from Qa,List.getElem?_cons_succ,List.getElem?_append_left (by rw[List.length_map];omega),List.getElem?_map,hw]
  rfl
 ·rw[nZ hk Qa]
  rw[List.getElem?_append_right Qb,show((k.way.length:Int)+1).toNat-([V.int (-1)]++k.way.map V.int).length=0 from Qb]
  show some (V.int (lv.length:Nat))=some (V.int p.n)
  rw[el];rfl
abbrev kF:Stmt:=top 37
theorem sc__law_room:bT ["_law_plan_here","_law_bounds","_law_cards","_law_kind_here","_law_lane_here","_law_there"] ["_law_plan_here","_law_bounds","_law_cards","_law_kind_here","_law_lane_here"] (aT kF):=⟨rfl,rfl,rfl,Qd,rfl,Qd,Qd⟩
def vO:Sp:=λ vs H Q _=>∃(p:Pl) (v kv:V) (ba ca:Addr) (bs:List Int) (cs:List Cd) (cv:List V) (k:Kd) (l:Int),vs=[v,.ref ba,.ref ca,kv,.int l]/\aD [] H p.d v/\dP p/\H ba=some (.lst (bs.map V.int))/\bs.length=p.ls.length/\
 H ca=some (.lst cv)/\aL [] H (cs.map Cd.d) cv/\cs.length<=900/\(∀c∈cs,gZ p c)/\aD [] H k.d kv/\k∈p.ks/\(0<=l->l<p.n->l∈k.way)/\∀(x:Str) H',x.length<=8->aI [] H H'->Q (.str x) H'
theorem Rp{f:Addr}{fd:FuncData}(F:bO K "_law_room" "_law_room" kF f fd)(T:Txt K mg)(cW:aZ P w K mg base "_law_lane" 2 ["_law_plan_here","_law_one"] iL):bD P w K mg base bM 3 f fd ["_law_plan_here","_law_bounds","_law_cards","_law_kind_here","_law_lane_here"] vO:=by
 refine F.ok sc__law_room (λ vs H Q E h=>?_) (λ cdv A outer s H vs Q E hr h=>?_)
 ·obtain⟨p,v,kv,ba,ca,bs,cs,cv,k,l,rfl,_⟩:=h
  rfl
 obtain⟨p,v,kv,ba,ca,bs,cs,cv,k,l,rfl,hp,G,hba,ebs,hca,hcs,ncs,hco,hkv,hkp,hlw,q⟩:=h
 have Po:=G.ok
 refine'⟨_,?hh,?rr⟩
 case hh=>exists Qg,iP sc__law_room.nd (aO 5) (Or.inl rfl) rfl ?_ (eH ["_law_one","_law_plan_here","_law_lane_here"] 1 [0,4]) ?_ ?_ ?_ ?_ ?_ ?_ ?_,(by exact⟨rfl,Qd,Qd,(show∀y:Str×NameKind,y∈_->y.2=NameKind.free->(aT kF).names.lookup y.1=some .cell\/(aT kF).names.lookup y.1=some .free from Qd)⟩),Qd,Qc,nI (pv 2),4,bI ?_ (aO 0) (Or.inl rfl) (Or.inr rfl),(by exact(show(["_law_one","_law_plan_here","_law_lane_here"]:List Str).Nodup from Qd)),eZ Qc,4,hZ ?_,bN cG ?_ (pv 2) (bH _),bB cW hr ?_ rfl ?_,aE (pv 1) ?_,aE (pv 0) aG,Qc,4,aN ?_ (pv 0) aK (λ _ _=>rfl),(by exact(show cQ _ (fK K)from aX)),Qg,bS ?_ ?_ bR,jH ?_,wZ nJ lW aK (pv 4) ?_,bL cY rfl T.b_len PySem.boot_len ?_,aE ?_ aG,aN aX (pv 0) aK (λ _ _=>rfl),aV ?_,bF bJ,Qg,bS ?_ ?_ bR,bN lX ?_ ?_ (bH _),bL cY rfl T.b_len PySem.boot_len ?_,aE (pv 5) aG,aN ix_list (pv 1) (pv 4) (λ _ _=>rfl),aV ?_,bF bJ,Qg,bS ?_ ?_ bR,bN lX ?_ ?_ (bH _),jJ PySem.F.plainAttrs_list PySem.F.slot_list_count PySem.F.type_list_count xG (pv 5) ?_,aE ?_ aG,aN aX (pv 3) aK (λ _ _=>rfl),aN aX ?_ ?_ (λ _ _=>rfl),aN aX (pv 3) aK (λ _ _=>rfl),sN PySem.F.plainAttrs_tuple PySem.F.slot_tuple_index PySem.F.type_tuple_index sY ?_ ?_,aN aX (pv 3) aK (λ _ _=>rfl),aE (pv 4) aG,aV ?_,bF bJ,aV ?_,bF bJ
 refine⟨_,rfl,ca,rfl,⟨cv,aQ.of hca⟩,gP (qZ (ys:=cv)) (λ i xs H2=>aI [] H H2/\∃ks:List Str,xs=ks.map V.str/\ks.length<=i) ⟨aI.refl,[],rfl,Nat.le_refl _⟩ (λ _ _ _ h=>aQ.of (h.1.lst Qb hca)) ?_ ?_⟩
 ·rintro i y xs H2 hy hi ⟨e,ks,rfl,hkl⟩
  obtain⟨c,hc,hdy⟩:=hcs.nth hy
  obtain⟨b,rfl,hb⟩:=Cd.view (aD.ext e hdy)
  obtain⟨_,kd,hkd,p0,p1⟩:=hco c (List.mem_of_getElem? hc)
  refine⟨_,rfl,_,rfl,p,v,b,c.nm,c.kd,c.pl,[.bl c.bk],kd,rfl,aD.ext e hp,Po,hb,hkd,(G.kn kd (eA hkd).1).2.1,p0,p1,λ H3 e3=>?_⟩
  refine⟨_,rfl,rfl,_,rfl,?_⟩
  have e13:=e.trans e3
  refine bA (λ cc=>?_) (λ cc=>?_)
  ·refine⟨_,rfl,b,_,_,.str c.kd,rfl,rfl,aJ.of (e3.tup Qb hb),rfl,?_,nx hi ⟨e13,ks++[c.kd],by rw[List.map_append];rfl,by rw[List.length_append];exact Nat.succ_le_succ hkl⟩⟩
   rw[List.length_map]
   have:cv.length=cs.length:=by rw[hcs.length,List.length_map]
   exact cB Qa
  ·exact nx hi ⟨e13,ks,rfl,Nat.le_succ_of_le hkl⟩
 ·rintro xs H2 ⟨e,ks,rfl,hkl⟩ t ht
  have e2:aI [] H2 (aA H2 t (.lst (ks.map V.str))):=aI.new ht _
  have h2:(aA H2 t (.lst (ks.map V.str))) t=some (.lst (ks.map V.str)):=aP
  generalize aA H2 t (.lst (ks.map V.str))=H3 at e2 h2⊢
  have e3:=e.trans e2
  obtain⟨a,la,ka,lv,kv',rfl,ha,hla,hls,hka,hks,el,ek⟩:=Pl.view hp
  refine⟨_,rfl,_,_,rfl,rfl,_,rfl,?_⟩
  have lst:∀x:Str,x.length<=8->Q (.str x) H3:=λ x hx=>q x H3 hx e3
  refine bA (λ c0=>?_) (λ c0=>?_)
  ·refine⟨_,rfl,a,_,_,.ref la,rfl,rfl,aJ.of (e3.tup Qb ha),rfl,la,lv,rfl,.inr (aJ.of (e3.tup Qb hla)),_,_,rfl,rfl,_,rfl,?_⟩
   refine bA (λ c1=>?_) (λ c1=>?_)
   ·exact lst _ Qd
   ·have hl:l<p.n:=by
     have:=c1
     simp at this
     rw[el]at this
     exact this
    have hl0:0<=l:=of_decide_eq_true c0
    have hbl:l.toNat<bs.length:=by
     have:(l.toNat:Int)<p.ls.length:=by rw[Int.toNat_of_nonneg hl0];exact hl
     omega
    obtain⟨ka2,wa,bda,rfl,hka2,hwa,hbda⟩:=Kd.view hkv
    refine⟨_,rfl,t,_,rfl,.inl (aQ.of h2),_,rfl,_,rfl,ba,_,_,.int bs[l.toNat],rfl,rfl,aQ.of (e3.lst Qb hba),cZ hl0 (by simp[hbl]),_,_,rfl,rfl,_,rfl,?_⟩
    refine bA (λ c2=>lst _ Qd) (λ c2=>?_)
    obtain⟨j,hj,hjf⟩:∃j,(∃h:j<k.way.length,k.way[j]=l)/\∀m w,m<j->k.way[m]? =some w->w≠l:=by
     have hm:=hlw hl0 hl
     refine⟨k.way.findIdx (· ==l),⟨List.findIdx_lt_length_of_exists ⟨l,hm,Qb⟩,?_⟩,λ m w hm2 hw e=>?_⟩
     ·have:=List.findIdx_getElem (xs:=k.way) (p:=(· ==l)) (w:=List.findIdx_lt_length_of_exists ⟨l,hm,Qb⟩)
      simpa using this
     ·obtain⟨hlt,he⟩:=List.getElem?_eq_some_iff.mp hw
      have:=List.not_of_lt_findIdx hm2
      simp[he,e]at this
    obtain⟨hjl,hje⟩:=hj
    have kw:=Po.kw k hkp
    have hjb:j<k.bds.length:=by omega
    refine⟨_,rfl,.inl ⟨rfl,_,aQ.of h2⟩,_,rfl,ka2,_,_,.str k.nm,rfl,rfl,aJ.of (e3.tup Qb hka2),rfl,t,_,.str k.nm,rfl,rfl,aQ.of h2,rfl,by simp[fA],?_⟩
    refine⟨_,rfl,ka2,_,_,.ref bda,rfl,rfl,aJ.of (e3.tup Qb hka2),rfl,_,rfl,ka2,_,_,.ref wa,rfl,rfl,aJ.of (e3.tup Qb hka2),rfl,⟨wa,_,rfl,e3.tup Qb hwa⟩,_,rfl,wa,_,.int l,j,rfl,rfl,aJ.of (e3.tup Qb hwa),rfl,by simp[fA],⟨⟨.int l,by simp[hjl,hje],by simp[dB]⟩,λ m x hm hx=>?_⟩,?_⟩
    ·rw[List.getElem?_map]at hx
     obtain⟨w',hw',rfl⟩:=Option.map_eq_some_iff.mp hx
     have:=hjf m w' hm hw'
     simp[dB,this]
    refine⟨bda,_,_,.int k.bds[j],rfl,rfl,aJ.of (e3.tup Qb hbda),cZ Qa (by simp[hjb]),_,_,rfl,rfl,_,rfl,?_⟩
    exact bA (λ c3=>lst _ Qd) (λ c3=>lst _ Qd)
  ·exact⟨_,rfl,lst _ Qd⟩
abbrev kG:Stmt:=top 38
theorem sc__law_bars:bT ["_law_plan_here","_law_cards","_law_wait","_law_found"] ["_law_plan_here","_law_cards","_law_wait"] (aT kG):=⟨rfl,rfl,rfl,Qd,rfl,Qd,Qd⟩
def vQ:Sp:=λ vs H Q _=>∃(p:Pl) (v:V) (ca wa:Addr) (cs:List Cd) (cv:List V) (x y:Str) (n:Int),vs=[v,.ref ca,.ref wa]/\aD [] H p.d v/\dP p/\
 H ca=some (.lst cv)/\aL [] H (cs.map Cd.d) cv/\cs.length<=900/\(∀c∈cs,gZ p c)/\H wa=some (.tup [.str x,.int n,.str y])/\(∃c∈cs,c.nm=y)/\∀(b:Bool) H',aI [] H H'->Q (.bl b) H'
theorem Rv{f:Addr}{fd:FuncData}(F:bO K "_law_bars" "_law_bars" kG f fd)(T:Txt K mg)(cW:aZ P w K mg base "_law_lane" 2 ["_law_plan_here","_law_one"] iL):bD P w K mg base bM 3 f fd ["_law_plan_here","_law_cards","_law_wait"] vQ:=by
 refine F.ok sc__law_bars (λ vs H Q E h=>?_) (λ cdv A outer s H vs Q E hr h=>?_)
 ·obtain⟨p,v,ca,wa,cs,cv,x,y,n,rfl,_⟩:=h
  rfl
 obtain⟨p,v,ca,wa,cs,cv,x,y,n,rfl,hp,G,hca,hcs,ncs,hco,hwa,hex,q⟩:=h
 have Po:=G.ok
 refine'⟨_,?hh,?rr⟩
 case hh=>exists Qg,iP sc__law_bars.nd (aO 3) (Or.inl rfl) rfl ?_ (eH ["_law_one","_law_wait"] 1 [2]) ?_ ?_ ?_ ?_ ?_ ?_ ?_,(by exact⟨rfl,Qd,Qd,(show∀y:Str×NameKind,y∈_->y.2=NameKind.free->(aT kG).names.lookup y.1=some .cell\/(aT kG).names.lookup y.1=some .free from Qd)⟩),Qd,Qc,nI (pv 1),4,bI ?_ (aO 0) (Or.inl rfl) (Or.inr rfl),(by exact(show(["_law_one","_law_wait"]:List Str).Nodup from Qd)),eZ Qc,4,hZ ?_,bN cG ?_ ?_ (bH _),aN ?_ (pv 0) aK (λ _ _=>rfl),(by exact(show cQ _ (fK K)from aX)),aN ?_ (pv 1) aK (λ _ _=>rfl),(by exact(show cQ _ (fK K)from aX)),4,(pv 0),aV ?_,bF ?_,iB lW ?_ ?_ (bH _),bB cW hr ?_ rfl ?_,aE (pv 0) ?_,aE ?_ aG,aN ix_list (pv 3) aK (λ _ _=>rfl),Qc,bL cY rfl T.b_len PySem.boot_len ?_,aE ?_ aG,aN aX (pv 0) aK (λ _ _=>rfl)
 have hcl:cv.length=cs.length:=by rw[hcs.length,List.length_map]
 refine⟨_,rfl,ca,rfl,⟨cv,aQ.of hca⟩,gP (qZ (ys:=cv)) (λ i xs H2=>aI [] H H2/\aL [] H2 (((cs.take i).filter λ c=>c.nm==y).map Cd.d) xs) ⟨aI.refl,rfl⟩ (λ _ _ _ h=>aQ.of (h.1.lst Qb hca)) ?_ ?_⟩
 ·rintro i u xs H2 hy hi ⟨e,hxs⟩
  obtain⟨c,hc,hdy⟩:=hcs.nth hy
  have hdy2:=aD.ext e hdy
  obtain⟨b,rfl,hb⟩:=Cd.view hdy2
  have tk:cs.take (i+1)=cs.take i++[c]:=by rw[List.take_add_one,hc];rfl
  refine⟨_,rfl,b,_,_,.str c.nm,rfl,rfl,aJ.of hb,rfl,_,rfl,wa,_,_,.str y,rfl,rfl,aJ.of (e.tup Qb hwa),rfl,rfl,_,rfl,?_⟩
  have small:xs.length<1000:=by
   rw[hxs.length,List.length_map]
   have:=List.length_filter_le (λ c:Cd=>c.nm==y) (cs.take i)
   rw[List.length_take]at this
   omega
  refine bA (λ cc=>?_) (λ cc=>?_)
  ·have ck:c.nm=y:=by simpa using cc
   refine⟨_,rfl,cB Qa,nx hi ⟨e,?_⟩⟩
   rw[tk,List.filter_append,List.map_append]
   refine aL.append hxs ?_
   have:([c].filter λ c=>c.nm==y)=[c]:=by simp[ck]
   rw[this]
   exact⟨_,_,rfl,hdy2,rfl⟩
  ·have ck:¬c.nm=y:=by simpa using cc
   refine nx hi ⟨e,?_⟩
   rw[tk,List.filter_append,List.map_append]
   have:([c].filter λ c=>c.nm==y)=[]:=by simp[ck]
   rw[this,List.map_nil,List.append_nil]
   exact hxs
 ·rintro xs H2 ⟨e,hxs⟩ t ht
  rw[hcl,List.take_length]at hxs
  obtain⟨c0,hc0,hn0⟩:=hex
  have hne:(cs.filter λ c=>c.nm==y)[0]?≠none:=by
   rw[nW]
   intro z
   have:=List.find?_eq_none.mp z c0 hc0
   simp[hn0]at this
  obtain⟨c,hc⟩:=Option.ne_none_iff_exists'.mp hne
  have hcm:c∈cs:=(List.mem_filter.mp (List.mem_of_getElem? hc)).1
  have hg:((cs.filter λ c=>c.nm==y).map Cd.d)[0]? =some c.d:=by rw[List.getElem?_map,hc];rfl
  obtain⟨u,hu,hd⟩:=hxs.get hg
  have e2:aI [] H2 (aA H2 t (.lst xs)):=aI.new ht _
  have h2:(aA H2 t (.lst xs)) t=some (.lst xs):=aP
  generalize aA H2 t (.lst xs)=H3 at e2 h2⊢
  have e3:=e.trans e2
  have hd3:=aD.ext e2 hd
  obtain⟨b,rfl,hb⟩:=Cd.view hd3
  obtain⟨a,la,ka,lv,kv',rfl,ha,hla,hls,hka,hks,el,ek⟩:=Pl.view hp
  obtain⟨_,kd,hkd,p0,p1⟩:=hco c hcm
  refine⟨_,rfl,_,rfl,t,xs,_,.ref b,rfl,rfl,aQ.of h2,cZ Qc hu,p,_,b,c.nm,c.kd,c.pl,[.bl c.bk],kd,rfl,aD.ext e3 hp,Po,hb,hkd,(G.kn kd (eA hkd).1).2.1,p0,p1,λ H4 e4=>?_⟩
  have e5:=e3.trans e4
  refine⟨_,rfl,a,_,_,.ref la,rfl,rfl,aJ.of (e5.tup Qb ha),rfl,la,lv,rfl,.inr (aJ.of (e5.tup Qb hla)),_,_,rfl,rfl,?_⟩
  exact q _ _ e5
end
end K10
namespace L2
open PySem PySem.Spec PyProof.Rows PySem.W
structure eI(p:Pl)(s:Sd):Prop where
 nb:s.bs.length=p.ls.length
 bd:∀b∈s.bs,1<=b/\b<=99
 nc:s.cs.length<=30
 c:∀c∈s.cs,gZ p c
 cn:∀c∈s.cs,nm c.nm=true
 nd:(s.cs.map (·.nm)).Nodup
 srt:sortedS (s.cs.map (·.nm))=true
 bk:∀c∈s.cs,c.bk=true->∀k,p.kd? c.kd=some k->c.pl<=k.way.length
 nw:s.ws.length<=60
 w:∀w∈s.ws,(∃c∈s.cs,c.nm=w.cd)/\(∃c∈s.cs,c.nm=w.ot)/\0<=w.ln/\w.ln<=p.n
theorem xX{s:Sd}{x:Str}(h:∃c∈s.cs,c.nm=x):(s.cd? x).isSome=true:=by
 obtain⟨c,hc,e⟩:=h
 unfold Sd.cd?
 rw[List.find?_isSome]
 exact⟨c,hc,by simp[e]⟩
theorem eI.ok{p:Pl}{s:Sd}(g:eI p s):jT p s where
 nb:=g.nb
 nc:=Nat.le_trans g.nc Qc
 c:=g.c
 nw:=Nat.le_trans g.nw Qc
 w:=λ w hw=>by
  obtain⟨h1,h2,_,_⟩:=g.w w hw
  refine⟨xX h1,xX h2,?_,?_⟩
  ·obtain⟨c,hc,e⟩:=h1;rw[<-e];exact lZ (g.cn c hc)
  ·obtain⟨c,hc,e⟩:=h2;rw[<-e];exact lZ (g.cn c hc)
theorem BW:bootBuiltins ("set" :Str)=some (.type "set"):=by decide+kernel
end L2
namespace K10
open PySem PySem.Spec L2 PyProof.Rows PySem.W
section
variable{P:Program}{w:World}{K:Qf}{mg:Qk}{base:Heap}
theorem xS{α:Type}{f:α->Str}{a:α}:∀{l:List α},(l.map f).Nodup->a∈l->l.find? (λ b=>f b==f a)=some a
 |[],_,h=>nomatch h
 | b::l,hn,h=>by
  rw[List.map_cons,List.nodup_cons]at hn
  rcases List.mem_cons.mp h with rfl|h
  ·exact List.find?_cons_of_pos Qb
  ·rw[List.find?_cons_of_neg]
   ·exact xS hn.2 h
   ·intro e
    have e:f b=f a:=by simpa using e
    exact hn.1 (by rw[e];exact List.mem_map_of_mem h)
abbrev pG:Stmt:=top 39
theorem sc__law_stand:bT ["_law_held","_law_plan_here","_law_most","_law_bounds","_law_cards","_law_name","_law_kind_here","_law_one","_law_waits","_law_turn","_law_two","_law_wait"] ["_law_held","_law_plan_here","_law_most"] (aT pG):=⟨rfl,rfl,rfl,Qd,rfl,Qd,Qd⟩
def vM:Sp:=λ vs H Q _=>∃(z:Zn) (p:Pl) (v:V) (m:Int),vs=[.ref z.p,v,.int m]/\Cz z H/\aD z.ex H p.d v/\dP p/\0<=m/\m<=30/\∀(s:Sd) (u:V) H',eI p s->aY z H H'->aD z.ex H' s.d u->Q u H'
theorem Rn{f:Addr}{fd:FuncData}(F:bO K "_law_stand" "_law_stand" pG f fd)(T:Txt K mg)(bY:aZ P w K mg base "_law_take" 1 ["_law_held","_law_many"] lK)(mV:aZ P w K mg base "_law_bound" 2 ["_law_held"] rT)(jV:aZ P w K mg base "_law_words" 2 ["_law_held","_law_many"] pB)
  (cW:aZ P w K mg base "_law_lane" 2 ["_law_plan_here","_law_one"] iL) (qU:aZ P w K mg base "_law_room" 3 ["_law_plan_here","_law_bounds","_law_cards","_law_kind_here","_law_lane_here"] vO) (qV:aZ P w K mg base "_law_bars" 3 ["_law_plan_here","_law_cards","_law_wait"] vQ):
  bD P w K mg base bM 4 f fd ["_law_held","_law_plan_here","_law_most"] vM:=by
 refine F.ok sc__law_stand (λ vs H Q E h=>?_) (λ cdv A outer s H vs Q E hr h=>?_)
 ·obtain⟨z,p,v,m,rfl,_⟩:=h
  rfl
 obtain⟨z,p,v,m,rfl,c,hp,G,m0,m1,q⟩:=h
 have hu:=hr.units
 refine'⟨_,?hh,?rr⟩
 case hh=>(exists Qg,iP ?_ ?_ ?_ ?_ ?_ ?_ ?_ ?_ ?_ ?_ ?_ ?_ ?_,sc__law_stand.nd,aO 3,Or.inl rfl,rfl,(by exact⟨rfl,Qd,Qd,(show∀y:Str×NameKind,y∈_->y.2=NameKind.free->(aT pG).names.lookup y.1=some .cell\/(aT pG).names.lookup y.1=some .free from Qd)⟩),eH ["_law_lane_here","_law_held"] 1 [0],Qd,Qc,fL ?_,aN ?_ ?_ ?_ ?_,cX,pv 1,aK,(λ _ _=>rfl),4,bI ?_ ?_ ?_ ?_,(by exact(show(["_law_lane_here","_law_held"]:List Str).Nodup from Qd)),aO 0,Or.inl rfl,Or.inr rfl,eZ Qc,4,kK,4,aN ?_ ?_ ?_ ?_,cX,jI ?_,Qe,aN ?_ ?_ ?_ ?_,cX,pv 0,aK,(λ _ _=>rfl),Qe,bB ?_ ?_ ?_ ?_ ?_,mV,hr,Qe,pv 1,aG,rfl,Qc,aG,bB ?_ ?_ ?_ ?_ ?_,bY,hr,Qe,pv 1,Qe,aK,aG,rfl,Qc,(λ _ _=>rfl),Qg,bG ?_ ?_ ?_ ?_,sc__law_stand.nd,aO 4,Or.inl rfl,gB ?_,aG,Qg,iA ?_ ?_ ?_ ?_ ?_,PassesOwn.never,rfl,nI ?_,bL ?_ ?_ ?_ ?_ ?_,BM,rfl,T.b_sorted,boot_sorted,Qe,lU ?_ ?_ ?_ ?_,vX,bB ?_ ?_ ?_ ?_ ?_,jV,hr,Qe,pv 0,Qe,aK,aG,rfl,Qc,lQ,lP ?_,bB ?_ ?_ ?_ ?_ ?_,bY,hr,Qe,pv 0,Qe,bK ?_ ?_ ?_,dZ,pv 2,aK,aG,rfl,Qc,aG,bI ?_ ?_ ?_ ?_,sc__law_stand.nd,aO 5,Or.inl rfl,Or.inl rfl,Qg,bG ?_ ?_ ?_ ?_,sc__law_stand.nd,aO 6,Or.inl rfl,aN ?_ ?_ ?_ ?_,cX,aN ?_ ?_ ?_ ?_,cX,pv 1,aK,(λ _ _=>rfl),bB ?_ ?_ ?_ ?_ ?_,bY,hr,Qe,pv 0,Qe,bL ?_ ?_ ?_ ?_ ?_,qK,rfl,T.b_len,PySem.boot_len,Qe,aN ?_ ?_ ?_ ?_,cX,pv 1,aK,(λ _ _=>rfl),aG,aG,rfl,Qc,(λ _ _=>rfl),Qg,bG ?_ ?_ ?_ ?_,sc__law_stand.nd,aO 7,Or.inl rfl,kP ?_,Qe,pv 5,Qe,aN ?_ ?_ ?_ ?_,cX,pv 6,aK,(λ _ _=>rfl),Qe,bB ?_ ?_ ?_ ?_ ?_,bY,hr,Qe,pv 0,Qe,bK ?_ ?_ ?_,dZ,bL ?_ ?_ ?_ ?_ ?_,qK,rfl,T.b_len,PySem.boot_len,Qe,aN ?_ ?_ ?_ ?_,cX,pv 6,aK,(λ _ _=>rfl),aG,aK,aG,rfl,Qc,aG,Qg,bS ?_ ?_ ?_,bN ?_ ?_ ?_ ?_,pS,bB ?_ ?_ ?_ ?_ ?_,qU,hr,Qe,pv 1,Qe,pv 3,Qe,pv 4,Qe,pv 6,Qe,bB ?_ ?_ ?_ ?_ ?_,cW,hr,Qe,pv 1,Qe,pv 7,aG,rfl,Qc,aG,rfl,Qc,bJ,bH _,aV ?_,bG ?_ ?_ ?_ ?_,sc__law_stand.nd,aO 7,Or.inl rfl,kP ?_,Qe,pv 5,Qe,aN ?_ ?_ ?_ ?_,cX,pv 6,aK,(λ _ _=>rfl),Qe,aN ?_ ?_ ?_ ?_,cX,jI ?_,Qe,aK,Qe,bK ?_ ?_ ?_,dZ,bL ?_ ?_ ?_ ?_ ?_,qK,rfl,T.b_len,PySem.boot_len,Qe,aN ?_ ?_ ?_ ?_,cX,pv 6,aK,(λ _ _=>rfl),aG,aK,aG,bB ?_ ?_ ?_ ?_ ?_,bY,hr,Qe,pv 0,Qe,aK,aG,rfl,Qc,(λ _ _=>rfl),aG,bR,aV ?_,lO ?_,jJ ?_ ?_ ?_ ?_ ?_ ?_,PySem.F.plainAttrs_list,PySem.F.slot_list_append,PySem.F.type_list_append,sZ,pv 4,Qe,bK ?_ ?_ ?_,Pz,pv 7,kP ?_,Qe,xB ?_ ?_,iB ?_ ?_ ?_ ?_,nJ,aN ?_ ?_ ?_ ?_,cX,pv 7,aK,(λ _ _=>rfl),bL ?_ ?_ ?_ ?_ ?_,qK,rfl,T.b_len,PySem.boot_len,Qe,aN ?_ ?_ ?_ ?_,cX,pv 6,aK,(λ _ _=>rfl),aG,bH _,xA ?_,iB ?_ ?_ ?_ ?_,cG,bB ?_ ?_ ?_ ?_ ?_,bY,hr,Qe,pv 0,Qe,aK,aG,rfl,Qc,aK,bH _,aG,aG,Qg,bG ?_ ?_ ?_ ?_,sc__law_stand.nd,aO 8,Or.inl rfl,gB ?_,aG,Qg,iA ?_ ?_ ?_ ?_ ?_,PassesOwn.never,rfl,lS ?_ ?_ ?_,rfl,T.b_range,Qe,bK ?_ ?_ ?_,lV,bB ?_ ?_ ?_ ?_ ?_,bY,hr,Qe,pv 0,Qe,aN ?_ ?_ ?_ ?_,cX,jI ?_,Qe,aK,Qe,aK,Qe,aK,Qe,aK,aG,bB ?_ ?_ ?_ ?_ ?_,bY,hr,Qe,pv 0,Qe,aK,aG,rfl,Qc,(λ _ _=>rfl),aG,rfl,Qc,iC ?_ ?_ ?_ ?_ ?_,Gb,rfl,T.b_int,Ge,Qe,iB ?_ ?_ ?_ ?_,Dg hu,pv 4,jI ?_,aG,bH _,aG,aG,bI ?_ ?_ ?_ ?_,sc__law_stand.nd,aO 9,Or.inl rfl,Or.inl rfl,Qg,bG ?_ ?_ ?_ ?_,sc__law_stand.nd,aO 7,Or.inl rfl,aN ?_ ?_ ?_ ?_,ix_list,pv 4,bB ?_ ?_ ?_ ?_ ?_,bY,hr,Qe,pv 0,Qe,bL ?_ ?_ ?_ ?_ ?_,cY,rfl,T.b_len,PySem.boot_len,Qe,pv 4,aG,aG,rfl,Qc,(λ _ _=>rfl),Qg,bG ?_ ?_ ?_ ?_,sc__law_stand.nd,aO 10,Or.inl rfl,aN ?_ ?_ ?_ ?_,cX,aN ?_ ?_ ?_ ?_,ix_list,pv 4,bB ?_ ?_ ?_ ?_ ?_,bY,hr,Qe,pv 0,Qe,bL ?_ ?_ ?_ ?_ ?_,cY,rfl,T.b_len,PySem.boot_len,Qe,pv 4,aG,aG,rfl,Qc,(λ _ _=>rfl),aK,(λ _ _=>rfl),Qg,bG ?_ ?_ ?_ ?_,sc__law_stand.nd,aO 11,Or.inl rfl,kP ?_,Qe,aN ?_ ?_ ?_ ?_,cX,pv 7,aK,(λ _ _=>rfl),Qe,bB ?_ ?_ ?_ ?_ ?_,bY,hr,Qe,pv 0,Qe,bK ?_ ?_ ?_,dZ,bL ?_ ?_ ?_ ?_ ?_,qK,rfl,T.b_len,PySem.boot_len,Qe,aN ?_ ?_ ?_ ?_,cX,pv 1,aK,(λ _ _=>rfl),aG,aK,aG,rfl,Qc,Qe,pv 10,aG,aV ?_,bS ?_ ?_ ?_,PW.pt ?_,sK ?_ ?_,bN ?_ ?_ ?_ ?_,lW,bB ?_ ?_ ?_ ?_ ?_,cW,hr,Qe,pv 1,Qe,pv 7,aG,rfl,Qc,aN ?_ ?_ ?_ ?_,cX,pv 11,aK,(λ _ _=>rfl),bH _,sJ ?_,jH ?_,fS ?_,bB ?_ ?_ ?_ ?_ ?_,qV,hr,Qe,pv 1,Qe,pv 4,Qe,pv 11,aG,rfl,Qc,aV ?_,lO ?_,jJ ?_ ?_ ?_ ?_ ?_ ?_,PySem.F.plainAttrs_list,PySem.F.slot_list_append,PySem.F.type_list_append,sZ,pv 8,Qe,pv 11,aG,bR,aV ?_,bF ?_,kP ?_,Qe,iC ?_ ?_ ?_ ?_ ?_,uB,rfl,T.b_tuple,gU,Qe,pv 3,aG,Qe,iC ?_ ?_ ?_ ?_ ?_,qJ,rfl,T.b_tuple,gU,Qe,pv 4,aG,Qe,iC ?_ ?_ ?_ ?_ ?_,uB,rfl,T.b_tuple,gU,Qe,lU ?_ ?_ ?_ ?_,vX,bL ?_ ?_ ?_ ?_ ?_,BL rfl,rfl,T.b_sorted,boot_sorted,Qe,iC ?_ ?_ ?_ ?_ ?_,BO rfl hu,rfl,T.b_set,BW,Qe,pv 8,aG,aG,lQ,lP ?_,aK,aG,aG)
 refine dS λ R hR=>?_
 refine⟨_,rfl,z,_,_,_,.inl hp,rfl,Qc,rfl,λ v1 hv1=>?_⟩
 obtain⟨la,lv,rfl,nla,hla,hls⟩:=hv1
 have elv:lv.length=p.ls.length:=by rw[hls.length,List.length_map]
 have nlap:la∉[z.p]:=λ h=>nla (by rw[List.mem_singleton.mp h];exact c.mem)
 refine⟨la,rfl,⟨lv,aJ.of hla⟩,nN (hJ (ys:=lv)) (λ i xs H2=>aY z H H2/\∃bs:List Int,xs=bs.map V.int/\bs.length=i/\∀x∈bs,1<=x/\x<=99) ⟨aY.refl c,[],rfl,rfl,Qb⟩ (λ _ _ _ h=>aJ.of (h.1.ext.tup nlap hla)) ?_ ?_⟩
 ·rintro i y xs H2 hy hi ⟨s2,bs,rfl,hbl,hbb⟩
  obtain⟨ln,hln,hdy⟩:=hls.nth hy
  have hdy2:=hdy.stp s2
  have gl:=G.ln ln (List.mem_of_getElem? hln)
  refine⟨_,rfl,z,_,_,_,.inl hdy2,rfl,Qc,rfl,λ vb hvb=>?_⟩
  refine⟨_,rfl,z,rfl,s2.cz,λ b H3 b1 b2 s3=>?_⟩
  refine⟨z,[.int ln.2,.int b],⟨_,_,rfl,hvb.stp s3,_,_,rfl,rfl,rfl⟩,(by show 2<=1000;decide),s3.cz,λ v4 H4 s4 f4=>?_⟩
  refine⟨_,rfl,z,2,rfl,s4.cz,Qc,Qc,λ k H5 k0 k1 s5=>?_⟩
  obtain⟨b',hb',g1,g2⟩:∃b':Int,([.int ln.2,.int b]:List PyData)[k.toNat]? =some (.int b')/\1<=b'/\b'<=99:=by
   rcases(show k=0\/k=1 from Qa)with rfl|rfl
   ·exact⟨ln.2,rfl,gl.2⟩
   ·exact⟨b,rfl,b1,b2⟩
  refine⟨z,_,_,_,.inr (f4.stp s5),rfl,k0,hb',λ v6 hv6=>?_⟩
  obtain rfl:v6= .int b':=hv6
  refine⟨?_,nx hi ⟨((s2.trans s3).trans s4).trans s5,bs++[b'],by rw[List.map_append];rfl,by simp[hbl],λ x hx=>?_⟩⟩
  ·rw[List.length_map,hbl]
   have:=G.l6
   exact cB Qa
  ·rcases List.mem_append.mp hx with h|h
   ·exact hbb x h
   ·rw[List.mem_singleton.mp h]
    exact⟨g1,g2⟩
 rintro xs H2 ⟨s2,bs,rfl,hbl,hbb⟩ ba hba0
 rw[elv]at hbl
 have s3:aY z H2 (aA H2 ba (.lst (bs.map V.int))):=aY.of s2.cz (aI.new hba0 _)
 have hba:(aA H2 ba (.lst (bs.map V.int))) ba=some (.lst (bs.map V.int)):=aP
 generalize aA H2 ba (.lst (bs.map V.int))=H3 at s3 hba⊢
 have bap:ba≠z.p:=λ e=>by
  obtain⟨n,h⟩:=s2.cz.held
  rw[e,h]at hba0
  cases hba0
 have sB3:=s2.trans s3
 refine hR _ _ (dS λ R hR=>?_)
 refine⟨(by show 0<=sizeLine;decide),λ l hl=>?_⟩
 have lp:l≠z.p:=λ e=>by
  obtain⟨n,h⟩:=s3.cz.held
  rw[e,h]at hl
  cases hl
 have bal:ba≠l:=λ e=>by
  rw[<-e,hba]at hl
  cases hl
 have nlp:l∉[z.p]:=λ h=>lp (List.mem_singleton.mp h)
 have nbap:ba∉[z.p]:=λ h=>bap (List.mem_singleton.mp h)
 have hp4:aD (z.with l).ex H3 p.d v:=aD.more hl (hp.stp sB3)
 have a4:cR z l H3 (aA H3 l (.lst [])):=cR.new s3.cz hl
 have hl4:(aA H3 l (.lst [])) l=some (.lst []):=aP
 have hba4:(aA H3 l (.lst [])) ba=some (.lst (bs.map V.int)):=by rw[aR bal];exact hba
 generalize aA H3 l (.lst [])=H4 at a4 hl4 hba4⊢
 refine hR _ _ (dS λ R hR=>?_)
 refine⟨_,rfl,z.with l,30,rfl,Qc,Qc,a4.cz,λ ns v5 H5 hn hnd hm s5 f5=>?_⟩
 refine⟨_,rfl,_,rfl,_,_,rfl,rfl,z.with l,m+1,rfl,s5.cz,Qa,Qa,λ t H6 t0 t1 s6=>?_⟩
 refine⟨_,rfl,z.with l,_,f5.stp s6,s6.cz,λ v7 H7 s7 f7=>?_⟩
 obtain⟨k,hk⟩:∃k,L2.jQ (ns.map PyData.str) none (some t)=(ns.take k).map PyData.str:=⟨_,by unfold L2.jQ;rw[HT.sIx_none,List.drop_zero,<-List.map_take]⟩
 rw[hk]at f7
 obtain⟨a7,x7,rfl,n7,h7,d7⟩:=f7
 obtain rfl:=aL.strs_of d7
 have hk30:(ns.take k).length<=30:=by
  have:=List.length_take_le k ns
  rw[List.length_take]
  omega
 refine⟨a7,ns.take k,rfl,aQ.of h7,Qa,λ sl zs hsl hperm hsorted=>?_⟩
 have s8:aY (z.with l) H7 (aA H7 sl (.lst (zs.map V.str))):=aY.of s7.cz (aI.new hsl _)
 have hsl8:(aA H7 sl (.lst (zs.map V.str))) sl=some (.lst (zs.map V.str)):=aP
 have s58:=(s5.trans s6).trans (s7.trans s8)
 have hl8:(aA H7 sl (.lst (zs.map V.str))) l=some (.lst []):=s58.ext.lst nlp hl4
 have hba8:(aA H7 sl (.lst (zs.map V.str))) ba=some (.lst (bs.map V.int)):=s58.ext.lst nbap hba4
 have a8:=a4.stp s58
 have slp:sl≠z.p:=λ e=>by
  obtain⟨n,h⟩:=s7.cz.held
  have h:H7 z.p=some (.lst [.int n]):=h
  rw[e,h]at hsl
  cases hsl
 have sll:sl≠l:=λ e=>by
  have:=((s5.trans s6).trans s7).ext.lst nlp hl4
  rw[e,this]at hsl
  cases hsl
 have nslp:sl∉[z.p]:=λ h=>slp (List.mem_singleton.mp h)
 generalize aA H7 sl (.lst (zs.map V.str))=H8 at s8 hsl8 s58 hl8 hba8 a8⊢
 have hzn:∀x∈zs,nm x=true:=λ x hx=>hm x (List.mem_of_mem_take (hperm.mem_iff.mp hx))
 have hznd:zs.Nodup:=hperm.nodup_iff.mpr (hnd.sublist (List.take_sublist _ _))
 have hzl:zs.length<=30:=by rw[hperm.length_eq];exact hk30
 clear hperm d7 h7 n7 f5 hm hnd hn
 refine⟨sl,rfl,⟨_,aQ.of hsl8⟩,Fb (xs:=zs.map V.str) (λ i σ H9=>∃(cs:List Cd) (cv:List V) (x5 x6 x7:Option V),σ=[some (V.ref z.p),some v,some (V.int m),some (V.ref ba),some (V.ref l),x5,x6,x7,none,none,none,none]/\cR z l H3 H9/\H9 l=some (.lst cv)/\H9 ba=some (.lst (bs.map V.int))/\H9 sl=some (.lst (zs.map V.str))/\
   aL (z.with l).ex H9 (cs.map Cd.d) cv/\cs.map (·.nm)=zs.take i/\(∀c∈cs,gZ p c)/\∀c∈cs,c.bk=true->∀k,p.kd? c.kd=some k->c.pl<=k.way.length)
  ⟨[],[],_,_,_,rfl,a8,hl8,hba8,hsl8,rfl,rfl,Qb,Qb⟩ ?_ ?_ ?_⟩
 ·rintro i σ H9 hi ⟨cs,cv,x5,x6,x7,rfl,a9,hl9,hba9,hsl9,hcs9,hnm9,hco9,hbk9⟩
  exact aQ.of hsl9
 ·rintro i x σ H9 hx ⟨cs,cv,x5,x6,x7,rfl,a9,hl9,hba9,hsl9,hcs9,hnm9,hco9,hbk9⟩
  rw[List.getElem?_map]at hx
  obtain⟨nme,hnme,rfl⟩:=Option.map_eq_some_iff.mp hx
  have hp9:aD (z.with l).ex H9 p.d v:=hp4.stl a9
  have nmG:=hzn nme (List.mem_of_getElem? hnme)
  have kks:1<=p.ks.length:=G.k1
  have ic:cs.length<=30:=by
   have:=congrArg List.length hnm9
   rw[List.length_map,List.length_take]at this
   omega
  refine dS λ R2 h2=>?_
  refine⟨_,rfl,z.with l,_,_,_,.inl hp9,rfl,Qc,rfl,λ v1 hv1=>?_⟩
  refine⟨_,rfl,_,rfl,z.with l,_,_,_,.inl hp9,rfl,Qc,rfl,λ v2 hv2=>?_⟩
  refine⟨z.with l,v2,_,rfl,.inl hv2,z.with l,_,rfl,a9.cz,?_,?_,λ t10 H10 t100 t101 s10=>?_⟩
  ·rw[List.length_map];omega
  ·rw[List.length_map];have:=G.k6;omega
  rw[List.length_map]at t101
  have hkin:t10.toNat<p.ks.length:=by omega
  refine⟨z.with l,_,_,(p.ks[t10.toNat]).d,.inl (hv1.stp s10),rfl,t100,by simp[hkin],λ vk hvk=>?_⟩
  have hkm:p.ks[t10.toNat]∈p.ks:=List.getElem_mem hkin
  generalize p.ks[t10.toNat]=kd at hvk hkm
  have kg:=G.kn kd hkm
  have hkf:p.kd? kd.nm=some kd:=by
   unfold Pl.kd?
   refine xS G.knd hkm
  refine h2 _ _ (dS λ R2 h2=>?_)
  refine⟨_,rfl,_,rfl,z.with l,_,_,_,.inl hvk,rfl,Qc,rfl,λ vn hvn=>?_⟩
  refine⟨_,rfl,_,rfl,z.with l,_,_,_,.inl hvk,rfl,Qc,rfl,λ vw hvw=>?_⟩
  refine⟨z.with l,vw,_,rfl,.inl hvw,_,_,rfl,rfl,z.with l,_,rfl,s10.cz,Qa,?_,λ j H11 j0 j1 s11=>?_⟩
  ·rw[List.length_map];have:=G.l6;omega
  rw[List.length_map]at j1
  refine⟨z.with l,[.str nme,.str kd.nm,.int j],⟨_,_,rfl,rfl,_,_,rfl,hvn.stp s11,_,_,rfl,rfl,rfl⟩,(by show 3<=1000;decide),s11.cz,λ vo H12 s12 f12=>?_⟩
  have b12:aY (z.with l) H9 H12:=(s10.trans s11).trans s12
  have g12:aD (z.with l).ex H12 (.tuple [.str nme,.str kd.nm,.int j]) vo:=f12
  obtain⟨oa,ov,rfl,_,hoa,hov⟩:=f12
  obtain⟨_,_,rfl,rfl,_,_,rfl,rfl,_,_,rfl,rfl,rfl⟩:=hov
  refine h2 _ _ (dS λ R2 h2=>?_)
  have tail:∀(HH:Hp) (xo:V) (jj:Int),aY (z.with l) H9 HH->aD (z.with l).ex HH kd.d vk->0<=jj->jj<=kd.way.length+1->aD (z.with l).ex HH (.tuple [.str nme,.str kd.nm,.int jj]) xo->R2 ((([some (V.ref z.p),some v,some (V.int m),some (V.ref ba),some (V.ref l),x5,x6,x7,none,none,none,none].set 5 (some (V.str nme))).set 6 (some vk)).set 7 (some xo)) HH:=by
   intro HH xo jj bb hvkH jj0 jj1 ff
   refine h2 _ _ ?_
   refine⟨_,rfl,.inl ⟨rfl,cv,aQ.of (bb.ext.lst nlp hl9)⟩,_,rfl,?_⟩
   refine⟨_,rfl,z.with l,_,_,_,.inl ff,rfl,Qc,rfl,λ va hva=>?_⟩
   obtain rfl:va= .int jj:=hva
   refine⟨_,rfl,z.with l,_,_,_,.inl hvkH,rfl,Qc,rfl,λ vw3 hvw3=>?_⟩
   refine⟨z.with l,vw3,_,rfl,.inl hvw3,_,_,rfl,rfl,_,rfl,?_⟩
   rw[List.length_map]
   refine bA (λ c2=>?_) (λ c2=>?_)
   refine⟨_,rfl,z.with l,5,rfl,bb.cz,Qc,Qc,λ t20 H20 t200 t201 s20=>?_⟩
   refine⟨rfl,?_⟩
   have c3:decide (V.int t20=V.int 0)=true->jj<=kd.way.length:=λ _=>of_decide_eq_true c2
   generalize decide (V.int t20=V.int 0)=bq at c3⊢
   rotate_left
   have s20:=aY.refl bb.cz
   obtain⟨bq,ebq,c3⟩:∃bq:Bool,bq=false/\(bq=true->jj<=kd.way.length):=⟨false,rfl,λ z=>nomatch z⟩
   rw[<-ebq]
   all_goals
    refine⟨z.with l,[.bool bq],⟨_,_,rfl,rfl,rfl⟩,(by show 1<=1000;decide),s20.cz,λ v21 H21 s21 f21=>?_⟩
    refine⟨z.with l,_,_,ff.stp (s20.trans s21),f21,(by show 3+1<=1000;decide),s21.cz,λ v22 H22 s22 f22=>?_⟩
    have b22:=bb.trans ((s20.trans s21).trans s22)
    refine⟨l,cv,v22,rfl,rfl,b22.ext.lst nlp hl9,?_,?_⟩
    ·rw[hcs9.length,List.length_map]
     exact cB Qa
    have fc:aD (z.with l).ex H22 (Cd.d ⟨nme,kd.nm,jj,bq⟩) v22:=f22
    refine⟨cs++[⟨nme,kd.nm,jj,bq⟩],cv++[v22],_,_,_,rfl,(a9.stp b22).put lp,aP,?_,?_,?_,?_,?_,?_⟩
    ·rw[aR bal];exact b22.ext.lst nbap hba9
    ·rw[aR sll];exact b22.ext.lst nslp hsl9
    ·rw[List.map_append]
     exact sM List.mem_cons_self (aL.append (hcs9.stp b22) ⟨v22,_,rfl,fc,rfl⟩)
    ·rw[List.map_append,hnm9,List.take_add_one,hnme]
     rfl
    ·intro c' hc'
     rcases List.mem_append.mp hc' with h|h
     ·exact hco9 c' h
     ·rw[List.mem_singleton.mp h]
      exact⟨lZ nmG,kd,hkf,jj0,jj1⟩
    ·intro c' hc'
     rcases List.mem_append.mp hc' with h|h
     ·exact hbk9 c' h
     ·rw[List.mem_singleton.mp h]
      intro e k' hk'
      have hk':p.kd? kd.nm=some k':=hk'
      rw[hkf]at hk'
      obtain rfl:=Option.some.inj hk'
      exact c3 e
  refine⟨_,rfl,_,rfl,_,rfl,_,rfl,_,rfl,_,rfl,p,v,oa,nme,kd.nm,j,[],kd,rfl,aD.less Qb (hp9.stp b12),G.ok,hoa,hkf,kg.2.1,j0,Qa,λ H13 e13=>?_⟩
  have s13':aY (z.with l) H12 H13:=aY.of s12.cz e13
  have b13:=b12.trans s13'
  have hvk13:aD (z.with l).ex H13 kd.d vk:=(hvk.stp (s11.trans s12)).stp s13'
  refine⟨p,v,vk,ba,l,bs,cs,cv,kd,p.at kd.nm j,rfl,aD.less Qb (hp9.stp b13),G,b13.ext.lst nbap hba9,hbl,b13.ext.lst nlp hl9,aL.less Qb (hcs9.stp b13),Qa,hco9,aD.less Qb hvk13,hkm,?_,λ x H14 hx14 e14=>?_⟩
  ·intro g0 g1
   rcases(show j=0\/(1<=j/\j<=kd.way.length)\/(kd.way.length:Int)<j from Qa)with rfl|⟨q1,q2⟩|q1
   ·rw[qM]at g0;omega
   ·obtain⟨wv,hw,ew⟩:=qN hkf q1 q2
    rw[ew]
    exact List.mem_of_getElem? hw
   ·rw[nZ hkf q1]at g1;omega
  have s14:aY (z.with l) H13 H14:=aY.of s13'.cz e14
  have b14:=b13.trans s14
  refine⟨rfl,_,rfl,?_⟩
  refine bA (λ c1=>?yes) (λ c1=>?no)
  case yes=>
   refine⟨_,rfl,_,rfl,z.with l,_,_,_,.inl (hvk13.stp s14),rfl,Qc,rfl,λ vn2 hvn2=>?_⟩
   refine⟨_,rfl,z.with l,_,_,_,.inl (hvk13.stp s14),rfl,Qc,rfl,λ vw2 hvw2=>?_⟩
   refine⟨z.with l,vw2,_,rfl,.inl hvw2,_,_,rfl,rfl,?_⟩
   rw[List.length_map]
   refine⟨z.with l,[.int 0,.int ((kd.way.length:Nat)+1)],⟨_,_,rfl,rfl,_,_,rfl,rfl,rfl⟩,(by show 2<=1000;decide),s14.cz,λ vl H15 s15 f15=>?_⟩
   refine⟨_,rfl,z.with l,2,rfl,s15.cz,Qc,Qc,λ k2 H16 k20 k21 s16=>?_⟩
   obtain⟨jj,hjj,jj0,jj1⟩:∃jj:Int,([.int 0,.int ((kd.way.length:Nat)+1)]:List PyData)[k2.toNat]? =some (.int jj)/\0<=jj/\jj<=kd.way.length+1:=by
    rcases(show k2=0\/k2=1 from Qa)with rfl|rfl
    ·exact⟨0,rfl,Qa,Qa⟩
    ·exact⟨_,rfl,Qa,Qa⟩
   refine⟨z.with l,_,_,_,.inr (f15.stp s16),rfl,k20,hjj,λ vj hvj=>?_⟩
   refine⟨z.with l,[.str nme,.str kd.nm,.int jj],⟨_,_,rfl,rfl,_,_,rfl,hvn2.stp (s15.trans s16),_,_,rfl,hvj,rfl⟩,(by show 3<=1000;decide),s16.cz,λ vo2 HH s17 ff=>?_⟩
   have bb:aY (z.with l) H9 HH:=b14.trans ((s15.trans s16).trans s17)
   have hvkH:aD (z.with l).ex HH kd.d vk:=(hvk13.stp s14).stp ((s15.trans s16).trans s17)
   exact tail HH vo2 jj bb hvkH jj0 jj1 ff
  case no=>
   have bb:aY (z.with l) H9 H14:=b14
   obtain⟨jj,jj0,jj1,ff⟩:∃jj:Int,0<=jj/\jj<=kd.way.length+1/\aD (z.with l).ex H14 (.tuple [.str nme,.str kd.nm,.int jj]) (.ref oa):=⟨j,j0,Qa,(g12.stp s13').stp s14⟩
   have hvkH:aD (z.with l).ex H14 kd.d vk:=hvk13.stp s14
   exact tail H14 (.ref oa) jj bb hvkH jj0 jj1 ff
 ·rintro σ H9 ⟨cs,cv,x5,x6,x7,rfl,a9,hl9,hba9,hsl9,hcs9,hnm9,hco9,hbk9⟩
  rw[List.length_map,List.take_length]at hnm9
  have ic:cs.length<=30:=by
   have:=congrArg List.length hnm9
   rw[List.length_map]at this
   omega
  have icv:cv.length=cs.length:=by rw[hcs9.length,List.length_map]
  have hcn:∀c∈cs,nm c.nm=true:=λ c hc=>hzn _ (by rw[<-hnm9];exact List.mem_map_of_mem hc)
  have hcd:(cs.map (·.nm)).Nodup:=by rw[hnm9];exact hznd
  have hcs2:sortedS (cs.map (·.nm))=true:=by rw[hnm9];exact hsorted
  clear hsl9 hnm9 hzn hznd hzl hsl8 hl8 hba8 hsl
  refine hR _ _ (dS λ R hR=>?_)
  refine⟨(by show 0<=sizeLine;decide),λ l2 hl2=>?_⟩
  have l2p:l2≠z.p:=λ e=>by
   obtain⟨n,h⟩:=a9.cz.held
   have h:H9 z.p=some (.lst [.int n]):=h
   rw[e,h]at hl2
   cases hl2
  have l2l:l≠l2:=λ e=>by
   rw[<-e,hl9]at hl2
   cases hl2
  have l2b:ba≠l2:=λ e=>by
   rw[<-e,hba9]at hl2
   cases hl2
  have nl2p:l2∉[z.p]:=λ h=>l2p (List.mem_singleton.mp h)
  have nl2:l2∉(z.with l).ex:=a9.cz.free hl2
  have a10:cR (z.with l) l2 H9 (aA H9 l2 (.lst [])):=cR.new a9.cz hl2
  have hl10:(aA H9 l2 (.lst [])) l=some (.lst cv):=by rw[aR l2l];exact hl9
  have hba10:(aA H9 l2 (.lst [])) ba=some (.lst (bs.map V.int)):=by rw[aR l2b];exact hba9
  have hw10:(aA H9 l2 (.lst [])) l2=some (.lst []):=aP
  have hp10:aD ((z.with l).with l2).ex H9 p.d v:=aD.more hl2 (hp4.stl a9)
  have hcs10:aL ((z.with l).with l2).ex H9 (cs.map Cd.d) cv:=aL.more hl2 hcs9
  generalize aA H9 l2 (.lst [])=H10 at a10 hl10 hba10 hw10⊢
  refine hR _ _ (dS λ R hR=>?_)
  refine⟨_,rfl,(z.with l).with l2,[.int 3,.int 7,.int 7,.int 90],⟨_,_,rfl,rfl,_,_,rfl,rfl,_,_,rfl,rfl,_,_,rfl,rfl,rfl⟩,(by show 4<=1000;decide),a10.cz,λ v11 H11 s11 f11=>?_⟩
  refine⟨_,rfl,(z.with l).with l2,4,rfl,s11.cz,Qc,Qc,λ t12 H12 t120 t121 s12=>?_⟩
  obtain⟨mm,hmm,mm0,mm1⟩:∃mm:Int,([.int 3,.int 7,.int 7,.int 90]:List PyData)[t12.toNat]? =some (.int mm)/\0<mm/\mm<=90:=by
   rcases(show t12=0\/t12=1\/t12=2\/t12=3 from Qa)with rfl|rfl|rfl|rfl
   ·exact⟨3,rfl,Qa,Qa⟩
   ·exact⟨7,rfl,Qa,Qa⟩
   ·exact⟨7,rfl,Qa,Qa⟩
   ·exact⟨90,rfl,Qa,Qa⟩
  refine⟨(z.with l).with l2,_,_,_,.inr (f11.stp s12),rfl,t120,hmm,λ v13 hv13=>?_⟩
  obtain rfl:v13= .int mm:=hv13
  refine⟨(z.with l).with l2,mm,rfl,s12.cz,mm0,Qa,λ r H13 r0 r1 s13=>?_⟩
  have b13:=(s11.trans s12).trans s13
  have nlp2:l∉[((z.with l).with l2).p]:=nlp
  refine⟨_,rfl,(z.with l).with l2,[],rfl,(by show 0<=1000;decide),s13.cz,λ v14 H14 s14 f14=>?_⟩
  have b14:=b13.trans s14
  have a14:=a10.stp b14
  have hl14:H14 l=some (.lst cv):=b14.ext.lst nlp hl10
  refine⟨.list (cs.map Cd.d),.list [],⟨l,cv,rfl,Qb,hl14,aL.less Qb (hcs10.stl a14)⟩,aD.less Qb f14,?_,rfl,?_⟩
  ·refine Sh.shaped (n:=2) (Sh.lst λ d hd=>?_)
   obtain⟨c',hc',rfl⟩:=List.mem_map.mp hd
   obtain⟨_,k',hk',_⟩:=hco9 c' hc'
   have hkn:nm c'.kd=true:=by rw[<-(eA hk').2];exact(G.kn k' (eA hk').1).1
   refine Sh.tup λ d hd=>?_
   simp only[List.mem_cons,List.not_mem_nil,or_false]at hd
   rcases hd with rfl|rfl|rfl|rfl
   ·exact rW (hcn c' hc')
   ·exact rW hkn
   ·exact vY _
   ·exact vZ _
  have ene:(!PyData.eqv (.list (cs.map Cd.d)) (.list []))= !cs.isEmpty:=by cases cs<;>rfl
  rw[ene]
  refine .inr ⟨_,rfl,?_⟩
  have rb:0<=r*(if(!cs.isEmpty)=true then 1 else 0)/\r*(if(!cs.isEmpty)=true then 1 else 0)<=89/\(0<r*(if(!cs.isEmpty)=true then 1 else 0)->0<cs.length):=by
   cases cs with
   |nil=>simp
   |cons c' cs'=>simp;omega
  refine⟨r,_,rfl,rfl,?_,?_⟩
  ·refine .inl ⟨?_,?_⟩<;>(have:(2:Int)^64=18446744073709551616:=by decide)<;>omega
  obtain⟨rr0,rr1,rr2⟩:=rb
  have hba14:H14 ba=some (.lst (bs.map V.int)):=b14.ext.lst nbap hba10
  have hw14:H14 l2=some (.lst []):=b14.ext.lst nl2p hw10
  refine⟨_,rfl,Qa,Qa,?_⟩
  refine nV (n:=(r*(if(!cs.isEmpty)=true then 1 else 0)).toNat) (λ i σ H15=>∃(ws:List Wt) (wv:List V) (y7 y9 y10 y11:Option V),σ=[some (V.ref z.p),some v,some (V.int m),some (V.ref ba),some (V.ref l),x5,x6,y7,some (V.ref l2),y9,y10,y11]/\cR (z.with l) l2 H9 H15/\H15 l=some (.lst cv)/\H15 ba=some (.lst (bs.map V.int))/\H15 l2=some (.lst wv)/\
    aL ((z.with l).with l2).ex H15 (ws.map Wt.d) wv/\ws.length<=i/\∀w∈ws,(∃c∈cs,c.nm=w.cd)/\(∃c∈cs,c.nm=w.ot)/\0<=w.ln/\w.ln<=p.n)
   ⟨[],[],_,_,_,_,rfl,a14,hl14,hba14,hw14,rfl,Nat.le_refl _,Qb⟩ ?_ ?_
  ·rintro i σ H15 hi ⟨ws,wv,y7,y9,y10,y11,rfl,a15,hl15,hba15,hw15,hws15,hwl,hwg⟩
   have hc0:0<cs.length:=rr2 Qa
   have i89:i<89:=by omega
   refine dS λ R2 h2=>?_
   refine⟨_,rfl,_,rfl,_,rfl,l,cv,rfl,.inl (aQ.of hl15),(z.with l).with l2,_,rfl,a15.cz,Qa,Qa,λ t16 H16 t160 t161 s16=>?_⟩
   obtain⟨c1,hc1,hc1m⟩:=xP (xs:=cs) t160 Qa
   have hcs16:=(hcs10.stl a15).stp s16
   have hl16:H16 l=some (.lst cv):=s16.ext.lst nlp hl15
   obtain⟨u1,hu1,f1⟩:=hcs16.nth' hc1
   refine⟨l,cv,_,u1,rfl,rfl,aQ.of hl16,cZ t160 hu1,?_⟩
   refine h2 _ _ (dS λ R2 h2=>?_)
   refine⟨_,rfl,_,rfl,_,rfl,l,cv,rfl,.inl (aQ.of hl16),(z.with l).with l2,_,rfl,s16.cz,Qa,Qa,λ t17 H17 t170 t171 s17=>?_⟩
   obtain⟨c2,hc2,hc2m⟩:=xP (xs:=cs) t170 Qa
   have hl17:H17 l=some (.lst cv):=s17.ext.lst nlp hl16
   obtain⟨u2,hu2,f2⟩:=(hcs16.stp s17).nth' hc2
   refine⟨l,cv,_,u2,rfl,rfl,aQ.of hl17,cZ t170 hu2,(z.with l).with l2,_,_,_,.inl f2,rfl,Qc,rfl,λ v2 hv2=>?_⟩
   have b17:=s16.trans s17
   have f1':=f1.stp s17
   have hp17:aD ((z.with l).with l2).ex H17 p.d v:=(hp10.stl a15).stp b17
   refine h2 _ _ (dS λ R2 h2=>?_)
   refine⟨_,rfl,(z.with l).with l2,_,_,_,.inl f1',rfl,Qc,rfl,λ v1 hv1=>?_⟩
   refine⟨_,rfl,_,rfl,(z.with l).with l2,_,_,_,.inl hp17,rfl,Qc,rfl,λ v3 hv3=>?_⟩
   refine⟨(z.with l).with l2,v3,_,rfl,.inl hv3,_,_,rfl,rfl,(z.with l).with l2,_,rfl,s17.cz,Qa,?_,λ ln H18 ln0 mB s18=>?_⟩
   ·rw[List.length_map];have:=G.l6;omega
   rw[List.length_map]at mB
   refine⟨_,rfl,(z.with l).with l2,[.str c1.nm,.int ln,.str c2.nm],⟨_,_,rfl,hv1.stp s18,_,_,rfl,rfl,_,_,rfl,hv2.stp s18,rfl⟩,(by show 3<=1000;decide),s18.cz,λ vw H19 s19 fw=>?_⟩
   have fwt:aD ((z.with l).with l2).ex H19 (Wt.d ⟨c1.nm,ln,c2.nm⟩) vw:=fw
   obtain⟨wa,rfl,hwa⟩:=Wt.view fwt
   have b19:=b17.trans (s18.trans s19)
   have f119:=f1'.stp (s18.trans s19)
   obtain⟨oa,rfl,hoa⟩:=Cd.view f119
   obtain⟨_,kd,hkd,q0,q1⟩:=hco9 c1 hc1m
   have hp19:aD ((z.with l).with l2).ex H19 p.d v:=(hp10.stl a15).stp b19
   refine h2 _ _ ?_
   refine⟨_,rfl,_,rfl,p,v,oa,c1.nm,c1.kd,c1.pl,[.bl c1.bk],kd,rfl,aD.less Qb hp19,G.ok,hoa,hkd,(G.kn kd (eA hkd).1).2.1,q0,q1,λ H20 e20=>?_⟩
   have s20:aY ((z.with l).with l2) H19 H20:=aY.of s19.cz e20
   refine⟨_,rfl,(z.with l).with l2,_,_,_,.inl (fw.stp s20),rfl,Qc,rfl,λ v4 hv4=>?_⟩
   obtain rfl:v4= .int ln:=hv4
   refine⟨_,_,rfl,rfl,_,rfl,?_⟩
   refine bA (λ d1=>?g1) (λ d1=>?g2)
   case' g1=>
    have bX:aY ((z.with l).with l2) H15 H20:=b19.trans s20
    have fX:=fwt.stp s20
   case' g2=>
    refine⟨_,rfl,_,rfl,_,rfl,p,v,l,wa,cs,cv,c1.nm,c2.nm,ln,rfl,aD.less Qb (hp19.stp s20),G,(b19.trans s20).ext.lst nlp hl15,aL.less Qb ((hcs10.stl a15).stp (b19.trans s20)),Qa,hco9,e20.tup Qb hwa,⟨c2,hc2m,rfl⟩,λ bb H21 e21=>?_⟩
    have s21:aY ((z.with l).with l2) H20 H21:=aY.of s20.cz e21
    have bX:aY ((z.with l).with l2) H15 H21:=(b19.trans s20).trans s21
    have fX:=(fwt.stp s20).stp s21
    refine⟨_,rfl,?_⟩
    refine bA (λ d2=>?g3) (λ d2=>?g4)
   case g4=>exact⟨ws,wv,_,_,_,_,rfl,a15.stp bX,bX.ext.lst nlp hl15,bX.ext.lst nbap hba15,bX.ext.lst nl2p hw15,hws15.stp bX,Nat.le_succ_of_le hwl,hwg⟩
   all_goals
    refine⟨_,rfl,.inl ⟨rfl,wv,aQ.of (bX.ext.lst nl2p hw15)⟩,_,rfl,l2,wv,.ref wa,rfl,rfl,bX.ext.lst nl2p hw15,?_,?_⟩
    ·rw[hws15.length,List.length_map]
     exact cB Qa
    refine⟨ws++[⟨c1.nm,ln,c2.nm⟩],wv++[.ref wa],_,_,_,_,rfl,(a15.stp bX).put l2p,?_,?_,aP,?_,?_,?_⟩
    ·rw[aR l2l];exact bX.ext.lst nlp hl15
    ·rw[aR l2b];exact bX.ext.lst nbap hba15
    ·rw[List.map_append]
     exact sM List.mem_cons_self (aL.append (hws15.stp bX) ⟨_,_,rfl,fX,rfl⟩)
    ·rw[List.length_append]
     exact Nat.succ_le_succ hwl
    ·intro w' hw'
     rcases List.mem_append.mp hw' with h|h
     ·exact hwg w' h
     ·rw[List.mem_singleton.mp h]
      exact⟨⟨c1,hc1m,rfl⟩,⟨c2,hc2m,rfl⟩,ln0,by show ln<=(p.ls.length:Int);omega⟩
  ·rintro σ H15 ⟨ws,wv,y7,y9,y10,y11,rfl,a15,hl15,hba15,hw15,hws15,hwl,hwg⟩
   have nbex:ba∉(z.with l).ex:=λ h=>by
    rcases List.mem_cons.mp h with h|h
    ·exact bal h
    ·exact s2.cz.free hba0 h
   have cz1:Cz (z.with l) H15:=a15.cz.less a9.cz.mem
   have rl89:ws.length<=89:=by omega
   refine hR _ _ ?_
   refine⟨_,rfl,z.with l,_,bs.map .int,rfl,⟨ba,_,rfl,nbex,hba15,aL.ints _⟩,cz1,λ t1 H16 s16 f16=>?_⟩
   refine⟨_,rfl,l,cv,rfl,.inl ⟨aQ.of (s16.ext.lst nlp hl15),λ t2 ht2=>?_⟩⟩
   have s17:aY (z.with l) H16 (aA H16 t2 (.tup cv)):=aY.of s16.cz (aI.new ht2 _)
   have hcs15:aL (z.with l).ex H15 (cs.map Cd.d) cv:=aL.less (λ b hb=>List.mem_cons_of_mem _ hb) (hcs10.stl a15)
   have f17:aD (z.with l).ex (aA H16 t2 (.tup cv)) (.tuple (cs.map Cd.d)) (.ref t2):=⟨t2,cv,rfl,s16.cz.free ht2,aP,hcs15.stp (s16.trans s17)⟩
   generalize aA H16 t2 (.tup cv)=H17 at s17 f17⊢
   have b17:=s16.trans s17
   have hws17:aL (z.with l).ex H17 (ws.map Wt.d) wv:=(aL.less (λ b hb=>List.mem_cons_of_mem _ hb) hws15).stp b17
   refine⟨_,rfl,z.with l,ws,.ref l2,rfl,⟨l2,wv,rfl,nl2,b17.ext.lst nl2p hw15,hws17⟩,Qa,s17.cz,λ sp ps H18 s18 hsp hpl hps=>?_⟩
   refine⟨z.with l,ws,sp,ps,rfl,hsp,Qa,s18.cz,hps,λ ws' hl' hm' v19 H19 s19 f19=>?_⟩
   refine⟨_,rfl,z.with l,_,f19,s19.cz,λ v20 H20 s20 f20=>?_⟩
   obtain⟨k2,hk2,hk60⟩:∃k2,L2.jQ (ws'.map Wt.d) none (some 60)=(ws'.take k2).map Wt.d/\k2<=60:=⟨_,by unfold L2.jQ;rw[HT.sIx_none,List.drop_zero,<-List.map_take],by
    have:=HT.sIx_nat (ws'.map Wt.d).length (ws'.map Wt.d).length 60
    have e60:((60:Nat):Int)=60:=rfl
    rw[e60]at this
    rw[this]
    omega⟩
   rw[hk2]at f20
   refine⟨z.with l,v20,_,rfl,f20,s20.cz,λ v21 H21 s21 f21=>?_⟩
   have b21:=s18.trans (s19.trans (s20.trans s21))
   refine⟨z.with l,[.tuple (bs.map .int),.tuple (cs.map Cd.d),.tuple ((ws'.take k2).map Wt.d)],⟨_,_,rfl,(f16.stp s17).stp b21,_,_,rfl,f17.stp b21,_,_,rfl,f21,rfl⟩,(by show 3<=1000;decide),s21.cz,λ u H22 s22 f22=>?_⟩
   have b22:aY (z.with l) H9 H22:=(a15.back hl2 a9.cz.mem).trans (b17.trans (b21.trans s22))
   have c22:aY z H3 H22:=(a9.stp b22).back hl c.mem
   refine q ⟨bs,cs,ws'.take k2⟩ u H22 ?_ (sB3.trans c22) (aD.less (λ b hb=>List.mem_cons_of_mem _ hb) f22)
   refine⟨hbl,hbb,ic,hco9,hcn,hcd,hcs2,hbk9,?_,λ w' hw'=>hwg w' (hm' w' (List.mem_of_mem_take hw'))⟩
   show(ws'.take k2).length<=60
   have:=List.length_take_le k2 ws'
   omega
end
end K10
namespace L2
open PySem PySem.Spec PyProof.Rows
section
variable{X:Cx}
theorem Ph{elts:List Expr}{q tpos}{l m:Expr}{ta:TA}{p pos:Pos}(hg:Gl X "zip")(hm:X.mg "zip" =none)(ha:PA X [l,m] ta)(hs:starEach [l,m] X.env=(false,eval l X.env)::starEach [m] X.env:=by rfl)(hs2:(backTo pos (starEach [m] X.env)).any (·.1)=false:=by rfl):
  PI X (.Tuple elts q tpos) (.Call (.Name "zip" p) [l,m] [] pos) (λ σ H R=>Er X.K ta σ H R\/Es X.K ta σ H R):=by
 intro pins s σ H R I h
 rcases h with h|h
 ·exact Pf hg hm ha hs hs2 pins s σ H R I h
 ·exact Pg hg hm ha hs hs2 pins s σ H R I h
end
theorem Ef{S:Hp->Addr->List V->Prop}{a c:Addr}{xs ys:List V}{g:TG}{te:TE}{σc:St}{H:Hp}{Q:VK}(hlen:ys.length=xs.length)(Pv:Nat->List V->Hp->Prop)(h0:Pv 0 [] H)(hok:∀i vs H,Pv i vs H->S H a xs/\S H c ys)
  (step:∀i x y T vs H,xs[i]? =some x->ys[i]? =some y->i<xs.length->Pv i vs H->H T=none->g (.ref T) σc (aA H T (.tup [x,y])) λ σ2 H2=>te σ2 H2 λ v H4=>vs.length<sizeLine/\Nx xs.length i (Pv (i+1) (vs++[v]) H4))
  (fin:∀vs H,Pv xs.length vs H->∀p,H p=none->Q (.ref p) (aA H p (.lst vs))):oE (⟨λ k H=>∃xs ys x y,S H a xs/\S H c ys/\xs[k]? =some x/\ys[k]? =some y,λ k H v H'=>∃T x y,v= .ref T/\H T=none/\H'=aA H T (.tup [x,y])/\(∀xs,S H a xs->xs[k]? =some x)/\(∀ys,S H c ys->ys[k]? =some y),λ k H=>∃xs ys,S H a xs/\S H c ys/\(xs.length=k\/(k<xs.length/\ys.length=k))⟩) g gJ te σc Q H:=by
 refine⟨λ i m vs H=>m=xs.length-i/\i<=xs.length/\Pv i vs H,⟨xs.length,Qb,Nat.zero_le _,h0⟩,?_⟩
 rintro i m vs H ⟨rfl,hi,p⟩
 obtain⟨o1,o2⟩:=hok i vs H p
 by_cases hlt:i<xs.length
 ·have hlt':i<ys.length:=by omega
  refine .inr ⟨⟨xs,ys,xs[i],ys[i],o1,o2,by simp[hlt],by simp[hlt']⟩,λ v H' yy=>?_⟩
  obtain⟨T,x,y,rfl,hT,rfl,y1,y2⟩:=yy
  have e:(λ (σ2:St) (H2:Hp)=>gJ σ2 H2 λ b H3=>if b=true then te σ2 H3 λ v H4=>vs.length<sizeLine/\∃m',m'<xs.length-i/\(m'=xs.length-(i+1)/\i+1<=xs.length/\Pv (i+1) (vs++[v]) H4)else∃m',m'<xs.length-i/\(m'=xs.length-(i+1)/\i+1<=xs.length/\Pv (i+1) vs H3))=
    λ σ2 H2=>te σ2 H2 λ v H4=>vs.length<sizeLine/\Nx xs.length i (Pv (i+1) (vs++[v]) H4):=by
   funext σ2 H2
   unfold gJ
   dsimp only
   rw[if_pos rfl]
   rfl
  rw[e]
  exact step i x y T vs H (y1 xs o1) (y2 ys o2) hlt p hT
 ·have e:i=xs.length:=by omega
  subst e
  exact .inl ⟨⟨xs,ys,o1,o2,.inl rfl⟩,fin vs H p⟩
theorem Vf{K:Qf}{a c:Addr}{xs ys:List V}{g:TG}{te:TE}{σc:St}{H:Hp}{Q:VK}(hlen:ys.length=xs.length)(Pv:Nat->List V->Hp->Prop)(h0:Pv 0 [] H)(hok:∀i vs H,Pv i vs H->aQ K H a xs/\aQ K H c ys)
  (step:∀i x y T vs H,xs[i]? =some x->ys[i]? =some y->i<xs.length->Pv i vs H->H T=none->g (.ref T) σc (aA H T (.tup [x,y])) λ σ2 H2=>te σ2 H2 λ v H4=>vs.length<sizeLine/\Nx xs.length i (Pv (i+1) (vs++[v]) H4))
  (fin:∀vs H,Pv xs.length vs H->∀p,H p=none->Q (.ref p) (aA H p (.lst vs))):oE (zH K a c) g gJ te σc Q H:=Ef (S:=aQ K) hlen Pv h0 hok step fin
theorem Ve{K:Qf}{a c:Addr}{xs ys:List V}{g:TG}{te:TE}{σc:St}{H:Hp}{Q:VK}(hlen:ys.length=xs.length)(Pv:Nat->List V->Hp->Prop)(h0:Pv 0 [] H)(hok:∀i vs H,Pv i vs H->aJ K H a xs/\aJ K H c ys)
  (step:∀i x y T vs H,xs[i]? =some x->ys[i]? =some y->i<xs.length->Pv i vs H->H T=none->g (.ref T) σc (aA H T (.tup [x,y])) λ σ2 H2=>te σ2 H2 λ v H4=>vs.length<sizeLine/\Nx xs.length i (Pv (i+1) (vs++[v]) H4))
  (fin:∀vs H,Pv xs.length vs H->∀p,H p=none->Q (.ref p) (aA H p (.lst vs))):oE (zC K a c) g gJ te σc Q H:=Ef (S:=aJ K) hlen Pv h0 hok step fin
end L2
namespace K10
open PySem PySem.Spec L2 PyProof.Rows
def jN(d:PyData):Prop:=(∃x,d= .str x/\PySem.PyData.strOk x=true)\/(∃i,d= .int i)\/∃b,d= .bool b
def gN:Nat->PyData->Prop
 |0,d=>jN d
 |n+1,d=>jN d\/∃ds,(d= .tuple ds\/d= .list ds)/\ds.length<=100/\∀e∈ds,gN n e
def pC:Nat->Sp
 |0=>λ _ _ _ _=>False
 |n+1=>λ vs H Q _=>∃(d:PyData) (v u:V),vs=[v,u]/\aD [] H d v/\aD [] H d u/\gN n d/\∀H',aI [] H H'->Q (.bl true) H'
theorem Ta{n:Nat}{d:PyData}(h:gN n d):jN d\/∃m ds,n=m+1/\(d= .tuple ds\/d= .list ds)/\ds.length<=100/\∀e∈ds,gN m e:=by
 cases n with
 |zero=>exact .inl h
 |succ n=>
  rcases h with hf|⟨ds,hd,hl,hds⟩
  ·exact .inl hf
  ·exact .inr ⟨n,ds,rfl,hd,hl,hds⟩
theorem AI{d:PyData}(h:jN d):Sh 0 d:=by
 rcases h with⟨x,rfl,hx⟩|⟨i,rfl⟩|⟨b,rfl⟩
 ·exact⟨hx,Nat.le_refl _⟩
 ·exact vY i
 ·exact vZ b
section
variable{P:Program}{w:World}{K:Qf}{mg:Qk}{base:Heap}{ts:List Addr}
abbrev nE:Stmt:=top 40
theorem Na:bT ["_law_found","_law_due"] ["_law_found","_law_due"] (aT nE):=⟨rfl,rfl,rfl,Qd,rfl,Qd,Qd⟩
theorem Rg{f:Addr}{fd:FuncData}(n:Nat)(F:bO K "_law_same" "_law_same" nE f fd)(T:Txt K mg)(oP:aZ P w K mg base "_law_same" n ["_law_found","_law_due"] (pC n)):bD P w K mg base bM (n+1) f fd ["_law_found","_law_due"] (pC (n+1)):=by
 refine F.ok Na (λ vs H Q E h=>?_) (λ cdv A outer s H vs Q E hr h=>?_)
 ·obtain⟨d,v,u,rfl,_⟩:=h
  rfl
 obtain⟨d,v,u,rfl,hv,hu',ok,q⟩:=h
 have hu:=hr.units
 refine'⟨_,?hh,?rr⟩
 case hh=>(exists Qg,bS ?_ ?_ bR,PW.pt ?_,sK ?_ ?_,fS ?_,bL jR rfl T.b_isinstance fB ?_,aE (pv 1) ?_,aE (iQ (v:=.ty "tuple") rfl T.b_tuple gU rfl) aG,sJ ?_,fS ?_,bL jR rfl T.b_isinstance fB ?_,aE (pv 1) ?_,aE (iQ (v:=.ty "list") rfl T.b_list xY rfl) aG,Qg,bS ?_ ?_ bR,bN pS ?_ ?_ (bH _),bL jR rfl T.b_isinstance fB ?_,aE (pv 0) ?_,aE (iQ (v:=.ty "tuple") rfl T.b_tuple gU rfl) aG,bL jR rfl T.b_isinstance fB ?_,aE (pv 1) ?_,aE (iQ (v:=.ty "tuple") rfl T.b_tuple gU rfl) aG,aV ?_,bF jK,Qg,bS ?_ ?_ bR,PW.pt ?_,sK ?_ ?_,bN pS ?_ ?_ (bH _),bL jR rfl T.b_isinstance fB ?_,aE (pv 0) ?_,aE (iQ (v:=.ty "list") rfl T.b_list xY rfl) aG,bL jR rfl T.b_isinstance fB ?_,aE (pv 1) ?_,aE (iQ (v:=.ty "list") rfl T.b_list xY rfl) aG,sJ ?_,bN pS ?_ ?_ (bH _),bL cY rfl T.b_len PySem.boot_len ?_,aE (pv 0) aG,bL cY rfl T.b_len PySem.boot_len ?_,aE (pv 1) aG,aV ?_,bF jK,aV ?_,bF ?_,bL (BS rfl) rfl T.b_all BZ ?_,aE ?_ aG,kR rfl ?_ (eH ["_law_one","_law_other"] 2 []) ?_ ?_ ?_ ?_ ?_ ?_ ?_,(by exact⟨rfl,Qd,Qd,(show∀y:Str×NameKind,y∈_->y.2=NameKind.free->(aT nE).names.lookup y.1=some .cell\/(aT nE).names.lookup y.1=some .free from Qd)⟩),Qd,Qc,Ph rfl T.b_zip ?_,aE (pv 0) ?_,aE (pv 1) aG,4,Da (K:=K) (n:=2) rfl rfl ?_,cK ?_ ?_,bI ?_ (aO 0) (Or.inl rfl) (Or.inr rfl),(by exact(show(["_law_one","_law_other"]:List Str).Nodup from Qd)),cK ?_ kN,bI ?_ (aO 1) (Or.inl rfl) (Or.inr rfl),(by exact(show(["_law_one","_law_other"]:List Str).Nodup from Qd)),Eu (nS Qc (nS Qc Et)),4,kK,4,bB oP hr ?_ rfl ?_,aE (pv 0) ?_,aE (pv 1) aG,(by first|decide|exact Nat.le_refl _),aV ?_,bF ?_,xB ?_ ?_,iB cG ?_ ?_ (bH _),bL jR rfl T.b_isinstance fB ?_,aE (pv 0) ?_,aE (iQ (v:=.ty "bool") rfl T.b_bool Gf rfl) aG,bL jR rfl T.b_isinstance fB ?_,aE (pv 1) ?_,aE (iQ (v:=.ty "bool") rfl T.b_bool Gf rfl) aG,xA ?_,iB (pT hu) (pv 0) (pv 1) (bH _))
 rcases Ta ok with hf|⟨m,ds,rfl,rfl|rfl,hl,hds⟩
 ·skip
  have sh:=AI hf
  refine⟨_,rfl,_,_,_,_,rfl,hu'.ty,mG d,_,rfl,?_⟩
  have e1:nR "tuple" d=false:=by rcases hf with⟨x,rfl,hx⟩|⟨i,rfl⟩|⟨b,rfl⟩<;>rfl
  have e2:nR "list" d=false:=by rcases hf with⟨x,rfl,hx⟩|⟨i,rfl⟩|⟨b,rfl⟩<;>rfl
  rw[e1]
  refine fP ?_
  refine⟨_,rfl,_,_,_,_,rfl,hu'.ty,nO d,_,rfl,?_⟩
  rw[e2]
  refine fP ?_
  refine⟨_,rfl,_,_,_,_,rfl,hv.ty,Ej d,_,rfl,_,_,_,_,rfl,hu'.ty,Ej d,rfl,_,rfl,?_⟩
  rw[decide_eq_true rfl]
  refine mJ ?_
  refine⟨_,rfl,_,rfl,d,d,hv,hu',sh.shaped,sh.shaped,?_⟩
  rw[sh.refl]
  exact q H aI.refl
 ·skip
  obtain⟨a,xs,rfl,na,ha,hxs⟩:=id hv
  obtain⟨c,ys,rfl,nc,hc,hys⟩:=id hu'
  have lx:=hxs.length
  have ly:=hys.length
  refine⟨_,rfl,_,_,_,_,rfl,hu'.ty,mG _,_,rfl,?_⟩
  refine mJ (mJ ?_)
  refine⟨_,rfl,_,_,_,_,rfl,hv.ty,mG _,_,rfl,_,_,_,_,rfl,hu'.ty,mG _,rfl,_,rfl,?_⟩
  rw[decide_eq_true rfl]
  refine fP ?_
  refine⟨_,rfl,_,_,_,_,rfl,hv.ty,nO _,_,rfl,_,_,_,_,rfl,hu'.ty,nO _,rfl,_,rfl,?_⟩
  rw[decide_eq_true rfl]
  refine fP ?_
  refine⟨_,rfl,a,_,rfl,.inr (aJ.of ha),_,rfl,c,_,rfl,.inr (aJ.of hc),rfl,_,rfl,?_⟩
  rw[lx,ly,decide_eq_true rfl]
  refine fP ?_
  refine .inl ⟨_,rfl,_,rfl,a,c,rfl,⟨xs,aJ.of ha⟩,⟨ys,aJ.of hc⟩,Ve (xs:=xs) (ys:=ys) Qa (λ i vs H2=>aI [] H H2/\vs=(List.replicate i true).map V.bl) ⟨aI.refl,rfl⟩ (λ _ _ _ h=>⟨aJ.of (h.1.tup Qb ha),aJ.of (h.1.tup Qb hc)⟩) ?_ ?_⟩
  ·rintro i x1 y1 T1 vs H2 hx1 hy1 hi ⟨e,rfl⟩ hT
   have hi':i<ds.length:=by omega
   have hdi:=List.getElem?_eq_getElem hi'
   obtain⟨x1',hx1',dx⟩:=hxs.get hdi
   rw[hx1]at hx1'
   cases hx1'
   obtain⟨y1',hy1',dy⟩:=hys.get hdi
   rw[hy1]at hy1'
   cases hy1'
   have x3:aI [] H2 (aA H2 T1 (.tup [x1,y1])):=aI.new hT _
   have hT3:aA H2 T1 (.tup [x1,y1]) T1=some (.tup [x1,y1]):=aP
   generalize aA H2 T1 (.tup [x1,y1])=H3 at x3 hT3⊢
   have e3:=e.trans x3
   refine⟨T1,_,rfl,aJ.of hT3,rfl,_,_,rfl,_,_,rfl,rfl,?_⟩
   refine⟨_,rfl,_,rfl,ds[i],x1,y1,rfl,aD.ext e3 dx,aD.ext e3 dy,hds _ (List.getElem_mem hi'),λ H4 e4=>⟨?_,nx hi ⟨e3.trans e4,?_⟩⟩⟩
   ·rw[List.length_map,List.length_replicate]
    exact cB Qa
   ·rw[List.replicate_succ',List.map_append]
    rfl
  ·rintro vs H2 ⟨e,rfl⟩ p hp
   refine⟨p,_,rfl,aQ.of aP,?_⟩
   have:(List.replicate xs.length true).all id=true:=by simp
   rw[this]
   exact q _ (e.trans (aI.new hp _))
 ·skip
  obtain⟨a,xs,rfl,na,ha,hxs⟩:=id hv
  obtain⟨c,ys,rfl,nc,hc,hys⟩:=id hu'
  have lx:=hxs.length
  have ly:=hys.length
  refine⟨_,rfl,_,_,_,_,rfl,hu'.ty,mG _,_,rfl,?_⟩
  refine fP ?_
  refine⟨_,rfl,_,_,_,_,rfl,hu'.ty,nO _,_,rfl,?_⟩
  refine mJ ?_
  refine⟨_,rfl,_,_,_,_,rfl,hv.ty,mG _,_,rfl,_,_,_,_,rfl,hu'.ty,mG _,rfl,_,rfl,?_⟩
  rw[decide_eq_true rfl]
  refine fP ?_
  refine⟨_,rfl,_,_,_,_,rfl,hv.ty,nO _,_,rfl,_,_,_,_,rfl,hu'.ty,nO _,rfl,_,rfl,?_⟩
  rw[decide_eq_true rfl]
  refine fP ?_
  refine⟨_,rfl,a,_,rfl,.inl (aQ.of ha),_,rfl,c,_,rfl,.inl (aQ.of hc),rfl,_,rfl,?_⟩
  rw[lx,ly,decide_eq_true rfl]
  refine fP ?_
  refine .inr ⟨_,rfl,_,rfl,a,c,rfl,⟨xs,aQ.of ha⟩,⟨ys,aQ.of hc⟩,Vf (xs:=xs) (ys:=ys) Qa (λ i vs H2=>aI [] H H2/\vs=(List.replicate i true).map V.bl) ⟨aI.refl,rfl⟩ (λ _ _ _ h=>⟨aQ.of (h.1.lst Qb ha),aQ.of (h.1.lst Qb hc)⟩) ?_ ?_⟩
  ·rintro i x1 y1 T1 vs H2 hx1 hy1 hi ⟨e,rfl⟩ hT
   have hi':i<ds.length:=by omega
   have hdi:=List.getElem?_eq_getElem hi'
   obtain⟨x1',hx1',dx⟩:=hxs.get hdi
   rw[hx1]at hx1'
   cases hx1'
   obtain⟨y1',hy1',dy⟩:=hys.get hdi
   rw[hy1]at hy1'
   cases hy1'
   have x3:aI [] H2 (aA H2 T1 (.tup [x1,y1])):=aI.new hT _
   have hT3:aA H2 T1 (.tup [x1,y1]) T1=some (.tup [x1,y1]):=aP
   generalize aA H2 T1 (.tup [x1,y1])=H3 at x3 hT3⊢
   have e3:=e.trans x3
   refine⟨T1,_,rfl,aJ.of hT3,rfl,_,_,rfl,_,_,rfl,rfl,?_⟩
   refine⟨_,rfl,_,rfl,ds[i],x1,y1,rfl,aD.ext e3 dx,aD.ext e3 dy,hds _ (List.getElem_mem hi'),λ H4 e4=>⟨?_,nx hi ⟨e3.trans e4,?_⟩⟩⟩
   ·rw[List.length_map,List.length_replicate]
    exact cB Qa
   ·rw[List.replicate_succ',List.map_append]
    rfl
  ·rintro vs H2 ⟨e,rfl⟩ p hp
   refine⟨p,_,rfl,aQ.of aP,?_⟩
   have:(List.replicate xs.length true).all id=true:=by simp
   rw[this]
   exact q _ (e.trans (aI.new hp _))
theorem Ga{f:Addr}{fd:FuncData}(F:bO K "_law_same" "_law_same" nE f fd)(T:Txt K mg)(hm:mg "_law_same" =some (.ref f))(hk:PySem.W.keepIn K (.ref f)=true)(hb:jB K fd ["_law_found","_law_due"] []):∀n,aZ P w K mg base "_law_same" n ["_law_found","_law_due"] (pC n)
 |0=>⟨f,fd,⟨λ _ _ _ _ h=>h.elim,λ _ _ _ _ _ _ _ _ _ _ _ _ _ h=>h.elim⟩,hm,hk,hb⟩
 |n+1=>⟨f,fd,Rg n F T (Ga F T hm hk hb n),hm,hk,hb⟩
end
end K10
namespace K10
open PySem PySem.Spec L2 PyProof.Rows PySem.W
def jF(p:Pl)(s:Sd)(l:Int)(k:Kd):Str:=
 if 0<=l/\l<p.n then(if s.bs.getD l.toNat 0<=((s.inL p l).length:Int)then "Full" else if p.kb k.nm l<=(s.many p l k.nm:Int)then "KindFull" else "")else ""
def vN:Sp:=λ vs H Q _=>∃(p:Pl) (s:Sd) (v kv:V) (ba ca:Addr) (cv:List V) (k:Kd) (l:Int),vs=[v,.ref ba,.ref ca,kv,.int l]/\aD [] H p.d v/\dP p/\eI p s/\H ba=some (.tup (s.bs.map V.int))/\
 H ca=some (.tup cv)/\aL [] H (s.cs.map Cd.d) cv/\aD [] H k.d kv/\k∈p.ks/\(0<=l->l<p.n->l∈k.way)/\∀H',aI [] H H'->Q (.str (jF p s l k)) H'
section
variable{P:Program}{w:World}{K:Qf}{mg:Qk}{base:Heap}
theorem Ro{f:Addr}{fd:FuncData}(F:bO K "_law_room" "_law_room" kF f fd)(T:Txt K mg)(cW:aZ P w K mg base "_law_lane" 2 ["_law_plan_here","_law_one"] iL):bD P w K mg base bM 3 f fd ["_law_plan_here","_law_bounds","_law_cards","_law_kind_here","_law_lane_here"] vN:=by
 refine F.ok sc__law_room (λ vs H Q E h=>?_) (λ cdv A outer s H vs Q E hr h=>?_)
 ·obtain⟨p,sd,v,kv,ba,ca,cv,k,l,rfl,_⟩:=h
  rfl
 obtain⟨p,sd,v,kv,ba,ca,cv,k,l,rfl,hp,G,SG,hba,hca,hcs,hkv,hkp,hlw,q⟩:=h
 have Po:=G.ok
 have ic:=SG.nc
 have ec:cv.length=sd.cs.length:=by rw[hcs.length,List.length_map]
 have hkf:p.kd? k.nm=some k:=by unfold Pl.kd?;exact xS G.knd hkp
 refine'⟨_,?hh,?rr⟩
 case hh=>exists Qg,iP sc__law_room.nd (aO 5) (Or.inl rfl) rfl ?_ (eH ["_law_one","_law_plan_here","_law_lane_here"] 1 [0,4]) ?_ ?_ ?_ ?_ ?_ ?_ ?_,(by exact⟨rfl,Qd,Qd,(show∀y:Str×NameKind,y∈_->y.2=NameKind.free->(aT kF).names.lookup y.1=some .cell\/(aT kF).names.lookup y.1=some .free from Qd)⟩),Qd,Qc,fL (pv 2),4,bI ?_ (aO 0) (Or.inl rfl) (Or.inr rfl),(by exact(show(["_law_one","_law_plan_here","_law_lane_here"]:List Str).Nodup from Qd)),eZ Qc,4,hZ ?_,bN cG ?_ (pv 2) (bH _),bB cW hr ?_ rfl ?_,aE (pv 1) ?_,aE (pv 0) aG,Qc,4,aN ?_ (pv 0) aK (λ _ _=>rfl),(by exact(show cQ _ (fK K)from aX)),Qg,bS ?_ ?_ bR,jH ?_,wZ nJ lW aK (pv 4) ?_,bL cY rfl T.b_len PySem.boot_len ?_,aE ?_ aG,aN aX (pv 0) aK (λ _ _=>rfl),aV ?_,bF bJ,Qg,bS ?_ ?_ bR,bN lX ?_ ?_ (bH _),bL cY rfl T.b_len PySem.boot_len ?_,aE (pv 5) aG,aN aX (pv 1) (pv 4) (λ _ _=>rfl),aV ?_,bF bJ,Qg,bS ?_ ?_ bR,bN lX ?_ ?_ (bH _),jJ PySem.F.plainAttrs_list PySem.F.slot_list_count PySem.F.type_list_count xG (pv 5) ?_,aE ?_ aG,aN aX (pv 3) aK (λ _ _=>rfl),aN aX ?_ ?_ (λ _ _=>rfl),aN aX (pv 3) aK (λ _ _=>rfl),sN PySem.F.plainAttrs_tuple PySem.F.slot_tuple_index PySem.F.type_tuple_index sY ?_ ?_,aN aX (pv 3) aK (λ _ _=>rfl),aE (pv 4) aG,aV ?_,bF bJ,aV ?_,bF bJ
 refine⟨_,rfl,ca,rfl,⟨cv,aJ.of hca⟩,gP (hJ (ys:=cv)) (λ i xs H2=>aI [] H H2/\xs=(((sd.cs.take i).filter λ c=>p.lane c==l).map (·.kd)).map V.str) ⟨aI.refl,rfl⟩ (λ _ _ _ h=>aJ.of (h.1.tup Qb hca)) ?_ ?_⟩
 ·rintro i y xs H2 hy hi ⟨e,rfl⟩
  obtain⟨c,hc,hdy⟩:=hcs.nth hy
  obtain⟨b,rfl,hb⟩:=Cd.view (aD.ext e hdy)
  obtain⟨_,kd,hkd,p0,p1⟩:=SG.c c (List.mem_of_getElem? hc)
  have tk:sd.cs.take (i+1)=sd.cs.take i++[c]:=by rw[List.take_add_one,hc];rfl
  refine⟨_,rfl,_,rfl,p,v,b,c.nm,c.kd,c.pl,[.bl c.bk],kd,rfl,aD.ext e hp,Po,hb,hkd,(G.kn kd (eA hkd).1).2.1,p0,p1,λ H3 e3=>?_⟩
  refine⟨_,rfl,rfl,_,rfl,?_⟩
  have e13:=e.trans e3
  have et:decide (V.int (p.at c.kd c.pl)=V.int l)=(p.lane c==l):=by
   unfold Pl.lane
   by_cases h:p.at c.kd c.pl=l<;>simp[h]
  refine bA (λ cc=>?_) (λ cc=>?_)
  ·rw[et]at cc
   refine⟨_,rfl,b,_,_,.str c.kd,rfl,rfl,aJ.of (e3.tup Qb hb),rfl,?_,nx hi ⟨e13,?_⟩⟩
   ·rw[List.length_map,List.length_map]
    refine cB (Nat.le_trans (List.length_filter_le _ _) ?_)
    rw[List.length_take]
    omega
   ·rw[tk,List.filter_append,List.map_append,List.map_append]
    simp[List.filter_cons,cc]
  ·rw[et]at cc
   refine nx hi ⟨e13,?_⟩
   rw[tk,List.filter_append,List.map_append,List.map_append]
   simp[List.filter_cons,cc]
 ·rintro xs H2 ⟨e,rfl⟩ t ht
  rw[ec,List.take_length]
  have e2:aI [] H2 (aA H2 t (.lst (((sd.cs.filter λ c=>p.lane c==l).map (·.kd)).map V.str))):=aI.new ht _
  have h2:(aA H2 t (.lst (((sd.cs.filter λ c=>p.lane c==l).map (·.kd)).map V.str))) t=some (.lst (((sd.cs.filter λ c=>p.lane c==l).map (·.kd)).map V.str)):=aP
  generalize aA H2 t (.lst (((sd.cs.filter λ c=>p.lane c==l).map (·.kd)).map V.str))=H3 at e2 h2⊢
  have e3:=e.trans e2
  have fin:=q H3 e3
  obtain⟨a,la,ka,lv,kv',rfl,ha,hla,hls,hka,hks,el,ek⟩:=Pl.view hp
  refine⟨_,rfl,_,_,rfl,rfl,_,rfl,?_⟩
  refine bA (λ c0=>?_) (λ c0=>?_)
  ·have hl0:0<=l:=of_decide_eq_true c0
   refine⟨_,rfl,a,_,_,.ref la,rfl,rfl,aJ.of (e3.tup Qb ha),rfl,la,lv,rfl,.inr (aJ.of (e3.tup Qb hla)),_,_,rfl,rfl,_,rfl,?_⟩
   refine bA (λ c1=>?_) (λ c1=>?_)
   ·have:¬(0<=l/\l<p.n):=λ z=>by
     simp at c1
     have:=z.2
     unfold Pl.n at this
     omega
    unfold jF at fin
    rw[if_neg this]at fin
    exact fin
   ·have hl:l<p.n:=by
     have:=c1
     simp at this
     rw[el]at this
     exact this
    unfold jF at fin
    rw[if_pos ⟨hl0,hl⟩]at fin
    have hbl:l.toNat<sd.bs.length:=by
     have:(l.toNat:Int)<p.ls.length:=by rw[Int.toNat_of_nonneg hl0];exact hl
     rw[SG.nb]
     omega
    have eb:sd.bs.getD l.toNat 0=sd.bs[l.toNat]:=by rw[List.getD_eq_getElem?_getD,List.getElem?_eq_getElem hbl];rfl
    have elen:(((sd.cs.filter λ c=>p.lane c==l).map (·.kd)).map V.str).length=(sd.inL p l).length:=by unfold Sd.inL;rw[List.length_map,List.length_map,List.length_map]
    obtain⟨ka2,wa,bda,rfl,hka2,hwa,hbda⟩:=Kd.view hkv
    refine⟨_,rfl,t,_,rfl,.inl (aQ.of h2),_,rfl,_,rfl,ba,_,_,.int sd.bs[l.toNat],rfl,rfl,aJ.of (e3.tup Qb hba),cZ hl0 (by simp[hbl]),_,_,rfl,rfl,_,rfl,?_⟩
    rw[elen]
    rw[eb]at fin
    refine bA (λ c2=>?_) (λ c2=>?_)
    ·rw[if_pos (of_decide_eq_true c2)]at fin
     exact fin
    rw[if_neg (λ z=>c2 (decide_eq_true z))]at fin
    have hm:=hlw hl0 hl
    have hjl:k.way.findIdx (· ==l)<k.way.length:=List.findIdx_lt_length_of_exists ⟨l,hm,Qb⟩
    have hje:k.way[k.way.findIdx (· ==l)]=l:=by
     have:=List.findIdx_getElem (xs:=k.way) (p:=(· ==l)) (w:=hjl)
     simpa using this
    have kw:=Po.kw k hkp
    have hjb:k.way.findIdx (· ==l)<k.bds.length:=by omega
    have ekb:p.kb k.nm l=k.bds[k.way.findIdx (· ==l)]:=by
     unfold Pl.kb
     rw[hkf]
     show k.bds.getD (k.way.findIdx (· ==l)) 0=_
     rw[List.getD_eq_getElem?_getD,List.getElem?_eq_getElem hjb]
     rfl
    have emany:(((sd.cs.filter λ c=>p.lane c==l).map (·.kd)).map V.str).countP (λ x=>dB x (.str k.nm))=sd.many p l k.nm:=by
     rw[List.countP_map,List.countP_map,List.countP_eq_length_filter,List.filter_filter]
     unfold Sd.many
     congr 1
     apply List.filter_congr
     intro c _
     show((c.kd==k.nm)&&(p.lane c==l))=((c.kd==k.nm)&&(p.at k.nm c.pl==l))
     unfold Pl.lane
     cases h:c.kd==k.nm with
     |false=>rfl
     |true=>rw[show c.kd=k.nm from eq_of_beq h]
    refine⟨_,rfl,.inl ⟨rfl,_,aQ.of h2⟩,_,rfl,ka2,_,_,.str k.nm,rfl,rfl,aJ.of (e3.tup Qb hka2),rfl,t,_,.str k.nm,rfl,rfl,aQ.of h2,rfl,by simp[fA],?_⟩
    rw[emany]
    refine⟨_,rfl,ka2,_,_,.ref bda,rfl,rfl,aJ.of (e3.tup Qb hka2),rfl,_,rfl,ka2,_,_,.ref wa,rfl,rfl,aJ.of (e3.tup Qb hka2),rfl,⟨wa,_,rfl,e3.tup Qb hwa⟩,_,rfl,wa,_,.int l,k.way.findIdx (· ==l),rfl,rfl,aJ.of (e3.tup Qb hwa),rfl,by simp[fA],⟨⟨.int l,by simp[hjl,hje],by simp[dB]⟩,λ m x hm2 hx=>?_⟩,?_⟩
    ·rw[List.getElem?_map]at hx
     obtain⟨w',hw',rfl⟩:=Option.map_eq_some_iff.mp hx
     obtain⟨hlt,he⟩:=List.getElem?_eq_some_iff.mp hw'
     have:=List.not_of_lt_findIdx hm2
     rw[he]at this
     simpa[dB]using this
    refine⟨bda,_,_,.int k.bds[k.way.findIdx (· ==l)],rfl,rfl,aJ.of (e3.tup Qb hbda),cZ Qa (by simp[hjb]),_,_,rfl,rfl,_,rfl,?_⟩
    rw[ekb]at fin
    refine bA (λ c3=>?_) (λ c3=>?_)
    ·rw[if_pos (of_decide_eq_true c3)]at fin
     exact fin
    ·rw[if_neg (λ z=>c3 (decide_eq_true z))]at fin
     exact fin
  ·have:¬(0<=l/\l<p.n):=λ z=>c0 (decide_eq_true z.1)
   unfold jF at fin
   rw[if_neg this]at fin
   exact⟨_,rfl,fin⟩
end
theorem Vi{p:Pl}(G:dP p){x:Str}{k:Kd}{j:Int}(hk:p.kd? x=some k)(h0:0<=j):p.at x j<=p.n:=by
 have l1:=G.l1
 rcases(show j=0\/(1<=j/\j<=k.way.length)\/(k.way.length:Int)<j from Qa)with rfl|⟨q1,q2⟩|q1
 ·rw[qM]
  unfold Pl.n
  omega
 ·obtain⟨wv,hw,ew⟩:=qN hk q1 q2
  rw[ew]
  have:=((G.kn k (eA hk).1).2.2.2.2.1 wv (List.mem_of_getElem? hw)).2
  omega
 ·rw[nZ hk q1]
  exact Int.le_refl _
def vP:Sp:=λ vs H Q _=>∃(p:Pl) (s:Sd) (v:V) (ca wa:Addr) (cv:List V) (x y:Str) (n:Int) (c:Cd),vs=[v,.ref ca,.ref wa]/\aD [] H p.d v/\dP p/\eI p s/\
 H ca=some (.tup cv)/\aL [] H (s.cs.map Cd.d) cv/\H wa=some (.tup [.str x,.int n,.str y])/\s.cd? y=some c/\∀H',aI [] H H'->Q (.bl (!s.out p y)) H'
section
variable{P:Program}{w:World}{K:Qf}{mg:Qk}{base:Heap}
theorem Ru{f:Addr}{fd:FuncData}(F:bO K "_law_bars" "_law_bars" kG f fd)(T:Txt K mg)(cW:aZ P w K mg base "_law_lane" 2 ["_law_plan_here","_law_one"] iL):bD P w K mg base bM 3 f fd ["_law_plan_here","_law_cards","_law_wait"] vP:=by
 refine F.ok sc__law_bars (λ vs H Q E h=>?_) (λ cdv A outer s H vs Q E hr h=>?_)
 ·obtain⟨p,sd,v,ca,wa,cv,x,y,n,c,rfl,_⟩:=h
  rfl
 obtain⟨p,sd,v,ca,wa,cv,x,y,n,c,rfl,hp,G,SG,hca,hcs,hwa,hcy,q⟩:=h
 have ncs:=SG.nc
 have hco:=SG.c
 obtain⟨cs,ecs⟩:∃cs,cs=sd.cs:=⟨_,rfl⟩
 rw[<-ecs]at ncs hco hcs
 have Po:=G.ok
 refine'⟨_,?hh,?rr⟩
 case hh=>exists Qg,iP sc__law_bars.nd (aO 3) (Or.inl rfl) rfl ?_ (eH ["_law_one","_law_wait"] 1 [2]) ?_ ?_ ?_ ?_ ?_ ?_ ?_,(by exact⟨rfl,Qd,Qd,(show∀y:Str×NameKind,y∈_->y.2=NameKind.free->(aT kG).names.lookup y.1=some .cell\/(aT kG).names.lookup y.1=some .free from Qd)⟩),Qd,Qc,fL (pv 1),4,bI ?_ (aO 0) (Or.inl rfl) (Or.inr rfl),(by exact(show(["_law_one","_law_wait"]:List Str).Nodup from Qd)),eZ Qc,4,hZ ?_,bN cG ?_ ?_ (bH _),aN ?_ (pv 0) aK (λ _ _=>rfl),(by exact(show cQ _ (fK K)from aX)),aN ?_ (pv 1) aK (λ _ _=>rfl),(by exact(show cQ _ (fK K)from aX)),4,(pv 0),aV ?_,bF ?_,iB lW ?_ ?_ (bH _),bB cW hr ?_ rfl ?_,aE (pv 0) ?_,aE ?_ aG,aN ix_list (pv 3) aK (λ _ _=>rfl),Qc,bL cY rfl T.b_len PySem.boot_len ?_,aE ?_ aG,aN aX (pv 0) aK (λ _ _=>rfl)
 have hcl:cv.length=cs.length:=by rw[hcs.length,List.length_map]
 refine⟨_,rfl,ca,rfl,⟨cv,aJ.of hca⟩,gP (hJ (ys:=cv)) (λ i xs H2=>aI [] H H2/\aL [] H2 (((cs.take i).filter λ c=>c.nm==y).map Cd.d) xs) ⟨aI.refl,rfl⟩ (λ _ _ _ h=>aJ.of (h.1.tup Qb hca)) ?_ ?_⟩
 ·rintro i u xs H2 hy hi ⟨e,hxs⟩
  obtain⟨c,hc,hdy⟩:=hcs.nth hy
  have hdy2:=aD.ext e hdy
  obtain⟨b,rfl,hb⟩:=Cd.view hdy2
  have tk:cs.take (i+1)=cs.take i++[c]:=by rw[List.take_add_one,hc];rfl
  refine⟨_,rfl,b,_,_,.str c.nm,rfl,rfl,aJ.of hb,rfl,_,rfl,wa,_,_,.str y,rfl,rfl,aJ.of (e.tup Qb hwa),rfl,rfl,_,rfl,?_⟩
  have small:xs.length<1000:=by
   rw[hxs.length,List.length_map]
   have:=List.length_filter_le (λ c:Cd=>c.nm==y) (cs.take i)
   rw[List.length_take]at this
   omega
  refine bA (λ cc=>?_) (λ cc=>?_)
  ·have ck:c.nm=y:=by simpa using cc
   refine⟨_,rfl,cB Qa,nx hi ⟨e,?_⟩⟩
   rw[tk,List.filter_append,List.map_append]
   refine aL.append hxs ?_
   have:([c].filter λ c=>c.nm==y)=[c]:=by simp[ck]
   rw[this]
   exact⟨_,_,rfl,hdy2,rfl⟩
  ·have ck:¬c.nm=y:=by simpa using cc
   refine nx hi ⟨e,?_⟩
   rw[tk,List.filter_append,List.map_append]
   have:([c].filter λ c=>c.nm==y)=[]:=by simp[ck]
   rw[this,List.map_nil,List.append_nil]
   exact hxs
 ·rintro xs H2 ⟨e,hxs⟩ t ht
  rw[hcl,List.take_length]at hxs
  have hc:(cs.filter λ c=>c.nm==y)[0]? =some c:=by
   rw[nW,ecs]
   exact hcy
  have hcm:c∈cs:=(List.mem_filter.mp (List.mem_of_getElem? hc)).1
  have hg:((cs.filter λ c=>c.nm==y).map Cd.d)[0]? =some c.d:=by rw[List.getElem?_map,hc];rfl
  obtain⟨u,hu,hd⟩:=hxs.get hg
  have e2:aI [] H2 (aA H2 t (.lst xs)):=aI.new ht _
  have h2:(aA H2 t (.lst xs)) t=some (.lst xs):=aP
  generalize aA H2 t (.lst xs)=H3 at e2 h2⊢
  have e3:=e.trans e2
  have hd3:=aD.ext e2 hd
  obtain⟨b,rfl,hb⟩:=Cd.view hd3
  obtain⟨a,la,ka,lv,kv',rfl,ha,hla,hls,hka,hks,el,ek⟩:=Pl.view hp
  obtain⟨_,kd,hkd,p0,p1⟩:=hco c hcm
  refine⟨_,rfl,_,rfl,t,xs,_,.ref b,rfl,rfl,aQ.of h2,cZ Qc hu,p,_,b,c.nm,c.kd,c.pl,[.bl c.bk],kd,rfl,aD.ext e3 hp,Po,hb,hkd,(G.kn kd (eA hkd).1).2.1,p0,p1,λ H4 e4=>?_⟩
  have e5:=e3.trans e4
  refine⟨_,rfl,a,_,_,.ref la,rfl,rfl,aJ.of (e5.tup Qb ha),rfl,la,lv,rfl,.inr (aJ.of (e5.tup Qb hla)),_,_,rfl,rfl,?_⟩
  have hout:sd.out p y=decide (p.lane c=p.n):=by unfold Sd.out;rw[hcy]
  have hle:p.at c.kd c.pl<=p.n:=Vi G hkd p0
  have:decide (p.at c.kd c.pl<(lv.length:Nat))= !sd.out p y:=by
   rw[hout,el]
   show decide (p.at c.kd c.pl<p.n)= !decide (p.at c.kd c.pl=p.n)
   by_cases z:p.at c.kd c.pl=p.n
   ·rw[z];simp
   ·rw[decide_eq_true Qa,decide_eq_false z];rfl
  show Q (.bl (decide (p.at c.kd c.pl<(lv.length:Nat)))) _
  rw[this]
  exact q _ e5
end
def mK(j:Nat):List Str:=match j with
 |3=>["card","other"]
 |4=>["lane","bound"]
 |5=>["lane","kind","bound"]
 |_=>["card"]
def hU(j:Nat):Str:=match j with
 |0=>"NoCard"
 |1=>"Out"
 |2=>"Blocked"
 |3=>"Waits"
 |4=>"Full"
 |5=>"KindFull"
 |_=>"InYard"
structure yI(K:Qf)(Cs:List Addr):Prop where
 len:Cs.length=7
 kind:∀C∈Cs,nP K C=true
 kit:∀(i j:Nat) (C D:Addr),Cs[i]? =some C->Cs[j]? =some D->kitOne K (.ref C) (.ref D)=some (i==j)
 val:∀C∈Cs,kitOne K (.ref C) (.type "ValueError")=some true
 att:∀(i:Nat) (C:Addr) (f:Str),Cs[i]? =some C->f∈mK i->cL K C f=true
structure Gw(K:Qf)(mg:Qk)(Cs:List Addr):Prop where
 b_isinstance:mg "isinstance" =none
 b_ValueError:mg "ValueError" =none
 c_NoCard:∀h:0<Cs.length,∃u,mg "NoCard" =some u/\bE (.ref Cs[0]) u
 c_Out:∀h:1<Cs.length,∃u,mg "Out" =some u/\bE (.ref Cs[1]) u
 c_Blocked:∀h:2<Cs.length,∃u,mg "Blocked" =some u/\bE (.ref Cs[2]) u
 c_Waits:∀h:3<Cs.length,∃u,mg "Waits" =some u/\bE (.ref Cs[3]) u
 c_Full:∀h:4<Cs.length,∃u,mg "Full" =some u/\bE (.ref Cs[4]) u
 c_KindFull:∀h:5<Cs.length,∃u,mg "KindFull" =some u/\bE (.ref Cs[5]) u
 c_InYard:∀h:6<Cs.length,∃u,mg "InYard" =some u/\bE (.ref Cs[6]) u
def ib(j i:Nat):V:=.bl (j==i)
def kX(j:Nat):List V:=[ib j 0,ib j 1,ib j 2,ib j 3,ib j 4,ib j 5,ib j 6]
def Aj:List V:=[.str "NoCard",.str "Out",.str "Blocked",.str "Waits",.str "Full",.str "KindFull",.str "InYard"]
theorem Ig:∀j:Nat,j<7->iF Aj (j:Int)=some (.str (hU j)):=λ j hj=>by
 have h:j=0\/j=1\/j=2\/j=3\/j=4\/j=5\/j=6:=by omega
 rcases h with rfl|rfl|rfl|rfl|rfl|rfl|rfl<;>rfl
theorem Ep(j:Nat):(kX j).all fA=true:=rfl
theorem Xp:∀j,j<7->(kX j).countP (λ x=>dB x (.bl true))=1:=by decide+kernel
theorem Xo:∀j,j<7->Fe (.bl true) (kX j) j:=λ j hj=>by
 have hx:(kX j)[j]? =some (.bl true):=by
  have h:j=0\/j=1\/j=2\/j=3\/j=4\/j=5\/j=6:=by omega
  rcases h with rfl|rfl|rfl|rfl|rfl|rfl|rfl<;>rfl
 refine⟨⟨_,hx,rfl⟩,λ m x hm hmx=>?_⟩
 have hm0:(kX j)[m]? =some (.bl (j==m)):=by
  have h:m=0\/m=1\/m=2\/m=3\/m=4\/m=5\/m=6:=by omega
  rcases h with rfl|rfl|rfl|rfl|rfl|rfl|rfl<;>rfl
 rw[hm0]at hmx
 obtain rfl:=Option.some.inj hmx
 have hne:(j==m)=false:=by
  rw[beq_eq_false_iff_ne]
  omega
 rw[hne]
 rfl
def vI(Cs:List Addr):Sp:=λ vs H Q _=>∃(e:Addr) (j:Nat) (C d:Addr) (ds:List PyData) (us:List V),vs=[.ref e]/\j<7/\Cs[j]? =some C/\H e=some (bZ e C (some d))/\H d=some (.xd ((mK j).zip us))/\us.length=(mK j).length/\aL [] H ds us/\∀u H',aI [] H H'->aD [] H' (.tuple (.str (hU j)::ds)) u->Q u H'
section
variable{P:Program}{w:World}{K:Qf}{mg:Qk}{base:Heap}{Cs:List Addr}
abbrev wS:Stmt:=top 41
theorem sc__law_refusal:bT ["_law_e","_law_some","_law_word"] ["_law_e"] (aT wS):=⟨rfl,rfl,rfl,Qd,rfl,Qd,Qd⟩
theorem Rh{f:Addr}{fd:FuncData}(F:bO K "_law_refusal" "_law_refusal" wS f fd)(T:Gw K mg Cs)(Xc:yI K Cs):qT P w K mg base bM 2 f fd ["_law_e"] (vI Cs):=by
 refine F.okH sc__law_refusal (λ vs H Q E h=>?_) (λ cdv A outer s H vs Q E hr h=>?_)
 ·obtain⟨e,j,C,d,ds,us,rfl,_⟩:=h
  rfl
 obtain⟨e,j,C,d,ds,us,rfl,hj,hC,he,hd,hul,hus,q⟩:=h
 have hC10:=Xc.len
 have hmem:C∈Cs:=List.mem_of_getElem? hC
 have kC:=Xc.kind C hmem
 have kt:∀i (hi:i<7),kitOne K (.ref C) (.ref (Cs[i]' Qa))=some (j==i):=λ i hi=>Xc.kit j i C _ hC (List.getElem?_eq_getElem Qa)
 refine'⟨_,?hh,?rr⟩
 case hh=>exists Qg,bG ?_ ?_ ?_ ?_,sc__law_refusal.nd,aO 1,Or.inl rfl,gB ?_,Qe,bL ?_ ?_ ?_ ?_ ?_,lA,rfl,T.b_isinstance,fB,Qe,pv 0,Qe,kT (T.c_NoCard Qa),aG,Qe,bL ?_ ?_ ?_ ?_ ?_,lA,rfl,T.b_isinstance,fB,Qe,pv 0,Qe,kT (T.c_Out Qa),aG,Qe,bL ?_ ?_ ?_ ?_ ?_,lA,rfl,T.b_isinstance,fB,Qe,pv 0,Qe,kT (T.c_Blocked Qa),aG,aG,Qg,bG ?_ ?_ ?_ ?_,sc__law_refusal.nd,aO 1,Or.inl rfl,bK ?_ ?_ ?_,sQ,pv 1,gB ?_,Qe,bL ?_ ?_ ?_ ?_ ?_,lA,rfl,T.b_isinstance,fB,Qe,pv 0,Qe,kT (T.c_Waits Qa),aG,Qe,bL ?_ ?_ ?_ ?_ ?_,lA,rfl,T.b_isinstance,fB,Qe,pv 0,Qe,kT (T.c_Full Qa),aG,aG,Qg,bG ?_ ?_ ?_ ?_,sc__law_refusal.nd,aO 1,Or.inl rfl,bK ?_ ?_ ?_,sQ,pv 1,gB ?_,Qe,bL ?_ ?_ ?_ ?_ ?_,lA,rfl,T.b_isinstance,fB,Qe,pv 0,Qe,kT (T.c_KindFull Qa),aG,Qe,bL ?_ ?_ ?_ ?_ ?_,lA,rfl,T.b_isinstance,fB,Qe,pv 0,Qe,kT (T.c_InYard Qa),aG,aG,Qg,bS ?_ ?_ ?_,PW.pt ?_,sK ?_ ?_,bN ?_ ?_ ?_ ?_,pS,jJ ?_ ?_ ?_ ?_ ?_ ?_,PySem.F.plainAttrs_list,PySem.F.slot_list_count,PySem.F.type_list_count,xG,pv 1,Qe,jK,aG,aK,bH _,sJ ?_,jH ?_,fS ?_,bL ?_ ?_ ?_ ?_ ?_,lA,rfl,T.b_isinstance,fB,Qe,pv 0,Qe,iQ (v:=.ty "ValueError") rfl T.b_ValueError BX rfl,aG,aV ?_,bF ?_,dF ?_,Qe,bJ,aG,bR,Qg,bG ?_ ?_ ?_ ?_,sc__law_refusal.nd,aO 2,Or.inl rfl,aN ?_ ?_ ?_ ?_,ix_list,gB ?_,Qe,bJ,Qe,bJ,Qe,bJ,Qe,bJ,Qe,bJ,Qe,bJ,Qe,bJ,aG,jJ ?_ ?_ ?_ ?_ ?_ ?_,PySem.F.plainAttrs_list,PySem.F.slot_list_index,PySem.F.type_list_index,Ts,pv 1,Qe,jK,aG,(λ _ _=>rfl),Qg,bS ?_ ?_ ?_,bN ?_ ?_ ?_ ?_,cG,pv 2,bJ,bH _,aV ?_,bF ?_,dF ?_,Qe,pv 2,Qe,kO ?_,pv 0,Qe,kO ?_,pv 0,aG,bR,Qg,bS ?_ ?_ ?_,bN ?_ ?_ ?_ ?_,cG,pv 2,bJ,bH _,aV ?_,bF ?_,dF ?_,Qe,pv 2,Qe,kO ?_,pv 0,Qe,kO ?_,pv 0,Qe,kO ?_,pv 0,aG,bR,Qg,bS ?_ ?_ ?_,bN ?_ ?_ ?_ ?_,cG,pv 2,bJ,bH _,aV ?_,bF ?_,dF ?_,Qe,pv 2,Qe,kO ?_,pv 0,Qe,kO ?_,pv 0,aG,bR,aV ?_,bF ?_,dF ?_,Qe,pv 2,Qe,kO ?_,pv 0,aG
 refine⟨_,rfl,e,C,d,_,_,_,_,rfl,he,hd,kC,rfl,kt 0 Qc,_,rfl,e,C,d,_,_,_,_,rfl,he,hd,kC,rfl,kt 1 Qc,_,rfl,e,C,d,_,_,_,_,rfl,he,hd,kC,rfl,kt 2 Qc,by show 3<=sizeLine;decide,λ a0 ha0=>?_⟩
 have exB0:aI [] H (aA H a0 (.lst [.bl (j==0),.bl (j==1),.bl (j==2)])):=aI.new ha0 _
 have atB0:(aA H a0 (.lst [.bl (j==0),.bl (j==1),.bl (j==2)])) a0=some (.lst [.bl (j==0),.bl (j==1),.bl (j==2)]):=aP
 generalize aA H a0 (.lst [.bl (j==0),.bl (j==1),.bl (j==2)])=B0 at exB0 atB0⊢
 replace he:=exB0.old _ _ Qb he (by intro ps z;cases z)
 replace hd:=exB0.old _ _ Qb hd (by intro ps z;cases z)
 have ex:=exB0
 have atS:=atB0
 show eM _ _ _ [_,_,_] _
 refine⟨_,rfl,_,rfl,e,C,d,_,_,_,_,rfl,he,hd,kC,rfl,kt 3 Qc,_,rfl,e,C,d,_,_,_,_,rfl,he,hd,kC,rfl,kt 4 Qc,by show 2<=sizeLine;decide,λ a1 ha1=>?_⟩
 have exB1:aI [] B0 (aA B0 a1 (.lst [.bl (j==3),.bl (j==4)])):=aI.new ha1 _
 have atB1:(aA B0 a1 (.lst [.bl (j==3),.bl (j==4)])) a1=some (.lst [.bl (j==3),.bl (j==4)]):=aP
 generalize aA B0 a1 (.lst [.bl (j==3),.bl (j==4)])=B1 at exB1 atB1⊢
 replace he:=exB1.old _ _ Qb he (by intro ps z;cases z)
 replace hd:=exB1.old _ _ Qb hd (by intro ps z;cases z)
 replace ex:=ex.trans exB1
 replace atS:=exB1.lst Qb atS
 refine⟨a0,a1,[.bl (j==0),.bl (j==1),.bl (j==2)],[.bl (j==3),.bl (j==4)],rfl,rfl,atS,atB1,by show 5<=sizeLine;decide,λ p1 hp1=>?_⟩
 have exC1:aI [] B1 (aA B1 p1 (.lst ([.bl (j==0),.bl (j==1),.bl (j==2)]++[.bl (j==3),.bl (j==4)]))):=aI.new hp1 _
 have atC1:(aA B1 p1 (.lst ([.bl (j==0),.bl (j==1),.bl (j==2)]++[.bl (j==3),.bl (j==4)]))) p1=some (.lst ([.bl (j==0),.bl (j==1),.bl (j==2)]++[.bl (j==3),.bl (j==4)])):=aP
 generalize aA B1 p1 (.lst ([.bl (j==0),.bl (j==1),.bl (j==2)]++[.bl (j==3),.bl (j==4)]))=C1 at exC1 atC1⊢
 replace he:=exC1.old _ _ Qb he (by intro ps z;cases z)
 replace hd:=exC1.old _ _ Qb hd (by intro ps z;cases z)
 replace ex:=ex.trans exC1
 replace atS:=atC1
 show eM _ _ _ [_,_,_] _
 refine⟨_,rfl,_,rfl,e,C,d,_,_,_,_,rfl,he,hd,kC,rfl,kt 5 Qc,_,rfl,e,C,d,_,_,_,_,rfl,he,hd,kC,rfl,kt 6 Qc,by show 2<=sizeLine;decide,λ a2 ha2=>?_⟩
 have exB2:aI [] C1 (aA C1 a2 (.lst [.bl (j==5),.bl (j==6)])):=aI.new ha2 _
 have atB2:(aA C1 a2 (.lst [.bl (j==5),.bl (j==6)])) a2=some (.lst [.bl (j==5),.bl (j==6)]):=aP
 generalize aA C1 a2 (.lst [.bl (j==5),.bl (j==6)])=B2 at exB2 atB2⊢
 replace he:=exB2.old _ _ Qb he (by intro ps z;cases z)
 replace hd:=exB2.old _ _ Qb hd (by intro ps z;cases z)
 replace ex:=ex.trans exB2
 replace atS:=exB2.lst Qb atS
 refine⟨p1,a2,[.bl (j==0),.bl (j==1),.bl (j==2),.bl (j==3),.bl (j==4)],[.bl (j==5),.bl (j==6)],rfl,rfl,atS,atB2,by show 7<=sizeLine;decide,λ p2 hp2=>?_⟩
 have exC2:aI [] B2 (aA B2 p2 (.lst ([.bl (j==0),.bl (j==1),.bl (j==2),.bl (j==3),.bl (j==4)]++[.bl (j==5),.bl (j==6)]))):=aI.new hp2 _
 have atC2:(aA B2 p2 (.lst ([.bl (j==0),.bl (j==1),.bl (j==2),.bl (j==3),.bl (j==4)]++[.bl (j==5),.bl (j==6)]))) p2=some (.lst ([.bl (j==0),.bl (j==1),.bl (j==2),.bl (j==3),.bl (j==4)]++[.bl (j==5),.bl (j==6)])):=aP
 generalize aA B2 p2 (.lst ([.bl (j==0),.bl (j==1),.bl (j==2),.bl (j==3),.bl (j==4)]++[.bl (j==5),.bl (j==6)]))=C2 at exC2 atC2⊢
 replace he:=exC2.old _ _ Qb he (by intro ps z;cases z)
 replace hd:=exC2.old _ _ Qb hd (by intro ps z;cases z)
 replace ex:=ex.trans exC2
 replace atS:=atC2
 show eM _ _ _ [_,_,_] _
 replace atS:C2 p2=some (.lst (kX j)):=atS
 refine⟨_,rfl,.inl ⟨rfl,_,aQ.of atS⟩,p2,kX j,.bl true,rfl,rfl,aQ.of atS,rfl,Ep j,rfl,_,rfl,?_⟩
 rw[Xp j hj]
 refine fP ?_
 refine⟨_,rfl,e,C,d,_,_,_,_,rfl,he,hd,kC,rfl,Xc.val C hmem,_,rfl,fP ?_⟩
 show eM _ _ _ [_,_,_] _
 refine⟨by show 7<=sizeLine;decide,λ aw haw=>?_⟩
 have exW:aI [] C2 (aA C2 aw (.lst [.str "NoCard",.str "Out",.str "Blocked",.str "Waits",.str "Full",.str "KindFull",.str "InYard"])):=aI.new haw _
 have atW:(aA C2 aw (.lst [.str "NoCard",.str "Out",.str "Blocked",.str "Waits",.str "Full",.str "KindFull",.str "InYard"])) aw=some (.lst [.str "NoCard",.str "Out",.str "Blocked",.str "Waits",.str "Full",.str "KindFull",.str "InYard"]):=aP
 generalize aA C2 aw (.lst [.str "NoCard",.str "Out",.str "Blocked",.str "Waits",.str "Full",.str "KindFull",.str "InYard"])=W at exW atW⊢
 replace he:=exW.old _ _ Qb he (by intro ps z;cases z)
 replace hd:=exW.old _ _ Qb hd (by intro ps z;cases z)
 replace ex:=ex.trans exW
 replace atS:=exW.lst Qb atS
 refine⟨_,rfl,.inl ⟨rfl,_,aQ.of atS⟩,p2,kX j,.bl true,j,rfl,rfl,(aQ.of atS),rfl,Ep j,Xo j hj,?_⟩
 refine⟨aw,Aj,_,.str (hU j),rfl,rfl,aQ.of atW,Ig j hj,?_⟩
 have hat:=λ f hf=>Xc.att j C f hC hf
 clear Xc kt hC hmem kC hC10 atS atW
 generalize W=HZ at ex he hd⊢
 show eM _ _ _ [_,_,_] _
 have fin:∀t,HZ t=none->Q (.ref t) (aA HZ t (.tup (.str (hU j)::us))):=λ t ht=>q _ _ (ex.trans (aI.new ht _)) ⟨t,_,rfl,Qb,aP,_,_,rfl,rfl,aL.ext (ex.trans (aI.new ht _)) hus⟩
 have hjj:(j=0\/j=1\/j=2\/j=6)\/j=3\/j=4\/j=5:=by omega
 rcases hjj with hjj|rfl|rfl|rfl
 ·have z:mK j=(["card"]:List Str)/\hU j≠ "Full"/\hU j≠ "KindFull"/\hU j≠ "Waits" :=by rcases hjj with rfl|rfl|rfl|rfl<;>decide+kernel
  obtain⟨z0,z1,z2,z3⟩:=z
  rw[z0]at hd hul hat
  obtain⟨u0,rfl⟩:=List.length_eq_one_iff.mp hul
  refine⟨_,rfl,rfl,_,rfl,bA (λ cc=>absurd (V.str.inj (of_decide_eq_true cc)) z1) (λ _=>?_)⟩
  show eM _ _ _ [_,_,_] _
  refine⟨_,rfl,rfl,_,rfl,bA (λ cc=>absurd (V.str.inj (of_decide_eq_true cc)) z2) (λ _=>?_)⟩
  show eM _ _ _ [_,_,_] _
  refine⟨_,rfl,rfl,_,rfl,bA (λ cc=>absurd (V.str.inj (of_decide_eq_true cc)) z3) (λ _=>?_)⟩
  exact⟨_,rfl,_,rfl,e,C,d,_,u0,rfl,he,hd,hat "card" Qc,rfl,by show 2<=sizeLine;decide,λ t ht=>fin t ht⟩
 ·obtain⟨u0,u1,rfl⟩:=tJ hul
  refine⟨_,rfl,rfl,_,rfl,bA (λ cc=>absurd cc Qd) (λ _=>?_)⟩
  show eM _ _ _ [_,_,_] _
  refine⟨_,rfl,rfl,_,rfl,bA (λ cc=>absurd cc Qd) (λ _=>?_)⟩
  show eM _ _ _ [_,_,_] _
  refine⟨_,rfl,rfl,_,rfl,bA (λ _=>?_) (λ cc=>absurd Qd cc)⟩
  exact⟨_,rfl,_,rfl,e,C,d,_,u0,rfl,he,hd,hat "card" Qc,rfl,_,rfl,e,C,d,_,u1,rfl,he,hd,hat "other" Qc,rfl,by show 3<=sizeLine;decide,λ t ht=>fin t ht⟩
 ·obtain⟨u0,u1,rfl⟩:=tJ hul
  refine⟨_,rfl,rfl,_,rfl,bA (λ _=>?_) (λ cc=>absurd Qd cc)⟩
  exact⟨_,rfl,_,rfl,e,C,d,_,u0,rfl,he,hd,hat "lane" Qc,rfl,_,rfl,e,C,d,_,u1,rfl,he,hd,hat "bound" Qc,rfl,by show 3<=sizeLine;decide,λ t ht=>fin t ht⟩
 ·obtain⟨u0,u1,u2,rfl⟩:=Dy hul
  refine⟨_,rfl,rfl,_,rfl,bA (λ cc=>absurd cc Qd) (λ _=>?_)⟩
  show eM _ _ _ [_,_,_] _
  refine⟨_,rfl,rfl,_,rfl,bA (λ _=>?_) (λ cc=>absurd Qd cc)⟩
  exact⟨_,rfl,_,rfl,e,C,d,_,u0,rfl,he,hd,hat "lane" Qc,rfl,_,rfl,e,C,d,_,u1,rfl,he,hd,hat "kind" Qc,rfl,_,rfl,e,C,d,_,u2,rfl,he,hd,hat "bound" Qc,rfl,by show 4<=sizeLine;decide,λ t ht=>fin t ht⟩
end
end K10
namespace L2
open PySem PySem.Spec PyProof.Rows PySem.W
def C4(h:Heap)(v:Value):Prop:=∃a o n x t y u i k b,v= .ref a/\h.get? a=some o/\o.cls= .type "tuple"/\o.data= .seq #[.str x t,.str y u,.int i k,.bool b] n
def jO:Option Obj->List Nat
 | some o=>match o.data with
  |.seq its _=>match(its[0]?:Option Value)with
   |some (.str x _)=>x.cps.toList
   |_=>[]
  |_=>[]
 |none=>[]
def cE(h:Heap):Value->List Nat
 |.ref a=>jO (h.get? a)
 |_=>[]
def pQ(h:Heap):SOrd where
 blt p q:=decide (cE h p.1<cE h q.1)
 irrefl a:=decide_eq_false (List.lt_irrefl _)
 trans a b c h1 h2:=decide_eq_true (List.lt_trans (of_decide_eq_true h1) (of_decide_eq_true h2))
 weak a b c h1:=by
  by_cases z:cE h a.1<cE h b.1
  ·exact .inl (decide_eq_true z)
  ·exact .inr (decide_eq_true (List.lt_of_le_of_lt (List.not_lt.mp z) (of_decide_eq_true h1)))
theorem C4.stay{h h':Heap}{v:Value}(x:C4 h v)(k:∀b o,v= .ref b->h.get? b=some o->h'.get? b=some o):C4 h' v/\cE h' v=cE h v:=by
 obtain⟨a,o,n,x,t,y,u,i,j,b,rfl,ho,hc,hd⟩:=x
 refine⟨⟨a,o,n,x,t,y,u,i,j,b,rfl,k a o rfl ho,hc,hd⟩,?_⟩
 show jO (h'.get? a)=jO (h.get? a)
 rw[ho,k a o rfl ho]
section
variable{prog:Program}{w:World}{A:Around}{E:Qh}{s:Shared}
theorem AW{v:Value}(hv:(v==v)=true){Q:Bool->Shared->Prop}(h:Q true s):wpAny Qi A (eqBool v v) Q E s:=by
 unfold eqBool
 try with_reducible refine wpAny_holding ?_
 rw[if_pos hv]
 exact wpAny_bind (wpAny_rule (wpAny_pure h))
theorem BE{a₀:Array Keyed}{h0:Heap}(h4:∀p,p∈a₀->C4 s.heap p.1/\cE s.heap p.1=cE h0 p.1)(un:∀p q,p∈a₀->q∈a₀->cE h0 p.1=cE h0 q.1->p.1=q.1):dQ prog w A s (tuples' true) a₀ (pQ h0):=by
 intro E p q Q hp hq h
 obtain⟨p1,p2⟩:=p
 obtain⟨q1,q2⟩:=q
 obtain⟨⟨a,o,n,x,t,y,u,i,k,b,rfl,ho,_,hd⟩,ka⟩:=h4 _ hp
 obtain⟨⟨a',o',n',x',t',y',u',i',k',b',rfl,ho',_,hd'⟩,kb⟩:=h4 _ hq
 have ea:cE h0 (.ref a)=x.cps.toList:=by
  rw[<-ka]
  show jO (s.heap.get? a)=_
  rw[ho]
  unfold jO
  dsimp only
  rw[hd]
  rfl
 have eb:cE h0 (.ref a')=x'.cps.toList:=by
  rw[<-kb]
  show jO (s.heap.get? a')=_
  rw[ho']
  unfold jO
  dsimp only
  rw[hd']
  rfl
 have hQ:Q (decide (x.cps.toList<x'.cps.toList)) s:=by
  have h:Q (decide (cE h0 (.ref a)<cE h0 (.ref a'))) s:=h
  rw[ea,eb]at h
  exact h
 refine kat_lt ho hd ho' hd' ?_
 show KatLex prog w A true _ Q [(.str x t,.str x' t'),(.str y u,.str y' u'),(.int i k,.int i' k'),(.bool b,.bool b')] 0 s
 refine kat_cons (eqBool_str (kat_go (λ e=>kat_yes ?_) λ _=>kat_no (oneLt_str hQ)))
 have ex:x=x':=eq_of_beq e
 have er:a=a':=by
  have:=un _ _ hp hq (by rw[ea,eb,ex])
  injection this
 subst er
 rw[ho]at ho'
 obtain rfl:=Option.some.inj ho'
 rw[hd]at hd'
 injection hd' with e1 _
 simp only[Array.mk.injEq,List.cons.injEq,Value.str.injEq,Value.int.injEq,Value.bool.injEq,and_true]at e1
 obtain⟨⟨rfl,rfl⟩,⟨rfl,rfl⟩,⟨rfl,rfl⟩,rfl⟩:=e1
 refine kat_cons (eqBool_str (kat_go (λ _=>kat_yes ?_) λ z=>absurd z Qb))
 refine kat_cons (wpAny_eqBool_int (kat_go (λ _=>kat_yes ?_) λ z=>absurd z Qb))
 refine kat_cons (AW (by cases b<;>rfl) (kat_yes (kat_nil ?_)))
 rw[decide_eq_false (List.lt_irrefl _)]at hQ
 exact hQ
end
section
variable{prog:Program}{w:World}{A:Around}{E:Qh}{s:Shared}
theorem Vp{vs:List Value}(h4:∀v∈vs,C4 s.heap v)(hne:0<vs.length){Q:SortKind->Shared->Prop}(h:Q (tuples' true) s):wpAny Qi A (keyKind' vs.toArray) Q E s:=by
 have all:∀{vs:List Value},(∀v∈vs,C4 s.heap v)->∃fs,KatTups s.heap vs fs/\fs.length=vs.length/\∀v∈fs,∃x t,v= .str x t:=by
  intro vs h4
  induction vs with
  |nil=>exact⟨[],.nil,rfl,λ _ z=>nomatch z⟩
  |cons v r ih=>
   obtain⟨fs,kt,len,tx⟩:=ih λ u hu=>h4 u (List.mem_cons_of_mem _ hu)
   obtain⟨a,o,n,x,t,y,u,i,k,b,rfl,ho,hc,hd⟩:=h4 v List.mem_cons_self
   refine⟨.str x t::fs,.cons ho hc hd rfl kt,by simp[len],λ z hz=>?_⟩
   rcases List.mem_cons.mp hz with e|hz
   ·exact⟨x,t,e⟩
   ·exact tx z hz
 obtain⟨fs,kt,len,tx⟩:=all h4
 refine kat_kind (T:=.type "str") kt Qa (λ v hv=>?_) Qc h
 obtain⟨x,t,e⟩:=tx v hv
 rw[e]
 exact .now
theorem Ma{a:Addr}{vs:List Value}{h0:Heap}(h4:∀v∈vs,(C4 s.heap v/\cE s.heap v=cE h0 v)/\v≠ .ref a)(un:∀u∈vs,∀v∈vs,cE h0 u=cE h0 v->u=v)(hne:0<vs.length):yN prog w A s a vs (pQ h0):=by
 intro sI hsI
 have at4:∀v∈vs,C4 sI.heap v/\cE sI.heap v=cE h0 v:=λ v hv=>by
  obtain⟨⟨c,k⟩,ne⟩:=h4 v hv
  obtain⟨c',k'⟩:=c.stay (h':=sI.heap) λ b o e g=>hsI b o (λ z=>ne (by rw[e,z])) g
  exact⟨c',k'.trans k⟩
 have inv:∀p,p∈pairsOf vs->p.1∈vs:=λ p hp=>by
  rw[<-Array.mem_toList_iff,pairsOf_toList]at hp
  exact(List.of_mem_zip (a:=p.1) (b:=p.2) hp).1
 exact⟨tuples' true,λ E Q h=>Vp (λ v hv=>(at4 v hv).1) hne h,BE (λ p hp=>at4 _ (inv p hp)) λ p q hp hq e=>un _ (inv p hp) _ (inv q hq) e⟩
theorem Lz{l:Addr}{vs:List Value}(hl:s.heap.IsList l vs.toArray)(h64:vs.length<64)(h4:∀v∈vs,C4 s.heap v)(un:∀u∈vs,∀v∈vs,cE s.heap u=cE s.heap v->u=v){Q:Qh}
  (h:∀L (us:List Value) e h',s.heap.objs.size<=L->us.Perm vs->qQ (pQ s.heap) us->(∀b o,s.heap.get? b=some o->h'.get? b=some o)->h'.get? L=some {cls:=.type "list",data:=.seq us.toArray e}->Q (.ref L) {s with heap:=h'}):
  wpAny Qi A (call (.builtin "sorted") [.ref l]) Q E s:=by
 have line:vs.length<=sizeLine:=Nat.le_trans Qa iM
 refine Calls.call_function_entry kind_sorted plain_sorted entry_sorted (args_sorted1 _) ?_
 unfold Builtin.«sorted»
 refine wpAny_bind (m:=checkCount "sorted" 1 1 _) (wpAny_pure (wpAny_bind (collect_list hl ?_ line)))
 generalize eh:(s.heap.push (seqObj "list" #[] 0)).update s.heap.objs.size (Obj.mapSeq (· ++vs.toArray))=h1
 have old1:∀b o,s.heap.get? b=some o->h1.get? b=some o:=λ b o g=>by
  rw[<-eh,Heap.get?_update_ne _ _ _ _ (Nat.ne_of_lt (Heap.lt_size g)),Heap.get?_push_ne _ _ _ (Nat.ne_of_lt (Heap.lt_size g))]
  exact g
 have size1:h1.objs.size=s.heap.objs.size+1:=by rw[<-eh,Heap.size_update,size_push']
 refine wpAny_bind (wpAny_newList ?_ line)
 have top:(h1.push (seqObj "list" vs.toArray 0)).get? h1.objs.size=some (seqObj "list" vs.toArray 0):=Heap.get?_push_size _ rfl
 have old:∀b o,s.heap.get? b=some o->(h1.push (seqObj "list" vs.toArray 0)).get? b=some o:=λ b o g=>Heap.get?_push_of_some _ (old1 b o g)
 change wpAny _ _ _ _ _ {s with heap:=h1.push (seqObj "list" vs.toArray 0)}
 have hs2:∀v∈vs,(C4 (h1.push (seqObj "list" vs.toArray 0)) v/\cE (h1.push (seqObj "list" vs.toArray 0)) v=cE s.heap v)/\v≠ .ref h1.objs.size:=λ v hv=>by
  refine⟨(h4 v hv).stay λ b o _ g=>old b o g,λ z=>?_⟩
  obtain⟨b,o,_,_,_,_,_,_,_,_,e,g,_⟩:=h4 v hv
  rw[e]at z
  injection z with z
  have:=Heap.lt_size g
  rw[z,size1]at this
  exact Nat.lt_irrefl _ (Nat.lt_of_succ_lt this)
 refine wpAny_bind (wpAny_holding (wpAny_call_entry slot_list_sort ⟨_,top,rfl⟩ entry_list_sort (Dz (s:={s with heap:=h1.push (seqObj "list" vs.toArray 0)}) (O:=pQ s.heap) top (λ two=>Ma hs2 un Qa) Qa λ out perm ris=>⟨_,rfl,?_⟩) (args_list_sort _)))
 obtain⟨e,g⟩:=sortedHeap_at (out:=out) top
 refine wpAny_pure ⟨_,rfl,h h1.objs.size out.toList e _ (by rw[size1];exact Nat.le_succ _) perm ris (λ b o q=>?_) (by rw[Array.toArray_toList];exact g)⟩
 have lt:=Heap.lt_size (old1 b o q)
 show(sortedHeap _ _ _ _).get? b=some o
 rw[sortedHeap_old (Nat.ne_of_lt lt) (by rw[size_push'];exact Nat.lt_succ_of_lt lt)]
 exact old b o q
end
theorem Db{α β:Type}{f:α->β}:∀{us:List β} {l:List α},us.Perm (l.map f)->∃l':List α,l'.Perm l/\us=l'.map f
 |[],l,h=>by
  have:l.map f=[]:=List.nil_perm.mp h
  exact⟨[],by rw[List.map_eq_nil_iff.mp this],rfl⟩
 | u::us,l,h=>by
  obtain⟨a,ha,rfl⟩:=List.mem_map.mp (h.mem_iff.mp List.mem_cons_self)
  obtain⟨s,t,rfl⟩:=List.append_of_mem ha
  have h2:us.Perm ((s++t).map f):=by
   have:(f a::us).Perm (f a::(s++t).map f):=h.trans (by
    rw[List.map_append,List.map_append,List.map_cons]
    exact List.perm_middle)
   exact this.cons_inv
  obtain⟨l',hl,rfl⟩:=Db h2
  exact⟨a::l',(hl.cons a).trans List.perm_middle.symm,rfl⟩
theorem Fz{ex:List Addr}{H:Hp}:∀{cs:List Cd} {vs:List V},aL ex H (cs.map Cd.d) vs->∃L:List (Cd×Addr),L.map (·.1)=cs/\vs=L.map (λ q=>V.ref q.2)/\∀q∈L,aD ex H q.1.d (.ref q.2)
 |[],vs,h=>by
  obtain rfl:vs=[]:=List.length_eq_zero_iff.mp h.length
  exact⟨[],rfl,rfl,λ _ z=>nomatch z⟩
 |c::cs,vs,h=>by
  obtain⟨v,vs',rfl,h1,h2⟩:=h
  obtain⟨L,e1,rfl,hq⟩:=Fz h2
  obtain⟨a,rfl,_⟩:=Cd.view h1
  refine⟨(c,a)::L,by rw[List.map_cons,e1],rfl,λ q z=>?_⟩
  rcases List.mem_cons.mp z with e|z
  ·rw[e];exact h1
  ·exact hq q z
theorem Ck{ex:List Addr}{H:Hp}:∀{L:List (Cd×Addr)},(∀q∈L,aD ex H q.1.d (.ref q.2))->aL ex H ((L.map (·.1)).map Cd.d) (L.map λ q=>V.ref q.2)
 |[],_=>rfl
 |q::L,h=>⟨_,_,rfl,h q List.mem_cons_self,Ck λ x z=>h x (List.mem_cons_of_mem _ z)⟩
section
variable{X:Cx}
theorem aB.c4{pins:Qj}{σ:St}{H:Hp}{s:Shared}{ex:List Addr}(I:aB X pins σ H s){c:Cd}{p:Addr}(h:aD ex H c.d (.ref p)):C4 s.heap (.ref p)/\cE s.heap (.ref p)=c.nm.cps.toList:=by
 obtain⟨a,e,q⟩:=Cd.view h
 injection e with e
 subst e
 obtain⟨_,its,r,⟨o,ho,hc,n,hd⟩,_⟩:=(I.hok p _ q:cT X.prog X.w H s.heap p (.tup _))
 cases r with
 | cons r1 r=>cases r with
  | cons r2 r=>cases r with
   | cons r3 r=>cases r with
    | cons r4 r=>cases r with
     |nil=>
      obtain⟨t,rfl⟩:=r1
      obtain⟨u,rfl⟩:=r2
      obtain⟨k,rfl⟩:=r3
      cases r4
      refine⟨⟨p,o,n,_,t,_,u,_,k,_,rfl,ho,hc,hd⟩,?_⟩
      show jO (s.heap.get? p)=_
      rw[ho]
      unfold jO
      dsimp only
      rw[hd]
      rfl
def Nv:List V->Hp->VK->Prop:=λ vs H Q=>∃(cs:List Cd) (x:V),vs=[x]/\aD [] H (.list (cs.map Cd.d)) x/\(cs.map (·.nm)).Nodup/\cs.length<64/\
 ∀(cs':List Cd) v H',cs'.Perm cs->cs'.Pairwise (λ a b=>¬b.nm.cps.toList<a.nm.cps.toList)->aI [] H H'->aD [] H' (.list (cs'.map Cd.d)) v->Q v H'
theorem BN:dX X (.builtin "sorted") Nv:=by
 intro pins s σ H vs us Q I rv h
 obtain⟨cs,x,rfl,hx,nd,h64,q⟩:=h
 obtain⟨u,rfl,ru⟩:=rv.one
 obtain⟨a,vs,rfl,_,ha,hds⟩:=hx
 obtain rfl:u= .ref a:=ru
 obtain⟨L,rfl,rfl,hL⟩:=Fz hds
 obtain⟨its,r,pl,_⟩:=I.list (aQ.of ha)
 have rel:∀{L:List (Cd×Addr)} {us:List Value},aW (L.map λ q=>V.ref q.2) us->us=L.map λ q=>Value.ref q.2:=by
  intro L
  induction L with
  |nil=>intro us r;cases r;rfl
  | cons q L ih=>
   intro us r
   cases r with
   |cons r1 r2=>
    rw[ih r2]
    cases r1
    rfl
 obtain rfl:=rel r
 rw[List.length_map]at h64
 have un:∀u∈L.map (λ q=>Value.ref q.2),∀v∈L.map (λ q=>Value.ref q.2),cE s.heap u=cE s.heap v->u=v:=λ u hu v hv e=>by
  obtain⟨p,hp,rfl⟩:=List.mem_map.mp hu
  obtain⟨p',hp',rfl⟩:=List.mem_map.mp hv
  rw[(I.c4 (hL p hp)).2,(I.c4 (hL p' hp')).2]at e
  have en:p.1.nm=p'.1.nm:=by
   have:p.1.nm.cps=p'.1.nm.cps:=Array.toList_inj.mp e
   cases hh:p.1.nm
   cases hh':p'.1.nm
   rw[hh,hh']at this
   cases this
   rfl
  have nd2:(L.map λ q=>q.1.nm).Nodup:=by rw[List.map_map]at nd;exact nd
  obtain⟨i,hi,ei⟩:=List.mem_iff_getElem.mp hp
  obtain⟨j,hj,ej⟩:=List.mem_iff_getElem.mp hp'
  have:i=j:=(List.getElem_inj (h₀:=by rw[List.length_map];exact hi) (h₁:=by rw[List.length_map];exact hj) nd2).mp (by rw[List.getElem_map,List.getElem_map,ei,ej];exact en)
  subst this
  rw[<-ei,<-ej]
 refine Lz pl.isList (by rw[List.length_map];exact h64) (λ v hv=>?_) un λ Lx us e h' hLx perm ris keep hg=>?_
 ·obtain⟨p,hp,rfl⟩:=List.mem_map.mp hv
  exact(I.c4 (hL p hp)).1
 ·obtain⟨L',pL,rfl⟩:=Db perm
  have hL':∀q∈L',aD [] H q.1.d (.ref q.2):=λ q hq=>hL q (pL.mem_iff.mp hq)
  have hnone:H Lx=none:=I.hok.fresh hLx
  have rel2:∀l:List (Cd×Addr),aW (l.map λ q=>V.ref q.2) (l.map λ q=>Value.ref q.2):=λ l=>by
   induction l with
   |nil=>exact .nil
   |cons y l ih=>exact .cons rfl ih
  have len:L'.length=L.length:=pL.length_eq
  have I2:aB X pins σ (aA H Lx (.lst (L'.map λ q=>V.ref q.2))) {s with heap:=h'}:=
   I.laid (t':=s.toks) keep hLx ⟨by rw[List.length_map];exact Nat.le_trans Qa iM,L'.map λ q=>Value.ref q.2,e,rel2 L',hg⟩
  have eN:aI [] H (aA H Lx (.lst (L'.map λ q=>V.ref q.2))):=aI.new hnone _
  refine⟨.ref Lx,_,I2,rfl,q (L'.map (·.1)) _ _ (pL.map _) ?_ eN ⟨Lx,_,rfl,Qb,aP,aL.ext eN (Ck hL')⟩⟩
  have ris:(L'.map λ q=>Value.ref q.2).Pairwise λ x y=>(pQ s.heap).le (x,x) (y,y):=ris
  rw[List.pairwise_map]at ris⊢
  refine List.Pairwise.imp_of_mem (fun{a b} ma mb le=>?_) ris
  have le:decide (cE s.heap (.ref b.2)<cE s.heap (.ref a.2))=false:=le
  rw[(I.c4 (hL' a ma)).2,(I.c4 (hL' b mb)).2]at le
  exact of_decide_eq_false le
end
end L2
namespace L2
open PySem PySem.Spec PyProof.Rows
def iI(a b:Cd):Prop:=¬b.nm.cps.toList<a.nm.cps.toList
theorem Lq{x y:Str}(h:x.cps.toList=y.cps.toList):x=y:=by
 have:x.cps=y.cps:=Array.toList_inj.mp h
 cases x
 cases y
 cases this
 rfl
theorem Dn{cs:List Cd}(nd:(cs.map (·.nm)).Nodup){a b:Cd}(ha:a∈cs)(hb:b∈cs)(e:a.nm=b.nm):a=b:=by
 obtain⟨i,hi,rfl⟩:=List.mem_iff_getElem.mp ha
 obtain⟨j,hj,rfl⟩:=List.mem_iff_getElem.mp hb
 have:i=j:=(List.getElem_inj (h₀:=by rw[List.length_map];exact hi) (h₁:=by rw[List.length_map];exact hj) nd).mp (by rw[List.getElem_map,List.getElem_map];exact e)
 subst this
 rfl
theorem Nl{l l':List Cd}(p:l.Perm l')(nd:(l.map (·.nm)).Nodup)(a:l.Pairwise iI)(a':l'.Pairwise iI):l=l':=by
 refine List.Perm.eq_of_pairwise (le:=iI) (λ x y hx hy h1 h2=>?_) a a' p
 refine Dn nd hx (p.mem_iff.mpr hy) (Lq ?_)
 exact List.le_antisymm (List.not_lt.mp h1) (List.not_lt.mp h2)
theorem iI.trans{a b c:Cd}(h1:iI a b)(h2:iI b c):iI a c:=λ z=>by
 have h3:b.nm.cps.toList<=c.nm.cps.toList:=List.not_lt.mp h2
 exact h1 (List.lt_of_le_of_lt h3 z)
theorem Cf:∀(p:Cd) (r:List Cd),risingS p.nm (r.map (·.nm))=true->(p::r).Pairwise iI
 |p,[],_=>.cons (λ _ z=>nomatch z) .nil
 |p,x::r,h=>by
  have h':(!ltCps x.nm.cps.toList p.nm.cps.toList&&risingS x.nm (r.map (·.nm)))=true:=h
  rw[Bool.and_eq_true,ltCps_eq,Bool.not_eq_true',decide_eq_false_iff_not]at h'
  have ih:=Cf x r h'.2
  refine .cons (λ y hy=>?_) ih
  rcases List.mem_cons.mp hy with e|hy
  ·rw[e];exact h'.1
  ·exact iI.trans h'.1 ((List.pairwise_cons.mp ih).1 y hy)
theorem Lw:∀{cs:List Cd},sortedS (cs.map (·.nm))=true->cs.Pairwise iI
 |[],_=>.nil
 |p::r,h=>Cf p r h
def cS.d(x:Str):cS->PyData
 |.noCard=>.tuple [.str "NoCard",.str x]
 |.out=>.tuple [.str "Out",.str x]
 |.blocked=>.tuple [.str "Blocked",.str x]
 |.waits o=>.tuple [.str "Waits",.str x,.str o]
 |.full l b=>.tuple [.str "Full",.str l,.int b]
 |.kindFull l k b=>.tuple [.str "KindFull",.str l,.str k,.int b]
 |.inYard=>.tuple [.str "InYard",.str x]
def fN(s:Sd)(x:Str):Except cS Cd->PyData
 |.ok c=>(s.put c).d
 |.error r=>r.d x
def dM(cs:List Cd)(c:Cd):List Cd:=cs.map λ d=>if(d.nm==c.nm)=true then c else d
theorem nG(cs:List Cd)(c:Cd):(dM cs c).map (·.nm)=cs.map (·.nm):=by
 unfold dM
 rw[List.map_map]
 apply List.map_congr_left
 intro d _
 show(if(d.nm==c.nm)=true then c else d).nm=d.nm
 split
 ·rename_i h;exact(eq_of_beq h).symm
 ·rfl
theorem Cu{cs:List Cd}{c:Cd}(h:∀d∈cs,d.nm≠c.nm):dM cs c=cs:=by
 unfold dM
 conv=>rhs;rw[<-List.map_id cs]
 apply List.map_congr_left
 intro d hd
 rw[if_neg (by simpa using h d hd)]
 rfl
theorem Ct{cs:List Cd}{c c':Cd}(nd:(cs.map (·.nm)).Nodup)(hc:c∈cs)(e:c'.nm=c.nm):((cs.filter λ d=>!(d.nm==c.nm))++[c']).Perm (dM cs c'):=by
 obtain⟨s,t,rfl⟩:=List.append_of_mem hc
 rw[List.map_append,List.map_cons,List.nodup_append]at nd
 obtain⟨_,n2,n3⟩:=nd
 rw[List.nodup_cons]at n2
 have hs:∀d∈s,d.nm≠c.nm:=λ d hd=>n3 _ (List.mem_map_of_mem hd) _ List.mem_cons_self
 have ht:∀d∈t,d.nm≠c.nm:=λ d hd z=>n2.1 (z▸List.mem_map_of_mem hd)
 have e1:dM (s++c::t) c'=s++c'::t:=by
  have a1:dM s c'=s:=Cu λ d hd=>e▸hs d hd
  have a2:dM t c'=t:=Cu λ d hd=>e▸ht d hd
  have:dM (s++c::t) c'=dM s c'++(if(c.nm==c'.nm)=true then c' else c)::dM t c':=by
   unfold dM
   rw[List.map_append,List.map_cons]
  rw[this,a1,a2,if_pos (by simp[e])]
 have fo:∀l:List Cd,(∀d∈l,d.nm≠c.nm)->(l.filter λ d=>!(d.nm==c.nm))=l:=λ l h=>by
  rw[List.filter_eq_self]
  intro d hd
  simpa using h d hd
 rw[e1,List.filter_append,List.filter_cons,if_neg Qb,fo s hs,fo t ht]
 rw[List.append_assoc]
 exact List.Perm.append_left s (List.perm_append_singleton c' t)
theorem BH{cs:List Cd}(nd:(cs.map (·.nm)).Nodup){a c:Cd}(ha:a∈cs)(hc:c∈cs)(sh:Sh 1 c.d):PyData.eqv a.d c.d=(a.nm==c.nm):=by
 by_cases h:a.nm=c.nm
 ·obtain rfl:=Dn nd ha hc h
  rw[sh.refl]
  simp
 ·have:(a.nm==c.nm)=false:=by simpa using h
  rw[this]
  unfold Cd.d
  simp[PyData.eqv,PyData.eqvAll,this]
theorem Ov{cs:List Cd}{c c':Cd}{l:List Cd}(nd:(cs.map (·.nm)).Nodup)(srt:sortedS (cs.map (·.nm))=true)(hc:c∈cs)(e:c'.nm=c.nm)(p:l.Perm ((cs.filter λ d=>!(d.nm==c.nm))++[c']))(a:l.Pairwise iI):l=dM cs c':=by
 have pp:=p.trans (Ct nd hc e)
 have hn:(l.map (·.nm)).Nodup:=by
  have:=(pp.map (·.nm)).nodup_iff.mpr (by rw[nG];exact nd)
  exact this
 exact Nl pp hn a (Lw (by rw[nG];exact srt))
theorem Ox{cs:List Cd}{c c':Cd}(nd:(cs.map (·.nm)).Nodup)(hc:c∈cs)(e:c'.nm=c.nm):(((cs.filter λ d=>!(d.nm==c.nm))++[c']).map (·.nm)).Nodup:=
 ((Ct nd hc e).map (·.nm)).nodup_iff.mpr (by rw[nG];exact nd)
end L2
namespace K10
open PySem PySem.Spec L2 PyProof.Rows PySem.W
theorem Nk(p:Pl)(s:Sd)(l:Int)(k:Kd):
  (0<=l/\l<p.n/\jF p s l k= "Full"/\dH p s l k.nm=some (.full (p.ls.getD l.toNat ("",0)).1 (s.bs.getD l.toNat 0)))\/
  (0<=l/\l<p.n/\jF p s l k= "KindFull"/\dH p s l k.nm=some (.kindFull (p.ls.getD l.toNat ("",0)).1 k.nm (p.kb k.nm l)))\/
  (jF p s l k= ""/\dH p s l k.nm=none):=by
 unfold jF dH
 by_cases h:0<=l/\l<p.n
 ·rw[if_pos h,if_pos h]
  by_cases h1:s.bs.getD l.toNat 0<=((s.inL p l).length:Int)
  ·rw[if_pos h1,if_pos h1]
   exact .inl ⟨h.1,h.2,rfl,rfl⟩
  ·rw[if_neg h1,if_neg h1]
   by_cases h2:p.kb k.nm l<=(s.many p l k.nm:Int)
   ·rw[if_pos h2,if_pos h2]
    exact .inr (.inl ⟨h.1,h.2,rfl,rfl⟩)
   ·rw[if_neg h2,if_neg h2]
    exact .inr (.inr ⟨rfl,rfl⟩)
 ·rw[if_neg h,if_neg h]
  exact .inr (.inr ⟨rfl,rfl⟩)
theorem qI{p:Pl}{s:Sd}(G:dP p)(SG:eI p s){c:Cd}(hc:c∈s.cs):Sh 1 c.d:=by
 have hkn:nm c.kd=true:=by
  obtain⟨_,k',hk',_⟩:=SG.c c hc
  rw[<-(eA hk').2];exact(G.kn k' (eA hk').1).1
 refine Sh.tup λ d hd=>?_
 simp only[List.mem_cons,List.not_mem_nil,or_false]at hd
 rcases hd with rfl|rfl|rfl|rfl
 ·exact rW (SG.cn c hc)
 ·exact rW hkn
 ·exact vY _
 ·exact vZ _
def mP(p:Pl)(s:Sd)(c':Cd):PyData:=match dH p s (p.lane c') c'.kd with
 |some r=>r.d c'.nm
 |none=>(s.put c').d
def rS:Sp:=λ vs H Q _=>∃(p:Pl) (s:Sd) (v u ov lv:V) (c c':Cd) (kd:Kd),vs=[v,u,ov,lv]/\aD [] H p.d v/\aD [] H s.d u/\aD [] H c.d ov/\aD [] H c'.d lv/\dP p/\eI p s/\c∈s.cs/\c'.nm=c.nm/\c'.kd=c.kd/\
 p.kd? c'.kd=some kd/\0<=c'.pl/\c'.pl<=kd.way.length+1/\∀r H',aI [] H H'->aD [] H' (mP p s c') r->Q r H'
section
variable{P:Program}{w:World}{K:Qf}{mg:Qk}{base:Heap}
abbrev pJ:Stmt:=top 42
theorem sc__law_came:bT ["_law_plan_here","_law_stand_here","_law_one","_law_later","_law_kind_here","_law_goal","_law_lack","_law_others"] ["_law_plan_here","_law_stand_here","_law_one","_law_later"] (aT pJ):=⟨rfl,rfl,rfl,Qd,rfl,Qd,Qd⟩
theorem Ss{f:Addr}{fd:FuncData}(F:bO K "_law_came" "_law_came" pJ f fd)(T:Txt K mg)(oQ:aZ P w K mg base "_law_kind" 1 ["_law_plan_here","_law_name"] rO)(cW:aZ P w K mg base "_law_lane" 2 ["_law_plan_here","_law_one"] iL)(qU:aZ P w K mg base "_law_room" 3 ["_law_plan_here","_law_bounds","_law_cards","_law_kind_here","_law_lane_here"] vN):
  bD P w K mg base bM 4 f fd ["_law_plan_here","_law_stand_here","_law_one","_law_later"] rS:=by
 refine F.ok sc__law_came (λ vs H Q E h=>?_) (λ cdv A outer s H vs Q E hr h=>?_)
 ·obtain⟨p,sd,v,u,ov,lv,c,c',kd,rfl,_⟩:=h
  rfl
 obtain⟨p,sd,v,u,ov,lv,c,c',kd,rfl,hp,hs,hov,hlv,G,SG,hc,en,ek,hk,p0,p1,q⟩:=h
 have hu:=hr.units
 have Po:=G.ok
 have hk2:p.kd? c.kd=some kd:=ek▸hk
 obtain⟨hkm,hkn⟩:=eA hk
 refine'⟨_,?hh,?rr⟩
 case hh=>(exists Qg,bG sc__law_came.nd (aO 4) (Or.inl rfl) ?_,bB oQ hr ?_ rfl ?_,aE (pv 0) ?_,aE ?_ aG,aN aX (pv 2) aK (λ _ _=>rfl),Qc,Qg,bG sc__law_came.nd (aO 5) (Or.inl rfl) ?_,bB cW hr ?_ rfl ?_,aE (pv 0) ?_,aE (pv 3) aG,Qc,Qg,bG sc__law_came.nd (aO 6) (Or.inl rfl) ?_,bB qU hr ?_ rfl ?_,aE (pv 0) ?_,Qe,aN aX (pv 1) aK (λ _ _=>rfl),Qe,aN aX (pv 1) aK (λ _ _=>rfl),aE (pv 4) ?_,aE (pv 5) aG,Qc,Qg,bS ?_ ?_ bR,bN cG (pv 6) bJ (bH _),aV ?_,bF ?_,dF ?_,aE bJ ?_,Qe,aN aX ?_ aK (λ _ _=>rfl),aN aX ?_ (pv 5) (λ _ _=>rfl),aN aX (pv 0) aK (λ _ _=>rfl),aE ?_ aG,aN aX ?_ (pv 5) (λ _ _=>rfl),aN aX (pv 1) aK (λ _ _=>rfl),Qg,bS ?_ ?_ bR,bN cG (pv 6) bJ (bH _),aV ?_,bF ?_,dF ?_,aE bJ ?_,Qe,aN aX ?_ aK (λ _ _=>rfl),aN aX ?_ (pv 5) (λ _ _=>rfl),aN aX (pv 0) aK (λ _ _=>rfl),Qe,aN aX (pv 4) aK (λ _ _=>rfl),aE ?_ aG,aN aX ?_ ?_ (λ _ _=>rfl),aN aX (pv 4) aK (λ _ _=>rfl),sN PySem.F.plainAttrs_tuple PySem.F.slot_tuple_index PySem.F.type_tuple_index sY ?_ ?_,aN aX (pv 4) aK (λ _ _=>rfl),aE (pv 5) aG,Qg,iP sc__law_came.nd (aO 7) (Or.inl rfl) rfl ?_ (eH ["_law_other","_law_one"] 1 [2]) ?_ ?_ ?_ ?_ ?_ ?_ ?_,(by exact⟨rfl,Qd,Qd,(show∀y:Str×NameKind,y∈_->y.2=NameKind.free->(aT pJ).names.lookup y.1=some .cell\/(aT pJ).names.lookup y.1=some .free from Qd)⟩),Qd,Qc,fL ?_,aN aX (pv 1) aK (λ _ _=>rfl),4,bI ?_ (aO 0) (Or.inl rfl) (Or.inr rfl),(by exact(show(["_law_other","_law_one"]:List Str).Nodup from Qd)),eZ Qc,4,hZ ?_,bN (Dg hu) (pv 0) (pv 1) (bH _),4,(pv 0),aV ?_,bF ?_,dF ?_,Qe,aN aX (pv 1) aK (λ _ _=>rfl),Qe,iC qJ rfl T.b_tuple gU ?_,aE ?_ aG,bL BN rfl T.b_sorted boot_sorted ?_,aE ?_ aG,bK sQ (pv 7) ?_,gB ?_,aE (pv 3) aG,aE ?_ aG,aN aX (pv 1) aK (λ _ _=>rfl))
 obtain⟨a,ba,ca,wa,cv,wv,rfl,ha,hba,hca,hcs,hwa,hws,ec,ew⟩:=Sd.view hs
 obtain⟨oa,rfl,hoa⟩:=Cd.view hov
 obtain⟨na,rfl,hna⟩:=Cd.view hlv
 refine⟨_,rfl,_,rfl,oa,_,_,.str c.kd,rfl,rfl,aJ.of hoa,rfl,p,v,c.kd,kd,rfl,hp,Po,hk2,λ kv H1 e1 hkv=>?_⟩
 refine⟨_,rfl,_,rfl,p,v,na,c'.nm,c'.kd,c'.pl,[.bl c'.bk],kd,rfl,aD.ext e1 hp,Po,e1.tup Qb hna,hk,(G.kn kd hkm).2.1,p0,p1,λ H2 e2=>?_⟩
 have E2:=e1.trans e2
 refine⟨_,rfl,_,rfl,a,_,_,.ref ba,rfl,rfl,aJ.of (E2.tup Qb ha),rfl,_,rfl,a,_,_,.ref ca,rfl,rfl,aJ.of (E2.tup Qb ha),rfl,_,rfl,_,rfl,p,sd,v,kv,ba,ca,cv,kd,p.at c'.kd c'.pl,rfl,aD.ext E2 hp,G,SG,E2.tup Qb hba,E2.tup Qb hca,aL.ext E2 hcs,aD.ext e2 hkv,hkm,λ h0 h1=>uC hk p0 h0 h1,λ H3 e3=>?_⟩
 have E3:=E2.trans e3
 have hR:=Nk p sd (p.at c'.kd c'.pl) kd
 have hw:0<=p.at c'.kd c'.pl->p.at c'.kd c'.pl<p.n->p.at c'.kd c'.pl∈kd.way:=λ h0 h1=>uC hk p0 h0 h1
 have q2:∀r H',aI [] H3 H'->aD [] H' (mP p sd c') r->Q r H':=λ r H' e=>q r H' (E3.trans e)
 have ekd:dH p sd (p.lane c') c'.kd=dH p sd (p.at c'.kd c'.pl) kd.nm:=by rw[hkn];rfl
 unfold mP at q2
 rw[ekd]at q2
 clear q
 generalize jF p sd (p.at c'.kd c'.pl) kd=R at hR⊢
 generalize p.at c'.kd c'.pl=l at hR hw q2⊢
 have kv3:=aD.ext (e2.trans e3) hkv
 have hp3:=aD.ext E3 hp
 replace ha:=E3.tup Qb ha
 replace hba:=E3.tup Qb hba
 replace hca:=E3.tup Qb hca
 replace hwa:=E3.tup Qb hwa
 replace hcs:=aL.ext E3 hcs
 replace hws:=aL.ext E3 hws
 replace hov:=aD.ext E3 hov
 replace hlv:=aD.ext E3 hlv
 clear hoa hna hkv hs hp E2 E3 e1 e2 e3
 obtain⟨pa,la,ka,lv,kvs,rfl,hpa,hla,hls,hka,hks,el,eks⟩:=Pl.view hp3
 obtain⟨ka2,wa2,bda,rfl,hka2,hwa2,hbda⟩:=Kd.view kv3
 have named:0<=l->l<p.n->∃y,lv[l.toNat]? =some y/\∃b,y=V.ref b/\H3 b=some (.tup [.str (p.ls.getD l.toNat ("",0)).1,.int (p.ls.getD l.toNat ("",0)).2]):=λ l0 l1=>by
  have hlt:l.toNat<p.ls.length:=by unfold Pl.n at l1;omega
  obtain⟨y,hy,hdy⟩:=hls.nth' (List.getElem?_eq_getElem hlt)
  obtain⟨b,rfl,hb⟩:=Dx hdy
  have g1:(p.ls.getD l.toNat ("",0))=p.ls[l.toNat]:=by rw[List.getD_eq_getElem?_getD,List.getElem?_eq_getElem hlt];rfl
  rw[g1]
  exact⟨_,hy,b,rfl,hb⟩
 rcases hR with⟨l0,l1,rfl,hf⟩|⟨l0,l1,rfl,hf⟩|⟨rfl,hf⟩
 ·rw[hf]at q2
  obtain⟨y,hy,b,rfl,hb⟩:=named l0 l1
  have hbn:l.toNat<sd.bs.length:=by have:=SG.nb;unfold Pl.n at l1;omega
  have g2:(sd.bs.getD l.toNat 0)=sd.bs[l.toNat]:=by rw[List.getD_eq_getElem?_getD,List.getElem?_eq_getElem hbn];rfl
  rw[g2]at q2
  refine⟨_,rfl,rfl,_,rfl,bA (λ _=>?_) (λ cc=>absurd (decide_eq_true rfl) cc)⟩
  exact⟨_,rfl,pa,_,_,.ref la,rfl,rfl,aJ.of hpa,rfl,_,rfl,la,_,_,_,rfl,rfl,aJ.of hla,cZ l0 hy,b,_,_,_,rfl,rfl,aJ.of hb,rfl,_,rfl,a,_,_,.ref ba,rfl,rfl,aJ.of ha,rfl,_,rfl,ba,_,_,.int sd.bs[l.toNat],rfl,rfl,aJ.of hba,cZ l0 (by rw[List.getElem?_map,List.getElem?_eq_getElem hbn];rfl),by show 3<=sizeLine;decide,λ t ht=>q2 _ _ (aI.new ht _) ⟨t,_,rfl,Qb,aP,_,_,rfl,rfl,_,_,rfl,rfl,_,_,rfl,rfl,rfl⟩⟩
 ·rw[hf]at q2
  obtain⟨y,hy,b,rfl,hb⟩:=named l0 l1
  have hm:=hw l0 l1
  have hjl:kd.way.findIdx (· ==l)<kd.way.length:=List.findIdx_lt_length_of_exists ⟨l,hm,Qb⟩
  have hje:kd.way[kd.way.findIdx (· ==l)]=l:=by
   have:=List.findIdx_getElem (xs:=kd.way) (p:=(· ==l)) (w:=hjl)
   simpa using this
  have kw:=Po.kw kd hkm
  have hjb:kd.way.findIdx (· ==l)<kd.bds.length:=by omega
  have ekb:p.kb kd.nm l=kd.bds[kd.way.findIdx (· ==l)]:=by
   unfold Pl.kb
   rw[hkn,hk]
   show kd.bds.getD (kd.way.findIdx (· ==l)) 0=_
   rw[List.getD_eq_getElem?_getD,List.getElem?_eq_getElem hjb]
   rfl
  rw[ekb]at q2
  refine⟨_,rfl,rfl,_,rfl,bA (λ cc=>absurd cc Qd) (λ _=>?_)⟩
  refine⟨_,rfl,rfl,_,rfl,bA (λ _=>?_) (λ cc=>absurd (decide_eq_true rfl) cc)⟩
  refine⟨_,rfl,pa,_,_,.ref la,rfl,rfl,aJ.of hpa,rfl,_,rfl,la,_,_,_,rfl,rfl,aJ.of hla,cZ l0 hy,b,_,_,_,rfl,rfl,aJ.of hb,rfl,_,rfl,ka2,_,_,.str kd.nm,rfl,rfl,aJ.of hka2,rfl,?_⟩
  refine⟨_,rfl,ka2,_,_,.ref bda,rfl,rfl,aJ.of hka2,rfl,_,rfl,ka2,_,_,.ref wa2,rfl,rfl,aJ.of hka2,rfl,⟨wa2,_,rfl,hwa2⟩,_,rfl,wa2,_,.int l,kd.way.findIdx (· ==l),rfl,rfl,aJ.of hwa2,rfl,by simp[fA],⟨⟨.int l,by simp[hjl,hje],by simp[dB]⟩,λ m x hm2 hx=>?_⟩,?_⟩
  ·rw[List.getElem?_map]at hx
   obtain⟨w',hw',rfl⟩:=Option.map_eq_some_iff.mp hx
   obtain⟨hlt,he⟩:=List.getElem?_eq_some_iff.mp hw'
   have:=List.not_of_lt_findIdx hm2
   rw[he]at this
   simpa[dB]using this
  exact⟨bda,_,_,.int kd.bds[kd.way.findIdx (· ==l)],rfl,rfl,aJ.of hbda,cZ Qa (by simp[hjb]),by show 4<=sizeLine;decide,λ t ht=>q2 _ _ (aI.new ht _) ⟨t,_,rfl,Qb,aP,_,_,rfl,rfl,_,_,rfl,rfl,_,_,rfl,rfl,_,_,rfl,rfl,rfl⟩⟩
 ·rw[hf]at q2
  refine⟨_,rfl,rfl,_,rfl,bA (λ cc=>absurd cc Qd) (λ _=>?_)⟩
  refine⟨_,rfl,rfl,_,rfl,bA (λ cc=>absurd cc Qd) (λ _=>?_)⟩
  have ic:=SG.nc
  refine⟨_,rfl,a,_,_,.ref ca,rfl,rfl,aJ.of ha,rfl,ca,rfl,⟨cv,aJ.of hca⟩,gP (hJ (ys:=cv)) (λ i xs H4=>aI [] H3 H4/\aL [] H4 (((sd.cs.take i).filter λ d=>!(d.nm==c.nm)).map Cd.d) xs) ⟨aI.refl,rfl⟩ (λ _ _ _ h=>aJ.of (h.1.tup Qb hca)) ?_ ?_⟩
  ·rintro i y xs H4 hy hi ⟨e,hxs⟩
   obtain⟨d,hd,hdy⟩:=hcs.nth hy
   have hdm:=List.mem_of_getElem? hd
   have hdy2:=aD.ext e hdy
   have tk:sd.cs.take (i+1)=sd.cs.take i++[d]:=by rw[List.take_add_one,hd];rfl
   refine⟨_,rfl,_,rfl,d.d,c.d,hdy2,aD.ext e hov,(qI G SG hdm).shaped,(qI G SG hc).shaped,_,rfl,?_⟩
   rw[BH SG.nd hdm hc (qI G SG hc)]
   have small:xs.length<1000:=by
    rw[hxs.length,List.length_map]
    have:=List.length_filter_le (λ d:Cd=>!(d.nm==c.nm)) (sd.cs.take i)
    rw[List.length_take]at this
    omega
   refine bA (λ cc=>?_) (λ cc=>?_)
   ·refine⟨_,rfl,cB Qa,nx hi ⟨e,?_⟩⟩
    rw[tk,List.filter_append,List.map_append]
    refine aL.append hxs ?_
    have:([d].filter λ d=>!(d.nm==c.nm))=[d]:=by rw[List.filter_cons,if_pos cc];rfl
    rw[this]
    exact⟨_,_,rfl,hdy2,rfl⟩
   ·refine nx hi ⟨e,?_⟩
    rw[tk,List.filter_append,List.map_append]
    have:([d].filter λ d=>!(d.nm==c.nm))=[]:=by rw[List.filter_cons,if_neg cc];rfl
    rw[this,List.map_nil,List.append_nil]
    exact hxs
  ·rintro xs H4 ⟨e,hxs⟩ th hth
   rw[show cv.length=sd.cs.length from Qa,List.take_length]at hxs
   have e5:aI [] H4 (aA H4 th (.lst xs)):=aI.new hth _
   have h5:(aA H4 th (.lst xs)) th=some (.lst xs):=aP
   generalize aA H4 th (.lst xs)=H5 at e5 h5⊢
   replace hxs:=aL.ext e5 hxs
   have E5:=e.trans e5
   have lx:xs.length<=30:=by
    rw[hxs.length,List.length_map]
    exact Nat.le_trans (List.length_filter_le _ _) ic
   refine⟨_,rfl,a,_,_,.ref ba,rfl,rfl,aJ.of (E5.tup Qb ha),rfl,_,rfl,_,rfl,by show 1<=sizeLine;decide,λ o1 ho1=>?_⟩
   have e6:aI [] H5 (aA H5 o1 (.lst [.ref na])):=aI.new ho1 _
   have h6:(aA H5 o1 (.lst [.ref na])) o1=some (.lst [.ref na]):=aP
   generalize aA H5 o1 (.lst [.ref na])=H6 at e6 h6⊢
   refine⟨th,o1,xs,[.ref na],rfl,rfl,e6.lst Qb h5,h6,Nat.le_trans (show xs.length+1<=1000 from Qa) iM,λ o2 ho2=>?_⟩
   have e7:aI [] H6 (aA H6 o2 (.lst (xs++[.ref na]))):=aI.new ho2 _
   have h7:(aA H6 o2 (.lst (xs++[.ref na]))) o2=some (.lst (xs++[.ref na])):=aP
   generalize aA H6 o2 (.lst (xs++[.ref na]))=H7 at e7 h7⊢
   have E7:=E5.trans (e6.trans e7)
   have f7:aD [] H7 (.list (((sd.cs.filter λ d=>!(d.nm==c.nm))++[c']).map Cd.d)) (.ref o2):=by
    refine⟨o2,_,rfl,Qb,h7,?_⟩
    rw[List.map_append]
    exact aL.append (aL.ext (e6.trans e7) hxs) ⟨_,_,rfl,aD.ext E7 hlv,rfl⟩
   refine⟨_,_,rfl,f7,Ox SG.nd hc en,?_,λ cs' sv H8 pm pw e8 f8=>?_⟩
   ·rw[List.length_append]
    have:=List.length_filter_le (λ d:Cd=>!(d.nm==c.nm)) sd.cs
    show _+1<64
    omega
   obtain rfl:=Ov SG.nd SG.srt hc en pm pw
   obtain⟨sa,ys,rfl,_,hsa,hys⟩:=f8
   refine⟨sa,ys,rfl,.inl ⟨aQ.of hsa,λ tp htp=>?_⟩⟩
   have e9:aI [] H8 (aA H8 tp (.tup ys)):=aI.new htp _
   have h9:(aA H8 tp (.tup ys)) tp=some (.tup ys):=aP
   generalize aA H8 tp (.tup ys)=H9 at e9 h9⊢
   have E9:=E7.trans (e8.trans e9)
   refine⟨_,rfl,a,_,_,.ref wa,rfl,rfl,aJ.of (E9.tup Qb ha),rfl,by show 3<=sizeLine;decide,λ t ht=>?_⟩
   have e10:aI [] H9 (aA H9 t (.tup [.ref ba,.ref tp,.ref wa])):=aI.new ht _
   have E10:=E9.trans e10
   refine q2 _ _ E10 ⟨t,_,rfl,Qb,aP,_,_,rfl,⟨ba,_,rfl,Qb,E10.tup Qb hba,aL.ints _⟩,_,_,rfl,⟨tp,ys,rfl,Qb,e10.tup Qb h9,aL.ext (e9.trans e10) hys⟩,_,_,rfl,⟨wa,wv,rfl,Qb,E10.tup Qb hwa,aL.ext E10 hws⟩,rfl⟩
end
def vT:Sp:=λ vs H Q _=>∃(p:Pl) (s:Sd) (v u:V) (x:Str),vs=[v,u,.str x]/\aD [] H p.d v/\aD [] H s.d u/\dP p/\eI p s/\∀r H',aI [] H H'->aD [] H' (fN s x (dN p s x)) r->Q r H'
section
variable{P:Program}{w:World}{K:Qf}{mg:Qk}{base:Heap}
abbrev pH:Stmt:=top 44
theorem sc__law_pull_due:bT ["_law_plan_here","_law_stand_here","_law_name","_law_found","_law_one","_law_later","_law_goal","_law_wait","_law_bars_here"] ["_law_plan_here","_law_stand_here","_law_name"] (aT pH):=⟨rfl,rfl,rfl,Qd,rfl,Qd,Qd⟩
theorem Rk{f:Addr}{fd:FuncData}(F:bO K "_law_pull_due" "_law_pull_due" pH f fd)(T:Txt K mg)(cW:aZ P w K mg base "_law_lane" 2 ["_law_plan_here","_law_one"] iL)(qV:aZ P w K mg base "_law_bars" 3 ["_law_plan_here","_law_cards","_law_wait"] vP)(oR:aZ P w K mg base "_law_came" 4 ["_law_plan_here","_law_stand_here","_law_one","_law_later"] rS):
  bD P w K mg base bM 5 f fd ["_law_plan_here","_law_stand_here","_law_name"] vT:=by
 refine F.ok sc__law_pull_due (λ vs H Q E h=>?_) (λ cdv A outer s H vs Q E hr h=>?_)
 ·obtain⟨p,sd,v,u,x,rfl,_⟩:=h
  rfl
 obtain⟨p,sd,v,u,x,rfl,hp,hs,G,SG,q⟩:=h
 have hu:=hr.units
 have Po:=G.ok
 refine'⟨_,?hh,?rr⟩
 case hh=>(exists Qg,iP sc__law_pull_due.nd (aO 3) (Or.inl rfl) rfl ?_ (eH ["_law_one","_law_name"] 1 [2]) ?_ ?_ ?_ ?_ ?_ ?_ ?_,(by exact⟨rfl,Qd,Qd,(show∀y:Str×NameKind,y∈_->y.2=NameKind.free->(aT pH).names.lookup y.1=some .cell\/(aT pH).names.lookup y.1=some .free from Qd)⟩),Qd,Qc,fL ?_,aN aX (pv 1) aK (λ _ _=>rfl),4,bI ?_ (aO 0) (Or.inl rfl) (Or.inr rfl),(by exact(show(["_law_one","_law_name"]:List Str).Nodup from Qd)),eZ Qc,4,hZ ?_,bN cG ?_ (pv 1) (bH _),aN ?_ (pv 0) aK (λ _ _=>rfl),(by exact(show cQ _ (fK K)from aX)),4,(pv 0),Qg,bS ?_ ?_ bR,bN (pT hu) (pv 3) ?_ (bH _),gB aG,aV ?_,bF ?_,dF ?_,aE bJ ?_,aE (pv 2) aG,Qg,bG sc__law_pull_due.nd (aO 4) (Or.inl rfl) ?_,aN ix_list (pv 3) aK (λ _ _=>rfl),Qg,bS ?_ ?_ bR,bN cG ?_ ?_ (bH _),bB cW hr ?_ rfl ?_,aE (pv 0) ?_,aE (pv 4) aG,Qc,bL cY rfl T.b_len PySem.boot_len ?_,aE ?_ aG,aN aX (pv 0) aK (λ _ _=>rfl),aV ?_,bF ?_,dF ?_,aE bJ ?_,aE (pv 2) aG,Qg,bS ?_ ?_ bR,fS ?_,aN aX (pv 4) aK (λ _ _=>rfl),aV ?_,bF ?_,dF ?_,aE bJ ?_,aE (pv 2) aG,Qg,bG sc__law_pull_due.nd (aO 5) (Or.inl rfl) ?_,dF ?_,aE (pv 2) ?_,Qe,aN aX (pv 4) aK (λ _ _=>rfl),Qe,bK dZ ?_ aK,aN aX (pv 4) aK (λ _ _=>rfl),aE jK aG,Qg,bG sc__law_pull_due.nd (aO 6) (Or.inl rfl) ?_,bB cW hr ?_ rfl ?_,aE (pv 0) ?_,aE (pv 5) aG,Qc,Qg,iA PassesOwn.never rfl ?_ ?_ ?_,fL ?_,aN aX (pv 1) aK (λ _ _=>rfl),bI sc__law_pull_due.nd (aO 7) (Or.inl rfl) (Or.inl rfl),Qg,bG sc__law_pull_due.nd (aO 8) (Or.inl rfl) ?_,xB ?_ ?_,iB cG ?_ (pv 2) (bH _),aN aX (pv 7) aK (λ _ _=>rfl),xA ?_,iB nJ ?_ (pv 6) (bH _),aN aX (pv 7) aK (λ _ _=>rfl),aV ?_,bS ?_ ?_ bR,PW.pt ?_,sL ?_ ?_,fS (pv 8),wX ?_,fS ?_,bB qV hr ?_ rfl ?_,aE (pv 0) ?_,Qe,aN aX (pv 1) aK (λ _ _=>rfl),aE (pv 7) aG,Qc,aV ?_,bF ?_,dF ?_,aE bJ ?_,aE (pv 2) ?_,aE ?_ aG,aN aX (pv 7) aK (λ _ _=>rfl),aV ?_,bF ?_,bB oR hr ?_ rfl ?_,aE (pv 0) ?_,aE (pv 1) ?_,aE (pv 4) ?_,aE (pv 5) aG,Qc)
 obtain⟨a,ba,ca,wa,cv,wv,rfl,ha,hba,hca,hcs,hwa,hws,ec,ew⟩:=Sd.view hs
 obtain⟨pa,la,ka,lv,kvs,rfl,hpa,hla,hls,hka,hks,el,eks⟩:=Pl.view hp
 have ic:=SG.nc
 refine dS λ R hR=>?_
 refine⟨_,rfl,a,_,_,.ref ca,rfl,rfl,aJ.of ha,rfl,ca,rfl,⟨cv,aJ.of hca⟩,gP (hJ (ys:=cv)) (λ i xs H2=>aI [] H H2/\aL [] H2 (((sd.cs.take i).filter λ c=>c.nm==x).map Cd.d) xs) ⟨aI.refl,rfl⟩ (λ _ _ _ h=>aJ.of (h.1.tup Qb hca)) ?_ ?_⟩
 ·rintro i y xs H2 hy hi ⟨e,hxs⟩
  obtain⟨c,hc,hdy⟩:=hcs.nth hy
  have hdy2:=aD.ext e hdy
  obtain⟨b,rfl,hb⟩:=Cd.view hdy2
  have tk:sd.cs.take (i+1)=sd.cs.take i++[c]:=by rw[List.take_add_one,hc];rfl
  refine⟨_,rfl,b,_,_,.str c.nm,rfl,rfl,aJ.of hb,rfl,_,rfl,rfl,_,rfl,?_⟩
  have small:xs.length<1000:=by
   rw[hxs.length,List.length_map]
   have:=List.length_filter_le (λ c:Cd=>c.nm==x) (sd.cs.take i)
   rw[List.length_take]at this
   omega
  refine bA (λ cc=>?_) (λ cc=>?_)
  ·have ck:c.nm=x:=by simpa using cc
   refine⟨_,rfl,cB Qa,nx hi ⟨e,?_⟩⟩
   rw[tk,List.filter_append,List.map_append]
   refine aL.append hxs ?_
   have:([c].filter λ c=>c.nm==x)=[c]:=by simp[ck]
   rw[this]
   exact⟨_,_,rfl,hdy2,rfl⟩
  ·have ck:¬c.nm=x:=by simpa using cc
   refine nx hi ⟨e,?_⟩
   rw[tk,List.filter_append,List.map_append]
   have:([c].filter λ c=>c.nm==x)=[]:=by simp[ck]
   rw[this,List.map_nil,List.append_nil]
   exact hxs
 rintro xs H2 ⟨e2,hxs⟩ t ht
 rw[show cv.length=sd.cs.length from Qa,List.take_length]at hxs
 have e3:aI [] H2 (aA H2 t (.lst xs)):=aI.new ht _
 have h3:(aA H2 t (.lst xs)) t=some (.lst xs):=aP
 generalize aA H2 t (.lst xs)=H3 at e3 h3⊢
 refine hR _ _ (dS λ R hR=>?_)
 refine⟨_,rfl,by show 0<=sizeLine;decide,λ t2 ht2=>?_⟩
 have e4:aI [] H3 (aA H3 t2 (.lst [])):=aI.new ht2 _
 have h4:(aA H3 t2 (.lst [])) t2=some (.lst []):=aP
 generalize aA H3 t2 (.lst [])=H4 at e4 h4⊢
 replace hxs:=aL.ext (e3.trans e4) hxs
 replace h3:=e4.lst Qb h3
 have E4:=e2.trans (e3.trans e4)
 have shF:Sh 2 (.list ((sd.cs.filter λ c=>c.nm==x).map Cd.d)):=Sh.lst λ d hd=>by
  obtain⟨c,hc,rfl⟩:=List.mem_map.mp hd
  exact qI G SG (List.mem_filter.mp hc).1
 refine⟨.list ((sd.cs.filter λ c=>c.nm==x).map Cd.d),.list [],⟨t,xs,rfl,Qb,h3,hxs⟩,⟨t2,[],rfl,Qb,h4,rfl⟩,shF.shaped,rfl,_,rfl,?_⟩
 have fh:=nW (p:=λ c:Cd=>c.nm==x) sd.cs
 replace fh:(sd.cs.filter λ c=>c.nm==x)[0]? =sd.cd? x:=fh
 cases hF:(sd.cs.filter λ c=>c.nm==x)with
 |nil=>
  rw[hF]at fh
  have hn:sd.cd? x=none:=fh.symm
  have ep:fN sd x (dN p sd x)= .tuple [.str "NoCard",.str x]:=by unfold dN dG;rw[hn];rfl
  rw[ep]at q
  refine bA (λ _=>?_) (λ cc=>absurd rfl cc)
  exact⟨_,rfl,by show 2<=sizeLine;decide,λ t ht=>q _ _ (E4.trans (aI.new ht _)) ⟨t,_,rfl,Qb,aP,_,_,rfl,rfl,_,_,rfl,rfl,rfl⟩⟩
 |cons c r=>
 rw[hF]at fh hxs
 have hc:sd.cd? x=some c:=fh.symm
 obtain⟨hcm,hcn⟩:=mO hc
 obtain⟨y,ys,rfl,hcy,_⟩:=hxs
 refine bA (λ cc=>nomatch cc) (λ _=>?_)
 obtain⟨b,rfl,hb⟩:=Cd.view hcy
 obtain⟨_,kd,hkd,p0,p1⟩:=SG.c c hcm
 refine hR _ _ (dS λ R hR=>?_)
 refine⟨_,rfl,t,_,_,.ref b,rfl,rfl,aQ.of h3,cZ Qc rfl,?_⟩
 refine hR _ _ (dS λ R hR=>?_)
 refine⟨_,rfl,_,rfl,p,_,b,c.nm,c.kd,c.pl,[.bl c.bk],kd,rfl,aD.ext E4 hp,Po,hb,hkd,(G.kn kd (eA hkd).1).2.1,p0,p1,λ H5 e5=>?_⟩
 have E5:=E4.trans e5
 replace hb:=e5.tup Qb hb
 replace hcy:=aD.ext e5 hcy
 refine⟨_,rfl,pa,_,_,.ref la,rfl,rfl,aJ.of (E5.tup Qb hpa),rfl,la,lv,rfl,.inr (aJ.of (E5.tup Qb hla)),rfl,_,rfl,?_⟩
 have hln:((lv.length:Nat):Int)=p.n:=by rw[el];rfl
 rw[hln]
 refine bA (λ cc=>?_) (λ cc=>?_)
 ·have co:p.lane c=p.n:=by
   have:=of_decide_eq_true cc
   injection this
  have ep:fN sd x (dN p sd x)= .tuple [.str "Out",.str x]:=by
   unfold dN dG
   rw[hc]
   dsimp only
   rw[if_pos co]
   rfl
  rw[ep]at q
  exact⟨_,rfl,by show 2<=sizeLine;decide,λ t ht=>q _ _ (E5.trans (aI.new ht _)) ⟨t,_,rfl,Qb,aP,_,_,rfl,rfl,_,_,rfl,rfl,rfl⟩⟩
 have co:¬p.lane c=p.n:=λ z=>cc (decide_eq_true (congrArg V.int z))
 refine hR _ _ (dS λ R hR=>?_)
 refine⟨_,rfl,b,_,_,.bl c.bk,rfl,rfl,aJ.of hb,rfl,_,rfl,?_⟩
 refine bA (λ cb=>?_) (λ cb=>?_)
 ·have ep:fN sd x (dN p sd x)= .tuple [.str "Blocked",.str x]:=by
   unfold dN dG
   rw[hc]
   dsimp only
   rw[if_neg co,if_pos cb]
   rfl
  rw[ep]at q
  exact⟨_,rfl,by show 2<=sizeLine;decide,λ t ht=>q _ _ (E5.trans (aI.new ht _)) ⟨t,_,rfl,Qb,aP,_,_,rfl,rfl,_,_,rfl,rfl,rfl⟩⟩
 have cb':c.bk=false:=by simpa using cb
 have p2:=sW hkd p1 co
 obtain⟨c',ec'⟩:∃c':Cd,c'=⟨x,c.kd,c.pl+1,false⟩:=⟨_,rfl⟩
 have n1:c'.nm=x:=by rw[ec']
 have n2:c'.kd=c.kd:=by rw[ec']
 have n3:c'.pl=c.pl+1:=by rw[ec']
 have n4:({c with pl:=c.pl+1}:Cd)=c':=by rw[ec',<-hcn,<-cb']
 have ep:dN p sd x=match sd.ws.find? (dJ p sd x (p.lane c'))with
  |some w=>.error (.waits w.ot)
  |none=>match dH p sd (p.lane c') c'.kd with
   |some r=>.error r
   |none=>.ok c':=by
  have hl:p.lane c'=p.at c.kd (c.pl+1):=by unfold Pl.lane;rw[n2,n3]
  unfold dN dG
  rw[hc]
  dsimp only
  rw[if_neg co,if_neg cb,hl,n2]
  dsimp only
  rw[n4]<;>rfl
 refine hR _ _ (dS λ R hR=>?_)
 refine⟨_,rfl,_,rfl,b,_,_,.str c.kd,rfl,rfl,aJ.of hb,rfl,_,rfl,b,_,_,.int c.pl,rfl,rfl,aJ.of hb,rfl,_,_,rfl,rfl,by show 4<=sizeLine;decide,λ t3 ht3=>?_⟩
 have e6:aI [] H5 (aA H5 t3 (.tup [.str x,.str c.kd,.int (c.pl+1),.bl false])):=aI.new ht3 _
 have h6:(aA H5 t3 (.tup [.str x,.str c.kd,.int (c.pl+1),.bl false])) t3=some (.tup [.str x,.str c.kd,.int (c.pl+1),.bl false]):=aP
 generalize aA H5 t3 (.tup [.str x,.str c.kd,.int (c.pl+1),.bl false])=H6 at e6 h6⊢
 have E6:=E5.trans e6
 refine hR _ _ (dS λ R hR=>?_)
 refine⟨_,rfl,_,rfl,p,_,t3,x,c.kd,c.pl+1,[.bl false],kd,rfl,aD.ext E6 hp,Po,h6,hkd,(G.kn kd (eA hkd).1).2.1,Qa,Qa,λ H7 e7=>?_⟩
 have E7:=E6.trans e7
 have hl:p.lane c'=p.at c.kd (c.pl+1):=by unfold Pl.lane;rw[n2,n3]
 rw[<-hl]
 replace hcy:=aD.ext (e6.trans e7) hcy
 have hla':aD [] H7 c'.d (.ref t3):=by rw[ec'];exact uA (e7.tup Qb h6)
 have hp7:=aD.ext E7 hp
 have hs7:=aD.ext E7 hs
 replace ha:=E7.tup Qb ha
 replace hca:=E7.tup Qb hca
 replace hwa:=E7.tup Qb hwa
 replace hcs:=aL.ext E7 hcs
 replace hws:=aL.ext E7 hws
 have q2:∀r H',aI [] H7 H'->aD [] H' (fN sd x (dN p sd x)) r->Q r H':=λ r H' e=>q r H' (E7.trans e)
 have hk':p.kd? c'.kd=some kd:=by rw[n2];exact hkd
 have p0':0<=c'.pl:=by omega
 have p1':c'.pl<=kd.way.length+1:=by omega
 clear q e2 e3 e4 e5 e6 e7 E4 E5 E6 E7 h3 h4 h6 hb hp hs hla hka hls hks hpa hba hF fh ht3 ec' n3 n4 hl co cb cb' cc p0 p1 p2
 obtain⟨l,el2⟩:∃l,l=p.lane c':=⟨_,rfl⟩
 rw[<-el2]at ep⊢
 refine hR _ _ ?_
 refine⟨_,rfl,a,_,_,.ref wa,rfl,rfl,aJ.of ha,rfl,wa,rfl,⟨wv,aJ.of hwa⟩,tR (xs:=wv) (λ i σ H8=>∃x7 x8:Option V,σ=[some (V.ref pa),some (V.ref a),some (V.str x),some (V.ref t),some (V.ref b),some (V.ref t3),some (V.int l),x7,x8]/\aI [] H7 H8/\∀j w,j<i->sd.ws[j]? =some w->dJ p sd x l w=false) ⟨_,_,rfl,aI.refl,λ j w z=>absurd z (Nat.not_lt_zero _)⟩ ?_ ?_ ?_⟩
 ·rintro i σ H8 hi ⟨x7,x8,rfl,e8,_⟩
  exact aJ.of (e8.tup Qb hwa)
 ·rintro i y σ H8 hy ⟨x7,x8,rfl,e8,hb8⟩
  obtain⟨wt,hwt,hdy⟩:=hws.nth hy
  obtain⟨b2,rfl,hb2⟩:=Wt.view (aD.ext e8 hdy)
  have nxt:dJ p sd x l wt=false->∀j w,j<i+1->sd.ws[j]? =some w->dJ p sd x l w=false:=λ hn j w hj hw=>by
   by_cases z:j=i
   ·subst z
    obtain rfl:=Option.some.inj (hwt.symm.trans hw)
    exact hn
   ·exact hb8 j w Qa hw
  obtain⟨_,h2,_,_⟩:=SG.w wt (List.mem_of_getElem? hwt)
  obtain⟨c2,hc2⟩:=Option.isSome_iff_exists.mp (xX h2)
  refine⟨_,rfl,b2,_,_,.str wt.cd,rfl,rfl,aJ.of hb2,rfl,_,rfl,rfl,_,rfl,?_⟩
  refine bA (λ c1=>?_) (λ c1=>?_)
  ·have w1:(wt.cd==x)=true:=by simpa using c1
   refine⟨_,rfl,b2,_,_,.int wt.ln,rfl,rfl,aJ.of hb2,rfl,_,rfl,_,_,rfl,rfl,?_⟩
   refine⟨_,rfl,_,rfl,?_⟩
   refine bA (λ c3=>?_) (λ c3=>?_)
   ·refine⟨_,rfl,_,rfl,a,_,_,.ref ca,rfl,rfl,aJ.of (e8.tup Qb ha),rfl,_,rfl,p,sd,_,ca,b2,cv,wt.cd,wt.ot,wt.ln,c2,rfl,aD.ext e8 hp7,G,SG,e8.tup Qb hca,aL.ext e8 hcs,hb2,hc2,λ H9 e9=>?_⟩
    have e89:=e8.trans e9
    refine⟨_,rfl,?_⟩
    refine bA (λ c4=>?_) (λ c4=>?_)
    ·have hbt:dJ p sd x l wt=true:=by unfold dJ;rw[w1,c3,c4];rfl
     have hfd:sd.ws.find? (dJ p sd x l)=some wt:=qD _ i wt hb8 hwt hbt
     rw[hfd]at ep
     have ep2:fN sd x (dN p sd x)= .tuple [.str "Waits",.str x,.str wt.ot]:=by rw[ep];rfl
     rw[ep2]at q2
     exact⟨_,rfl,_,rfl,b2,_,_,.str wt.ot,rfl,rfl,aJ.of (e9.tup Qb hb2),rfl,by show 3<=sizeLine;decide,λ t ht=>q2 _ _ (e89.trans (aI.new ht _)) ⟨t,_,rfl,Qb,aP,_,_,rfl,rfl,_,_,rfl,rfl,_,_,rfl,rfl,rfl⟩⟩
    ·refine⟨_,_,rfl,e89,nxt ?_⟩
     unfold dJ
     rw[Bool.eq_false_iff.mpr c4,Bool.and_false,Bool.and_false]
   ·refine⟨_,_,rfl,e8,nxt ?_⟩
    unfold dJ
    rw[Bool.eq_false_iff.mpr c3,Bool.false_and,Bool.and_false]
  ·have w1:(wt.cd==x)=false:=by simpa using c1
   refine⟨_,rfl,_,rfl,?_⟩
   refine bA (λ c3=>nomatch c3) (λ c3=>?_)
   refine⟨_,_,rfl,e8,nxt ?_⟩
   unfold dJ
   rw[w1,Bool.false_and]
 ·rintro σ H8 ⟨x7,x8,rfl,e8,hb8⟩
  have hfd:sd.ws.find? (dJ p sd x l)=none:=qC _ wv.length hb8 Qa
  rw[hfd]at ep
  have ep2:fN sd x (dN p sd x)=mP p sd c':=by
   rw[ep]
   unfold mP
   rw[<-el2]
   dsimp only
   cases dH p sd l c'.kd with
   |some r=>rw[n1];rfl
   |none=>rfl
  rw[ep2]at q2
  exact⟨_,rfl,_,rfl,_,rfl,_,rfl,p,sd,_,_,_,_,c,c',kd,rfl,aD.ext e8 hp7,aD.ext e8 hs7,aD.ext e8 hcy,aD.ext e8 hla',G,SG,hcm,n1.trans hcn.symm,n2,hk',p0',p1',λ r H9 e9=>q2 r H9 (e8.trans e9)⟩
end
def vU:Sp:=λ vs H Q _=>∃(p:Pl) (s:Sd) (v u:V) (x:Str),vs=[v,u,.str x]/\aD [] H p.d v/\aD [] H s.d u/\dP p/\eI p s/\∀r H',aI [] H H'->aD [] H' (fN s x (dD p s x)) r->Q r H'
section
variable{P:Program}{w:World}{K:Qf}{mg:Qk}{base:Heap}
abbrev pK:Stmt:=top 43
theorem sc__law_back_due:bT ["_law_plan_here","_law_stand_here","_law_name","_law_found","_law_one"] ["_law_plan_here","_law_stand_here","_law_name"] (aT pK):=⟨rfl,rfl,rfl,Qd,rfl,Qd,Qd⟩
theorem Sv{f:Addr}{fd:FuncData}(F:bO K "_law_back_due" "_law_back_due" pK f fd)(T:Txt K mg)(cW:aZ P w K mg base "_law_lane" 2 ["_law_plan_here","_law_one"] iL)(oR:aZ P w K mg base "_law_came" 4 ["_law_plan_here","_law_stand_here","_law_one","_law_later"] rS):
  bD P w K mg base bM 5 f fd ["_law_plan_here","_law_stand_here","_law_name"] vU:=by
 refine F.ok sc__law_back_due (λ vs H Q E h=>?_) (λ cdv A outer s H vs Q E hr h=>?_)
 ·obtain⟨p,sd,v,u,x,rfl,_⟩:=h
  rfl
 obtain⟨p,sd,v,u,x,rfl,hp,hs,G,SG,q⟩:=h
 have hu:=hr.units
 have Po:=G.ok
 refine'⟨_,?hh,?rr⟩
 case hh=>(exists Qg,iP sc__law_back_due.nd (aO 3) (Or.inl rfl) rfl ?_ (eH ["_law_one","_law_name"] 1 [2]) ?_ ?_ ?_ ?_ ?_ ?_ ?_,(by exact⟨rfl,Qd,Qd,(show∀y:Str×NameKind,y∈_->y.2=NameKind.free->(aT pK).names.lookup y.1=some .cell\/(aT pK).names.lookup y.1=some .free from Qd)⟩),Qd,Qc,fL ?_,aN aX (pv 1) aK (λ _ _=>rfl),4,bI ?_ (aO 0) (Or.inl rfl) (Or.inr rfl),(by exact(show(["_law_one","_law_name"]:List Str).Nodup from Qd)),eZ Qc,4,hZ ?_,bN cG ?_ (pv 1) (bH _),aN ?_ (pv 0) aK (λ _ _=>rfl),(by exact(show cQ _ (fK K)from aX)),4,(pv 0),Qg,bS ?_ ?_ bR,bN (pT hu) (pv 3) ?_ (bH _),gB aG,aV ?_,bF ?_,dF ?_,aE bJ ?_,aE (pv 2) aG,Qg,bG sc__law_back_due.nd (aO 4) (Or.inl rfl) ?_,aN ix_list (pv 3) aK (λ _ _=>rfl),Qg,bS ?_ ?_ bR,bN cG ?_ ?_ (bH _),bB cW hr ?_ rfl ?_,aE (pv 0) ?_,aE (pv 4) aG,Qc,bL cY rfl T.b_len PySem.boot_len ?_,aE ?_ aG,aN aX (pv 0) aK (λ _ _=>rfl),aV ?_,bF ?_,dF ?_,aE bJ ?_,aE (pv 2) aG,Qg,bS ?_ ?_ bR,fS ?_,aN aX (pv 4) aK (λ _ _=>rfl),aV ?_,bF ?_,dF ?_,aE bJ ?_,aE (pv 2) aG,Qg,bS ?_ ?_ bR,bN (pT hu) ?_ aK (bH _),aN aX (pv 4) aK (λ _ _=>rfl),aV ?_,bF ?_,dF ?_,aE bJ ?_,aE (pv 2) aG,aV ?_,bF ?_,bB oR hr ?_ rfl ?_,aE (pv 0) ?_,aE (pv 1) ?_,aE (pv 4) ?_,aE ?_ aG,dF ?_,aE (pv 2) ?_,Qe,aN aX (pv 4) aK (λ _ _=>rfl),Qe,bK pR ?_ aK,aN aX (pv 4) aK (λ _ _=>rfl),aE jK aG,Qc)
 obtain⟨a,ba,ca,wa,cv,wv,rfl,ha,hba,hca,hcs,hwa,hws,ec,ew⟩:=Sd.view hs
 obtain⟨pa,la,ka,lv,kvs,rfl,hpa,hla,hls,hka,hks,el,eks⟩:=Pl.view hp
 have ic:=SG.nc
 refine⟨_,rfl,a,_,_,.ref ca,rfl,rfl,aJ.of ha,rfl,ca,rfl,⟨cv,aJ.of hca⟩,gP (hJ (ys:=cv)) (λ i xs H2=>aI [] H H2/\aL [] H2 (((sd.cs.take i).filter λ c=>c.nm==x).map Cd.d) xs) ⟨aI.refl,rfl⟩ (λ _ _ _ h=>aJ.of (h.1.tup Qb hca)) ?_ ?_⟩
 ·rintro i y xs H2 hy hi ⟨e,hxs⟩
  obtain⟨c,hc,hdy⟩:=hcs.nth hy
  have hdy2:=aD.ext e hdy
  obtain⟨b,rfl,hb⟩:=Cd.view hdy2
  have tk:sd.cs.take (i+1)=sd.cs.take i++[c]:=by rw[List.take_add_one,hc];rfl
  refine⟨_,rfl,b,_,_,.str c.nm,rfl,rfl,aJ.of hb,rfl,_,rfl,rfl,_,rfl,?_⟩
  have small:xs.length<1000:=by
   rw[hxs.length,List.length_map]
   have:=List.length_filter_le (λ c:Cd=>c.nm==x) (sd.cs.take i)
   rw[List.length_take]at this
   omega
  refine bA (λ cc=>?_) (λ cc=>?_)
  ·have ck:c.nm=x:=by simpa using cc
   refine⟨_,rfl,cB Qa,nx hi ⟨e,?_⟩⟩
   rw[tk,List.filter_append,List.map_append]
   refine aL.append hxs ?_
   have:([c].filter λ c=>c.nm==x)=[c]:=by simp[ck]
   rw[this]
   exact⟨_,_,rfl,hdy2,rfl⟩
  ·have ck:¬c.nm=x:=by simpa using cc
   refine nx hi ⟨e,?_⟩
   rw[tk,List.filter_append,List.map_append]
   have:([c].filter λ c=>c.nm==x)=[]:=by simp[ck]
   rw[this,List.map_nil,List.append_nil]
   exact hxs
 rintro xs H2 ⟨e2,hxs⟩ t ht
 rw[show cv.length=sd.cs.length from Qa,List.take_length]at hxs
 have e3:aI [] H2 (aA H2 t (.lst xs)):=aI.new ht _
 have h3:(aA H2 t (.lst xs)) t=some (.lst xs):=aP
 generalize aA H2 t (.lst xs)=H3 at e3 h3⊢
 refine⟨_,rfl,by show 0<=sizeLine;decide,λ t2 ht2=>?_⟩
 have e4:aI [] H3 (aA H3 t2 (.lst [])):=aI.new ht2 _
 have h4:(aA H3 t2 (.lst [])) t2=some (.lst []):=aP
 generalize aA H3 t2 (.lst [])=H4 at e4 h4⊢
 replace hxs:=aL.ext (e3.trans e4) hxs
 replace h3:=e4.lst Qb h3
 have E4:=e2.trans (e3.trans e4)
 have shF:Sh 2 (.list ((sd.cs.filter λ c=>c.nm==x).map Cd.d)):=Sh.lst λ d hd=>by
  obtain⟨c,hc,rfl⟩:=List.mem_map.mp hd
  exact qI G SG (List.mem_filter.mp hc).1
 refine⟨.list ((sd.cs.filter λ c=>c.nm==x).map Cd.d),.list [],⟨t,xs,rfl,Qb,h3,hxs⟩,⟨t2,[],rfl,Qb,h4,rfl⟩,shF.shaped,rfl,_,rfl,?_⟩
 have fh:=nW (p:=λ c:Cd=>c.nm==x) sd.cs
 replace fh:(sd.cs.filter λ c=>c.nm==x)[0]? =sd.cd? x:=fh
 cases hF:(sd.cs.filter λ c=>c.nm==x)with
 |nil=>
  rw[hF]at fh
  have hn:sd.cd? x=none:=fh.symm
  have ep:fN sd x (dD p sd x)= .tuple [.str "NoCard",.str x]:=by unfold dD dG;rw[hn];rfl
  rw[ep]at q
  refine bA (λ _=>?_) (λ cc=>absurd rfl cc)
  exact⟨_,rfl,by show 2<=sizeLine;decide,λ t ht=>q _ _ (E4.trans (aI.new ht _)) ⟨t,_,rfl,Qb,aP,_,_,rfl,rfl,_,_,rfl,rfl,rfl⟩⟩
 |cons c r=>
 rw[hF]at fh hxs
 have hc:sd.cd? x=some c:=fh.symm
 obtain⟨hcm,hcn⟩:=mO hc
 obtain⟨y,ys,rfl,hcy,_⟩:=hxs
 refine bA (λ cc=>nomatch cc) (λ _=>?_)
 obtain⟨b,rfl,hb⟩:=Cd.view hcy
 obtain⟨_,kd,hkd,p0,p1⟩:=SG.c c hcm
 refine⟨_,rfl,t,_,_,.ref b,rfl,rfl,aQ.of h3,cZ Qc rfl,?_⟩
 refine⟨_,rfl,_,rfl,p,_,b,c.nm,c.kd,c.pl,[.bl c.bk],kd,rfl,aD.ext E4 hp,Po,hb,hkd,(G.kn kd (eA hkd).1).2.1,p0,p1,λ H5 e5=>?_⟩
 have E5:=E4.trans e5
 replace hb:=e5.tup Qb hb
 replace hcy:=aD.ext e5 hcy
 refine⟨_,rfl,pa,_,_,.ref la,rfl,rfl,aJ.of (E5.tup Qb hpa),rfl,la,lv,rfl,.inr (aJ.of (E5.tup Qb hla)),rfl,_,rfl,?_⟩
 have hln:((lv.length:Nat):Int)=p.n:=by rw[el];rfl
 rw[hln]
 refine bA (λ cc=>?_) (λ cc=>?_)
 ·have co:p.lane c=p.n:=by
   have:=of_decide_eq_true cc
   injection this
  have ep:fN sd x (dD p sd x)= .tuple [.str "Out",.str x]:=by
   unfold dD dG
   rw[hc]
   dsimp only
   rw[if_pos co]
   rfl
  rw[ep]at q
  exact⟨_,rfl,by show 2<=sizeLine;decide,λ t ht=>q _ _ (E5.trans (aI.new ht _)) ⟨t,_,rfl,Qb,aP,_,_,rfl,rfl,_,_,rfl,rfl,rfl⟩⟩
 have co:¬p.lane c=p.n:=λ z=>cc (decide_eq_true (congrArg V.int z))
 refine⟨_,rfl,b,_,_,.bl c.bk,rfl,rfl,aJ.of hb,rfl,_,rfl,?_⟩
 refine bA (λ cb=>?_) (λ cb=>?_)
 ·have ep:fN sd x (dD p sd x)= .tuple [.str "Blocked",.str x]:=by
   unfold dD dG
   rw[hc]
   dsimp only
   rw[if_neg co,if_pos cb]
   rfl
  rw[ep]at q
  exact⟨_,rfl,by show 2<=sizeLine;decide,λ t ht=>q _ _ (E5.trans (aI.new ht _)) ⟨t,_,rfl,Qb,aP,_,_,rfl,rfl,_,_,rfl,rfl,rfl⟩⟩
 have cb':c.bk=false:=by simpa using cb
 refine⟨_,rfl,b,_,_,.int c.pl,rfl,rfl,aJ.of hb,rfl,.int c.pl,.int 0,rfl,rfl,rfl,rfl,?_⟩
 refine⟨_,rfl,?_⟩
 have ei:PyData.eqv (.int c.pl) (.int 0)=decide (c.pl=0):=by
  by_cases z:c.pl=0
  ·rw[z];rfl
  ·rw[decide_eq_false z]
   simp[PyData.eqv,z]
 rw[ei]
 refine bA (λ c0=>?_) (λ c0=>?_)
 ·have z0:c.pl=0:=by simpa using c0
  have ep:fN sd x (dD p sd x)= .tuple [.str "InYard",.str x]:=by
   unfold dD dG
   rw[hc]
   dsimp only
   rw[if_neg co,if_neg cb]
   dsimp only
   rw[if_pos z0]
   rfl
  rw[ep]at q
  exact⟨_,rfl,by show 2<=sizeLine;decide,λ t ht=>q _ _ (E5.trans (aI.new ht _)) ⟨t,_,rfl,Qb,aP,_,_,rfl,rfl,_,_,rfl,rfl,rfl⟩⟩
 have z0:¬c.pl=0:=by simpa using c0
 obtain⟨c',ec'⟩:∃c':Cd,c'=⟨x,c.kd,c.pl-1,false⟩:=⟨_,rfl⟩
 have n1:c'.nm=x:=by rw[ec']
 have n2:c'.kd=c.kd:=by rw[ec']
 have n3:c'.pl=c.pl-1:=by rw[ec']
 have n4:({c with pl:=c.pl-1}:Cd)=c':=by rw[ec',<-hcn,<-cb']
 have hl:p.lane c'=p.at c.kd (c.pl-1):=by unfold Pl.lane;rw[n2,n3]
 have ep:fN sd x (dD p sd x)=mP p sd c':=by
  unfold dD dG
  rw[hc]
  dsimp only
  rw[if_neg co,if_neg cb]
  dsimp only
  rw[if_neg z0,n4]
  unfold mP
  rw[hl,n2]
  cases dH p sd (p.at c.kd (c.pl-1)) c.kd with
  |some r=>rw[n1];rfl
  |none=>rfl
 rw[ep]at q
 refine⟨_,rfl,_,rfl,_,rfl,_,rfl,_,rfl,b,_,_,.str c.kd,rfl,rfl,aJ.of hb,rfl,_,rfl,b,_,_,.int c.pl,rfl,rfl,aJ.of hb,rfl,_,_,rfl,rfl,by show 4<=sizeLine;decide,λ t3 ht3=>?_⟩
 have e6:aI [] H5 (aA H5 t3 (.tup [.str x,.str c.kd,.int (c.pl-1),.bl false])):=aI.new ht3 _
 have h6:(aA H5 t3 (.tup [.str x,.str c.kd,.int (c.pl-1),.bl false])) t3=some (.tup [.str x,.str c.kd,.int (c.pl-1),.bl false]):=aP
 generalize aA H5 t3 (.tup [.str x,.str c.kd,.int (c.pl-1),.bl false])=H6 at e6 h6⊢
 have E6:=E5.trans e6
 have hla':aD [] H6 c'.d (.ref t3):=by rw[ec'];exact uA h6
 exact⟨p,sd,_,_,_,_,c,c',kd,rfl,aD.ext E6 hp,aD.ext E6 hs,aD.ext e6 hcy,hla',G,SG,hcm,n1.trans hcn.symm,n2,by rw[n2];exact hkd,Qa,Qa,λ r H9 e9=>q r H9 (E6.trans e9)⟩
end
def uL(k:gW):List Addr:=[k.NC,k.Ou,k.Bl,k.Wa,k.Fu,k.KF,k.IY]
def jG:cS->Nat
 |.noCard=>0
 |.out=>1
 |.blocked=>2
 |.waits _=>3
 |.full _ _=>4
 |.kindFull _ _ _=>5
 |.inYard=>6
def sH(x:Str):cS->List V
 |.waits o=>[.str x,.str o]
 |.full l b=>[.str l,.int b]
 |.kindFull l k b=>[.str l,.str k,.int b]
 |_=>[.str x]
def pM(x:Str):cS->List PyData
 |.waits o=>[.str x,.str o]
 |.full l b=>[.str l,.int b]
 |.kindFull l k b=>[.str l,.str k,.int b]
 |_=>[.str x]
theorem Cl(r:cS):jG r<7:=by cases r<;>simp[jG]
theorem Cm(k:gW)(r:cS):(uL k)[jG r]? =some (r.cls k):=by cases r<;>rfl
theorem Np(x:Str)(r:cS):r.fs x=(mK (jG r)).zip (sH x r):=by cases r<;>rfl
theorem Nn(x:Str)(r:cS):(sH x r).length=(mK (jG r)).length:=by cases r<;>rfl
theorem No(x:Str)(r:cS)(H:Hp):aL [] H (pM x r) (sH x r):=by
 cases r<;>first|exact⟨_,_,rfl,rfl,rfl⟩|exact⟨_,_,rfl,rfl,_,_,rfl,rfl,rfl⟩|exact⟨_,_,rfl,rfl,_,_,rfl,rfl,_,_,rfl,rfl,rfl⟩
theorem wW(x:Str)(r:cS):r.d x= .tuple (.str (hU (jG r))::pM x r):=by cases r<;>rfl
theorem Gg{p:Pl}{s:Sd}(G:dP p)(SG:eI p s):zX p s:=
 ⟨λ b hb=>Bu (by have:=SG.bd b hb;omega) (by have:=SG.bd b hb;omega),λ k hk b hb=>by
  have:=(G.kn k hk).2.2.2.2.2.2 b hb
  exact Bu Qa Qa⟩
structure Gx(K:Qf)(mg:Qk)(CE:Addr):Prop where
 d_LaneError:mg "LaneError" =some (.ref CE)
 x_LaneError:qG K CE=true
def vH(ts:List Addr)(o:Pl->Sd->Str->Except cS Cd):Sp:=λ vs H Q _=>∃(p:Pl) (s:Sd) (v u:V) (x:Str),vs=[v,u,.str x]/\aD [] H p.d v/\aD [] H s.d u/\dP p/\eI p s/\x.length<=1000/\Tb ts H/\∀r H',aI [] H H'->aD [] H' (fN s x (o p s x)) r->Q r H'
section
variable{P:Program}{w:World}{K:Qf}{mg:Qk}{base:Heap}{ts:List Addr}{k:gW}{CE:Addr}
abbrev wQ:Stmt:=top 45
theorem sc__law_told:bT ["_law_plan_here","_law_stand_here","_law_name","_law_told_here","_law_e"] ["_law_plan_here","_law_stand_here","_law_name"] (aT wQ):=⟨rfl,rfl,rfl,Qd,rfl,Qd,Qd⟩
theorem Re{f:Addr}{fd:FuncData}(F:bO K "_law_told" "_law_told" wQ f fd)(T:Gx K mg CE)(Xm:∀C∈uL k,PySem.W.mroIn K C (.ref CE)=some true)(zL:cI P w K mg base "put_back" 10 ["plan","stand","card"] (nA k ts dD))(zS:uN P w K mg base "_law_refusal" 2 ["_law_e"] (vI (uL k))):
  bD P w K mg base bM 11 f fd ["_law_plan_here","_law_stand_here","_law_name"] (vH ts dD):=by
 refine F.ok sc__law_told (λ vs H Q E h=>?_) (λ cdv A outer s H vs Q E hr h=>?_)
 ·obtain⟨p,sd,v,u,x,rfl,_⟩:=h
  rfl
 obtain⟨p,sd,v,u,x,rfl,hp,hs,G,SG,hx,tb,q⟩:=h
 refine'⟨_,?hh,?rr⟩
 case hh=>(exists Qg,bG sc__law_told.nd (aO 3) (Or.inl rfl) Pq,Qg,Oz ?_ ?_ sc__law_told.nd (aO 4) T.d_LaneError T.x_LaneError,2,aV ?_,bG sc__law_told.nd (aO 3) (Or.inl rfl) ?_,fM Hq zL hr ?_ rfl ?_,aE (pv 0) ?_,aE (pv 1) ?_,aE (pv 2) aG,Qc,1,aV ?_,bG sc__law_told.nd (aO 3) (Or.inl rfl) ?_,Ps zS (bV.mark hr) ?_ rfl ?_,aE (pv 4) aG,Qc,aV ?_,bF (pv 3))
 refine⟨_,rfl,_,rfl,_,rfl,p,sd,v,u,x,rfl,hp,hs,hx,G.ok,SG.ok,Gg G SG,tb,λ c r H2 hok e2 hr2=>?_,λ r herr ex dx H2 e2 he2 hdx2 e' C' h1 h2=>?_⟩
 ·exact⟨_,rfl,q r H2 e2 (by rw[hok];exact hr2)⟩
 ·cases h1
  obtain⟨rfl,_⟩:=AS (Option.some.inj (he2.symm.trans h2))
  refine⟨Xm _ (List.mem_of_getElem? (Cm k r)),?_⟩
  rw[Np]at hdx2
  refine⟨_,rfl,ex,jG r,_,dx,pM x r,sH x r,rfl,Cl r,Cm k r,he2,hdx2,Nn x r,No x r H2,λ u H3 e3 fu=>?_⟩
  exact⟨_,rfl,q _ H3 (e2.trans e3) (by rw[herr];show aD [] H3 (r.d x) u;rw[wW];exact fu)⟩
end
theorem Dm{p:Pl}{s:Sd}(G:dP p)(SG:eI p s){c:Cd}(hc:c∈s.cs):nm c.kd=true:=by
 obtain⟨_,k',hk',_⟩:=SG.c c hc
 rw[<-(eA hk').2];exact(G.kn k' (eA hk').1).1
theorem mL{x:Str}(h:PySem.PyData.strOk x=true):jN (.str x):=.inl ⟨_,rfl,h⟩
theorem kY{x:Str}(h:nm x=true):jN (.str x):=mL (pU h).1
theorem qB(i:Int):jN (.int i):=.inr (.inl ⟨_,rfl⟩)
theorem AJ(b:Bool):jN (.bool b):=.inr (.inr ⟨_,rfl⟩)
theorem eX{d:PyData}(h:jN d):∀n,gN n d
 |0=>h
 |_+1=>.inl h
theorem lY{n:Nat}{ds:List PyData}(hl:ds.length<=100)(h:∀e∈ds,gN n e):gN (n+1) (.tuple ds):=.inr ⟨ds,.inl rfl,hl,h⟩
theorem Tc{c:Cd}(h1:nm c.nm=true)(h2:nm c.kd=true)(n:Nat):gN (n+1) c.d:=lY (by show 4<=100;decide) λ d hd=>by
 simp only[List.mem_cons,List.not_mem_nil,or_false]at hd
 rcases hd with rfl|rfl|rfl|rfl
 ·exact eX (kY h1) n
 ·exact eX (kY h2) n
 ·exact eX (qB _) n
 ·exact eX (AJ _) n
theorem Sx{s:Sd}(hb:s.bs.length<=100)(hc:s.cs.length<=100)(hw:s.ws.length<=100)(h1:∀c∈s.cs,nm c.nm=true/\nm c.kd=true)(h2:∀w∈s.ws,nm w.cd=true/\nm w.ot=true):gN 3 s.d:=lY (by show 3<=100;decide) λ d hd=>by
 simp only[List.mem_cons,List.not_mem_nil,or_false]at hd
 rcases hd with rfl|rfl|rfl
 ·exact lY (by rw[List.length_map];exact hb) λ e he=>by
   obtain⟨i,_,rfl⟩:=List.mem_map.mp he
   exact eX (qB _) _
 ·exact lY (by rw[List.length_map];exact hc) λ e he=>by
   obtain⟨c,hc,rfl⟩:=List.mem_map.mp he
   exact Tc (h1 c hc).1 (h1 c hc).2 0
 ·refine lY (by rw[List.length_map];exact hw) λ e he=>?_
  obtain⟨w,hw,rfl⟩:=List.mem_map.mp he
  refine lY (by show 3<=100;decide) λ d hd=>?_
  simp only[List.mem_cons,List.not_mem_nil,or_false]at hd
  rcases hd with rfl|rfl|rfl
  ·exact kY (h2 w hw).1
  ·exact qB _
  ·exact kY (h2 w hw).2
theorem Bs{p:Pl}{s:Sd}(G:dP p)(SG:eI p s):(∀c∈s.cs,nm c.nm=true/\nm c.kd=true)/\∀w∈s.ws,nm w.cd=true/\nm w.ot=true:=by
 refine⟨λ c hc=>⟨SG.cn c hc,Dm G SG hc⟩,λ w hw=>?_⟩
 obtain⟨⟨c,hc,e1⟩,⟨d,hd,e2⟩,_⟩:=SG.w w hw
 exact⟨e1▸SG.cn c hc,e2▸SG.cn d hd⟩
theorem Sz{p:Pl}{s:Sd}(G:dP p)(SG:eI p s){c:Cd}(h1:nm c.nm=true)(h2:nm c.kd=true):gN 3 (s.put c).d:=by
 have l6:=G.l6
 have nb:=SG.nb
 have nc:=SG.nc
 have nw:=SG.nw
 refine Sx (show s.bs.length<=100 from Qa) ?_ (show s.ws.length<=100 from Qa) (λ d hd=>?_) (Bs G SG).2
 ·show(dM s.cs c).length<=100
  unfold dM
  rw[List.length_map]
  omega
 ·obtain⟨e,he,rfl⟩:=List.mem_map.mp hd
  split
  ·exact⟨h1,h2⟩
  ·exact(Bs G SG).1 e he
def uG:cS->Prop
 |.waits o=>nm o=true
 |.full l _=>nm l=true
 |.kindFull l k _=>nm l=true/\nm k=true
 |_=>True
theorem Sy{x:Str}(hx:PySem.PyData.strOk x=true){r:cS}(h:uG r):gN 3 (r.d x):=by
 have w:∀j,j<7->PySem.PyData.strOk (hU j)=true:=by decide+kernel
 rw[wW]
 refine lY ?_ λ d hd=>?_
 ·cases r<;>simp[pM]
 ·rcases List.mem_cons.mp hd with rfl|hd
  ·exact eX (mL (w _ (Cl r))) _
  ·cases r<;>simp only[pM,List.mem_cons,List.not_mem_nil,or_false]at hd
   ·subst hd;exact eX (mL hx) _
   ·subst hd;exact eX (mL hx) _
   ·subst hd;exact eX (mL hx) _
   ·rcases hd with rfl|rfl
    ·exact eX (mL hx) _
    ·exact eX (kY h) _
   ·rcases hd with rfl|rfl
    ·exact eX (kY h) _
    ·exact eX (qB _) _
   ·rcases hd with rfl|rfl|rfl
    ·exact eX (kY h.1) _
    ·exact eX (kY h.2) _
    ·exact eX (qB _) _
   ·subst hd;exact eX (mL hx) _
theorem Tt{p:Pl}{s:Sd}{x:Str}{r:cS}(h:dG p s x= .error r):uG r:=by
 unfold dG at h
 split at h
 ·cases h;trivial
 ·split at h
  ·cases h;trivial
  ·split at h
   ·cases h;trivial
   ·cases h
theorem AF{p:Pl}{s:Sd}(G:dP p){l:Int}{x:Str}(hx:nm x=true){r:cS}(h:dH p s l x=some r):uG r:=by
 unfold dH at h
 split at h
 ·rename_i hl
  have hlt:l.toNat<p.ls.length:=by have:=hl.2;unfold Pl.n at this;omega
  have g1:(p.ls.getD l.toNat ("",0))=p.ls[l.toNat]:=by rw[List.getD_eq_getElem?_getD,List.getElem?_eq_getElem hlt];rfl
  have hn:nm (p.ls.getD l.toNat ("",0)).1=true:=by rw[g1];exact(G.ln _ (List.getElem_mem hlt)).1
  split at h
  ·cases h;exact hn
  ·split at h
   ·cases h;exact⟨hn,hx⟩
   ·cases h
 ·cases h
theorem Gn{p:Pl}{s:Sd}(G:dP p)(SG:eI p s){x:Str}(hx:PySem.PyData.strOk x=true):gN 3 (fN s x (dD p s x)):=by
 have go:match dD p s x with
  |.error r=>uG r
  |.ok c=>nm c.nm=true/\nm c.kd=true:=by
  unfold dD
  cases hm:dG p s x with
  |error r=>exact Tt hm
  | ok c=>
   obtain⟨hc,_,_⟩:=tE hm
   obtain⟨hcm,hcn⟩:=mO hc
   have hk:=Dm G SG hcm
   dsimp only
   by_cases h0:c.pl=0
   ·rw[if_pos h0];trivial
   ·rw[if_neg h0]
    cases hg:dH p s (p.at c.kd (c.pl-1)) c.kd with
    |some r=>exact AF G hk hg
    |none=>exact⟨SG.cn c hcm,hk⟩
 cases hp:dD p s x with
 |error r=>rw[hp]at go;exact Sy hx go
 |ok c=>rw[hp]at go;exact Sz G SG go.1 go.2
theorem AO{H H':Hp}{p:Addr}{o:HO}(h:H p=none)(e:aI [p] (aA H p o) H'):aI [] H H':=by
 refine⟨λ b u _ q n=>?_,λ b ps _ q=>?_⟩
 ·have hb:=gO q h
  exact e.old b u (by simpa using hb) (by rw[aR hb];exact q) n
 ·have hb:=gO q h
  exact e.tab b ps (by simpa using hb) (by rw[aR hb];exact q)
theorem Hf:PySem.PyData.strOk ("zzzzzzzz" :Str)=true/\Str.length ("zzzzzzzz" :Str)<=1000:=by decide+kernel
theorem wY{cs:List Cd}{c d:Cd}(h:d∈dM cs c):d=c\/d∈cs:=by
 obtain⟨e,he,rfl⟩:=List.mem_map.mp h
 split
 ·exact .inl rfl
 ·exact .inr he
theorem AU{cs:List Cd}{x:Str}:(∃c∈cs,c.nm=x)↔x∈cs.map (·.nm):=by rw[List.mem_map]
theorem Mu{p:Pl}{s:Sd}{c c':Cd}(SG:eI p s)(hc:c∈s.cs)(en:c'.nm=c.nm)(ok:gZ p c')(bk:c'.bk=true->∀k,p.kd? c'.kd=some k->c'.pl<=k.way.length):eI p (s.put c') where
 nb:=SG.nb
 bd:=SG.bd
 nc:=by show(dM s.cs c').length<=30;unfold dM;rw[List.length_map];exact SG.nc
 c:=λ d hd=>by
  rcases wY hd with rfl|hd
  ·exact ok
  ·exact SG.c d hd
 cn:=λ d hd=>by
  rcases wY hd with rfl|hd
  ·rw[en];exact SG.cn c hc
  ·exact SG.cn d hd
 nd:=by show((dM s.cs c').map (·.nm)).Nodup;rw[nG];exact SG.nd
 srt:=by show sortedS ((dM s.cs c').map (·.nm))=true;rw[nG];exact SG.srt
 bk:=λ d hd hb=>by
  rcases wY hd with rfl|hd
  ·exact bk hb
  ·exact SG.bk d hd hb
 nw:=SG.nw
 w:=λ w hw=>by
  have e:∀x,(∃c∈s.cs,c.nm=x)->∃d∈(s.put c').cs,d.nm=x:=λ x h=>by
   rw[AU]at h⊢
   show x∈(dM s.cs c').map (·.nm)
   rw[nG];exact h
  obtain⟨h1,h2,h3⟩:=SG.w w hw
  exact⟨e _ h1,e _ h2,h3⟩
theorem Oy{p:Pl}{s:Sd}{x:Str}{c':Cd}(SG:eI p s)(h:dN p s x= .ok c'):eI p (s.put c'):=by
 unfold dN at h
 cases hm:dG p s x with
 |error r=>rw[hm]at h;cases h
 | ok c=>
  rw[hm]at h
  dsimp only at h
  obtain⟨hc,hno,hbk⟩:=tE hm
  obtain⟨hcm,hcn⟩:=mO hc
  obtain⟨hl,k,hk,p0,p1⟩:=SG.c c hcm
  have p2:=sW hk p1 hno
  split at h
  ·cases h
  ·split at h
   ·cases h
   ·injection h with h
    rw[<-h]
    refine Mu SG hcm rfl ⟨hl,k,hk,by show 0<=c.pl+1;omega,by show c.pl+1<=_;omega⟩ λ z=>?_
    have z:c.bk=true:=z
    rw[hbk]at z;cases z
structure Gv(K:Qf)(mg:Qk):Prop extends Txt K mg where
 b_str:mg "str" =none
def rN(ts:List Addr)(K:Qf):Sp:=λ vs H Q _=>∃(a:Addr) (ns:List Int),vs=[.ref a]/\aQ K H a (ns.map V.int)/\ns.length<=63/\Tb ts H/\∀H',Q (.bl true) H'
section
variable{P:Program}{w:World}{K:Qf}{mg:Qk}{base:Heap}{ts:List Addr}{k:gW}
abbrev pE:Stmt:=top 46
theorem sc_law:bT ["_law_script","_law_k","_law_held","_law_plan_here","_law_stand_here","_law_name","_law_due","_law_later","_law_there"] ["_law_script"] (aT pE):=⟨rfl,rfl,rfl,Qd,rfl,Qd,Qd⟩
theorem Rw{f:Addr}{fd:FuncData}(F:bO K "law" "law" pE f fd)(T:Gv K mg)(zV:aZ P w K mg base "_law_digits" 1 ["_law_script","_law_k"] (vV K))(bY:aZ P w K mg base "_law_take" 1 ["_law_held","_law_many"] lK)(zU:aZ P w K mg base "_law_plan" 3 ["_law_held"] vJ)
  (jV:aZ P w K mg base "_law_words" 2 ["_law_held","_law_many"] pB) (zR:aZ P w K mg base "_law_stand" 4 ["_law_held","_law_plan_here","_law_most"] vM) (zT:aZ P w K mg base "_law_pull_due" 5 ["_law_plan_here","_law_stand_here","_law_name"] vT) (uP:aZ P w K mg base "_law_back_due" 5 ["_law_plan_here","_law_stand_here","_law_name"] vU) (zM:cI P w K mg base "pulled" 10 ["plan","stand","card"] (nA k ts dN)) (uO:aZ P w K mg base "_law_told" 11 ["_law_plan_here","_law_stand_here","_law_name"] (vH ts dD)) (oP:aZ P w K mg base "_law_same" 4 ["_law_found","_law_due"] (pC 4)):bD P w K mg base bM 12 f fd ["_law_script"] (rN ts K):=by
 refine F.ok sc_law (λ vs H Q E h=>?_) (λ cdv A outer s H vs Q E hr h=>?_)
 ·obtain⟨a,ns,rfl,_⟩:=h
  rfl
 obtain⟨a,ns,rfl,hS,h63,tb,q⟩:=h
 have hu:=hr.units
 refine'⟨_,?hh,?rr⟩
 case hh=>(exists Qg,iA ?_ ?_ ?_ ?_ ?_,PassesOwn.never,rfl,lS ?_ ?_ ?_,rfl,T.b_range,Qe,bK ?_ ?_ ?_,dZ,bL ?_ ?_ ?_ ?_ ?_,BQ rfl,rfl,T.b_min,BY,Qe,aK,Qe,bL ?_ ?_ ?_ ?_ ?_,cY,rfl,T.b_len,PySem.boot_len,Qe,pv 0,aG,aG,aK,aG,bI ?_ ?_ ?_ ?_,sc_law.nd,aO 1,Or.inl rfl,Or.inl rfl,Qg,bG ?_ ?_ ?_ ?_,sc_law.nd,aO 2,Or.inl rfl,bB ?_ ?_ ?_ ?_ ?_,zV,hr,Qe,pv 0,Qe,pv 1,aG,rfl,Qc,Qg,bG ?_ ?_ ?_ ?_,sc_law.nd,aO 3,Or.inl rfl,bB ?_ ?_ ?_ ?_ ?_,zU,hr,Qe,pv 2,aG,rfl,Qc,Qg,bG ?_ ?_ ?_ ?_,sc_law.nd,aO 4,Or.inl rfl,bB ?_ ?_ ?_ ?_ ?_,zR,hr,Qe,pv 2,Qe,pv 3,Qe,aN ?_ ?_ ?_ ?_,cX,jI ?_,Qe,aK,Qe,aK,aG,iC ?_ ?_ ?_ ?_ ?_,Gb,rfl,T.b_int,Ge,Qe,iB ?_ ?_ ?_ ?_,cG,bB ?_ ?_ ?_ ?_ ?_,bY,hr,Qe,pv 2,Qe,aK,aG,rfl,Qc,aK,bH _,aG,(λ _ _=>rfl),aG,rfl,Qc,aV ?_,iA ?_ ?_ ?_ ?_ ?_,PassesOwn.never,rfl,nI ?_,bK ?_ ?_ ?_,xD,bK ?_ ?_ ?_,xD,kR ?_ ?_ ?_ ?_ ?_ ?_ ?_ ?_ ?_ ?_,rfl,(by exact⟨rfl,Qd,Qd,(show∀y:Str×NameKind,y∈_->y.2=NameKind.free->(aT pE).names.lookup y.1=some .cell\/(aT pE).names.lookup y.1=some .free from Qd)⟩),eH ["_law_one"] 1 [],Qd,Qc,fL ?_,aN ?_ ?_ ?_ ?_,cX,pv 4,aK,(λ _ _=>rfl),4,bI ?_ ?_ ?_ ?_,(by exact(show(["_law_one"]:List Str).Nodup from Qd)),aO 0,Or.inl rfl,Or.inr rfl,eZ Qc,4,kK,4,aN ?_ ?_ ?_ ?_,cX,pv 0,aK,(λ _ _=>rfl),bB ?_ ?_ ?_ ?_ ?_,jV,hr,Qe,pv 2,Qe,aK,aG,rfl,Qc,jI ?_,Qe,bJ,aG,bI ?_ ?_ ?_ ?_,sc_law.nd,aO 5,Or.inl rfl,Or.inl rfl,Qg,bG ?_ ?_ ?_ ?_,sc_law.nd,aO 6,Or.inl rfl,bB ?_ ?_ ?_ ?_ ?_,uP,hr,Qe,pv 3,Qe,pv 4,Qe,pv 5,aG,rfl,Qc,Qg,bS ?_ ?_ ?_,jH ?_,fS ?_,bB ?_ ?_ ?_ ?_ ?_,oP,hr,Qe,bB ?_ ?_ ?_ ?_ ?_,uO,hr,Qe,pv 3,Qe,pv 4,Qe,pv 5,aG,rfl,Qc,Qe,pv 6,aG,rfl,(by first|decide|exact Nat.le_refl _),aV ?_,bF ?_,jK,bR,(pO ?_ ?_),bG ?_ ?_ ?_ ?_,sc_law.nd,aO 7,Or.inl rfl,bB ?_ ?_ ?_ ?_ ?_,zT,hr,(aE ?_ ?_),pv 3,(aE ?_ ?_),pv 4,(aE ?_ ?_),pv 5,aG,rfl,(by decide),aV ?_,bS ?_ ?_ ?_,jH ?_,fS ?_,bL ?_ ?_ ?_ ?_ ?_,jR,rfl,T.b_isinstance,fB,(aE ?_ ?_),aN ?_ ?_ ?_ ?_,cX,pv 7,aK,(λ _ _=>rfl),Qe,iQ (v:=.ty "str") rfl T.b_str BV rfl,aG,Qg,bG ?_ ?_ ?_ ?_,sc_law.nd,aO 8,Or.inl rfl,fM ?_ ?_ ?_ ?_ ?_ ?_,uR,zM,hr,Qe,pv 3,Qe,pv 4,Qe,pv 5,aG,rfl,Qc,Qg,bG ?_ ?_ ?_ ?_,sc_law.nd,aO 6,Or.inl rfl,bB ?_ ?_ ?_ ?_ ?_,uP,hr,Qe,pv 3,Qe,pv 8,Qe,pv 5,aG,rfl,Qc,aV ?_,bS ?_ ?_ ?_,jH ?_,fS ?_,bB ?_ ?_ ?_ ?_ ?_,oP,hr,Qe,bB ?_ ?_ ?_ ?_ ?_,uO,hr,Qe,pv 3,Qe,pv 8,Qe,pv 5,aG,rfl,Qc,Qe,pv 6,aG,rfl,(by first|decide|exact Nat.le_refl _),aV ?_,bF ?_,jK,bR,bR,aV ?_,bF ?_,jK)
 have hl:(ns.map V.int).length=ns.length:=List.length_map _
 refine⟨_,rfl,a,_,rfl,.inl hS,_,_,rfl,_,_,rfl,rfl,?_⟩
 have j0:1<=(if(((ns.map V.int).length:Nat):Int)<10 then(((ns.map V.int).length:Nat):Int)else 10)+1:=by
  split<;>omega
 have j1:(if(((ns.map V.int).length:Nat):Int)<10 then(((ns.map V.int).length:Nat):Int)else 10)+1<=11:=by
  split<;>omega
 refine⟨_,rfl,Int.le_trans Qc j0,Int.lt_of_le_of_lt j1 Qc,nV (λ i σ H2=>∃(x1 x2 x3 x4 x5 x6 x7 x8:Option V),σ=[some (V.ref a),x1,x2,x3,x4,x5,x6,x7,x8]/\aI [] H H2) ⟨_,_,_,_,_,_,_,_,rfl,aI.refl⟩ ?_ ?_⟩
 ·rintro i σ H2 hi ⟨x1,x2,x3,x4,x5,x6,x7,x8,rfl,e⟩
  have hi2:i<11:=Nat.lt_of_lt_of_le hi (Int.toNat_le.mpr j1)
  refine⟨_,rfl,_,rfl,a,ns,_,rfl,e.sql Qb hS,h63,Qa,Qa,λ pp n hp=>?_⟩
  have tb2:=e.tb tb Qb
  obtain⟨z,ez⟩:∃z:Zn,z=⟨[pp],pp,ts⟩:=⟨_,rfl⟩
  have zp:z.p=pp:=by rw[ez]
  have zt:z.ts=ts:=by rw[ez]
  have c:Cz z (aA H2 pp (.lst [.int n])):=by
   rw[ez]
   exact⟨Qb,λ b hb=>⟨[.int n],by rw[List.mem_singleton.mp hb];exact aP⟩,⟨n,aP⟩,(aI.new (ex:=[]) hp (.lst [.int n])).tb tb2 Qb⟩
  have fin:∀H9,aY z (aA H2 pp (.lst [.int n])) H9->aI [] H H9:=λ H9 s9=>by
   rw[ez]at s9
   exact e.trans (AO hp s9.ext)
  rw[<-zp]
  rw[<-zp]at c fin
  generalize aA H2 z.p (.lst [.int n])=H3 at c fin⊢
  refine⟨_,rfl,z,rfl,c,λ p v H4 G s4 fp=>?_⟩
  show eM _ _ _ [_,_,_,_,_,_,_,_,_] _
  refine⟨_,rfl,_,rfl,z,[.int 8,.int 30],⟨_,_,rfl,rfl,_,_,rfl,rfl,rfl⟩,(by show 2<=1000;decide),s4.cz,λ v5 H5 s5 f5=>?_⟩
  refine⟨_,rfl,z,6,rfl,s5.cz,Qc,Qc,λ t6 H6 t60 t61 s6=>?_⟩
  refine⟨rfl,.inr ⟨_,rfl,?_⟩⟩
  obtain⟨mm,i0,hmm,m0,m1⟩:∃mm:Int,(0:Int)<=(if decide (V.int t6=V.int 1)=true then 1 else 0)/\([.int 8,.int 30]:List PyData)[(if decide (V.int t6=V.int 1)=true then 1 else 0:Int).toNat]? =some (.int mm)/\0<=mm/\mm<=30:=by
   cases decide (V.int t6=V.int 1)with
   |true=>exact⟨30,Qc,rfl,Qc,Qc⟩
   |false=>exact⟨8,Qc,rfl,Qc,Qc⟩
  refine⟨z,_,_,_,.inr (f5.stp s6),rfl,i0,hmm,λ vm hvm=>?_⟩
  obtain rfl:vm= .int mm:=hvm
  have s46:=s4.trans (s5.trans s6)
  refine⟨z,p,v,mm,rfl,s6.cz,fp.stp (s5.trans s6),G,m0,m1,λ sd u H14 SG s7 fu=>?_⟩
  replace fp:=fp.stp (s5.trans (s6.trans s7))
  have b7:=s46.trans s7
  clear s4 s5 s6 f5 s46 i0 hmm c
  show eM _ _ _ [_,_,_,_,_,_,_,_,_] _
  have c14:=s7.cz
  refine⟨_,rfl,z,_,_,_,.inl fu,rfl,Qc,rfl,λ cw gc=>?_⟩
  obtain⟨ca,cv,rfl,nca,hca,hcs⟩:=gc
  have ec:cv.length=sd.cs.length:=by rw[hcs.length,List.length_map]
  have ic:=SG.nc
  refine⟨ca,rfl,⟨cv,aJ.of hca⟩,nN (hJ (ys:=cv)) (λ i xs H2=>aI [] H14 H2/\xs=(((sd.cs.take i).map (·.nm)).map V.str)) ⟨aI.refl,rfl⟩ (λ _ _ _ h=>aJ.of (h.1.tup Qb hca)) ?_ ?_⟩
  ·rintro i y xs H2 hy hi ⟨e,rfl⟩
   obtain⟨c,hc,hdy⟩:=hcs.nth hy
   have tk:sd.cs.take (i+1)=sd.cs.take i++[c]:=by rw[List.take_add_one,hc];rfl
   refine⟨_,rfl,⟨[],z.p,[]⟩,_,_,.str c.nm,.inl (aD.ext e (aD.less Qb hdy)),rfl,Qc,rfl,λ vn hvn=>?_⟩
   obtain rfl:vn= .str c.nm:=hvn
   refine⟨?_,nx hi ⟨e,?_⟩⟩
   ·rw[List.length_map,List.length_map,List.length_take]
    exact cB Qa
   ·rw[tk,List.map_append,List.map_append]
    rfl
  rintro xs H15 ⟨e15,rfl⟩ th hth
  rw[ec,List.take_length]
  have e16:aI [] H15 (aA H15 th (.lst ((sd.cs.map (·.nm)).map V.str))):=aI.new hth _
  have h16:(aA H15 th (.lst ((sd.cs.map (·.nm)).map V.str))) th=some (.lst ((sd.cs.map (·.nm)).map V.str)):=aP
  have n16:th∉z.ex:=(c14.ext e15).free hth
  generalize aA H15 th (.lst ((sd.cs.map (·.nm)).map V.str))=H16 at e16 h16⊢
  have s16:aY z H14 H16:=aY.of c14 (e15.trans e16)
  have f16:aD z.ex H16 (.list ((sd.cs.map (·.nm)).map .str)) (.ref th):=⟨th,_,rfl,n16,h16,aL.strs _⟩
  refine⟨_,rfl,z,3,rfl,Qc,Qc,s16.cz,λ ns2 v17 H17 hn2 hnd2 hm2 s17 f17=>?_⟩
  refine⟨z,_,_,f16.stp s17,f17,?_,s17.cz,λ v18 H18 s18 f18=>?_⟩
  ·rw[List.length_map,List.length_map,List.length_map]
   omega
  refine⟨z,[.str "zzzzzzzz"],⟨_,_,rfl,rfl,rfl⟩,(by show 1<=1000;decide),s18.cz,λ v19 H19 s19 f19=>?_⟩
  refine⟨z,_,_,f18.stp s19,f19,?_,s19.cz,λ v20 H20 s20 f20=>?_⟩
  ·rw[List.length_append,List.length_map,List.length_map,List.length_map]
   show sd.cs.length+ns2.length+1<=1000
   omega
  have b20:=s16.trans (s17.trans (s18.trans (s19.trans s20)))
  obtain⟨nl,enl⟩:∃nl:List Str,nl=sd.cs.map (·.nm)++ns2++[("zzzzzzzz" :Str)]:=⟨_,rfl⟩
  have f20':aD z.ex H20 (.list (nl.map .str)) v20:=by rw[enl,List.map_append,List.map_append];exact f20
  have hnl:∀x∈nl,PySem.PyData.strOk x=true/\x.length<=1000:=λ x hx=>by
   rw[enl]at hx
   rcases List.mem_append.mp hx with hx|hx
   ·rcases List.mem_append.mp hx with hx|hx
    ·obtain⟨c,hc,rfl⟩:=List.mem_map.mp hx
     exact⟨(pU (SG.cn c hc)).1,lZ (SG.cn c hc)⟩
    ·exact⟨(pU (hm2 x hx)).1,lZ (hm2 x hx)⟩
   ·rw[List.mem_singleton.mp hx]
    exact Hf
  have hp20:=aD.less (ex':=[]) Qb (fp.stp b20)
  have hu20:=aD.less (ex':=[]) Qb (fu.stp b20)
  have t20:Tb ts H20:=zt▸s20.cz.tb
  have fin20:=fin H20 (b7.trans b20)
  obtain⟨na,nvs,rfl,nna,hna,hnd⟩:=aD.less (ex':=[]) Qb f20'
  obtain rfl:=aL.strs_of hnd
  clear f16 f17 f18 f19 f20 f20' s16 s17 s18 s19 b20 b7 fp fu fin e15 e16 h16 hcs hca hnd
  refine⟨na,rfl,⟨_,aQ.of hna⟩,Fb (xs:=nl.map V.str) (λ i σ H5=>∃y1 y5 y6 y7 y8:Option V,σ=[some (V.ref a),y1,some (V.ref z.p),some v,some u,y5,y6,y7,y8]/\aI [] H20 H5) ⟨_,_,_,_,_,rfl,aI.refl⟩ ?_ ?_ ?_⟩
  ·rintro i σ H21 hi ⟨y1,y5,y6,y7,y8,rfl,e21⟩
   exact aQ.of (e21.lst Qb hna)
  ·rintro i y σ H21 hy ⟨y1,y5,y6,y7,y8,rfl,e21⟩
   rw[List.getElem?_map]at hy
   obtain⟨x,hx,rfl⟩:=Option.map_eq_some_iff.mp hy
   obtain⟨xok,xl⟩:=hnl x (List.mem_of_getElem? hx)
   refine⟨_,rfl,_,rfl,_,rfl,p,sd,_,_,x,rfl,aD.ext e21 hp20,aD.ext e21 hu20,G,SG,λ r H22 e22 fr=>?_⟩
   have E22:=e21.trans e22
   show eM _ _ _ [_,_,_,_,_,_,_,_,_] _
   refine⟨_,rfl,_,rfl,_,rfl,p,sd,_,_,x,rfl,aD.ext E22 hp20,aD.ext E22 hu20,G,SG,xl,E22.tb t20 Qb,λ r2 H23 e23 fr2=>?_⟩
   refine⟨_,rfl,_,_,_,rfl,fr2,aD.ext e23 fr,Gn G SG xok,λ H24 e24=>?_⟩
   have E24:=E22.trans (e23.trans e24)
   refine⟨_,rfl,fP ?_⟩
   refine⟨_,rfl,_,rfl,_,rfl,p,sd,_,_,x,rfl,aD.ext E24 hp20,aD.ext E24 hu20,G,SG,λ r3 H25 e25 fr3=>?_⟩
   have E25:=E24.trans e25
   show eM _ _ _ [_,_,_,_,_,_,_,_,_] _
   cases hpd:dN p sd x with
   |error rr=>
    rw[hpd]at fr3
    have fr3:aD [] H25 (rr.d x) r3:=fr3
    rw[wW]at fr3
    refine⟨_,rfl,⟨[],z.p,[]⟩,_,_,.str (hU (jG rr)),.inl fr3,rfl,Qc,rfl,λ w0 g0=>?_⟩
    have g0:aD [] H25 (.str (hU (jG rr))) w0:=g0
    refine⟨_,_,_,_,rfl,g0.ty,Ei _,_,rfl,?_⟩
    refine fP ?_
    exact⟨_,_,_,_,_,rfl,E25⟩
   | ok c'=>
    rw[hpd]at fr3
    have fr3:aD [] H25 (sd.put c').d r3:=fr3
    have SG2:=Oy SG hpd
    refine⟨_,rfl,⟨[],z.p,[]⟩,_,_,_,.inl fr3,rfl,Qc,rfl,λ w0 g0=>?_⟩
    have g0:aD [] H25 (.tuple ((sd.put c').bs.map .int)) w0:=g0
    refine⟨_,_,_,_,rfl,g0.ty,Ei _,_,rfl,?_⟩
    refine mJ ?_
    refine⟨_,rfl,_,rfl,_,rfl,p,sd,_,_,x,rfl,aD.ext E25 hp20,aD.ext E25 hu20,xl,G.ok,SG.ok,Gg G SG,E25.tb t20 Qb,λ c2 r4 H26 hok e26 fr4=>?_,λ rr herr=>nomatch(hpd.symm.trans herr)⟩
    obtain rfl:c'=c2:=by
     rw[hpd]at hok
     injection hok
    have E26:=E25.trans e26
    show eM _ _ _ [_,_,_,_,_,_,_,_,_] _
    refine⟨_,rfl,_,rfl,_,rfl,p,sd.put c',_,_,x,rfl,aD.ext E26 hp20,fr4,G,SG2,λ r5 H27 e27 fr5=>?_⟩
    have E27:=E26.trans e27
    show eM _ _ _ [_,_,_,_,_,_,_,_,_] _
    refine⟨_,rfl,_,rfl,_,rfl,p,sd.put c',_,_,x,rfl,aD.ext E27 hp20,aD.ext e27 fr4,G,SG2,xl,E27.tb t20 Qb,λ r6 H28 e28 fr6=>?_⟩
    refine⟨_,rfl,_,_,_,rfl,fr6,aD.ext e28 fr5,Gn G SG2 xok,λ H29 e29=>?_⟩
    refine⟨_,rfl,fP ?_⟩
    exact⟨_,_,_,_,_,rfl,E27.trans (e28.trans e29)⟩
  ·rintro σ H21 ⟨y1,y5,y6,y7,y8,rfl,e21⟩
   exact⟨_,_,_,_,_,_,_,_,rfl,fin20.trans e21⟩
 ·rintro σ H2 ⟨x1,x2,x3,x4,x5,x6,x7,x8,rfl,e⟩
  exact q H2
end
end K10
namespace L2
open PySem PySem.Spec PyProof.Rows PySem.W
structure oH(K:Frag)(mg:Qk)(base h:Heap):Prop where
 X:K.In h
 G:h.Ns mainGlobals mg
 B:jW mg base
@[elab_as_elim] theorem Ip{motive:List Value->Prop}{us:List Value}(h:us.length=1)(k:∀a0,motive [a0]):motive us:=by
 match us,h with
 |[a0],_=>exact k _
@[elab_as_elim] theorem Au{motive:List Value->Prop}{us:List Value}(h:us.length=2)(k:∀a0 a1,motive [a0,a1]):motive us:=by
 match us,h with
 |[a0,a1],_=>exact k _ _
@[elab_as_elim] theorem At{motive:List Value->Prop}{us:List Value}(h:us.length=3)(k:∀a0 a1 a2,motive [a0,a1,a2]):motive us:=by
 match us,h with
 |[a0,a1,a2],_=>exact k _ _ _
@[elab_as_elim] theorem As{motive:List Value->Prop}{us:List Value}(h:us.length=4)(k:∀a0 a1 a2 a3,motive [a0,a1,a2,a3]):motive us:=by
 match us,h with
 |[a0,a1,a2,a3],_=>exact k _ _ _ _
@[elab_as_elim] theorem Io{motive:List Value->Prop}{us:List Value}(h:us.length=5)(k:∀a0 a1 a2 a3 a4,motive [a0,a1,a2,a3,a4]):motive us:=by
 match us,h with
 |[a0,a1,a2,a3,a4],_=>exact k _ _ _ _ _
def Df(K:Frag)(x:Str)(st:Stmt)(f:Addr)(fd:FuncData):Prop:=nsIn K mainGlobals x=some (some (.ref f))/\bO K x x st f fd
section
variable{P:Program}{w:World}{K:Frag}{mg:Qk}{base h:Heap}{x:Str}{st:Stmt}{f:Addr}{fd:FuncData}{k:Nat}{ps:List Str}{sp:Sp}
theorem Df.ok(d:Df K x st f fd)(Z:oH K mg base h)(F:bD P w K mg base bM k f fd ps sp)(b:∀(kV doc pm:Value) (an:Option Addr) (cdv ct:Value) (us:List Value),us.length=ps.length->bindArgs (PySem.W.fnOf x x (fT st) (eE st) (aT st) .none kV doc pm an cdv ct) ⟨us,[]⟩=pure (ps.zip us)):aZ P w K mg base x k ps sp:=
 ⟨f,fd,F,PySem.W.mg_of Z.X Z.G d.1,d.2.kp,d.2.binds b⟩
theorem Df.okX(d:Df K x st f fd)(Z:oH K mg base h)(F:bD P w K mg base (eU P w) k f fd ps sp)(b:∀(kV doc pm:Value) (an:Option Addr) (cdv ct:Value) (us:List Value),us.length=ps.length->bindArgs (PySem.W.fnOf x x (fT st) (eE st) (aT st) .none kV doc pm an cdv ct) ⟨us,[]⟩=pure (ps.zip us)):cI P w K mg base x k ps sp:=
 ⟨f,fd,F,PySem.W.mg_of Z.X Z.G d.1,d.2.kp,d.2.binds b⟩
theorem Df.okH(d:Df K x st f fd)(Z:oH K mg base h)(F:qT P w K mg base bM k f fd ps sp)(b:∀(kV doc pm:Value) (an:Option Addr) (cdv ct:Value) (us:List Value),us.length=ps.length->bindArgs (PySem.W.fnOf x x (fT st) (eE st) (aT st) .none kV doc pm an cdv ct) ⟨us,[]⟩=pure (ps.zip us)):uN P w K mg base x k ps sp:=
 ⟨f,fd,F,PySem.W.mg_of Z.X Z.G d.1,d.2.kp,d.2.binds b⟩
end
def sV(K:Frag)(x:Str):Bool:=match nsIn K mainGlobals x with
 |some none=>true
 |_=>false
theorem Tf{K:Frag}{x:Str}(h:sV K x=true):nsIn K mainGlobals x=some none:=by
 unfold sV at h
 split at h
 ·rename_i e;exact e
 ·exact nomatch h
theorem Tg{K:Frag}{mg:Qk}{base h:Heap}{bs:List Str}(Z:oH K mg base h)(hb:bs.all (sV K)=true):∀x∈bs,mg x=none:=λ x hx=>PySem.W.mg_none_of Z.X Z.G (Tf (List.all_eq_true.mp hb x hx))
structure gF(P:Program)(K:Frag)(n q:Str)(st:Stmt)(fs:List Str)(C f cc cda:Addr):Prop where
 g:nsIn K mainGlobals n=some (some (.ref C))
 i:PySem.W.findIn K (.ref C) "__init__" =some (some (.ref f))
 fn:∃(oc:Value) (od:Option Addr) (kV doc pm:Value) (an:Option Addr) (ct:Value) (osl:Array (Option Value)),K.lookup f=some ⟨oc,od,.func (ksFn "__init__" q (fT st) (eE st) (aT st) .none kV doc pm an (.ref cda) ct cc),osl⟩
 code:PySem.W.codeIn K (.ref cda) q=true
 file:∃(ccl:Value) (cdd:Option Addr) (vs:Array Value) (ccs:Array (Option Value)) (x:Str) (tf:Tok),K.lookup cda=some ⟨ccl,cdd,.fields vs,ccs⟩/\(vs[2]?:Option Value)=some (.str x tf)/\((P.main.file:Str)==x)=true
 cell:∃(cl:Value) (cld:Option Addr) (csl:Array (Option Value)),K.lookup cc=some ⟨cl,cld,.cell (some (.ref C)),csl⟩
 isf:PySem.W.isFn K (.ref f)=true
 kp:PySem.W.keepIn K (.ref C)=true
 mkx:qF K C=true
 all:qH K C=true
 at':fs.all (λ x=>cL K C x)=true
 rs:fG K C=true
theorem AQ{P:Program}{K:Frag}{n q:Str}{st:Stmt}{fs:List Str}{C f cc cda:Addr}{oc kV doc pm ct ccl cl:Value}{od an cdd cld:Option Addr}{osl ccs csl:Array (Option Value)}{vs:Array Value}{x:Str}{tf:Tok}(g:nsIn K mainGlobals n=some (some (.ref C)))(i:PySem.W.findIn K (.ref C) "__init__" =some (some (.ref f)))
  (lf:K.lookup f=some ⟨oc,od,.func (ksFn "__init__" q (fT st) (eE st) (aT st) .none kV doc pm an (.ref cda) ct cc),osl⟩) (co:PySem.W.codeIn K (.ref cda) q=true) (lk:K.lookup cda=some ⟨ccl,cdd,.fields vs,ccs⟩) (hv:(vs[2]?:Option Value)=some (.str x tf)) (hf:((P.main.file:Str)==x)=true) (le:K.lookup cc=some ⟨cl,cld,.cell (some (.ref C)),csl⟩)
  (fn:PySem.W.isFn K (.ref f)=true) (kp:PySem.W.keepIn K (.ref C)=true) (mk:qF K C=true) (al:qH K C=true) (at':fs.all (λ x=>cL K C x)=true) (rs:fG K C=true):gF P K n q st fs C f cc cda:=
 ⟨g,i,⟨_,_,_,_,_,_,_,_,lf⟩,co,⟨_,_,_,_,_,_,lk,hv,hf⟩,⟨_,_,_,le⟩,fn,kp,mk,al,at',rs⟩
theorem gF.at{P:Program}{K:Frag}{n q:Str}{st:Stmt}{fs:List Str}{C f cc cda:Addr}(e:gF P K n q st fs C f cc cda)(x:Str)(h:x∈fs):cL K C x=true:=List.all_eq_true.mp e.at' x h
theorem gF.ok{P:Program}{w:World}{K:Frag}{mg:Qk}{base h:Heap}{n q:Str}{st:Stmt}{fs:List Str}{C f cc cda:Addr}(e:gF P K n q st fs C f cc cda)(Z:oH K mg base h)(sup:mg "super" =none)(top:(P.main.scope.names.lookup ("super" :Str)).isSome=false)
  (F:∀fd,jU P K mg q st C f cc cda fd->bD P w K mg base bM 2 f fd ("self" ::fs) (dU C fs)) (b:∀(kV doc pm:Value) (an:Option Addr) (ct:Value) (us:List Value),us.length=fs.length+1->bindArgs (ksFn "__init__" q (fT st) (eE st) (aT st) .none kV doc pm an (.ref cda) ct cc) ⟨us,[]⟩=pure ((("self" :Str)::fs).zip us)):
  jA P w K mg base n C 2 ("self" ::fs) (dU C fs):=by
 obtain⟨oc,od,kV,doc,pm,an,ct,osl,lk⟩:=e.fn
 exact⟨f,_,⟨e.mkx,e.i,e.isf,e.kp⟩,F _ ⟨⟨oc,od,kV,doc,pm,an,ct,osl,rfl,lk⟩,e.code,e.file,e.cell,sup,top,e.all⟩,PySem.W.mg_of Z.X Z.G e.g,.all λ us hl=>b kV doc pm an ct us hl⟩
end L2
namespace K10
open PySem L2 PyProof.Rows
abbrev iS:List Str:=["with_card"]
abbrev ixs:List Nat:=[0,1,2,3,4,5,6]
theorem xO{i:Nat}(h:i<7):i∈ixs:=by
 have:i=0\/i=1\/i=2\/i=3\/i=4\/i=5\/i=6:=by omega
 rcases this with rfl|rfl|rfl|rfl|rfl|rfl|rfl<;>decide
def xL(K:Qf)(Cs:List Addr)(i j:Nat):Bool:=match Cs[i]?,Cs[j]? with
 |some C,some D=>PySem.W.kitOne K (.ref C) (.ref D)==some (i==j)
 |_,_=>true
def yE(K:Qf)(Cs:List Addr)(i:Nat):Bool:=match Cs[i]? with
 |some C=>(mK i).all λ f=>cL K C f
 |none=>true
theorem Hr{K:Qf}{Cs:List Addr}(len:Cs.length=7)(h1:Cs.all (λ C=>nP K C&&PySem.W.kitOne K (.ref C) (.type "ValueError")==some true)=true)(h2:ixs.all (λ i=>ixs.all λ j=>xL K Cs i j)=true)(h3:ixs.all (λ i=>yE K Cs i)=true):yI K Cs:=by
 have lt {i:Nat} {C:Addr} (h:Cs[i]? =some C):i<7:=len▸(List.getElem?_eq_some_iff.mp h).1
 have g (C:Addr) (hC:C∈Cs):=List.all_eq_true.mp h1 C hC
 refine⟨len,λ C hC=>?_,λ i j C D hi hj=>?_,λ C hC=>?_,λ i C f hi hf=>?_⟩
 ·have:=g C hC
  rw[Bool.and_eq_true]at this
  exact this.1
 ·have h:=List.all_eq_true.mp (List.all_eq_true.mp h2 i (xO (lt hi))) j (xO (lt hj))
  unfold xL at h
  rw[hi,hj]at h
  exact eq_of_beq h
 ·have:=g C hC
  rw[Bool.and_eq_true]at this
  exact eq_of_beq this.2
 ·have h:=List.all_eq_true.mp h3 i (xO (lt hi))
  unfold yE at h
  rw[hi]at h
  exact List.all_eq_true.mp h f hf
theorem CP{l:PySem.W.OpenLaw}{w:World}{K:Qf}{h:Heap}{mg:Qk}{fa:Addr}(X:K.In h)(G:h.Ns mainGlobals mg)(hfa:mg "law" =some (.ref fa))
  {t0:Tok}
  {f0 f1 f2 f3 f4 f5 f6 f7 f8 f9 f10 f11 f13 f14 f15 f16 f17 f18 f19 f20 f21 f22 f23 f24 f25 f26 f27 f28 f29 f30 f31:Addr} {g0 g1 g2 g3 g4 g5 g6 g7 g8 g9 g10 g11 g13 g14 g15 g16 g17 g18 g19 g20 g21 g22 g23 g24 g25 g26 g27 g28 g29 g30 g31:FuncData}
  (d0:Df K "kind_of" wL f0 g0)
  (d1:Df K "way_of" wE f1 g1)
  (d2:Df K "lane_at" wK f2 g2)
  (d3:Df K "card_of" wP f3 g3)
  (d4:Df K "lane_of" wJ f4 g4)
  (d5:Df K "is_out" wN f5 g5)
  (d6:Df K "cards_in" pF f6 g6)
  (d7:Df K "many_of" pD f7 g7)
  (d8:Df K "kind_bound" wM f8 g8)
  (d9:Df K "card_that_can_move" wO f9 g9)
  (d10:Df K "refuse_if_it_waits" wF f10 g10)
  (d11:Df K "refuse_if_full" wG f11 g11)
  {f12:Addr} {od12 an12:Option Addr} {sl12:Array (Option Value)} {oc12 kV12 dc12 pm12 ct12:Value} {cx12 tp12:Addr} {cc12:Value} {cdd12:Option Addr} {vs12:Array Value} {csl12:Array (Option Value)} (a12:PySem.W.nsIn K mainGlobals "with_card" =some (some (.ref f12))) (l12:K.lookup f12=some ⟨oc12,od12,.func (PySem.W.fnOf "with_card" "with_card" (fT hV) (eE hV) (aT hV) .none kV12 dc12 pm12 an12 (.ref cx12) ct12),sl12⟩) (c12:PySem.W.codeIn K (.ref cx12) "with_card" =true) (k12:PySem.W.keepIn K (.ref f12)=true) (lc12:K.lookup cx12=some ⟨cc12,cdd12,.fields vs12,csl12⟩) (h1112:(vs12[11]?:Option Value)=some (.ref tp12)) (tI12:PySem.W.tabIn K "with_card" =some (cx12,tp12)) (hd12:PySem.W.codeHdIn K cx12 tp12=true)
  (d13:Df K "pulled" wI f13 g13)
  (d14:Df K "put_back" wH f14 g14)
  (d15:Df K "_law_take" wR f15 g15)
  (d16:Df K "_law_digits" wU f16 g16)
  (d17:Df K "_law_words" jE f17 g17)
  (d18:Df K "_law_bound" wV f18 g18)
  (d19:Df K "_law_plan" lN f19 g19)
  (d20:Df K "_law_kind" pI f20 g20)
  (d21:Df K "_law_lane" wT f21 g21)
  (d22:Df K "_law_room" kF f22 g22)
  (d23:Df K "_law_bars" kG f23 g23)
  (d24:Df K "_law_stand" pG f24 g24)
  (d25:Df K "_law_same" nE f25 g25)
  (d26:Df K "_law_refusal" wS f26 g26)
  (d27:Df K "_law_came" pJ f27 g27)
  (d28:Df K "_law_pull_due" pH f28 g28)
  (d29:Df K "_law_back_due" pK f29 g29)
  (d30:Df K "_law_told" wQ f30 g30)
  (d31:Df K "law" pE f31 g31)
  {CE CC CK CO CB CW CF CQ CY:Addr}
  (qE:PySem.W.nsIn K mainGlobals "LaneError" =some (some (.ref CE)))
  {fiC ccC caC fiK ccK caK fiO ccO caO fiB ccB caB fiW ccW caW fiF ccF caF fiQ ccQ caQ fiY ccY caY:Addr}
  (eC:gF l.prog K "NoCard" "NoCard.__init__" By ["card"] CC fiC ccC caC)
  (eK:gF l.prog K "NoKind" "NoKind.__init__" Bx ["kind"] CK fiK ccK caK)
  (eO:gF l.prog K "Out" "Out.__init__" Bw ["card"] CO fiO ccO caO)
  (eB:gF l.prog K "Blocked" "Blocked.__init__" Cc ["card"] CB fiB ccB caB)
  (eW:gF l.prog K "Waits" "Waits.__init__" Bv ["card","other"] CW fiW ccW caW)
  (eF:gF l.prog K "Full" "Full.__init__" Cb ["lane","bound"] CF fiF ccF caF)
  (eQ:gF l.prog K "KindFull" "KindFull.__init__" Bz ["lane","kind","bound"] CQ fiQ ccQ caQ)
  (eY:gF l.prog K "InYard" "InYard.__init__" Ca ["card"] CY fiY ccY caY)
  (topS:(l.prog.main.scope.names.lookup ("super" :Str)).isSome=false)
  (xE:qG K CE=true)
  (xk:[CC,CO,CB,CW,CF,CQ,CY].all (λ C=>nP K C&&PySem.W.kitOne K (.ref C) (.type "ValueError")==some true)=true)
  (xi:ixs.all (λ i=>ixs.all λ j=>xL K [CC,CO,CB,CW,CF,CQ,CY] i j)=true)
  (xa:ixs.all (λ i=>yE K [CC,CO,CB,CW,CF,CQ,CY] i)=true)
  (xmm:[CC,CO,CB,CW,CF,CQ,CY].all (λ C=>PySem.W.mroIn K C (.ref CE)==some true)=true)
  (zz:(["len","range","sorted","set","zip","tuple","list","isinstance","ValueError","int","bool","all","min","super","str"]:List Str).all (sV K)=true)
  (gl0:PySem.W.nsIn K mainGlobals "YARD" =some (some (.int (-1) t0)))
  :
  ∃fd:FuncData,(∀(s:Shared) (v:Value),BindsTo s fd ⟨[v],[]⟩ [("_law_script",v)])/\∀base:Heap,K.In base->base.Ns mainGlobals mg->jW mg base->bD l.prog w K mg base bM 12 fa fd ["_law_script"] (rN (lJ K iS) K):=by
 have e:=hfa.symm.trans (PySem.W.mg_of X G d31.1)
 cases e
 have F12:lG K "with_card" "with_card" hV f12 _ cx12:=⟨⟨_,_,_,_,_,_,_,_,rfl,l12,c12⟩,k12⟩
 have et:lJ K iS=[tp12]:=by
  unfold lJ iS
  simp only[List.filterMap_cons,List.filterMap_nil,tI12,Option.map]
 rw[et]
 refine⟨g31,λ s v=>?_,λ base kb nb hbm=>?_⟩
 ·obtain⟨_,_,_,_,_,_,_,_,_,e,_,_⟩:=d31.2.ex
  rw[e]
  exact .of_eq rfl
 have Z:oH K mg base h:=⟨X,G,hbm⟩
 have zn:=Tg Z zz
 let ts:List Addr:=[tp12]
 have hte:∀t∈ts,t∉([]:List Addr):=λ _ _ h=>nomatch h
 have T:Txt K mg:=by constructor<;>exact zn _ Qb
 have TS:Gv K mg:=⟨T,zn _ Qb⟩
 have TP:qP K mg:=⟨zn _ Qb,⟨_,PySem.W.mg_of X G gl0,⟨_,rfl⟩⟩⟩
 have TG:Gy K mg:=⟨zn _ Qb⟩
 have TC:Gw K mg [CC,CO,CB,CW,CF,CQ,CY]:=⟨zn _ Qb,zn _ Qb,λ _=>⟨_,PySem.W.mg_of X G eC.g,rfl⟩,λ _=>⟨_,PySem.W.mg_of X G eO.g,rfl⟩,λ _=>⟨_,PySem.W.mg_of X G eB.g,rfl⟩,λ _=>⟨_,PySem.W.mg_of X G eW.g,rfl⟩,λ _=>⟨_,PySem.W.mg_of X G eF.g,rfl⟩,λ _=>⟨_,PySem.W.mg_of X G eQ.g,rfl⟩,λ _=>⟨_,PySem.W.mg_of X G eY.g,rfl⟩⟩
 have TL:Gx K mg CE:=⟨PySem.W.mg_of X G qE,xE⟩
 have Xc:yI K [CC,CO,CB,CW,CF,CQ,CY]:=Hr rfl xk xi xa
 have xm:∀C∈uL ⟨CC,CO,CB,CW,CF,CQ,CY⟩,PySem.W.mroIn K C (.ref CE)=some true:=λ C hC=>eq_of_beq (List.all_eq_true.mp xmm C hC)
 have yV:=eC.ok Z (w:=w) (zn _ Qb) topS (λ _ F=>Sg F (eC.at _ Qb)) Qr
 have yU:=eK.ok Z (w:=w) (zn _ Qb) topS (λ _ F=>Sf F (eK.at _ Qb)) Qr
 have yT:=eO.ok Z (w:=w) (zn _ Qb) topS (λ _ F=>Se F (eO.at _ Qb)) Qr
 have yZ:=eB.ok Z (w:=w) (zn _ Qb) topS (λ _ F=>Sl F (eB.at _ Qb)) Qr
 have yS:=eW.ok Z (w:=w) (zn _ Qb) topS (λ _ F=>Sc F (eW.at _ Qb) (eW.at _ Qb)) Qv
 have yY:=eF.ok Z (w:=w) (zn _ Qb) topS (λ _ F=>Sk F (eF.at _ Qb) (eF.at _ Qb)) Qv
 have yW:=eQ.ok Z (w:=w) (zn _ Qb) topS (λ _ F=>Si F (eQ.at _ Qb) (eQ.at _ Qb) (eQ.at _ Qb)) Qx
 have yX:=eY.ok Z (w:=w) (zn _ Qb) topS (λ _ F=>Sj F (eY.at _ Qb)) Qr
 have oK:cI l.prog w K mg base "kind_of" 4 ["plan","kind"] (rP CK):=d0.okX Z (Rz d0.2 yU eK.rs) Qp
 have zJ:cI l.prog w K mg base "way_of" 5 ["plan","kind"] (vG CK):=d1.okX Z (Rc d1.2  oK) Qp
 have fR:aZ l.prog w K mg base "lane_at" 6 ["plan","kind","place"] lL:=d2.ok Z (Ry d2.2 TP zJ) Qo
 have oO:cI l.prog w K mg base "card_of" 4 ["stand","card"] (rR CC):=d3.okX Z (Sr d3.2 yV eC.rs) Qp
 have zO:cI l.prog w K mg base "lane_of" 7 ["plan","stand","card"] (vL CC):=d4.okX Z (Rx d4.2  oO fR) Qo
 have oM:cI l.prog w K mg base "is_out" 8 ["plan","stand","card"] (rL CC):=d5.okX Z (Sb d5.2 TP zO) Qo
 have zQ:aZ l.prog w K mg base "cards_in" 7 ["plan","stand","lane"] vS:=d6.ok Z (Sq d6.2  fR) Qo
 have zN:aZ l.prog w K mg base "many_of" 7 ["plan","stand","lane","kind"] vK:=d7.ok Z (Rm d7.2 TP fR) Qs
 have zP:aZ l.prog w K mg base "kind_bound" 5 ["plan","kind","lane"] vR:=d8.ok Z (Sa d8.2  oK) Qo
 have oN:cI l.prog w K mg base "card_that_can_move" 9 ["plan","stand","card"] (rM ⟨CC,CO,CB,CW,CF,CQ,CY⟩):=d9.okX Z (Rl (k:=⟨CC,CO,CB,CW,CF,CQ,CY⟩) d9.2 yT yZ eO.rs eB.rs oO oM) Qo
 have zK:cI l.prog w K mg base "refuse_if_it_waits" 9 ["plan","stand","card","lane"] (vW ⟨CC,CO,CB,CW,CF,CQ,CY⟩):=d10.okX Z (Sw (k:=⟨CC,CO,CB,CW,CF,CQ,CY⟩) d10.2 yS eW.rs oM) Qs
 have oJ:cI l.prog w K mg base "refuse_if_full" 8 ["plan","stand","lane","kind"] (rQ ⟨CC,CO,CB,CW,CF,CQ,CY⟩):=d11.okX Z (Sm (k:=⟨CC,CO,CB,CW,CF,CQ,CY⟩) d11.2 TP yY yW eF.rs eQ.rs zQ zP zN) Qs
 have oI:aZ l.prog w K mg base "with_card" 3 ["stand","new"] (rK ts):=⟨f12,_,Rb F12 TG (PySem.W.codeHd_of_K kb hd12) hbm (show tp12∈ts by simp[ts]),PySem.W.mg_of X G a12,k12,F12.fn.binds Qp⟩
 have zM:cI l.prog w K mg base "pulled" 10 ["plan","stand","card"] (nA ⟨CC,CO,CB,CW,CF,CQ,CY⟩ ts dN):=d13.okX Z (Rj (k:=⟨CC,CO,CB,CW,CF,CQ,CY⟩) d13.2  oN fR zK oJ oI hte) Qo
 have zL:cI l.prog w K mg base "put_back" 10 ["plan","stand","card"] (nA ⟨CC,CO,CB,CW,CF,CQ,CY⟩ ts dD):=d14.okX Z (Ri (k:=⟨CC,CO,CB,CW,CF,CQ,CY⟩) d14.2 yX eY.rs oN fR oJ oI hte) Qo
 have bY:aZ l.prog w K mg base "_law_take" 1 ["_law_held","_law_many"] lK:=d15.ok Z (Rf d15.2  ) Qp
 have zV:aZ l.prog w K mg base "_law_digits" 1 ["_law_script","_law_k"] (vV K):=d16.ok Z (Sn d16.2 T) Qp
 have jV:aZ l.prog w K mg base "_law_words" 2 ["_law_held","_law_many"] pB:=d17.ok Z (Ra d17.2 T bY) Qp
 have mV:aZ l.prog w K mg base "_law_bound" 2 ["_law_held"] rT:=d18.ok Z (Rt d18.2  bY) Qu
 have zU:aZ l.prog w K mg base "_law_plan" 3 ["_law_held"] vJ:=d19.ok Z (Rq d19.2 T bY jV mV) Qu
 have oQ:aZ l.prog w K mg base "_law_kind" 1 ["_law_plan_here","_law_name"] rO:=d20.ok Z (Rs d20.2  ) Qp
 have cW:aZ l.prog w K mg base "_law_lane" 2 ["_law_plan_here","_law_one"] iL:=d21.ok Z (Rr d21.2 T oQ) Qp
 have qU:aZ l.prog w K mg base "_law_room" 3 ["_law_plan_here","_law_bounds","_law_cards","_law_kind_here","_law_lane_here"] vO:=d22.ok Z (Rp d22.2 T cW) Qw
 have DS:aZ l.prog w K mg base "_law_room" 3 ["_law_plan_here","_law_bounds","_law_cards","_law_kind_here","_law_lane_here"] vN:=d22.ok Z (Ro d22.2 T cW) Qw
 have qV:aZ l.prog w K mg base "_law_bars" 3 ["_law_plan_here","_law_cards","_law_wait"] vQ:=d23.ok Z (Rv d23.2 T cW) Qo
 have DT:aZ l.prog w K mg base "_law_bars" 3 ["_law_plan_here","_law_cards","_law_wait"] vP:=d23.ok Z (Ru d23.2 T cW) Qo
 have zR:aZ l.prog w K mg base "_law_stand" 4 ["_law_held","_law_plan_here","_law_most"] vM:=d24.ok Z (Rn d24.2 T bY mV jV cW qU qV) Qo
 have oP:aZ l.prog w K mg base "_law_same" 4 ["_law_found","_law_due"] (pC 4):=Ga d25.2 T (PySem.W.mg_of X G d25.1) d25.2.kp (d25.2.binds Qp) 4
 have zS:uN l.prog w K mg base "_law_refusal" 2 ["_law_e"] (vI [CC,CO,CB,CW,CF,CQ,CY]):=d26.okH Z (Rh (Cs:=[CC,CO,CB,CW,CF,CQ,CY]) d26.2 TC Xc) Qu
 have oR:aZ l.prog w K mg base "_law_came" 4 ["_law_plan_here","_law_stand_here","_law_one","_law_later"] rS:=d27.ok Z (Ss d27.2 T oQ cW DS) Qs
 have zT:aZ l.prog w K mg base "_law_pull_due" 5 ["_law_plan_here","_law_stand_here","_law_name"] vT:=d28.ok Z (Rk d28.2 T cW DT oR) Qo
 have uP:aZ l.prog w K mg base "_law_back_due" 5 ["_law_plan_here","_law_stand_here","_law_name"] vU:=d29.ok Z (Sv d29.2 T cW oR) Qo
 have uO:aZ l.prog w K mg base "_law_told" 11 ["_law_plan_here","_law_stand_here","_law_name"] (vH ts dD):=d30.ok Z (Re (k:=⟨CC,CO,CB,CW,CF,CQ,CY⟩) d30.2 TL xm zL zS) Qo
 exact Rw (k:=⟨CC,CO,CB,CW,CF,CQ,CY⟩) d31.2 TS zV bY zU jV zR zT uP zM uO oP
theorem Ki{K:Qf}
  {f12:Addr} {od12 an12:Option Addr} {sl12:Array (Option Value)} {oc12 kV12 dc12 pm12 ct12:Value} {cx12 tp12:Addr} {cc12:Value} {cdd12:Option Addr} {vs12:Array Value} {csl12:Array (Option Value)} (a12:PySem.W.nsIn K mainGlobals "with_card" =some (some (.ref f12))) (l12:K.lookup f12=some ⟨oc12,od12,.func (PySem.W.fnOf "with_card" "with_card" (fT hV) (eE hV) (aT hV) .none kV12 dc12 pm12 an12 (.ref cx12) ct12),sl12⟩) (lc12:K.lookup cx12=some ⟨cc12,cdd12,.fields vs12,csl12⟩) (h1112:(vs12[11]?:Option Value)=some (.ref tp12)) (tI12:PySem.W.tabIn K "with_card" =some (cx12,tp12)) (n12:K.lookup tp12=none)
  :∀y∈iS,∀c P,PySem.W.tabIn K y=some (c,P)->K.lookup P=none:=by
 intro y hy c P e
 simp only[iS,List.mem_cons,List.not_mem_nil,or_false]at hy
 rcases hy with rfl
 ·rw[tI12]at e
  cases e
  exact n12
theorem Ii{l:PySem.W.OpenLaw}{q:Program}{loose:List Str}{XP:(Str->Option Value)->Heap->Prop}{YP:World->Heap->Prop}{d:DefRec}{K:Params->PySem.W.Frag}(hn:l.most=some 63)(hdf:d.params.defaults=[])
  (hY:∀(w:World) (h:Heap),YP w h->(K w.params).In h)
  (hgn:∀y∈iS,((recsOf q).find? (λ e=>e.name==y)).isSome=true)
  (hT:∀(w:World) (h:Heap),(K w.params).In h->∀y∈iS,∀c P,PySem.W.tabIn (K w.params) y=some (c,P)->(K w.params).lookup P=none)
  (F:∀(w:World) (mg:Qk) (fa:Addr) (h:Heap),(K w.params).In h->h.Ns mainGlobals mg->mg d.name=some (.ref fa)->
   ∃fd:FuncData,(∀(s:Shared) (u:Value),BindsTo s fd ⟨[u],[]⟩ [("_law_script",u)])/\∀base:Heap,(K w.params).In base->base.Ns mainGlobals mg->jW mg base->bD l.prog w (K w.params) mg base bM 12 fa fd ["_law_script"] (rN (lJ (K w.params) iS) (K w.params))):
  PySem.W.WalkO q loose XP YP l.row.toRowW d [] (λ f vs=>PySem.call f vs):=
 L2.Ih (n:=63) (k:=12) (x:= "_law_script") (CX:=λ _=>bM) (sp:=λ w=>rN (lJ (K w.params) iS) (K w.params)) iS hn Qc hdf ⟨rfl,Qc,Qc⟩ hY hgn hT F
  (λ w H a ns hl hO hS=>⟨a,ns,rfl,hS,hl,λ P hP=>⟨#[],hO.2 P hP,by trivial⟩,λ _=>rfl⟩) λ _ _ _ _ _ z=>z
end K10
def PySem.W.Fast.tw18437922986157076407:Unit:=()
def PySem.W.Fast.tw13043734858127198057:Unit:=()
def PySem.W.Fast.tw6679841539916106149:Unit:=()
def PySem.W.Fast.tw12644745303137956823:Unit:=()
def PySem.W.Fast.tw10556680097961603780:Unit:=()
def PySem.W.Fast.tw17614786698970687913:Unit:=()
def PySem.W.Fast.tw15760987569628366647:Unit:=()
def PySem.W.Fast.tw9586987807238993270:Unit:=()
def PySem.W.Fast.tw11732689226799212944:Unit:=()
def PySem.W.Fast.tw10379559746252726834:Unit:=()
def PySem.W.Fast.tw8141356549787437879:Unit:=()
def PySem.W.Fast.tw14039974280229403250:Unit:=()
def PySem.W.Fast.tw5344404797108569762:Unit:=()
def PySem.W.Fast.tw5554478067466624273:Unit:=()
def PySem.W.Fast.tw1277519263602774587:Unit:=()
def PySem.W.Fast.tw5183462516224474584:Unit:=()
def PySem.W.Fast.tw13495458086550786710:Unit:=()
def PySem.W.Fast.tw13821738995912324937:Unit:=()
def PySem.W.Fast.tw6524700848680748151:Unit:=()
def PySem.W.Fast.tw17540381042787193748:Unit:=()
def PySem.W.Fast.tw1936906771834143069:Unit:=()
def PySem.W.Fast.tw1815253468030611867:Unit:=()
def PySem.W.Fast.tw17416464485996024087:Unit:=()
def PySem.W.Fast.tw10914694713127803520:Unit:=()
def PySem.W.Fast.tw1437610510534376077:Unit:=()
def PySem.W.Fast.tw10647277957853937012:Unit:=()
def PySem.W.Fast.tw323172481036506966:Unit:=()
def PySem.W.Fast.tw9476371212010928257:Unit:=()
def PySem.W.Fast.tw542648013855121599:Unit:=()
def PySem.W.Fast.tw4387169425712321800:Unit:=()
def PySem.W.Fast.tw7369486589122290153:Unit:=()
def PySem.W.Fast.tw15379280699901336881:Unit:=()
def PySem.W.Fast.tw112196196230544485:Unit:=()
def PySem.W.Fast.tw11145438147275282426:Unit:=()
def PySem.W.Fast.tw10522577789158224075:Unit:=()
def PySem.W.Fast.tw9637045651118947195:Unit:=()
def PySem.W.Fast.tw18244185742267027607:Unit:=()
def PySem.W.Fast.tw2559082066788104476:Unit:=()
def PySem.W.Fast.tw6874013444520592724:Unit:=()
def PySem.W.Fast.tw5147552315322377080:Unit:=()
def PySem.W.Fast.tw12621953823298255628:Unit:=()
def PySem.W.Fast.tw7602974311397739508:Unit:=()
def PySem.W.Fast.tw6720105210010644676:Unit:=()
def PySem.W.Fast.tw10654005498075231072:Unit:=()
def PySem.W.Fast.tw9449914818501623013:Unit:=()
def PySem.W.Fast.tw12086859148409524473:Unit:=()
def PySem.W.Fast.tw10063193708074073704:Unit:=()
def PySem.W.Fast.tw1634120382350419052:Unit:=()
def PySem.W.Fast.tw7314253863212903192:Unit:=()
def PySem.W.Fast.tw3057512214668695488:Unit:=()
def PySem.W.Fast.tw14187274318320660459:Unit:=()
def PySem.W.Fast.tw9811727869478854400:Unit:=()
def PySem.W.Fast.tw13786272361034807730:Unit:=()
def PySem.W.Fast.tw6785777541913828633:Unit:=()
def PySem.W.Fast.tw1265923731215317374:Unit:=()
def PySem.W.Fast.tw12462195658992114874:Unit:=()
def PySem.W.Fast.tw12902673434767147075:Unit:=()
def PySem.W.Fast.tw7008614573764001061:Unit:=()
def PySem.W.Fast.tw13663013473294790615:Unit:=()
def PySem.W.Fast.tw2185125950069828145:Unit:=()
def PySem.W.Fast.tw3447443587753805012:Unit:=()
def PySem.W.Fast.tw7975059583727594468:Unit:=()
def PySem.W.Fast.tw17503245868377916176:Unit:=()
def PySem.W.Fast.tw14316626423580505634:Unit:=()
def PySem.W.Fast.tw2209456434577699461:Unit:=()
def PySem.W.Fast.tw16312674930704731419:Unit:=()
def PySem.W.Fast.tw13100036916039439775:Unit:=()
def PySem.W.Fast.tw14989514924376429236:Unit:=()
def PySem.W.Fast.tw17622537046954851776:Unit:=()
def PySem.W.Fast.tw558286910712719098:Unit:=()
def PySem.W.Fast.tw150528861198693823:Unit:=()
def PySem.W.Fast.tw9749403117177085589:Unit:=()
def PySem.W.Fast.tw14679581207520648175:Unit:=()
def PySem.W.Fast.tw17202056833111637778:Unit:=()
def PySem.W.Fast.tw14196312294986736470:Unit:=()
def PySem.W.Fast.tw9762409231604307631:Unit:=()
def PySem.W.Fast.tw16450267290517507277:Unit:=()
def PySem.W.Fast.tw3227406220533359173:Unit:=()
def PySem.W.Fast.tw7220154369028490964:Unit:=()
def PySem.W.Fast.tw2267889735482306455:Unit:=()
def PySem.W.Fast.tw12716543734297006816:Unit:=()
def PySem.W.Fast.tw298022228338183685:Unit:=()
def PySem.W.Fast.tw881272318224615444:Unit:=()
def PySem.W.Fast.tw15707469381197024982:Unit:=()
def PySem.W.Fast.tw9957475561798533421:Unit:=()
def PySem.W.Fast.tw16490848362514765792:Unit:=()
def PySem.W.Fast.tw13006809598584774773:Unit:=()
def PySem.W.Fast.tw13835508430563564587:Unit:=()
def PySem.W.Fast.tw85505357017051578:Unit:=()
def PySem.W.Fast.tw12985609282014766194:Unit:=()
def PySem.W.Fast.tw6649698809138859714:Unit:=()
def PySem.W.Fast.tw16077281114242227941:Unit:=()
def PySem.W.Fast.tw60773177251761086:Unit:=()
def PySem.W.Fast.tw2147489188925539406:Unit:=()
def PySem.W.Fast.tw18399953987681584507:Unit:=()
def PySem.W.Fast.tw9077066917447759668:Unit:=()
def PySem.W.Fast.tw13979853132932025348:Unit:=()
def PySem.W.Fast.tw15907398362207454614:Unit:=()
def PySem.W.Fast.tw88335758282532121:Unit:=()
def PySem.W.Fast.tw3028975882577700402:Unit:=()
def PySem.W.Fast.tw18226300918603119178:Unit:=()
def PySem.W.Fast.tw10647222373130417465:Unit:=()
def PySem.W.Fast.tw747566171212372427:Unit:=()
def PySem.W.Fast.tw5510669734497967643:Unit:=()
def PySem.W.Fast.tw4326986030067314977:Unit:=()
def PySem.W.Fast.tw7200517678605831799:Unit:=()
def PySem.W.Fast.tw10492514913869211211:Unit:=()
def PySem.W.Fast.tw9961061447270823860:Unit:=()
def PySem.W.Fast.tw11925683188907454069:Unit:=()
def PySem.W.Fast.tw14384860553772883325:Unit:=()
def PySem.W.Fast.tw3717789042057942490:Unit:=()
def PySem.W.Fast.tw6714437562544809387:Unit:=()
def PySem.W.Fast.tw16962416799061099190:Unit:=()
def PySem.W.Fast.tw13497550132543490298:Unit:=()
def PySem.W.Fast.tw7286683733243561700:Unit:=()
def PySem.W.Fast.tw16360875178962975381:Unit:=()
def PySem.W.Fast.tw2518259133425357958:Unit:=()
def PySem.W.Fast.tw7400272545565811479:Unit:=()
def PySem.W.Fast.tw7848346966660283125:Unit:=()
def PySem.W.Fast.tw6391478143410504517:Unit:=()
def PySem.W.Fast.tw13151858080771587065:Unit:=()
def PySem.W.Fast.tw3920019720980271431:Unit:=()
def PySem.W.Fast.tw2855259999655947978:Unit:=()
def PySem.W.Fast.tw8428007430639070339:Unit:=()
def PySem.W.Fast.tw5475461405120045382:Unit:=()
def PySem.W.Fast.tw3063137514128367312:Unit:=()
def PySem.W.Fast.tw10148017526394986541:Unit:=()
def PySem.W.Fast.tw10674963060389684046:Unit:=()
def PySem.W.Fast.tw11258449630641006288:Unit:=()
def PySem.W.Fast.tw2637935370879275903:Unit:=()
def PySem.W.Fast.tw11645808264785368043:Unit:=()
def PySem.W.Fast.tw8168015325788922416:Unit:=()
def PySem.W.Fast.tw14636572632470604598:Unit:=()
def PySem.W.Fast.tw3319874682044078453:Unit:=()
def PySem.W.Fast.tw9767534283164571509:Unit:=()
def PySem.W.Fast.tw3886631551912142101:Unit:=()
def PySem.W.Fast.tw16633753179830859584:Unit:=()
def PySem.W.Fast.tw1752118847989494950:Unit:=()
def PySem.W.Fast.tw17296423171464451707:Unit:=()
def PySem.W.Fast.tw4229182618729340159:Unit:=()
def PySem.W.Fast.tw5414829672653003047:Unit:=()
def PySem.W.Fast.tw9244744435699857192:Unit:=()
def PySem.W.Fast.tw5233754703014305782:Unit:=()
def PySem.W.Fast.tw9734286098010703135:Unit:=()
def PySem.W.Fast.tw2023774304144224743:Unit:=()
def PySem.W.Fast.tw5797291021136556355:Unit:=()
def PySem.W.Fast.tw2892414462992056641:Unit:=()
def PySem.W.Fast.tw9618248366929193807:Unit:=()
def PySem.W.Fast.tw6306269513824331324:Unit:=()
def PySem.W.Fast.tw9955863264717088166:Unit:=()
def PySem.W.Fast.tw2665184299850482231:Unit:=()
def PySem.W.Fast.tw9329951705531739756:Unit:=()
def PySem.W.Fast.tw7262913295088319929:Unit:=()
def PySem.W.Fast.tw4501359450785168212:Unit:=()
def PySem.W.Fast.tw10221945248957687701:Unit:=()
def PySem.W.Fast.tw14384694079848222708:Unit:=()
def PySem.W.Fast.tw17101870196268306897:Unit:=()
def PySem.W.Fast.tw11414943495037984716:Unit:=()
def PySem.W.Fast.tw9475189558303985244:Unit:=()
def PySem.W.Fast.tw14824130653720589061:Unit:=()
def PySem.W.Fast.tw14299117173522900772:Unit:=()
def PySem.W.Fast.tw14115988028947529290:Unit:=()
def PySem.W.Fast.tw180667619413852477:Unit:=()
def PySem.W.Fast.tw3816109879130373620:Unit:=()
def PySem.W.Fast.tw4554696641028970730:Unit:=()
def PySem.W.Fast.tw6038655590370148435:Unit:=()
def PySem.W.Fast.tw916266224588267975:Unit:=()
def PySem.W.Fast.tw6753370942091149485:Unit:=()
def PySem.W.Fast.tw3116368028739613917:Unit:=()
def PySem.W.Fast.tw5737670726876086038:Unit:=()
def PySem.W.Fast.tw8880278036030826657:Unit:=()
def PySem.W.Fast.tw10034903528056318742:Unit:=()
def PySem.W.Fast.tw12899671369109996061:Unit:=()
def PySem.W.Fast.tw8007940221745090596:Unit:=()
def PySem.W.Fast.tw16834734205410250368:Unit:=()
def PySem.W.Fast.tw15786158103020759940:Unit:=()
def PySem.W.Fast.tw13085438054335007449:Unit:=()
def PySem.W.Fast.tw12939039761072379647:Unit:=()
def PySem.W.Fast.tw4644006897650227128:Unit:=()
def PySem.W.Fast.tw8895997064403300019:Unit:=()
def PySem.W.Fast.tw13230379308598425148:Unit:=()
def PySem.W.Fast.tw6029504926709418618:Unit:=()
def PySem.W.Fast.tw10881350732189035126:Unit:=()
def PySem.W.Fast.tw13189186264166431348:Unit:=()
def PySem.W.Fast.tw15013909225006623961:Unit:=()
def PySem.W.Fast.tw14698629868596342651:Unit:=()
def PySem.W.Fast.tw6714459885931367644:Unit:=()
def PySem.W.Fast.tw557167231268342573:Unit:=()
def PySem.W.Fast.tw14606392588770306455:Unit:=()
def PySem.W.Fast.tw1820172324841278009:Unit:=()
def PySem.W.Fast.tw390150531730549954:Unit:=()
def PySem.W.Fast.tw4084080211414036450:Unit:=()
def PySem.W.Fast.tw1070471816227588549:Unit:=()
def PySem.W.Fast.tw1676171937985417939:Unit:=()
def PySem.W.Fast.tw673073354906578082:Unit:=()
def PySem.W.Fast.tw10744710418072773388:Unit:=()
def PySem.W.Fast.tw9491499497874037394:Unit:=()
def PySem.W.Fast.tw13902450406374631762:Unit:=()
def PySem.W.Fast.tw9012382838956536503:Unit:=()
def PySem.W.Fast.tw14261605513186272716:Unit:=()
def PySem.W.Fast.tw6371656420778269958:Unit:=()
def PySem.W.Fast.tw9269824975800998714:Unit:=()
def PySem.W.Fast.tw12272962762481286200:Unit:=()
def PySem.W.Fast.tw9301849886507357443:Unit:=()
def PySem.W.Fast.tw3987132870912167100:Unit:=()
def PySem.W.Fast.tw11164113026808501476:Unit:=()
def PySem.W.Fast.tw4244674557534068687:Unit:=()
def PySem.W.Fast.tw10021084464427804480:Unit:=()
def PySem.W.Fast.tw9674668902892104056:Unit:=()
def PySem.W.Fast.tw16923016253264208713:Unit:=()
def PySem.W.Fast.tw695489250950755002:Unit:=()
def PySem.W.Fast.tw3059094366403268334:Unit:=()
def PySem.W.Fast.tw1712153259969412581:Unit:=()
def PySem.W.Fast.tw16418209961117572443:Unit:=()
def PySem.W.Fast.tw15130519009110101674:Unit:=()
def PySem.W.Fast.tw734437854661455406:Unit:=()
def PySem.W.Fast.tw4549380056700049756:Unit:=()
def PySem.W.Fast.tw13085259057252962244:Unit:=()
def PySem.W.Fast.tw6038148476928790981:Unit:=()
def PySem.W.Fast.tw16090368874830435916:Unit:=()
def PySem.W.Fast.tw7948669708068340966:Unit:=()
def PySem.W.Fast.tw12826122084886128293:Unit:=()
def PySem.W.Fast.tw15340398640245843757:Unit:=()
def PySem.W.Fast.tw2512634491709099523:Unit:=()
def PySem.W.Fast.tw5685005171516613570:Unit:=()
def PySem.W.Fast.tw7100731899727461204:Unit:=()
def PySem.W.Fast.tw6618917645449302883:Unit:=()
def PySem.W.Fast.tw14692875235908516349:Unit:=()
def PySem.W.Fast.tw4658995974524367831:Unit:=()
open PySem PySem.W PyProof.Rows
set_option maxRecDepth 100000 in
set_option maxHeartbeats 0 in
theorem PySem.Challenge.cw_cardlanes_k10_put_back_holds : PySem.Challenge.rw_cardlanes_k10_put_back.Holds := by
 w_on;o_law;k_head;(case hw=>w_witness2)
 k_fill
 refine K10.Ii (l:=PySem.Challenge.rw_cardlanes_k10_put_back) rfl rfl (fun w h Y=>PySem.W.kIn_of Y) ?G ?T ?F
 case F=>
  intro w mg fa h KX G hmg
  refine' K10.CP KX G hmg ?d0 ?d1 ?d2 ?d3 ?d4 ?d5 ?d6 ?d7 ?d8 ?d9 ?d10 ?d11 ?a12 ?l12 ?c12 ?k12 ?lc12 ?h1112 ?tI12 ?hd12 ?d13 ?d14 ?d15 ?d16 ?d17 ?d18 ?d19 ?d20 ?d21 ?d22 ?d23 ?d24 ?d25 ?d26 ?d27 ?d28 ?d29 ?d30 ?d31 ?qE ?eC ?eK ?eO ?eB ?eW ?eF ?eQ ?eY ?topS ?xE ?xk ?xi ?xa ?xmm ?zz ?gl0
  (case d0=>exists Qn)
  (case d1=>exists Qn)
  (case d2=>exists Qn)
  (case d3=>exists Qn)
  (case d4=>exists Qn)
  (case d5=>exists Qn)
  (case d6=>exists Qn)
  (case d7=>exists Qn)
  (case d8=>exists Qn)
  (case d9=>exists Qn)
  (case d10=>exists Qn)
  (case d11=>exists Qn)
  (case a12=>k_is)
  (case l12=>k_is)
  (case c12=>k_is)
  (case k12=>k_is)
  (case lc12=>k_is)
  (case h1112=>rfl)
  (case tI12=>kernel_rfl)
  (case hd12=>kernel_rfl)
  (case d13=>exists Qn)
  (case d14=>exists Qn)
  (case d15=>exists Qn)
  (case d16=>exists Qn)
  (case d17=>exists Qn)
  (case d18=>exists Qn)
  (case d19=>exists Qn)
  (case d20=>exists Qn)
  (case d21=>exists Qn)
  (case d22=>exists Qn)
  (case d23=>exists Qn)
  (case d24=>exists Qn)
  (case d25=>exists Qn)
  (case d26=>exists Qn)
  (case d27=>exists Qn)
  (case d28=>exists Qn)
  (case d29=>exists Qn)
  (case d30=>exists Qn)
  (case d31=>exists Qn)
  (case qE=>k_is)
  (case eC=>exists Qq)
  (case eK=>exists Qq)
  (case eO=>exists Qq)
  (case eB=>exists Qq)
  (case eW=>exists Qq)
  (case eF=>exists Qq)
  (case eQ=>exists Qq)
  (case eY=>exists Qq)
  (case topS=>kernel_rfl)
  (case xE=>kernel_rfl)
  (case xk=>kernel_rfl)
  (case xi=>kernel_rfl)
  (case xa=>kernel_rfl)
  (case xmm=>kernel_rfl)
  (case zz=>kernel_rfl)
  (case gl0=>k_is)
 case T=>
  intro w h KX
  refine' K10.Ki ?a12 ?l12 ?lc12 ?h1112 ?tI12 ?n12
  (case a12=>k_is)
  (case l12=>k_is)
  (case lc12=>k_is)
  (case h1112=>rfl)
  (case tI12=>kernel_rfl)
  (case n12=>kernel_rfl)
 case G=>decide+kernel
