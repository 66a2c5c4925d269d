import PyProof.Rows.All
import Wide.All
import OpenK.AllK
import Wide.FinOn
import Lean
import PyProof.EqAt
import PyProof.EqKinds
import PyProof.TupleCall
import KE.KNest
import KE.KNestM
import PySem.Challenge.RW_cardlanes_k04_plan_texts
set_option Elab.async false
set_option linter.all false
set_option maxRecDepth 100000
section
set_option Elab.async false
set_option linter.all false
set_option maxRecDepth 100000
/-! THE HAND LAYER, for ints, bools, texts, own classes, LISTS and tuples (index, slices, in, append, pop ..), calls, loops. Paste it whole ahead of your own text; what your proof does not reach may be deleted. -/
namespace L2
open PySem PySem.Spec PyProof.Rows

/-- a key: an int or a str -/
abbrev Key := Sum Int Str
def keyIs : Key → Value → Bool
  | .inl k, v => Value.isInt k v
  | .inr x, v => Value.isStrOf x v
def keyH (w : World) : Key → Int
  | .inl k => hashInt k
  | .inr x => hashStr w x
theorem keyIs_shape : ∀ {k : Key} {v : Value}, keyIs k v = true → (∃ i t, k = Sum.inl i ∧ v = Value.int i t) ∨ (∃ x t, k = Sum.inr x ∧ v = Value.str x t)
  | .inl i, v, h => by
    obtain ⟨t, e⟩ := Value.isInt_shape (k := i) (v := v) h
    exact .inl ⟨i, t, rfl, e⟩
  | .inr x, v, h => by
    obtain ⟨t, e⟩ := Value.isStrOf_shape (x := x) (v := v) h
    exact .inr ⟨x, t, rfl, e⟩
theorem keyIs_int (i : Int) (t : Tok) : keyIs (.inl i) (.int i t) = true := by simp [keyIs, Value.isInt]
theorem keyIs_str (x : Str) (t : Tok) : keyIs (.inr x) (.str x t) = true := by simp [keyIs, Value.isStrOf]
theorem key_ll (a b : Int) : decide ((Sum.inl a : Key) = Sum.inl b) = (a == b) := by
  by_cases e : a = b
  · subst e; simp
  · have h : ¬ (Sum.inl a : Key) = Sum.inl b := fun q => e (Sum.inl.inj q)
    rw [decide_eq_false h]
    exact (beq_eq_false_iff_ne.mpr e).symm
theorem key_rr (a b : Str) : decide ((Sum.inr a : Key) = Sum.inr b) = decide (a = b) := by
  by_cases e : a = b
  · subst e; simp
  · have h : ¬ (Sum.inr a : Key) = Sum.inr b := fun q => e (Sum.inr.inj q)
    rw [decide_eq_false h, decide_eq_false e]
theorem key_lr (a : Int) (b : Str) : decide ((Sum.inl a : Key) = Sum.inr b) = false := decide_eq_false (fun q => nomatch q)
theorem key_rl (a : Str) (b : Int) : decide ((Sum.inr a : Key) = Sum.inl b) = false := decide_eq_false (fun q => nomatch q)

def mixKind (prog : Program) (w : World) : PySem.KeyKind prog w Key where
  is := keyIs
  hash := keyH w
  inj := fun v a b ha hb => by
    rcases keyIs_shape ha with ⟨i, t, rfl, rfl⟩ | ⟨x, t, rfl, rfl⟩
    · rcases keyIs_shape hb with ⟨j, u, rfl, e⟩ | ⟨y, u, rfl, e⟩
      · injection e with e1 _; rw [e1]
      · exact nomatch e
    · rcases keyIs_shape hb with ⟨j, u, rfl, e⟩ | ⟨y, u, rfl, e⟩
      · exact nomatch e
      · injection e with e1 _; rw [e1]
  byValue := fun k v h => by
    rcases keyIs_shape h with ⟨i, t, rfl, rfl⟩ | ⟨x, t, rfl, rfl⟩ <;> rfl
  pyHash := fun hv h => by
    rcases keyIs_shape hv with ⟨i, t, rfl, rfl⟩ | ⟨x, t, rfl, rfl⟩
    · exact wpAny_pyHash_int h
    · exact wpAny_pyHash_str h
  eqBool := fun hu hv h => by
    rcases keyIs_shape hu with ⟨i, t, rfl, rfl⟩ | ⟨x, t, rfl, rfl⟩
    · rcases keyIs_shape hv with ⟨j, u, rfl, rfl⟩ | ⟨y, u, rfl, rfl⟩
      · rw [key_ll] at h; exact wpAny_eqBool_int h
      · rw [key_lr] at h; exact SeqAt.EqAt.int_str i t y u _ _ _ _ h
    · rcases keyIs_shape hv with ⟨j, u, rfl, rfl⟩ | ⟨y, u, rfl, rfl⟩
      · rw [key_rl] at h; exact SeqAt.EqAt.str_int x t j u _ _ _ _ h
      · rw [key_rr] at h; exact wpAny_eqBool_str h
  «strs» := fun k x t v h => by
    rcases keyIs_shape h with ⟨i, u, rfl, e⟩ | ⟨y, u, rfl, e⟩
    · exact nomatch e
    · injection e with e1 _
      subst e1
      cases v <;> rfl

theorem mixKind_is (prog : Program) (w : World) (k : Key) (v : Value) : (mixKind prog w).is k v = keyIs k v := rfl
theorem mixKind_int (prog : Program) (w : World) (i : Int) (t : Tok) : (mixKind prog w).is (.inl i) (.int i t) = true := keyIs_int i t
theorem mixKind_str (prog : Program) (w : World) (x : Str) (t : Tok) : (mixKind prog w).is (.inr x) (.str x t) = true := keyIs_str x t
end L2

namespace L2
open PySem PySem.Spec PyProof.Rows

/-- a value, without the heap -/
inductive V where
  | non | bl (b : Bool) | int (i : Int) | str (x : Str) | byt (b : Array UInt8) | flt (b : UInt64) | ref (a : Addr) | ty (n : String)
  deriving DecidableEq

def RelV : V → Value → Prop
  | .non, u => u = Value.none
  | .bl b, u => u = Value.bool b
  | .int i, u => ∃ t, u = Value.int i t
  | .str x, u => ∃ t, u = Value.str x t
  | .byt b, u => ∃ t, u = Value.bytes b t
  | .flt b, u => ∃ t, u = Value.float b t
  | .ref a, u => u = Value.ref a
  | .ty n, u => u = Value.type n

abbrev Vals : List V → List Value → Prop := Paired RelV
theorem Vals.length {xs : List V} {us : List Value} (r : Vals xs us) : xs.length = us.length := Paired.length r
theorem Vals.get : ∀ {xs : List V} {us : List Value} {i : Nat} {x : V}, Vals xs us → xs[i]? = some x → ∃ u, us[i]? = some u ∧ RelV x u
  | _, _, _, _, .nil, e => by simp at e
  | _, _, 0, _, .cons r _, e => by simp at e; subst e; exact ⟨_, rfl, r⟩
  | _, _, i + 1, x, .cons _ t, e => by
    obtain ⟨u, h1, h2⟩ := Vals.get (i := i) (x := x) t (by simpa using e)
    exact ⟨u, by simpa using h1, h2⟩
theorem Vals.set {x : V} {u : Value} (r : RelV x u) : ∀ {xs : List V} {us : List Value} (i : Nat), Vals xs us → Vals (xs.set i x) (us.set i u)
  | _, _, _, .nil => .nil
  | _, _, 0, .cons _ t => .cons r t
  | _, _, i + 1, .cons q t => .cons q (Vals.set r i t)
theorem Vals.append : ∀ {xs ys : List V} {us ws : List Value}, Vals xs us → Vals ys ws → Vals (xs ++ ys) (us ++ ws)
  | _, _, _, _, .nil, s => s
  | _, _, _, _, .cons r t, s => .cons r (Vals.append t s)
theorem Vals.take : ∀ {xs : List V} {us : List Value} (n : Nat), Vals xs us → Vals (xs.take n) (us.take n)
  | _, _, 0, _ => .nil
  | _, _, _ + 1, .nil => .nil
  | _, _, n + 1, .cons r t => .cons r (Vals.take n t)
theorem Vals.drop : ∀ {xs : List V} {us : List Value} (n : Nat), Vals xs us → Vals (xs.drop n) (us.drop n)
  | _, _, 0, r => r
  | _, _, _ + 1, .nil => .nil
  | _, _, n + 1, .cons _ t => Vals.drop n t
theorem Vals.none_of : ∀ {xs : List V} {us : List Value} {i : Nat}, Vals xs us → xs[i]? = none → us[i]? = none := fun {xs us i} r e => by
  have h1 := r.length
  have h2 : xs.length ≤ i := List.getElem?_eq_none_iff.mp e
  exact List.getElem?_eq_none_iff.mpr (by omega)

def RelO : Option V → Option Value → Prop
  | some v, some u => RelV v u
  | none, none => True
  | _, _ => False
def KV {κ : Type} : List (κ × V) → List (κ × Value) → Prop := Paired fun (p : κ × V) (q : κ × Value) => p.1 = q.1 ∧ RelV p.2 q.2

/-- a key of a dict (00_mix): an int or a text -/
def kV : Key → V
  | .inl i => .int i
  | .inr x => .str x

/-- what stands at a tracked address -/
inductive HO where
  /-- a list -/
  | lst (xs : List V)
  /-- a tuple (never changes) -/
  | tup (xs : List V)
  /-- a dict whose keys are ints and texts; one whose keys are tuples of ints and texts (the empty one is both) -/
  | dK (kvs : List (Key × V)) | dT (kvs : List (List Key × V))
  /-- a set of ints: its members, its size -/
  | set (S : Int → Bool) (n : Nat)
  /-- an instance of the class at C, its dict at dx, its attributes -/
  | ins (C dx : Addr) (fs : List (Str × V))
  /-- the dict of the instance at x -/
  | own (x : Addr)
  /-- the dict of an exception -/
  | xd (fs : List (Str × V))
  /-- a bound method, f of x -/
  | met (f x : Addr)
  /-- a range object lo, lo + 1, .. below hi -/
  | rng (lo hi : Int)
  /-- a thing that is known to the object (the script; a dict while a loop walks it): read, never written while it is so -/
  | frz (o : Obj) (u : HO)
  /-- a code object's table -/
  | tbl (ps : Array Value)
  /-- any other thing, by what is true of its one object (a def of one's own: SetO a S n := HO.ext fun h => ..) -/
  | ext (φ : Heap → Prop)

abbrev Hp := Addr → Option HO
def upd (H : Hp) (a : Addr) (o : HO) : Hp := fun b => if b = a then some o else H b
theorem upd_same {H : Hp} {a : Addr} {o : HO} : upd H a o a = some o := by unfold upd; rw [if_pos rfl]
theorem upd_ne {H : Hp} {a b : Addr} {o : HO} (h : b ≠ a) : upd H a o b = H b := by unfold upd; rw [if_neg h]
theorem upd_upd {H : Hp} {a : Addr} {o u : HO} : upd (upd H a o) a u = upd H a u := by
  funext b; unfold upd; split <;> rfl
/-- two objects of different content stand apart -/
theorem ne_of {H : Hp} {a b : Addr} {o u : HO} (h : H a = some o) (h' : H b = some u) (d : o ≠ u) : a ≠ b := by
  intro e; subst e; rw [h] at h'; exact d (Option.some.inj h')
theorem ne_of_none {H : Hp} {a b : Addr} {o : HO} (h : H a = some o) (h' : H b = none) : a ≠ b := by
  intro e; subst e; rw [h] at h'; cases h'

section
variable (P : Program) (w : World)
def ObjOk (H : Hp) (h : Heap) (a : Addr) : HO → Prop
  | .lst xs => xs.length ≤ sizeLine ∧ ∃ (its : List Value) (n : Nat), Vals xs its ∧ h.get? a = some { cls := .type "list", data := .seq its.toArray n }
  | .tup xs => xs.length ≤ sizeLine ∧ ∃ its : List Value, Vals xs its ∧ IsTup h a its.toArray
  | .dK kvs => kvs.length ≤ sizeLine ∧ (a == sysModules) = false ∧ ∃ vs, KV kvs vs ∧ h.DictOf (mixKind P w) a vs
  | .dT kvs => kvs.length ≤ sizeLine ∧ (a == sysModules) = false ∧ ∃ xs : List (List Key × Addr × Value),
      Paired (fun (p : List Key × V) (q : List Key × Addr × Value) => p.1 = q.1 ∧ H q.2.1 = some (.tup (p.1.map kV)) ∧ RelV p.2 q.2.2) kvs xs ∧
      ∃ o es ep, h.get? a = some o ∧ o.ExactDict ∧ o.data = .dict es ep ∧ es.toList = xs.map (entryOfKey (tupleKind (mixKind P w))) ∧ (xs.map (·.1)).Nodup
  | .set S n => h.SetOf (intKind P w) a S n
  | .ins C dx fs => H dx = some (.own a) ∧ fs.length ≤ 1000 ∧ dx ≠ a ∧ h.get? a = some (PySem.W.instObj C dx) ∧
      ∃ mA, h.Ns1 dx mA ∧ (∀ f, RelO (fs.lookup f) (mA f)) ∧ PySem.Within mA (fs.map (·.1))
  | .own _ => ∃ o, h.get? a = some o
  | .xd fs => ∃ mA, h.Ns1 a mA ∧ ∀ f, RelO (fs.lookup f) (mA f)
  | .rng lo hi => ∃ t u v, h.get? a = some { cls := .type "range", data := .fields #[.int lo t, .int hi u, .int 1 v] }
  | .frz o u => h.get? a = some o ∧ ObjOk H h a u
  | .tbl ps => h.get? a = some { cls := .none, data := .fields ps }
  | .met f x => h.get? a = some (PySem.W.methodObj (.ref f) (.ref x))
  | .ext φ => φ h ∧ (∃ o, h.get? a = some o) ∧ ∀ h1 h2 : Heap, φ h1 → (∀ o, h1.get? a = some o → h2.get? a = some o) → φ h2
/-- the abstract heap is held -/
def HOk (H : Hp) (h : Heap) : Prop := ∀ a o, H a = some o → ObjOk P w H h a o
end

section
variable {P : Program} {w : World} {H H' : Hp} {h h' : Heap} {a : Addr} {o : HO}
theorem ObjOk.lt (x : ObjOk P w H h a o) : a < h.objs.size := by
  cases o with
  | lst xs => obtain ⟨_, _, _, _, e⟩ := x; exact Heap.lt_size e
  | tup xs => obtain ⟨_, _, _, p⟩ := x; exact p.lt
  | dK kvs => obtain ⟨_, _, _, _, o, _, _, e, _⟩ := x; exact Heap.lt_size e
  | dT kvs => obtain ⟨_, _, _, _, o, _, _, e, _⟩ := x; exact Heap.lt_size e
  | set S n => obtain ⟨o, _, _, _, e, _⟩ := x; exact Heap.lt_size e
  | ins C dx fs => obtain ⟨_, _, _, e, _⟩ := x; exact Heap.lt_size e
  | own y => obtain ⟨_, e⟩ := x; exact Heap.lt_size e
  | xd fs => obtain ⟨_, ⟨_, _, _, e, _⟩, _⟩ := x; exact Heap.lt_size e
  | rng lo hi => obtain ⟨_, _, _, e⟩ := x; exact Heap.lt_size e
  | frz ob u => obtain ⟨e, _⟩ := x; exact Heap.lt_size e
  | tbl ps => exact Heap.lt_size (show h.get? a = some _ from x)
  | met f y => exact Heap.lt_size (show h.get? a = some _ from x)
  | ext φ => obtain ⟨_, ⟨_, e⟩, _⟩ := x; exact Heap.lt_size e
theorem Paired.mapP {α β : Type} {F G : α → β → Prop} : ∀ {l₁ : List α} {l₂ : List β}, Paired F l₁ l₂ → (∀ a b, F a b → G a b) → Paired G l₁ l₂
  | _, _, .nil, _ => .nil
  | _, _, .cons r t, f => .cons (f _ _ r) (Paired.mapP t f)
theorem Paired.imp' {α β : Type} {F G : α → β → Prop} (f : ∀ a b, F a b → G a b) {l₁ : List α} {l₂ : List β} (r : Paired F l₁ l₂) : Paired G l₁ l₂ := Paired.mapP r f
/-- what an object's description leans on: its own object, its own dict, the tuples -/
theorem ObjOk.stay (x : ObjOk P w H h a o) (k : ∀ b u, (b = a ∨ H b = some (.own a)) → h.get? b = some u → h'.get? b = some u)
    (ho : ∀ b, H b = some (.own a) → H' b = some (.own a)) (ht : ∀ b xs, H b = some (.tup xs) → H' b = some (.tup xs)) : ObjOk P w H' h' a o := by
  induction o with
  | lst xs => obtain ⟨z, its, n, r, e⟩ := x; exact ⟨z, its, n, r, k _ _ (.inl rfl) e⟩
  | tup xs => obtain ⟨z, its, r, ob, e, c⟩ := x; exact ⟨z, its, r, ob, k _ _ (.inl rfl) e, c⟩
  | dK kvs => obtain ⟨z, y, vs, r, ob, es, ep, e, c⟩ := x; exact ⟨z, y, vs, r, ob, es, ep, k _ _ (.inl rfl) e, c⟩
  | dT kvs =>
    obtain ⟨z, y, xs, r, ob, es, ep, e, c⟩ := x
    exact ⟨z, y, xs, Paired.mapP r fun p q z => ⟨z.1, ht _ _ z.2.1, z.2.2⟩, ob, es, ep, k _ _ (.inl rfl) e, c⟩
  | set S n => obtain ⟨ob, es, ep, t, e, c⟩ := x; exact ⟨ob, es, ep, t, k _ _ (.inl rfl) e, c⟩
  | ins C dx fs =>
    obtain ⟨d, z, ne, e, mA, ⟨od, es, ep, e2, c⟩, r⟩ := x
    exact ⟨ho _ d, z, ne, k _ _ (.inl rfl) e, mA, ⟨od, es, ep, k _ _ (.inr d) e2, c⟩, r⟩
  | own y => obtain ⟨ob, e⟩ := x; exact ⟨ob, k _ _ (.inl rfl) e⟩
  | xd fs => obtain ⟨mA, ⟨od, es, ep, e, c⟩, r⟩ := x; exact ⟨mA, ⟨od, es, ep, k _ _ (.inl rfl) e, c⟩, r⟩
  | rng lo hi => obtain ⟨t, u, v, e⟩ := x; exact ⟨t, u, v, k _ _ (.inl rfl) e⟩
  | frz ob u ih => obtain ⟨e, q⟩ := x; exact ⟨k _ _ (.inl rfl) e, ih q⟩
  | tbl ps =>
    have e : h.get? a = some { cls := .none, data := .fields ps } := x
    show h'.get? a = some { cls := .none, data := .fields ps }
    exact k a _ (.inl rfl) e
  | met f y =>
    have e : h.get? a = some (PySem.W.methodObj (.ref f) (.ref y)) := x
    show h'.get? a = some (PySem.W.methodObj (.ref f) (.ref y))
    exact k a _ (.inl rfl) e
  | ext φ => obtain ⟨p, ⟨o, e⟩, st⟩ := x; exact ⟨st _ _ p fun o q => k _ _ (.inl rfl) q, ⟨o, k _ _ (.inl rfl) e⟩, st⟩
theorem HOk.lt (x : HOk P w H h) (e : H a = some o) : a < h.objs.size := (x a o e).lt
theorem HOk.fresh (x : HOk P w H h) (e : h.objs.size ≤ a) : H a = none := by
  cases q : H a with
  | none => rfl
  | some u => exact absurd (Nat.lt_of_lt_of_le (x.lt q) e) (Nat.lt_irrefl _)
/-- every object of the heap is kept -/
theorem HOk.kept (x : HOk P w H h) (k : ∀ b u, h.get? b = some u → h'.get? b = some u) : HOk P w H h' := fun a o e =>
  (x a o e).stay (fun b u _ q => k b u q) (fun _ q => q) fun _ _ q => q
/-- a new object is laid and tracked -/
theorem HOk.laid (x : HOk P w H h) (k : ∀ b u, h.get? b = some u → h'.get? b = some u) (hp : h.objs.size ≤ a) (new : ObjOk P w (upd H a o) h' a o) : HOk P w (upd H a o) h' := fun b u e => by
  have hn := x.fresh hp
  by_cases hb : b = a
  · subst hb; rw [upd_same] at e; cases e; exact new
  · rw [upd_ne hb] at e
    exact (x b u e).stay (fun c v _ q => k c v q) (fun c q => by rw [upd_ne (ne_of_none q hn)]; exact q) fun c xs q => by rw [upd_ne (ne_of_none q hn)]; exact q
end

/-- what may be read as u: it is u, or a known u -/
def Rd (H : Hp) (a : Addr) (u : HO) : Prop := H a = some u ∨ ∃ o, H a = some (.frz o u)
theorem Rd.of {H : Hp} {a : Addr} {u : HO} (h : H a = some u) : Rd H a u := .inl h
theorem Rd.ok {P : Program} {w : World} {H : Hp} {h : Heap} {a : Addr} {u : HO} (r : Rd H a u) (x : HOk P w H h) : ObjOk P w H h a u := by
  rcases r with r | ⟨o, r⟩
  · exact x a u r
  · obtain ⟨_, q⟩ := x a _ r
    exact q
/-- what may be written -/
def Mut : Option HO → Prop
  | some (.lst _) => True
  | some (.dK _) => True
  | some (.dT _) => True
  | some (.set _ _) => True
  | some (.ins _ _ _) => True
  | some (.ext _) => True
  | _ => False
section
variable {P : Program} {w : World} {H : Hp} {h h' : Heap} {x e : Addr} {o' : HO}
/-- the object at e is changed: x itself, or the dict of the instance x -/
theorem HOk.write (ok : HOk P w H h) (mu : Mut (H x)) (he : e = x ∨ H e = some (.own x)) (k : ∀ b u, b ≠ e → h.get? b = some u → h'.get? b = some u) (heo : ∃ u, h'.get? e = some u)
    (new : ObjOk P w (upd H x o') h' x o') : HOk P w (upd H x o') h' := fun b u q => by
  have nown : ∀ c y, H c = some (.own y) → c ≠ x := fun c y r z => by subst z; rw [r] at mu; exact mu
  have ntup : ∀ c xs, H c = some (.tup xs) → c ≠ x := fun c xs r z => by subst z; rw [r] at mu; exact mu
  by_cases hb : b = x
  · subst hb; rw [upd_same] at q; cases q; exact new
  · rw [upd_ne hb] at q
    by_cases hbe : b = e
    · have q' : H b = some (.own x) := by
        rcases he with z | z
        · exact absurd (hbe.trans z) hb
        · rw [hbe]; exact z
      rw [q] at q'; cases q'
      obtain ⟨v, hv⟩ := heo
      exact ⟨v, by rw [hbe]; exact hv⟩
    · refine (ok b u q).stay (fun c v hc r => k c v ?_ r) (fun c r => by rw [upd_ne (nown c b r)]; exact r) fun c xs r => by rw [upd_ne (ntup c xs r)]; exact r
      rcases hc with rfl | hc
      · exact hbe
      · rintro rfl
        rcases he with z | z
        · exact nown c b hc z
        · rw [hc] at z; cases z; exact hb rfl
end

/-! ### kept unless tracked; of the frames at fs (the callers') the slots may change (an exception that passes writes there); of the records at ex (iterators) nothing is said -/
structure Un (fs ex : List Addr) (H H' : Hp) (h h' : Heap) : Prop where
  keep : ∀ b o, h.get? b = some o → H b = none → b ∉ fs → b ∉ ex → h'.get? b = some o
  slot : ∀ b o, h.get? b = some o → H b = none → b ∈ fs → b ∉ ex → ∃ sl, h'.get? b = some { o with slots := sl }
  free : ∀ b o, h.get? b = some o → H b = none → b ∉ ex → H' b = none
  there : ∀ b o, h.get? b = some o → b ∉ ex → ∃ o', h'.get? b = some o'
  tups : ∀ b xs, H b = some (.tup xs) → H' b = some (.tup xs)
  frzs : ∀ b o u, H b = some (.frz o u) → H' b = some (.frz o u)
  tbls : ∀ b ps, H b = some (.tbl ps) → ∃ more, H' b = some (.tbl (ps ++ more))
section
variable {fs fs' ex ex' : List Addr} {H H1 H2 : Hp} {h h1 h2 h' : Heap} {a x e : Addr} {o : HO}
theorem Un.any (u : Un fs ex H H1 h h1) {b : Addr} {ob : Obj} (q : h.get? b = some ob) (n : H b = none) (hx : b ∉ ex) : ∃ sl, h1.get? b = some { ob with slots := sl } := by
  by_cases hb : b ∈ fs
  · exact u.slot b ob q n hb hx
  · exact ⟨ob.slots, u.keep b ob q n hb hx⟩
theorem Un.trans (a : Un fs ex H H1 h h1) (b : Un fs ex H1 H2 h1 h2) : Un fs ex H H2 h h2 where
  keep := fun c ob q n hc hx => b.keep c ob (a.keep c ob q n hc hx) (a.free c ob q n hx) hc hx
  slot := fun c ob q n hc hx => by
    obtain ⟨sl, e1⟩ := a.slot c ob q n hc hx
    obtain ⟨sl', e2⟩ := b.slot c _ e1 (a.free c ob q n hx) hc hx
    exact ⟨sl', e2⟩
  free := fun c ob q n hx => by
    obtain ⟨o', e1⟩ := a.there c ob q hx
    exact b.free c o' e1 (a.free c ob q n hx) hx
  there := fun c ob q hx => by
    obtain ⟨o', e1⟩ := a.there c ob q hx
    exact b.there c o' e1 hx
  tups := fun c xs q => b.tups c xs (a.tups c xs q)
  frzs := fun c ob xs q => b.frzs c ob xs (a.frzs c ob xs q)
  tbls := fun c ps q => by
    obtain ⟨m1, e1⟩ := a.tbls c ps q
    obtain ⟨m2, e2⟩ := b.tbls c _ e1
    exact ⟨m1 ++ m2, by rw [e2, Array.append_assoc]⟩
theorem Un.kept (k : ∀ b u, h.get? b = some u → h'.get? b = some u) : Un fs ex H H h h' :=
  ⟨fun b ob q _ _ _ => k b ob q, fun b ob q _ _ _ => ⟨ob.slots, k b ob q⟩, fun _ _ _ n _ => n, fun b ob q _ => ⟨ob, k b ob q⟩, fun _ _ q => q, fun _ _ _ q => q, fun _ ps q => ⟨#[], by rw [q]; simp⟩⟩
theorem Un.refl : Un fs ex H H h h := Un.kept fun _ _ q => q
theorem Un.laid (k : ∀ b u, h.get? b = some u → h'.get? b = some u) (hp : h.objs.size ≤ a) (hn : H a = none) : Un fs ex H (upd H a o) h h' where
  keep := fun b u q _ _ _ => k b u q
  slot := fun b u q _ _ _ => ⟨u.slots, k b u q⟩
  free := fun b u q n _ => by rw [upd_ne (Nat.ne_of_lt (Nat.lt_of_lt_of_le (Heap.lt_size q) hp))]; exact n
  there := fun b u q _ => ⟨u, k b u q⟩
  tups := fun b xs q => by rw [upd_ne (ne_of_none q hn)]; exact q
  frzs := fun b u xs q => by rw [upd_ne (ne_of_none q hn)]; exact q
  tbls := fun b ps q => ⟨#[], by rw [upd_ne (ne_of_none q hn), q]; simp⟩
theorem Un.write (mu : Mut (H x)) (he : e = x ∨ H e = some (.own x)) (k : ∀ b u, b ≠ e → h.get? b = some u → h'.get? b = some u) (heo : ∃ u, h'.get? e = some u) : Un fs ex H (upd H x o) h h' := by
  have hx : ∀ b, H b = none → b ≠ x := fun b n z => by subst z; rw [n] at mu; exact mu
  have hb : ∀ b, H b = none → b ≠ e := fun b n z => by
    subst z
    rcases he with r | r
    · exact hx b n r
    · rw [n] at r; cases r
  have hm : ∀ b u, H b = some u → ¬ Mut (some u) → b ≠ x := fun b u q nm z => by subst z; rw [q] at mu; exact nm mu
  refine ⟨fun b u q n _ _ => k b u (hb b n) q, fun b u q n _ _ => ⟨u.slots, k b u (hb b n) q⟩, fun b u q n _ => by rw [upd_ne (hx b n)]; exact n, fun b u q _ => ?_,
    fun b xs q => by rw [upd_ne (hm b _ q fun z => z)]; exact q, fun b u xs q => by rw [upd_ne (hm b _ q fun z => z)]; exact q, fun b ps q => ⟨#[], by rw [upd_ne (hm b _ q fun z => z), q]; simp⟩⟩
  by_cases hbe : b = e
  · subst hbe; exact heo
  · exact ⟨u, k b u hbe q⟩
theorem Un.mono (u : Un fs ex H H1 h h1) (hs : ∀ b ∈ fs, b ∈ fs') (hx : ∀ b ∈ ex, b ∈ ex') : Un fs' ex' H H1 h h1 :=
  ⟨fun b ob q n hb he => u.keep b ob q n (fun z => hb (hs b z)) fun z => he (hx b z), fun _ _ q n _ he => u.any q n fun z => he (hx _ z), fun b ob q n he => u.free b ob q n fun z => he (hx b z), fun b ob q he => u.there b ob q fun z => he (hx b z), u.tups, u.frzs, u.tbls⟩
end

/-! ### the heap without what is tracked -/
def trk (h : Heap) (H : Hp) : List Addr := (List.range h.objs.size).filter fun a => (H a).isSome
def hidT (h : Heap) (H : Hp) : Heap := PySem.W.hideAll h (trk h H)
theorem hidT_size (h : Heap) (H : Hp) : (hidT h H).objs.size = h.objs.size := PySem.W.hideAll_size _ _
theorem hidT_get {h : Heap} {H : Hp} {b : Addr} {o : Obj} (e : h.get? b = some o) (n : H b = none) : (hidT h H).get? b = some o :=
  PySem.W.hideAll_get _ e fun hm => by
    have q : (H b).isSome = true := (List.mem_filter.mp hm).2
    rw [n] at q; simp at q
theorem of_hidT {h : Heap} {H : Hp} {b : Addr} {o : Obj} (e : (hidT h H).get? b = some o) : h.get? b = some o ∧ H b = none := by
  have e' : h.get? b = some o := PySem.W.of_hideAll (trk h H) e
  refine ⟨e', ?_⟩
  cases q : H b with
  | none => rfl
  | some x =>
    have hm : b ∈ trk h H := List.mem_filter.mpr ⟨List.mem_range.mpr (Heap.lt_size e'), by simp [q]⟩
    have z : (hidT h H).get? b = none := PySem.W.hideAll_none (trk h H) hm
    rw [z] at e; cases e

/-! ### OpenK's ledger, filled with every new object but one -/
def allNews (g h : Heap) (L : Addr) : List (Addr × Obj) := (List.range h.objs.size).filterMap fun a => if a = L ∨ (g.get? a).isSome = true then none else (h.get? a).map fun o => (a, o)
theorem mem_allNews {g h : Heap} {L a : Addr} {o : Obj} (h1 : a ≠ L) (h2 : g.get? a = none) (h3 : h.get? a = some o) : (a, o) ∈ allNews g h L :=
  List.mem_filterMap.mpr ⟨a, List.mem_range.mpr (Heap.lt_size h3), by simp [h1, h2, h3]⟩
theorem of_mem_allNews {g h : Heap} {L : Addr} {p : Addr × Obj} (hp : p ∈ allNews g h L) : p.1 ≠ L ∧ g.get? p.1 = none ∧ h.get? p.1 = some p.2 := by
  obtain ⟨b, _, e⟩ := List.mem_filterMap.mp hp
  split at e
  · cases e
  · rename_i hn
    cases q : h.get? b with
    | none => rw [q] at e; simp at e
    | some u =>
      rw [q] at e
      simp only [Option.map_some, Option.some.injEq] at e
      subst e
      refine ⟨fun z => hn (.inl z), ?_, q⟩
      show g.get? b = none
      cases r : g.get? b with
      | none => rfl
      | some v => exact (hn (.inr (by simp [r]))).elim
def rest (g h : Heap) (L d : Addr) : List (Addr × Obj) := (allNews g h L).filter fun p => decide (p.1 ≠ d)
theorem rest_ne {g h : Heap} {L d : Addr} : ∀ p ∈ rest g h L d, p.1 ≠ d := fun p hp => of_decide_eq_true (List.mem_filter.mp hp).2
theorem mem_rest {g h : Heap} {L d a : Addr} {o : Obj} (h1 : a ≠ L) (h2 : g.get? a = none) (h3 : h.get? a = some o) (h4 : a ≠ d) : (a, o) ∈ rest g h L d :=
  List.mem_filter.mpr ⟨mem_allNews h1 h2 h3, decide_eq_true h4⟩
theorem news_all {g h : Heap} {L : Addr} : News g L h (allNews g h L) := fun p hp => let ⟨a, b, c⟩ := of_mem_allNews hp; ⟨c, a, b⟩
theorem news_at {g h : Heap} {L d : Addr} {o : Obj} (h1 : d ≠ L) (h2 : g.get? d = none) (h3 : h.get? d = some o) : News g L h ((d, o) :: rest g h L d) := fun p hp => by
  rcases List.mem_cons.mp hp with rfl | hp
  · exact ⟨h3, h1, h2⟩
  · exact news_all p (List.mem_filter.mp hp).1
/-- behind a rule that changed d alone: all else but the frame is kept -/
theorem kept_of_news {g h h' : Heap} {L d : Addr} {m : Str → Option Value} (k : ∀ b o, g.get? b = some o → h.get? b = some o) (F : Fr g L h' m) (N : News g L h' (rest g h L d)) :
    ∀ b o, b ≠ L → b ≠ d → h.get? b = some o → h'.get? b = some o := fun b o h1 h2 e => by
  cases q : g.get? b with
  | some u =>
    have := k b u q
    rw [e] at this; cases this
    exact F.keep b _ q
  | none => exact (N (b, o) (mem_rest h1 q e h2)).1
end L2

namespace L2
open PySem PySem.Spec PyProof.Rows

/-- the module's facts, over the base: the heap at the law's entry without what is tracked there -/
structure Mod (K : PySem.W.Frag) (mg : Str → Option Value) (base : Heap) : Prop where
  kin : K.In base
  glob : base.Ns mainGlobals mg
  blt : ∃ mb, base.Ns builtinsNs mb ∧ ∀ x : Str, x ≠ "__name__" → mb x = bootBuiltins x
  nolimit : base.NoLimit

/-- the context: a def's body (or a comprehension's block) running. base: fixed through the whole law; s₀, H₀: the entry; outer: the frames whose slots others may change (a def's callers); stack: all frames that run;
   ex: iterators that were made ahead of the entry and are walked here (a comprehension's); fn: the names whose cells were made at the entry (a def: all; a comprehension's block: its own); calm: not within an except suite; pn: pins that every state bears; xe: what is wanted of an exception that leaves the code -/
structure Cx where
  prog : Program
  w : World
  K : PySem.W.Frag
  mg : Str → Option Value
  base : Heap
  A : Around
  N : List Str
  s₀ : Shared
  H₀ : Hp
  env : Env
  outer : List Env
  stack : List Env
  ex : List Addr
  fn : Str → Bool
  calm : Bool
  pn : List (Addr × Obj)
  xe : Value → Shared → Prop
/-- the callers' frames -/
def frs (l : List Env) : List Addr := l.filterMap (·.frame)
abbrev Cx.fs (X : Cx) : List Addr := frs X.outer

def Vis (sc : Scope) (x : Str) : Prop := sc.names.lookup x = some .local ∨ sc.names.lookup x = some .cell ∨ sc.names.lookup x = some .free
def Loc (sc : Scope) (x : Str) : Prop := sc.names.lookup x = some .local ∨ sc.names.lookup x = some .cell
def Look (env : Env) (h : Heap) (m : Str → Option Value) (x : Str) (u : Value) : Prop :=
  (env.kindOf x = some .local ∧ m x = some u) ∨ ((env.kindOf x = some .cell ∨ env.kindOf x = some .free) ∧ ∃ c, env.cells.lookup x = some c ∧ h.IsCell c (some u))

structure Cx.Ok (X : Cx) : Prop where
  mod : Mod X.K X.mg X.base
  kind : X.env.scope.kind = .function
  glob : X.env.globals = mainGlobals
  blt : X.env.builtins = builtinsNs
  above : X.s₀.heap.objs.size ≤ X.env.locals
  inj : ∀ x y c, X.env.cells.lookup x = some c → X.env.cells.lookup y = some c → x = y
  has : ∀ x, (X.env.kindOf x = some .cell ∨ X.env.kindOf x = some .free) → ∃ c, X.env.cells.lookup x = some c
  cab : ∀ x c, X.fn x = true → X.env.cells.lookup x = some c → X.s₀.heap.objs.size ≤ c
  hd : X.calm = true → X.A.handled = none
  frames : X.A.frames = some X.stack
  stk : X.stack = X.outer ∨ (X.stack = X.env :: X.outer ∧ X.env.frame = some X.env.locals)
  exf : ∀ b ∈ X.ex, b ≠ X.env.locals ∧ ∀ x c, X.env.cells.lookup x = some c → c ≠ b
  bs : ∀ b o, X.base.get? b = some o → X.s₀.heap.get? b = some o ∧ X.H₀ b = none
  bsz : X.base.objs.size ≤ X.s₀.heap.objs.size
  noex : ∀ b o, X.base.get? b = some o → b ∉ X.ex
  exfs : ∀ b ∈ X.ex, b ∉ X.fs
  funs : X.s₀.heap.FunFrames X.base X.outer
  frf : ∀ b ∈ X.fs, X.H₀ b = none

/-- the generators that were there still are; none would be left with something to do -/
def GOk (g₀ g : Array GenState) : Prop := AllBare g ∧ g₀.size ≤ g.size
structure Inv (X : Cx) (pins : List (Addr × Obj)) (σ : List (Option V)) (H : Hp) (s : Shared) : Prop where
  ok : X.Ok
  os : s.os = X.s₀.os
  bare : GOk X.s₀.gens s.gens
  base : Un X.fs X.ex X.H₀ H X.s₀.heap s.heap
  loc : ∃ m, s.heap.Ns X.env.locals m ∧ ∀ (i : Nat) (x : Str) (v : V), X.N[i]? = some x → σ[i]? = some (some v) → Vis X.env.scope x → ∃ u, RelV v u ∧ Look X.env s.heap m x u
  cell : ∀ x c, X.env.cells.lookup x = some c → ∃ v, s.heap.IsCell c v
  free : H X.env.locals = none
  freeC : ∀ x c, X.env.cells.lookup x = some c → H c = none
  pin : ∀ p ∈ X.pn ++ pins, s.heap.get? p.1 = some p.2 ∧ H p.1 = none ∧ p.1 ≠ X.env.locals ∧ p.1 ∉ X.fs ∧ ∀ v, p.2.data ≠ .cell v
  hok : HOk X.prog X.w H s.heap
  len : σ.length = X.N.length

section
variable {X : Cx} {pins : List (Addr × Obj)} {σ : List (Option V)} {H H' : Hp} {s : Shared} {h' : Heap}

theorem Cx.Ok.nofr (ok : X.Ok) {b : Addr} {o : Obj} (e : X.base.get? b = some o) : b ∉ X.fs := fun hb => by
  have := (ok.funs.mem hb).1
  rw [e] at this; cases this
theorem Inv.bs (I : Inv X pins σ H s) : ∀ b o, X.base.get? b = some o → s.heap.get? b = some o ∧ H b = none := fun b o e =>
  ⟨I.base.keep b o (I.ok.bs b o e).1 (I.ok.bs b o e).2 (I.ok.nofr e) (I.ok.noex b o e), I.base.free b o (I.ok.bs b o e).1 (I.ok.bs b o e).2 (I.ok.noex b o e)⟩
theorem Inv.bk (I : Inv X pins σ H s) : ∀ b o, X.base.get? b = some o → s.heap.get? b = some o := fun b o e => (I.bs b o e).1
theorem Inv.mod (I : Inv X pins σ H s) : Mod X.K X.mg X.base := I.ok.mod
theorem Inv.kIn (I : Inv X pins σ H s) : X.K.In s.heap := I.ok.mod.kin.keeps I.bk
theorem Inv.nolimit (I : Inv X pins σ H s) : s.heap.NoLimit := I.ok.mod.nolimit.keeps I.bk
/-- the frame over the base: for OpenK's rules (K.In X.base is I.mod.kin) -/
theorem Inv.fr (I : Inv X pins σ H s) : ∃ m, Fr X.base X.env.locals s.heap m :=
  let ⟨m, hn, _⟩ := I.loc
  ⟨m, hn, I.bk, Nat.le_trans I.ok.bsz I.ok.above⟩
theorem Inv.lt (I : Inv X pins σ H s) : X.env.locals < s.heap.objs.size := let ⟨_, hn, _⟩ := I.loc; hn.lt
theorem Inv.sz (I : Inv X pins σ H s) : X.s₀.heap.objs.size ≤ s.heap.objs.size := Nat.le_trans I.ok.above (Nat.le_of_lt I.lt)
theorem Inv.nofs (I : Inv X pins σ H s) {a : Addr} (h : s.heap.objs.size ≤ a) : a ∉ X.fs := fun hb => by
  obtain ⟨_, o, ho, _⟩ := I.ok.funs.mem hb
  exact absurd (Nat.lt_of_lt_of_le (Heap.lt_size ho) (Nat.le_trans I.sz h)) (Nat.lt_irrefl _)
theorem Inv.cne (I : Inv X pins σ H s) : ∀ x c, X.env.cells.lookup x = some c → c ≠ X.env.locals := fun x c e z => by
  obtain ⟨v, o, ho, hd⟩ := I.cell x c e
  obtain ⟨m, ⟨o', es, ep, ho', hd', _⟩, _⟩ := I.loc
  rw [z, ho'] at ho; cases ho; rw [hd'] at hd; cases hd
theorem Inv.funs (I : Inv X pins σ H s) : s.heap.FunFrames X.base X.outer := by
  have all : ∀ (l : List Env), (∀ b ∈ frs l, b ∈ X.fs) → X.s₀.heap.FunFrames X.base l → s.heap.FunFrames X.base l := by
    intro l
    induction l with
    | nil => intro _ _; trivial
    | cons env r ih =>
      intro hs hl
      obtain ⟨hk, ⟨L, o, hf, hn, ho, hd⟩, hr⟩ := hl
      have hL : L ∈ X.fs := hs L (by unfold frs; rw [List.filterMap_cons, hf]; exact List.mem_cons_self)
      obtain ⟨sl, e⟩ := I.base.slot L o ho (I.ok.frf L hL) hL fun z => I.ok.exfs L z hL
      exact ⟨hk, ⟨L, _, hf, hn, e, hd⟩, ih (fun b hb => hs b (by unfold frs; rw [List.filterMap_cons, hf]; exact List.mem_cons_of_mem _ hb)) hr⟩
  exact all X.outer (fun _ hb => hb) I.ok.funs

/-- the frames that run, for a call -/
theorem Inv.stack (I : Inv X pins σ H s) : s.heap.FunFrames X.base X.stack := by
  rcases I.ok.stk with e | ⟨e, hf⟩
  · rw [e]; exact I.funs
  · rw [e]
    obtain ⟨m, hn, _⟩ := I.loc
    refine .cons (by rw [I.ok.kind]; decide) hf hn ?_ I.funs
    exact Heap.get?_none_of_le (Nat.le_trans I.ok.bsz I.ok.above)
theorem Inv.stkSub (I : Inv X pins σ H s) : ∀ b ∈ frs X.stack, b ∈ X.env.locals :: X.fs := fun b hb => by
  rcases I.ok.stk with e | ⟨e, hf⟩
  · rw [e] at hb; exact List.mem_cons_of_mem _ hb
  · rw [e] at hb
    unfold frs at hb
    rw [List.filterMap_cons, hf] at hb
    exact hb
theorem Inv.stkFree (I : Inv X pins σ H s) : ∀ b ∈ frs X.stack, H b = none := fun b hb => by
  rcases List.mem_cons.mp (I.stkSub b hb) with e | hb
  · rw [e]; exact I.free
  · obtain ⟨_, o, ho, _⟩ := I.ok.funs.mem hb
    exact I.base.free b o ho (I.ok.frf b hb) fun z => I.ok.exfs b z hb

/-- THE STEP: the untracked objects but the frame and the records at ch are kept (the callers' frames up to slots), the frame's map is kept, the new abstract heap is held -/
theorem Inv.step {g' : Array GenState} {t' : Nat} {d' : Drawn} {ch : List Addr} (I : Inv X pins σ H s)
    (hch : ∀ b ∈ ch, (b ∈ X.ex ∨ X.s₀.heap.objs.size ≤ b) ∧ b ≠ X.env.locals ∧ (∀ x c, X.env.cells.lookup x = some c → c ≠ b) ∧ ∀ p ∈ X.pn ++ pins, p.1 ≠ b)
    (keep : ∀ b o, b ≠ X.env.locals → b ∉ X.fs → b ∉ ch → s.heap.get? b = some o → H b = none → h'.get? b = some o)
    (slot : ∀ b o, b ≠ X.env.locals → b ∈ X.fs → b ∉ ch → s.heap.get? b = some o → H b = none → ∃ sl, h'.get? b = some { o with slots := sl }) (free : ∀ b o, b ∉ ch → s.heap.get? b = some o → H b = none → H' b = none)
    (there : ∀ b o, b ∉ ch → s.heap.get? b = some o → ∃ o', h'.get? b = some o')
    (tups : ∀ b xs, H b = some (.tup xs) → H' b = some (.tup xs)) (frzs : ∀ b o u, H b = some (.frz o u) → H' b = some (.frz o u)) (tbls : ∀ b ps, H b = some (.tbl ps) → ∃ more, H' b = some (.tbl (ps ++ more)))
    (ns : ∀ m, s.heap.Ns X.env.locals m → h'.Ns X.env.locals m) (hok : HOk X.prog X.w H' h') (hg : GOk s.gens g') :
    Inv X pins σ H' { s with heap := h', gens := g', drawn := d', toks := t' } := by
  have neL : ∀ b o, X.s₀.heap.get? b = some o → b ≠ X.env.locals := fun b o e => Nat.ne_of_lt (Nat.lt_of_lt_of_le (Heap.lt_size e) I.ok.above)
  have neC : ∀ b o, X.s₀.heap.get? b = some o → b ∉ X.ex → b ∉ ch := fun b o e hx hb => by
    rcases (hch b hb).1 with z | z
    · exact hx z
    · exact absurd (Nat.lt_of_lt_of_le (Heap.lt_size e) z) (Nat.lt_irrefl _)
  have cellK : ∀ x c, X.env.cells.lookup x = some c → ∀ v, s.heap.IsCell c v → h'.IsCell c v := fun x c e v ⟨o, ho, hd⟩ => by
    have nch : c ∉ ch := fun z => (hch c z).2.2.1 x c e rfl
    by_cases hc : c ∈ X.fs
    · obtain ⟨sl, q⟩ := slot c o (I.cne x c e) hc nch ho (I.freeC x c e)
      exact ⟨_, q, hd⟩
    · exact ⟨o, keep c o (I.cne x c e) hc nch ho (I.freeC x c e), hd⟩
  refine ⟨I.ok, I.os, ⟨hg.1, Nat.le_trans I.bare.2 hg.2⟩, ⟨fun b o e n hb hx => ?_, fun b o e n hb hx => ?_, fun b o e n hx => ?_, fun b o e hx => ?_, fun b xs e => tups b xs (I.base.tups b xs e), fun b o xs e => frzs b o xs (I.base.frzs b o xs e), fun b ps e => ?_⟩, ?_, fun x c e => ?_, ?_, fun x c e => ?_, fun p hp => ?_, hok, I.len⟩
  · exact keep b o (neL b o e) hb (neC b o e hx) (I.base.keep b o e n hb hx) (I.base.free b o e n hx)
  · obtain ⟨sl, e1⟩ := I.base.slot b o e n hb hx
    obtain ⟨sl', e2⟩ := slot b _ (neL b o e) hb (neC b o e hx) e1 (I.base.free b o e n hx)
    exact ⟨sl', e2⟩
  · obtain ⟨o', e1⟩ := I.base.there b o e hx
    exact free b o' (neC b o e hx) e1 (I.base.free b o e n hx)
  · obtain ⟨o', e1⟩ := I.base.there b o e hx
    exact there b o' (neC b o e hx) e1
  · obtain ⟨m1, e1⟩ := I.base.tbls b ps e
    obtain ⟨m2, e2⟩ := tbls b _ e1
    exact ⟨m1 ++ m2, by rw [e2, Array.append_assoc]⟩
  · obtain ⟨m, hn, hl⟩ := I.loc
    refine ⟨m, ns m hn, fun i x v e1 e2 e3 => ?_⟩
    obtain ⟨u, r, l⟩ := hl i x v e1 e2 e3
    refine ⟨u, r, ?_⟩
    rcases l with l | ⟨k, c, e, z⟩
    · exact .inl l
    · exact .inr ⟨k, c, e, cellK x c e _ z⟩
  · obtain ⟨v, z⟩ := I.cell x c e
    exact ⟨v, cellK x c e v z⟩
  · obtain ⟨m, ⟨o, _, _, ho, _⟩, _⟩ := I.loc
    exact free _ o (fun z => (hch _ z).2.1 rfl) ho I.free
  · obtain ⟨v, o, ho, hd⟩ := I.cell x c e
    exact free c o (fun z => (hch c z).2.2.1 x c e rfl) ho (I.freeC x c e)
  · obtain ⟨e, n, ne, nf, d⟩ := I.pin p hp
    have nch : p.1 ∉ ch := fun z => (hch p.1 z).2.2.2 p hp rfl
    exact ⟨keep p.1 p.2 ne nf nch e n, free p.1 p.2 nch e n, ne, nf, d⟩
/-- .. where the frame's own object is kept too -/
theorem Inv.un {t' : Nat} (I : Inv X pins σ H s) (u : Un X.fs [] H H' s.heap h') (hok : HOk X.prog X.w H' h') : Inv X pins σ H' { s with heap := h', toks := t' } := by
  obtain ⟨m, ⟨o, es, ep, ho, r⟩, _⟩ := id I.loc
  obtain ⟨sl, hL⟩ := u.any ho I.free (by simp)
  exact I.step (g' := s.gens) (d' := s.drawn) (ch := []) (fun _ z => nomatch z) (fun b o _ hb _ e n => u.keep b o e n hb (by simp)) (fun b o _ hb _ e n => u.slot b o e n hb (by simp)) (fun b o _ e n => u.free b o e n (by simp)) (fun b o _ e => u.there b o e (by simp)) u.tups u.frzs u.tbls (fun m' hm => by
    obtain ⟨o', es', ep', ho', r'⟩ := hm
    rw [ho] at ho'; cases ho'
    exact ⟨_, es', ep', hL, r'⟩) hok ⟨I.bare.1, Nat.le_refl _⟩
/-- behind a call (or a comprehension's block): the slots of this frame may have changed too, the records at ch may have turned -/
theorem Inv.call {g' : Array GenState} {t' : Nat} {d' : Drawn} {ch : List Addr} (I : Inv X pins σ H s) (u : Un (frs X.stack) ch H H' s.heap h') (hok : HOk X.prog X.w H' h') (hg : GOk s.gens g')
    (hch : ∀ b ∈ ch, (b ∈ X.ex ∨ X.s₀.heap.objs.size ≤ b) ∧ b ≠ X.env.locals ∧ (∀ x c, X.env.cells.lookup x = some c → c ≠ b) ∧ ∀ p ∈ X.pn ++ pins, p.1 ≠ b) :
    Inv X pins σ H' { s with heap := h', gens := g', drawn := d', toks := t' } := by
  obtain ⟨m, ⟨o, es, ep, ho, r⟩, _⟩ := id I.loc
  obtain ⟨sl, hL⟩ := u.any ho I.free fun z => (hch _ z).2.1 rfl
  exact I.step (ch := ch) hch (fun b o hL hb hc e n => u.keep b o e n (fun z => (List.mem_cons.mp (I.stkSub b z)).elim hL hb) hc) (fun b o _ _ hc e n => u.any e n hc) (fun b o hc e n => u.free b o e n hc) (fun b o hc e => u.there b o e hc) u.tups u.frzs u.tbls (fun m' hm => by
    obtain ⟨o', es', ep', ho', r'⟩ := hm
    rw [ho] at ho'; cases ho'
    exact ⟨_, es', ep', hL, r'⟩) hok hg
/-- an untracked record of ours (an iterator) has turned -/
theorem Inv.turned {t' : Nat} {it : Addr} (I : Inv X pins σ H s) (k : ∀ b o, b ≠ it → s.heap.get? b = some o → h'.get? b = some o) (hn : H it = none) (hL : it ≠ X.env.locals)
    (h1 : it ∈ X.ex ∨ X.s₀.heap.objs.size ≤ it) (h2 : ∀ x c, X.env.cells.lookup x = some c → c ≠ it) (h3 : ∀ p ∈ X.pn ++ pins, p.1 ≠ it) : Inv X pins σ H { s with heap := h', toks := t' } := by
  have nit : ∀ b u, H b = some u → b ≠ it := fun b u e z => by rw [z, hn] at e; cases e
  refine I.step (g' := s.gens) (d' := s.drawn) (ch := [it]) (fun b hb => ?_) (fun b o _ _ hc e _ => k b o (fun z => hc (by simp [z])) e) (fun b o _ _ hc e _ => ⟨o.slots, k b o (fun z => hc (by simp [z])) e⟩) (fun _ _ _ _ n => n)
    (fun b o hc e => ⟨o, k b o (fun z => hc (by simp [z])) e⟩) (fun _ _ e => e) (fun _ _ _ e => e) (fun b ps e => ⟨#[], by rw [e]; simp⟩) (fun m hm => ?_) (fun b u e => ?_) ⟨I.bare.1, Nat.le_refl _⟩
  · have e : b = it := by simpa using hb
    subst e
    exact ⟨h1, hL, h2, h3⟩
  · obtain ⟨o, es, ep, ho, r⟩ := hm
    exact ⟨o, es, ep, k _ o (Ne.symm hL) ho, r⟩
  · refine (I.hok b u e).stay (fun c v hc q => k c v ?_ q) (fun _ q => q) fun _ _ q => q
    rcases hc with z | z
    · rw [z]; exact nit b u e
    · exact nit c _ z
theorem Inv.tok (I : Inv X pins σ H s) (t : Nat) : Inv X pins σ H { s with toks := t } := I.un (h' := s.heap) (t' := t) Un.refl I.hok
/-- all objects kept -/
theorem Inv.kept {t' : Nat} (I : Inv X pins σ H s) (k : ∀ b u, s.heap.get? b = some u → h'.get? b = some u) : Inv X pins σ H { s with heap := h', toks := t' } := I.un (Un.kept k) (I.hok.kept k)
/-- a new object laid and tracked -/
theorem Inv.laid {a : Addr} {o : HO} {t' : Nat} (I : Inv X pins σ H s) (k : ∀ b u, s.heap.get? b = some u → h'.get? b = some u) (hp : s.heap.objs.size ≤ a) (new : ObjOk X.prog X.w (upd H a o) h' a o) :
    Inv X pins σ (upd H a o) { s with heap := h', toks := t' } := I.un (Un.laid k hp (I.hok.fresh hp)) (I.hok.laid k hp new)
/-- an object written -/
theorem Inv.write {x e : Addr} {o : HO} {t' : Nat} (I : Inv X pins σ H s) (mu : Mut (H x)) (he : e = x ∨ H e = some (.own x)) (k : ∀ b u, b ≠ e → s.heap.get? b = some u → h'.get? b = some u) (heo : ∃ u, h'.get? e = some u)
    (new : ObjOk X.prog X.w (upd H x o) h' x o) : Inv X pins σ (upd H x o) { s with heap := h', toks := t' } := I.un (Un.write mu he k heo) (I.hok.write mu he k heo new)
/-- forgetting slots, pins -/
theorem Inv.weak {σ' : List (Option V)} (I : Inv X pins σ H s) (hl : σ'.length = σ.length) (w : ∀ (i : Nat) v, σ'[i]? = some (some v) → σ[i]? = some (some v)) : Inv X pins σ' H s :=
  ⟨I.ok, I.os, I.bare, I.base, let ⟨m, hn, hl'⟩ := I.loc; ⟨m, hn, fun i x v e1 e2 e3 => hl' i x v e1 (w i v e2) e3⟩, I.cell, I.free, I.freeC, I.pin, I.hok, hl.trans I.len⟩
theorem Inv.pins_of {pins' : List (Addr × Obj)} (I : Inv X pins σ H s) (h : ∀ p ∈ pins', s.heap.get? p.1 = some p.2 ∧ H p.1 = none ∧ p.1 ≠ X.env.locals ∧ p.1 ∉ X.fs ∧ ∀ v, p.2.data ≠ .cell v) : Inv X pins' σ H s :=
  ⟨I.ok, I.os, I.bare, I.base, I.loc, I.cell, I.free, I.freeC, fun p hp => (List.mem_append.mp hp).elim (fun z => I.pin p (List.mem_append_left _ z)) (h p), I.hok, I.len⟩

theorem nodup_ix {N : List Str} (hN : N.Nodup) {i j : Nat} {x : Str} (a : N[i]? = some x) (b : N[j]? = some x) : i = j := by
  obtain ⟨h1, e1⟩ := List.getElem?_eq_some_iff.mp a
  obtain ⟨h2, e2⟩ := List.getElem?_eq_some_iff.mp b
  exact (List.getElem_inj hN).mp (e1.trans e2.symm)

/-- a name is stored; what changed -/
theorem store_ok2 {M : Model} {A : Around} {E : Value → Shared → Prop} {i : Nat} {x : Str} {v : V} {u : Value} {Q : Unit → Shared → Prop} (I : Inv X pins σ H s) (hN : X.N.Nodup) (hi : X.N[i]? = some x) (hx : Loc X.env.scope x) (r : RelV v u)
    (h : ∀ s', Inv X pins (σ.set i (some v)) H s' → (∃ a, Heap.SameBut a s.heap s'.heap ∧ (a = X.env.locals ∨ X.env.cells.lookup x = some a)) → Q () s') (hf : X.fn x = true ∨ X.env.scope.names.lookup x = some .local := by first | exact .inl rfl | exact .inr rfl | assumption) : wpAny M A (storeName X.env x u) Q E s := by
  obtain ⟨m, hn, hl⟩ := id I.loc
  have hcls : (X.env.scope.kind == .class || (X.env.scope.kind == .module && X.env.locals != X.env.globals)) = false := by rw [I.ok.kind]; rfl
  have hiσ : i < σ.length := by rw [I.len]; exact (List.getElem?_eq_some_iff.mp hi).1
  have cne := I.cne
  have tracked : ∀ {a : Addr} {h' : Heap}, (∃ o, s.heap.get? a = some o ∧ H a = none) → Heap.SameBut a s.heap h' → HOk X.prog X.w H h' := fun {a h'} ha hs b ob e => by
    obtain ⟨_, _, hfree⟩ := ha
    refine (I.hok b ob e).stay (fun c w' hc q => (hs.2 c ?_).trans q) (fun _ q => q) fun _ _ q => q
    rintro rfl
    rcases hc with rfl | hc
    · rw [hfree] at e; cases e
    · rw [hfree] at hc; cases hc
  rcases hx with hk | hk
  · refine wpAny_storeName_local hk hn (fun h' hn' hs => ?_) hcls
    obtain ⟨oL, _, _, hoL, _⟩ := id hn
    refine h _ ⟨I.ok, I.os, I.bare, ⟨fun b o e n hb hx => ?_, fun b o e n hb hx => ?_, I.base.free, fun b o e hx => ?_, I.base.tups, I.base.frzs, I.base.tbls⟩, ⟨_, hn', fun j y v' e1 e2 e3 => ?_⟩, fun y c e => ?_, I.free, I.freeC, fun p hp => ?_, tracked ⟨oL, hoL, I.free⟩ hs, by simpa using I.len⟩ ⟨_, hs, .inl rfl⟩
    · exact (hs.2 b (Nat.ne_of_lt (Nat.lt_of_lt_of_le (Heap.lt_size e) I.ok.above))).trans (I.base.keep b o e n hb hx)
    · obtain ⟨sl, e1⟩ := I.base.slot b o e n hb hx
      exact ⟨sl, (hs.2 b (Nat.ne_of_lt (Nat.lt_of_lt_of_le (Heap.lt_size e) I.ok.above))).trans e1⟩
    · obtain ⟨o', e1⟩ := I.base.there b o e hx
      exact ⟨o', (hs.2 b (Nat.ne_of_lt (Nat.lt_of_lt_of_le (Heap.lt_size e) I.ok.above))).trans e1⟩
    · by_cases hj : j = i
      · subst hj
        rw [hi] at e1; cases e1
        rw [List.getElem?_set_self hiσ] at e2
        cases e2
        exact ⟨u, r, .inl ⟨hk, by simp⟩⟩
      · rw [List.getElem?_set_ne (Ne.symm hj)] at e2
        obtain ⟨u', r', q⟩ := hl j y v' e1 e2 e3
        refine ⟨u', r', ?_⟩
        rcases q with ⟨k, e⟩ | ⟨k, c, e, z⟩
        · refine .inl ⟨k, ?_⟩
          have : y ≠ x := fun e => hj (nodup_ix hN e1 (e ▸ hi))
          simp [this, e]
        · exact .inr ⟨k, c, e, z.sameBut hs (cne y c e)⟩
    · obtain ⟨w', z⟩ := I.cell y c e
      exact ⟨w', z.sameBut hs (cne y c e)⟩
    · obtain ⟨e, n, ne, nf, d⟩ := I.pin p hp
      exact ⟨(hs.2 p.1 ne).trans e, n, ne, nf, d⟩
  · have hfn : X.fn x = true := by
      rcases hf with z | z
      · exact z
      · rw [z] at hk; cases hk
    obtain ⟨c, hc⟩ := I.ok.has x (.inl hk)
    obtain ⟨w', z⟩ := I.cell x c hc
    refine wpAny_storeName_cell I.ok.kind hk hc z (fun h' hc' hs => ?_)
    obtain ⟨oc, hoc, hocd⟩ := id z
    refine h { s with heap := h' } ⟨I.ok, I.os, I.bare, ⟨fun b o e n hb hx => ?_, fun b o e n hb hx => ?_, I.base.free, fun b o e hx => ?_, I.base.tups, I.base.frzs, I.base.tbls⟩, ⟨m, hn.sameBut hs (Ne.symm (cne x c hc)), fun j y v' e1 e2 e3 => ?_⟩, fun y c' e => ?_, I.free, I.freeC, fun p hp => ?_, tracked ⟨oc, hoc, I.freeC x c hc⟩ hs, by simpa using I.len⟩ ⟨c, hs, .inr hc⟩
    · exact (hs.2 b (Nat.ne_of_lt (Nat.lt_of_lt_of_le (Heap.lt_size e) (I.ok.cab x c hfn hc)))).trans (I.base.keep b o e n hb hx)
    · obtain ⟨sl, e1⟩ := I.base.slot b o e n hb hx
      exact ⟨sl, (hs.2 b (Nat.ne_of_lt (Nat.lt_of_lt_of_le (Heap.lt_size e) (I.ok.cab x c hfn hc)))).trans e1⟩
    · obtain ⟨o', e1⟩ := I.base.there b o e hx
      exact ⟨o', (hs.2 b (Nat.ne_of_lt (Nat.lt_of_lt_of_le (Heap.lt_size e) (I.ok.cab x c hfn hc)))).trans e1⟩
    · by_cases hj : j = i
      · subst hj
        rw [hi] at e1; cases e1
        rw [List.getElem?_set_self hiσ] at e2
        cases e2
        exact ⟨u, r, .inr ⟨.inl hk, c, hc, hc'⟩⟩
      · rw [List.getElem?_set_ne (Ne.symm hj)] at e2
        obtain ⟨u', r', q⟩ := hl j y v' e1 e2 e3
        refine ⟨u', r', ?_⟩
        rcases q with q | ⟨k, c', e, z'⟩
        · exact .inl q
        · refine .inr ⟨k, c', e, z'.sameBut hs ?_⟩
          rintro rfl
          exact hj (nodup_ix hN e1 (I.ok.inj _ _ _ e hc ▸ hi))
    · by_cases hcc : c' = c
      · subst hcc; exact ⟨_, hc'⟩
      · obtain ⟨w2, z2⟩ := I.cell y c' e
        exact ⟨w2, z2.sameBut hs hcc⟩
    · obtain ⟨e, n, ne, nf, d⟩ := I.pin p hp
      refine ⟨(hs.2 p.1 ?_).trans e, n, ne, nf, d⟩
      intro q
      rw [q, hoc] at e
      have q' : oc = p.2 := Option.some.inj e
      exact d w' (by rw [← q']; exact hocd)
theorem store_ok {M : Model} {A : Around} {E : Value → Shared → Prop} {i : Nat} {x : Str} {v : V} {u : Value} {Q : Unit → Shared → Prop} (I : Inv X pins σ H s) (hN : X.N.Nodup) (hi : X.N[i]? = some x) (hx : Loc X.env.scope x) (r : RelV v u)
    (h : ∀ s', Inv X pins (σ.set i (some v)) H s' → Q () s') (hf : X.fn x = true ∨ X.env.scope.names.lookup x = some .local := by first | exact .inl rfl | exact .inr rfl | assumption) : wpAny M A (storeName X.env x u) Q E s :=
  store_ok2 I hN hi hx r (fun s' I' _ => h s' I') hf
/-- behind a call or a block, the state as it is -/
theorem Inv.call' {s' : Shared} {ch : List Addr} (I : Inv X pins σ H s) (ho : s'.os = s.os) (u : Un (frs X.stack) ch H H' s.heap s'.heap) (hok : HOk X.prog X.w H' s'.heap) (hg : GOk s.gens s'.gens)
    (hch : ∀ b ∈ ch, (b ∈ X.ex ∨ X.s₀.heap.objs.size ≤ b) ∧ b ≠ X.env.locals ∧ (∀ x c, X.env.cells.lookup x = some c → c ≠ b) ∧ ∀ p ∈ X.pn ++ pins, p.1 ≠ b) : Inv X pins σ H' s' := by
  obtain ⟨h', g', d', t', o'⟩ := s'
  have e : o' = s.os := ho
  subst e
  exact I.call (g' := g') (t' := t') (d' := d') u hok hg hch
end

/-! ### the judgements -/
/-- an exception: its class, its own dict's address (where it has one), the abstract heap behind it -/
abbrev XK := Value → Option Addr → Hp → Prop
abbrev St := List (Option V)
abbrev VK := V → Hp → Prop
/-- an expression's reading; a test's; an argument list's -/
abbrev TE := St → Hp → VK → Prop
abbrev TT := St → Hp → (Bool → Hp → Prop) → Prop
abbrev TA := St → Hp → (List V → Hp → Prop) → Prop
/-- what is wanted behind a statement -/
structure Ends where
  nx : St → Hp → Prop
  rt : VK
  bk : St → Hp → Prop := fun _ _ => False
  ct : St → Hp → Prop := fun _ _ => False
abbrev TS := Ends → St → Hp → Prop

def EP (X : Cx) (pins : List (Addr × Obj)) (σ : St) (Q : VK) (u : Value) (s' : Shared) : Prop := ∃ v H', Inv X pins σ H' s' ∧ RelV v u ∧ Q v H'
def TP (X : Cx) (pins : List (Addr × Obj)) (σ : St) (Q : Bool → Hp → Prop) (b : Bool) (s' : Shared) : Prop := ∃ H', Inv X pins σ H' s' ∧ Q b H'
def AP (X : Cx) (pins : List (Addr × Obj)) (σ : St) (Q : List V → Hp → Prop) (us : List Value) (s' : Shared) : Prop := ∃ vs H', Inv X pins σ H' s' ∧ Vals vs us ∧ Q vs H'
def SP (X : Cx) (pins : List (Addr × Obj)) (D : Ends) (f : Flow) (s' : Shared) : Prop :=
  match f with
  | .next => ∃ σ' H', Inv X pins σ' H' s' ∧ D.nx σ' H'
  | .brk => ∃ σ' H', Inv X pins σ' H' s' ∧ D.bk σ' H'
  | .cont => ∃ σ' H', Inv X pins σ' H' s' ∧ D.ct σ' H'
  | .ret u => ∃ v σ' H', Inv X pins σ' H' s' ∧ RelV v u ∧ D.rt v H'

def PE (X : Cx) (e : Expr) (t : TE) : Prop :=
  ∀ (pins : List (Addr × Obj)) (s : Shared) (σ : St) (H : Hp) (Q : VK), Inv X pins σ H s → t σ H Q → wpAny (model X.prog X.w) X.A (eval e X.env) (EP X pins σ Q) X.xe s
def PT (X : Cx) (e : Expr) (t : TT) : Prop :=
  ∀ (pins : List (Addr × Obj)) (s : Shared) (σ : St) (H : Hp) (Q : Bool → Hp → Prop), Inv X pins σ H s → t σ H Q → wpAny (model X.prog X.w) X.A (isTrue e X.env (eval e X.env)) (TP X pins σ Q) X.xe s
/-- a test whatever its 'whole' is (and, or) -/
def PW (X : Cx) (e : Expr) (t : TT) : Prop :=
  ∀ (whole : Sem Value) (pins : List (Addr × Obj)) (s : Shared) (σ : St) (H : Hp) (Q : Bool → Hp → Prop), Inv X pins σ H s → t σ H Q → wpAny (model X.prog X.w) X.A (isTrue e X.env whole) (TP X pins σ Q) X.xe s
theorem PW.pt {X : Cx} {e : Expr} {t : TT} (h : PW X e t) : PT X e t := h _
/-- an argument list (no star), from the left -/
def PA (X : Cx) (es : List Expr) (t : TA) : Prop :=
  ∀ (pos : Pos) (pins : List (Addr × Obj)) (s : Shared) (σ : St) (H : Hp) (Q : List V → Hp → Prop), Inv X pins σ H s → t σ H Q → wpAny (model X.prog X.w) X.A (spliced (backTo pos (starEach es X.env))) (AP X pins σ Q) X.xe s
def PS (X : Cx) (st : Stmt) (t : TS) : Prop :=
  ∀ (pins : List (Addr × Obj)) (s : Shared) (σ : St) (H : Hp) (D : Ends), Inv X pins σ H s → t D σ H → wpAny (model X.prog X.w) X.A (exec st X.env) (SP X pins D) X.xe s
def PSs (X : Cx) (st : List Stmt) (t : TS) : Prop :=
  ∀ (pins : List (Addr × Obj)) (s : Shared) (σ : St) (H : Hp) (D : Ends), Inv X pins σ H s → t D σ H → wpAny (model X.prog X.w) X.A (execs st X.env) (SP X pins D) X.xe s
/-- weaken the end -/
theorem thn {α : Type} {t : Sem α} {Q Q' : α → Shared → Prop} {M : Model} {A : Around} {E : Value → Shared → Prop} {s : Shared} (h : wpAny M A t Q E s) (hQ : ∀ a s, Q a s → Q' a s) : wpAny M A t Q' E s := wpAny_mono h hQ fun _ _ x => x
end L2

namespace L2
open PySem PySem.Spec PyProof.Rows
section
variable {X : Cx}

/-- two expressions in a row -/
theorem bin {a b : Expr} {ta tb : TE} (ha : PE X a ta) (hb : PE X b tb) {pins : List (Addr × Obj)} {s : Shared} {σ : St} {H : Hp} {R : V → V → Hp → Prop} (I : Inv X pins σ H s) (h : ta σ H fun x H1 => tb σ H1 fun y H2 => R x y H2)
    {α : Type} {Q : α → Shared → Prop} {f : Value → Value → Sem α}
    (hf : ∀ v u s2 x y H2, Inv X pins σ H2 s2 → RelV x v → RelV y u → R x y H2 → wpAny (model X.prog X.w) X.A (f v u) Q X.xe s2) :
    wpAny (model X.prog X.w) X.A (eval a X.env) (fun v s₁ => wpAny (model X.prog X.w) X.A (eval b X.env) (fun u s₂ => wpAny (model X.prog X.w) X.A (f v u) Q X.xe s₂) X.xe s₁) X.xe s := by
  refine thn (ha pins s σ H _ I h) fun v s1 ⟨x, H1, I1, r1, q1⟩ => ?_
  refine thn (hb pins s1 σ H1 _ I1 q1) fun u s2 ⟨y, H2, I2, r2, q2⟩ => ?_
  exact hf v u s2 x y H2 I2 r1 r2 q2

/-! ### names and constants -/
def tVar (i : Nat) : TE := fun σ H Q => ∃ v, σ[i]? = some (some v) ∧ Q v H
def tC (v : V) : TE := fun _ H Q => Q v H
theorem pe_var {i : Nat} {x : Str} {pos : Pos} (hN : X.N[i]? = some x) (hv : Vis X.env.scope x) (hd : (x == ("__debug__" : Str)) = false := by decide) (hcd : (x == ("__classdict__" : Str)) = false := by decide) : PE X (.Name x pos) (tVar i) := by
  intro pins s σ H Q I h
  obtain ⟨v, e, h⟩ := h
  obtain ⟨m, hn, hl⟩ := I.loc
  obtain ⟨u, r, l⟩ := hl i x v hN e hv
  have fin : EP X pins σ Q u s := ⟨v, H, I, r, h⟩
  rcases l with ⟨hk, hm⟩ | ⟨hk, c, hc, hcell⟩
  · exact wpAny_Name (wpAny_loadName_local I.ok.kind hk hn hm fin) hd
  · rcases hk with hk | hk
    · exact wpAny_Name (wpAny_loadName_cell I.ok.kind hk hc hcell fin) hd
    · exact wpAny_Name (wpAny_loadName_free I.ok.kind hk hc hcell fin hcd) hd
theorem pe_int {i j pos} : PE X (.Constant (.int i) j pos) (tC (.int i)) := fun _ _ _ H _ I h => wpAny_Constant_int ⟨.int i, H, I.tok _, ⟨_, rfl⟩, h⟩
theorem pe_bl {b j pos} : PE X (.Constant (.bool b) j pos) (tC (.bl b)) := fun _ _ _ H _ I h => Constant_bool ⟨.bl b, H, I, rfl, h⟩
theorem pe_non {j pos} : PE X (.Constant .none j pos) (tC .non) := fun _ _ _ H _ I h => Constant_none ⟨.non, H, I, rfl, h⟩
theorem pe_str {x j pos} : PE X (.Constant (.str x) j pos) (tC (.str x)) := fun _ _ _ H _ I h => Calls.Constant_str ⟨.str x, H, I.tok _, ⟨_, rfl⟩, h⟩

/-- a global name of the def -/
def Gl (X : Cx) (x : Str) : Prop := X.env.kindOf x = some .globalImplicit
theorem ld_glob {E : Value → Shared → Prop} {pins : List (Addr × Obj)} {s : Shared} {σ : St} {H : Hp} {x : Str} {u : Value} {pos : Pos} {Q : Value → Shared → Prop} (I : Inv X pins σ H s) (hg : Gl X x) (hm : X.mg x = some u) (h : Q u s)
    (hd : (x == ("__debug__" : Str)) = false := by decide) : wpAny (model X.prog X.w) X.A (eval (.Name x pos) X.env) Q E s :=
  Calls.Name_function_global I.ok.kind hg (Calls.loadGlobal_global (by rw [I.ok.glob]; exact I.mod.glob.keeps I.bk) hm h) hd
theorem ld_blt {E : Value → Shared → Prop} {pins : List (Addr × Obj)} {s : Shared} {σ : St} {H : Hp} {x : Str} {u : Value} {pos : Pos} {Q : Value → Shared → Prop} (I : Inv X pins σ H s) (hg : Gl X x) (hm : X.mg x = none) (hv : bootBuiltins x = some u) (h : Q u s)
    (hn : x ≠ "__name__" := by decide) (hd : (x == ("__debug__" : Str)) = false := by decide) : wpAny (model X.prog X.w) X.A (eval (.Name x pos) X.env) Q E s := by
  obtain ⟨mb, h1, h2⟩ := I.mod.blt
  exact Calls.Name_function_global I.ok.kind hg (Calls.loadGlobal_builtin (by rw [I.ok.glob]; exact I.mod.glob.keeps I.bk) hm (by rw [I.ok.blt]; exact h1.keeps I.bk) ((h2 x hn).trans hv) h) hd
/-- a module's constant, a class, a function, as a value -/
theorem pe_glob {x : Str} {v : V} {u : Value} {pos : Pos} (hg : Gl X x) (hm : X.mg x = some u) (r : RelV v u) (hd : (x == ("__debug__" : Str)) = false := by decide) : PE X (.Name x pos) (tC v) :=
  fun _ _ _ H _ I h => ld_glob I hg hm ⟨v, H, I, r, h⟩ hd
theorem pe_bltn {x : Str} {v : V} {u : Value} {pos : Pos} (hg : Gl X x) (hm : X.mg x = none) (hv : bootBuiltins x = some u) (r : RelV v u) (hn : x ≠ "__name__" := by decide) (hd : (x == ("__debug__" : Str)) = false := by decide) : PE X (.Name x pos) (tC v) :=
  fun _ _ _ H _ I h => ld_blt I hg hm hv ⟨v, H, I, r, h⟩ hn hd

/-! ### arithmetic -/
/-- two ints -/
def t2I (ta tb : TE) (k : Int → Int → Hp → Prop) : St → Hp → Prop := fun σ H => ta σ H fun x H1 => tb σ H1 fun y H2 => ∃ i j, x = .int i ∧ y = .int j ∧ k i j H2
def tAdd (ta tb : TE) : TE := fun σ H Q => t2I ta tb (fun i j H2 => Q (.int (i + j)) H2) σ H
def tSub (ta tb : TE) : TE := fun σ H Q => t2I ta tb (fun i j H2 => Q (.int (i - j)) H2) σ H
/-- the left factor below 2^64 -/
def tMul (ta tb : TE) : TE := fun σ H Q => t2I ta tb (fun i j H2 => (-(2 ^ 64) < i ∧ i < 2 ^ 64) ∧ Q (.int (i * j)) H2) σ H
variable {a b : Expr} {ta tb : TE} {pos : Pos}
theorem pe_add (ha : PE X a ta) (hb : PE X b tb) : PE X (.BinOp a .Add b pos) (tAdd ta tb) := by
  intro pins s σ H Q I h
  refine wpAny_BinOp (bin ha hb I h fun v u s2 x y H2 I2 rx ry q => ?_)
  obtain ⟨i, j, rfl, rfl, q⟩ := q
  obtain ⟨t, rfl⟩ := rx
  obtain ⟨t', rfl⟩ := ry
  exact add_int ⟨.int _, H2, I2.tok _, ⟨_, rfl⟩, q⟩
theorem pe_sub (ha : PE X a ta) (hb : PE X b tb) : PE X (.BinOp a .Sub b pos) (tSub ta tb) := by
  intro pins s σ H Q I h
  refine wpAny_BinOp (bin ha hb I h fun v u s2 x y H2 I2 rx ry q => ?_)
  obtain ⟨i, j, rfl, rfl, q⟩ := q
  obtain ⟨t, rfl⟩ := rx
  obtain ⟨t', rfl⟩ := ry
  exact sub_int ⟨.int _, H2, I2.tok _, ⟨_, rfl⟩, q⟩
theorem pe_mul (ha : PE X a ta) (hb : PE X b tb) : PE X (.BinOp a .Mult b pos) (tMul ta tb) := by
  intro pins s σ H Q I h
  refine wpAny_BinOp (bin ha hb I h fun v u s2 x y H2 I2 rx ry q => ?_)
  obtain ⟨i, j, rfl, rfl, ⟨q1, q2⟩, q⟩ := q
  obtain ⟨t, rfl⟩ := rx
  obtain ⟨t', rfl⟩ := ry
  exact mul_int ⟨.int _, H2, I2.tok _, ⟨_, rfl⟩, q⟩ (.of_left (intBits_le_64 q1 q2))

/-! ### comparisons -/
def PC (X : Cx) (op : CmpOp) (a b : Expr) (t : TE) : Prop :=
  ∀ (pins : List (Addr × Obj)) (s : Shared) (σ : St) (H : Hp) (Q : VK), Inv X pins σ H s → t σ H Q →
    wpAny (model X.prog X.w) X.A (eval a X.env) (fun v s₁ => wpAny (model X.prog X.w) X.A (eval b X.env) (fun u s₂ => wpAny (model X.prog X.w) X.A (compareOp op v u) (EP X pins σ Q) X.xe s₂) X.xe s₁) X.xe s
theorem nobehind (b : Expr) {op : CmpOp} (h : op ≠ .In) (h2 : op ≠ .NotIn) : behindInMarks op b = false := by
  have e1 : (op == CmpOp.In) = false := by cases op <;> first | rfl | exact absurd rfl h
  have e2 : (op == CmpOp.NotIn) = false := by cases op <;> first | rfl | exact absurd rfl h2
  cases b <;> simp [behindInMarks, e1, e2]
def tCmp (p : Int → Int → Bool) (ta tb : TE) : TE := fun σ H Q => t2I ta tb (fun i j H2 => Q (.bl (p i j)) H2) σ H
abbrev tLt : TE → TE → TE := tCmp fun i j => decide (i < j)
abbrev tLe : TE → TE → TE := tCmp fun i j => decide (i ≤ j)
abbrev tGt : TE → TE → TE := tCmp fun i j => decide (j < i)
abbrev tGe : TE → TE → TE := tCmp fun i j => decide (j ≤ i)
abbrev tEqI : TE → TE → TE := tCmp fun i j => decide (i = j)
abbrev tNeI : TE → TE → TE := tCmp fun i j => !decide (i = j)
/-- a comparison of two ints, by its rule -/
theorem pc_int {op : CmpOp} {p : Int → Int → Bool} (ha : PE X a ta) (hb : PE X b tb)
    (rule : ∀ (i j : Int) (t u : Tok) (Q : Value → Shared → Prop) (s : Shared), Q (.bool (p i j)) s → wpAny (model X.prog X.w) X.A (compareOp op (.int i t) (.int j u)) Q X.xe s) : PC X op a b (tCmp p ta tb) := by
  intro pins s σ H Q I h
  refine bin ha hb I h fun v u s2 x y H2 I2 rx ry q => ?_
  obtain ⟨i, j, rfl, rfl, q⟩ := q
  obtain ⟨t, rfl⟩ := rx
  obtain ⟨t', rfl⟩ := ry
  exact rule i j t t' _ s2 ⟨.bl _, H2, I2, rfl, q⟩
theorem pc_lt (ha : PE X a ta) (hb : PE X b tb) : PC X .Lt a b (tLt ta tb) := pc_int ha hb fun _ _ _ _ _ _ h => lt_int h
theorem pc_le (ha : PE X a ta) (hb : PE X b tb) : PC X .LtE a b (tLe ta tb) := pc_int ha hb fun _ _ _ _ _ _ h => le_int h
theorem pc_gt (ha : PE X a ta) (hb : PE X b tb) : PC X .Gt a b (tGt ta tb) := pc_int ha hb fun _ _ _ _ _ _ h => gt_int h
theorem pc_ge (ha : PE X a ta) (hb : PE X b tb) : PC X .GtE a b (tGe ta tb) := pc_int ha hb fun _ _ _ _ _ _ h => ge_int h
theorem pc_eqI (ha : PE X a ta) (hb : PE X b tb) : PC X .Eq a b (tEqI ta tb) := pc_int ha hb fun _ _ _ _ _ _ h => eq_int (by rw [Bool.beq_eq_decide_eq]; exact h)
theorem pc_neI (ha : PE X a ta) (hb : PE X b tb) : PC X .NotEq a b (tNeI ta tb) := pc_int ha hb fun _ _ _ _ _ _ h => ne_int (by rw [bne, Bool.beq_eq_decide_eq]; exact h)
/-- is None -/
def tIsN (ta : TE) : TE := fun σ H Q => ta σ H fun x H1 => Q (.bl (decide (x = .non))) H1
def tNotN (ta : TE) : TE := fun σ H Q => ta σ H fun x H1 => Q (.bl (!decide (x = .non))) H1
theorem RelV.none_iff {x : V} {v : Value} (r : RelV x v) : (v == Value.none) = decide (x = .non) := by
  cases x with
  | non => cases r; rfl
  | bl _ => cases r; rfl
  | int _ => obtain ⟨t, rfl⟩ := r; rfl
  | str _ => obtain ⟨t, rfl⟩ := r; rfl
  | byt _ => obtain ⟨t, rfl⟩ := r; rfl
  | flt _ => obtain ⟨t, rfl⟩ := r; rfl
  | ref _ => cases r; rfl
  | ty _ => cases r; rfl
theorem pc_isN {j pos'} (ha : PE X a ta) : PC X .Is a (.Constant .none j pos') (tIsN ta) := by
  intro pins s σ H Q I h
  refine thn (ha pins s σ H _ I h) fun v s1 ⟨x, H1, I1, r1, q1⟩ => ?_
  exact Constant_none (is_none_gen ⟨.bl _, H1, I1, by rw [r1.none_iff]; rfl, q1⟩)
theorem pc_notN {j pos'} (ha : PE X a ta) : PC X .IsNot a (.Constant .none j pos') (tNotN ta) := by
  intro pins s σ H Q I h
  refine thn (ha pins s σ H _ I h) fun v s1 ⟨x, H1, I1, r1, q1⟩ => ?_
  exact Constant_none (isnot_none_gen ⟨.bl _, H1, I1, by rw [r1.none_iff]; rfl, q1⟩)
/-- a comparison as a value, as a test -/
def tB (t : TE) : TT := fun σ H Q => t σ H fun x H1 => ∃ c, x = .bl c ∧ Q c H1
theorem pe_cmp {op : CmpOp} {t : TE} (h : PC X op a b t) (h1 : behindInMarks op b = false := by first | exact nobehind _ (by decide) (by decide) | rfl) : PE X (.Compare a [op] [b] pos) t := fun pins s σ H Q I hw => wpAny_Compare1 (h pins s σ H Q I hw) h1
theorem pt_cmp {op : CmpOp} {t : TE} (h : PC X op a b t) (h1 : behindInMarks op b = false := by first | exact nobehind _ (by decide) (by decide) | rfl) : PT X (.Compare a [op] [b] pos) (tB t) := by
  intro pins s σ H Q I hw
  refine wpAny_isTrue_Compare1 (thn (h pins s σ H _ I hw) fun v s1 h1 => thn h1 fun u s2 h2 => thn h2 fun c s3 ⟨x, H1, I1, r1, q1⟩ => ?_) h1
  obtain ⟨d, rfl, q⟩ := q1
  cases r1
  exact wpAny_truthy_bool ⟨H1, I1, q⟩
/-- an expression whose value is a bool, as a test -/
theorem pt_val {e : Expr} {t : TE} (h : PE X e t) (he : ∀ whole, isTrue e X.env whole = (do let v ← whole; standAt e.pos; holding [v] (truthy v)) := by intro _; rfl) : PT X e (tB t) := by
  intro pins s σ H Q I hw
  refine isTrue_plain (thn (h pins s σ H _ I hw) fun v s1 ⟨x, H1, I1, r1, q1⟩ => ?_) (he _)
  obtain ⟨d, rfl, q⟩ := q1
  cases r1
  exact wpAny_truthy_bool ⟨H1, I1, q⟩

/-! ### and, or, not -/
variable {tA tB' : TT} {rest : List Expr}
def tAnd (t u : TT) : TT := fun σ H Q => t σ H fun c H1 => if c = true then u σ H1 Q else Q false H1
def tOr (t u : TT) : TT := fun σ H Q => t σ H fun c H1 => if c = true then Q true H1 else u σ H1 Q
def tNot (t : TT) : TT := fun σ H Q => t σ H fun c H1 => Q (!c) H1
theorem pw_and1 (ha : PT X a tA) : PW X (.BoolOp .And [a] pos) tA := by
  intro wh pins s σ H Q I h
  refine isTrue_and (thn (ha pins s σ H Q I h) fun c s1 e => ?_)
  cases c with
  | true => exact isTrue_and_nil e
  | false => exact e
theorem pw_or1 (ha : PT X a tA) : PW X (.BoolOp .Or [a] pos) tA := by
  intro wh pins s σ H Q I h
  refine isTrue_or (thn (ha pins s σ H Q I h) fun c s1 e => ?_)
  cases c with
  | false => exact isTrue_or_nil e
  | true => exact e
theorem pw_and (ha : PT X a tA) (hb : PW X (.BoolOp .And (b :: rest) pos) tB') : PW X (.BoolOp .And (a :: b :: rest) pos) (tAnd tA tB') := by
  intro wh pins s σ H Q I h
  refine isTrue_and (thn (ha pins s σ H _ I h) fun c s1 ⟨H1, I1, q1⟩ => ?_)
  cases c with
  | true => exact hb wh pins s1 σ H1 Q I1 q1
  | false => exact ⟨H1, I1, q1⟩
theorem pw_or (ha : PT X a tA) (hb : PW X (.BoolOp .Or (b :: rest) pos) tB') : PW X (.BoolOp .Or (a :: b :: rest) pos) (tOr tA tB') := by
  intro wh pins s σ H Q I h
  refine isTrue_or (thn (ha pins s σ H _ I h) fun c s1 ⟨H1, I1, q1⟩ => ?_)
  cases c with
  | true => exact ⟨H1, I1, q1⟩
  | false => exact hb wh pins s1 σ H1 Q I1 q1
theorem pt_not (ha : PT X a tA) : PT X (.UnaryOp .Not a pos) (tNot tA) := by
  intro pins s σ H Q I h
  exact isTrue_not (ha pins s σ H (fun c H1 => Q (!c) H1) I h)
/-- .. as values (bools) -/
def tAndV (ta tb : TE) : TE := fun σ H Q => ta σ H fun x H1 => ∃ c, x = .bl c ∧ if c = true then tb σ H1 Q else Q (.bl false) H1
def tOrV (ta tb : TE) : TE := fun σ H Q => ta σ H fun x H1 => ∃ c, x = .bl c ∧ if c = true then Q (.bl true) H1 else tb σ H1 Q
def tNotV (ta : TE) : TE := fun σ H Q => ta σ H fun x H1 => ∃ c, x = .bl c ∧ Q (.bl (!c)) H1
theorem pe_one {op} {t : TE} (h : PE X a t) : PE X (.BoolOp op [a] pos) t := fun pins s σ H Q I hw => BoolOp_one (h pins s σ H Q I hw)
theorem pe_and (ha : PE X a ta) (hb : PE X (.BoolOp .And (b :: rest) pos) tb) : PE X (.BoolOp .And (a :: b :: rest) pos) (tAndV ta tb) := by
  intro pins s σ H Q I h
  refine BoolOp_and (thn (ha pins s σ H _ I h) fun v s1 ⟨x, H1, I1, r1, q1⟩ => ?_)
  obtain ⟨c, rfl, q1⟩ := q1
  cases r1
  refine wpAny_truthy_bool ?_
  cases c with
  | true => exact hb pins s1 σ H1 Q I1 q1
  | false => exact ⟨.bl false, H1, I1, rfl, q1⟩
theorem pe_or (ha : PE X a ta) (hb : PE X (.BoolOp .Or (b :: rest) pos) tb) : PE X (.BoolOp .Or (a :: b :: rest) pos) (tOrV ta tb) := by
  intro pins s σ H Q I h
  refine BoolOp_or (thn (ha pins s σ H _ I h) fun v s1 ⟨x, H1, I1, r1, q1⟩ => ?_)
  obtain ⟨c, rfl, q1⟩ := q1
  cases r1
  refine wpAny_truthy_bool ?_
  cases c with
  | false => exact hb pins s1 σ H1 Q I1 q1
  | true => exact ⟨.bl true, H1, I1, rfl, q1⟩
theorem pe_not (ha : PE X a ta) : PE X (.UnaryOp .Not a pos) (tNotV ta) := by
  intro pins s σ H Q I h
  refine UnaryOp_ (thn (ha pins s σ H _ I h) fun v s1 ⟨x, H1, I1, r1, q1⟩ => ?_)
  obtain ⟨c, rfl, q1⟩ := q1
  cases r1
  exact not_of (wpAny_truthy_bool ⟨.bl (!c), H1, I1, rfl, q1⟩)
/-- a if t else b -/
def tIf (t : TT) (ta tb : TE) : TE := fun σ H Q => t σ H fun c H1 => if c = true then ta σ H1 Q else tb σ H1 Q
theorem pe_ifExp {c : Expr} (hc : PT X c tA) (ha : PE X a ta) (hb : PE X b tb) : PE X (.IfExp c a b pos) (tIf tA ta tb) := by
  intro pins s σ H Q I h
  refine wpAny_IfExp (thn (hc pins s σ H _ I h) fun d s1 ⟨H1, I1, q1⟩ => ?_)
  cases d with
  | true => exact ha pins s1 σ H1 Q I1 q1
  | false => exact hb pins s1 σ H1 Q I1 q1
end
end L2

namespace L2
open PySem PySem.Spec PyProof.Rows

/-! ### a list, a tuple that is read: tracked, frozen, or an object of the module -/
def SqL (K : PySem.W.Frag) (H : Hp) (a : Addr) (xs : List V) : Prop :=
  Rd H a (.lst xs) ∨
    ∃ (o : Obj) (its : Array Value) (n : Nat), K.lookup a = some o ∧ o.cls = .type "list" ∧ o.dict = none ∧ o.data = .seq its n ∧ its.size ≤ sizeLine ∧ Vals xs its.toList
def SqT (K : PySem.W.Frag) (H : Hp) (a : Addr) (xs : List V) : Prop :=
  Rd H a (.tup xs) ∨
    ∃ (o : Obj) (its : Array Value) (n : Nat), K.lookup a = some o ∧ o.cls = .type "tuple" ∧ o.data = .seq its n ∧ its.size ≤ sizeLine ∧ Vals xs its.toList
def absV : Value → Option V
  | .none => some .non
  | .bool b => some (.bl b)
  | .int i _ => some (.int i)
  | .str x _ => some (.str x)
  | .bytes b _ => some (.byt b)
  | .float b _ => some (.flt b)
  | .ref a => some (.ref a)
  | .type n => some (.ty n)
  | _ => none
theorem RelV.abs {x : V} {u : Value} (r : RelV x u) : absV u = some x := by
  cases x with
  | non => cases r; rfl
  | bl _ => cases r; rfl
  | int _ => obtain ⟨t, rfl⟩ := r; rfl
  | str _ => obtain ⟨t, rfl⟩ := r; rfl
  | byt _ => obtain ⟨t, rfl⟩ := r; rfl
  | flt _ => obtain ⟨t, rfl⟩ := r; rfl
  | ref _ => cases r; rfl
  | ty _ => cases r; rfl
theorem RelV.inj {x y : V} {u : Value} (r : RelV x u) (q : RelV y u) : x = y := Option.some.inj (r.abs.symm.trans q.abs)
theorem Vals.inj : ∀ {xs ys : List V} {us : List Value}, Vals xs us → Vals ys us → xs = ys
  | _, _, _, .nil, .nil => rfl
  | _, _, _, .cons r t, .cons r' t' => by rw [r.inj r', Vals.inj t t']
section
variable {X : Cx} {pins : List (Addr × Obj)} {σ : St} {H : Hp} {s : Shared} {a : Addr} {xs ys : List V}
theorem SqL.of {K : PySem.W.Frag} (h : H a = some (.lst xs)) : SqL K H a xs := .inl (.inl h)
theorem SqT.of {K : PySem.W.Frag} (h : H a = some (.tup xs)) : SqT K H a xs := .inl (.inl h)
theorem Inv.list (I : Inv X pins σ H s) (h : SqL X.K H a xs) : ∃ its : List Value, Vals xs its ∧ PlainL s.heap a its.toArray ∧ xs.length ≤ sizeLine := by
  rcases h with h | ⟨o, its, n, hk, hc, hd, hs, hz, r⟩
  · obtain ⟨z, its, n, r, e⟩ := h.ok I.hok
    exact ⟨its, r, ⟨_, n, e, rfl, rfl, rfl⟩, z⟩
  · refine ⟨its.toList, r, ⟨o, n, I.kIn a o hk, hc, hd, by simpa using hs⟩, ?_⟩
    have e := r.length
    simp only [Array.length_toList] at e
    omega
theorem Inv.tuple (I : Inv X pins σ H s) (h : SqT X.K H a xs) : ∃ its : List Value, Vals xs its ∧ IsTup s.heap a its.toArray ∧ xs.length ≤ sizeLine := by
  rcases h with h | ⟨o, its, n, hk, hc, hs, hz, r⟩
  · obtain ⟨z, its, r, p⟩ := h.ok I.hok
    exact ⟨its, r, p, z⟩
  · refine ⟨its.toList, r, ⟨o, I.kIn a o hk, hc, n, by simpa using hs⟩, ?_⟩
    have e := r.length
    simp only [Array.length_toList] at e
    omega
theorem Inv.list_inj (I : Inv X pins σ H s) (h : SqL X.K H a xs) (h' : SqL X.K H a ys) : xs = ys := by
  obtain ⟨its, r, ⟨o, n, e, _, _, d⟩, _⟩ := I.list h
  obtain ⟨its', r', ⟨o', n', e', _, _, d'⟩, _⟩ := I.list h'
  rw [e] at e'; cases e'
  rw [d] at d'
  injection d' with d1 _
  have : its = its' := by simpa using congrArg Array.toList d1
  subst this
  exact r.inj r'
theorem Inv.tuple_inj (I : Inv X pins σ H s) (h : SqT X.K H a xs) (h' : SqT X.K H a ys) : xs = ys := by
  obtain ⟨its, r, ⟨o, e, _, n, d⟩, _⟩ := I.tuple h
  obtain ⟨its', r', ⟨o', e', _, n', d'⟩, _⟩ := I.tuple h'
  rw [e] at e'; cases e'
  rw [d] at d'
  injection d' with d1 _
  have : its = its' := by simpa using congrArg Array.toList d1
  subst this
  exact r.inj r'
end

/-! ### another wish about exceptions -/
abbrev Cx.wish (X : Cx) (E : Value → Shared → Prop) : Cx := { X with xe := E }
/-- no exception leaves -/
abbrev Cx.nox (X : Cx) : Cx := X.wish fun _ _ => False
theorem Cx.Ok.wish {X : Cx} (ok : X.Ok) (E : Value → Shared → Prop) : (X.wish E).Ok :=
  ⟨ok.mod, ok.kind, ok.glob, ok.blt, ok.above, ok.inj, ok.has, ok.cab, ok.hd, ok.frames, ok.stk, ok.exf, ok.bs, ok.bsz, ok.noex, ok.exfs, ok.funs, ok.frf⟩
theorem Cx.Ok.unwish {X : Cx} {E : Value → Shared → Prop} (ok : (X.wish E).Ok) : X.Ok :=
  ⟨ok.mod, ok.kind, ok.glob, ok.blt, ok.above, ok.inj, ok.has, ok.cab, ok.hd, ok.frames, ok.stk, ok.exf, ok.bs, ok.bsz, ok.noex, ok.exfs, ok.funs, ok.frf⟩
section
variable {X : Cx} {pins : List (Addr × Obj)} {σ : St} {H : Hp} {s : Shared} {E : Value → Shared → Prop}
theorem Inv.wish (I : Inv X pins σ H s) (E : Value → Shared → Prop) : Inv (X.wish E) pins σ H s := ⟨I.ok.wish E, I.os, I.bare, I.base, I.loc, I.cell, I.free, I.freeC, I.pin, I.hok, I.len⟩
theorem Inv.unwish (I : Inv (X.wish E) pins σ H s) : Inv X pins σ H s := ⟨I.ok.unwish, I.os, I.bare, I.base, I.loc, I.cell, I.free, I.freeC, I.pin, I.hok, I.len⟩
theorem SP.unwish {D : Ends} {f : Flow} {s' : Shared} (h : SP (X.wish E) pins D f s') : SP X pins D f s' := by
  cases f with
  | next => obtain ⟨σ', H', I, q⟩ := h; exact ⟨σ', H', I.unwish, q⟩
  | brk => obtain ⟨σ', H', I, q⟩ := h; exact ⟨σ', H', I.unwish, q⟩
  | cont => obtain ⟨σ', H', I, q⟩ := h; exact ⟨σ', H', I.unwish, q⟩
  | ret u => obtain ⟨v, σ', H', I, r, q⟩ := h; exact ⟨v, σ', H', I.unwish, r, q⟩
theorem PE.nox {e : Expr} {t : TE} (h : PE X.nox e t) : PE X e t := fun pins s σ H Q I hw =>
  wpAny_mono (h pins s σ H Q (I.wish _) hw) (fun _ _ ⟨v, H', I', r, q⟩ => ⟨v, H', I'.unwish, r, q⟩) fun _ _ z => False.elim z
theorem PT.nox {e : Expr} {t : TT} (h : PT X.nox e t) : PT X e t := fun pins s σ H Q I hw =>
  wpAny_mono (h pins s σ H Q (I.wish _) hw) (fun _ _ ⟨H', I', q⟩ => ⟨H', I'.unwish, q⟩) fun _ _ z => False.elim z
theorem PSs.nox {st : List Stmt} {t : TS} (h : PSs X.nox st t) : PSs X st t := fun pins s σ H D I hw =>
  wpAny_mono (h pins s σ H D (I.wish _) hw) (fun _ _ q => q.unwish) fun _ _ z => False.elim z
end

/-! ### blocks and small statements -/
section
variable {X : Cx} {st : Stmt} {rest : List Stmt} {t u : TS} {e : Expr} {te : TE} {pos : Pos}
def tNext : TS := fun D σ H => D.nx σ H
def tSeq (t u : TS) : TS := fun D σ H => t { D with nx := u D } σ H
theorem pss_nil : PSs X [] tNext := fun _ _ σ H _ I h => wpAny_execs_nil ⟨σ, H, I, h⟩
theorem pss_cons (h1 : PS X st t) (h2 : PSs X rest u) : PSs X (st :: rest) (tSeq t u) := by
  intro pins s σ H D I h
  refine wpAny_execs_cons (thn (h1 pins s σ H { D with nx := u D } I h) fun f s1 q => ?_)
  cases f with
  | next =>
    obtain ⟨σ', H', I', q⟩ := q
    exact h2 pins s1 σ' H' D I' q
  | ret v => exact q
  | brk => exact q
  | cont => exact q
theorem pss_one (h1 : PS X st t) : PSs X [st] t := by
  intro pins s σ H D I h
  refine wpAny_execs_cons (thn (h1 pins s σ H D I h) fun f s1 q => ?_)
  cases f with
  | next => exact wpAny_execs_nil q
  | ret v => exact q
  | brk => exact q
  | cont => exact q
def tBreak : TS := fun D σ H => D.bk σ H
def tCont : TS := fun D σ H => D.ct σ H
theorem ps_pass : PS X (.Pass pos) tNext := fun _ _ σ H _ I h => wpAny_Pass ⟨σ, H, I, h⟩
theorem ps_break : PS X (.Break pos) tBreak := fun _ _ σ H _ I h => wpAny_Break ⟨σ, H, I, h⟩
theorem ps_continue : PS X (.Continue pos) tCont := fun _ _ σ H _ I h => wpAny_Continue ⟨σ, H, I, h⟩
/-- in a def's body nothing is shown -/
theorem Inv.quiet {pins : List (Addr × Obj)} {σ : St} {H : Hp} {s : Shared} (I : Inv X pins σ H s) : interactive X.env = false := by simp [interactive, I.ok.kind]
/-- a docstring -/
theorem ps_doc {x j pos pos'} : PS X (.Expr (.Constant (.str x) j pos) pos') tNext := fun _ s σ H _ I h => wpAny_Expr (Calls.Constant_str (show SP X _ _ .next { s with toks := s.toks + 1 } from ⟨σ, H, I.tok _, h⟩)) I.quiet
/-- an expression whose value is dropped -/
def tDrop (te : TE) : TS := fun D σ H => te σ H fun _ H1 => D.nx σ H1
theorem ps_expr (he : PE X e te) (hs : swapsWith e none pos.line X.env = pure false := by rfl) : PS X (.Expr e pos) (tDrop te) := by
  intro pins s σ H D I h
  exact wpAny_Expr_any (thn (he pins s σ H _ I h) fun v s1 ⟨x, H1, I1, r1, q1⟩ => ⟨σ, H1, I1, q1⟩) I.quiet hs
def tRet (te : TE) : TS := fun D σ H => te σ H D.rt
theorem ps_ret (he : PE X e te) : PS X (.Return (some e) pos) (tRet te) := by
  intro pins s σ H D I h
  exact wpAny_Return_some (thn (he pins s σ H _ I h) fun v s1 ⟨x, H1, I1, r1, q1⟩ => ⟨x, σ, H1, I1, r1, q1⟩)
def tRetN : TS := fun D _ H => D.rt .non H
theorem ps_retN : PS X (.Return none pos) tRetN := fun _ _ σ H _ I h => wpAny_Return_none ⟨.non, σ, H, I, rfl, h⟩
def tIfS (c : TT) (t u : TS) : TS := fun D σ H => c σ H fun b H1 => if b = true then t D σ H1 else u D σ H1
theorem ps_if {c : Expr} {a b : List Stmt} {tc : TT} (hc : PT X c tc) (ha : PSs X a t) (hb : PSs X b u) : PS X (.If c a b pos) (tIfS tc t u) := by
  intro pins s σ H D I h
  refine wpAny_If (thn (hc pins s σ H _ I h) fun d s1 ⟨H1, I1, q1⟩ => ?_)
  cases d with
  | true => exact ha pins s1 σ H1 D I1 q1
  | false => exact hb pins s1 σ H1 D I1 q1
/-- code that the proof never comes to -/
def tNever : TS := fun _ _ _ => False
theorem ps_never : PS X st tNever := fun _ _ _ _ _ _ h => h.elim
theorem pss_never {sts : List Stmt} : PSs X sts tNever := fun _ _ _ _ _ _ h => h.elim
end

/-! ### targets -/
abbrev TG := V → St → Hp → (St → Hp → Prop) → Prop
abbrev TGs := List V → St → Hp → (St → Hp → Prop) → Prop
def PG (X : Cx) (target : Expr) (t : TG) : Prop :=
  ∀ (pins : List (Addr × Obj)) (s : Shared) (σ : St) (H : Hp) (v : V) (u : Value) (Q : St → Hp → Prop), Inv X pins σ H s → RelV v u → t v σ H Q →
    wpAny (model X.prog X.w) X.A (assign target X.env u) (fun _ s' => ∃ σ' H', Inv X pins σ' H' s' ∧ Q σ' H') X.xe s
/-- several targets, one after another -/
def PGs (X : Cx) (ts : List Expr) (t : TGs) : Prop :=
  ∀ (pins : List (Addr × Obj)) (s : Shared) (σ : St) (H : Hp) (vs : List V) (us : List Value) (Q : St → Hp → Prop), Inv X pins σ H s → Vals vs us → t vs σ H Q →
    wpAny (model X.prog X.w) X.A (assignInOrder ((assignEach ts X.env).map (·.2)) us) (fun _ s' => ∃ σ' H', Inv X pins σ' H' s' ∧ Q σ' H') X.xe s
/-- o[i] = v, by values -/
abbrev TSet := V → V → V → Hp → (Hp → Prop) → Prop
def PSet (X : Cx) (t : TSet) : Prop :=
  ∀ (pins : List (Addr × Obj)) (s : Shared) (σ : St) (H : Hp) (o i v : V) (ov iv u : Value) (Q : Hp → Prop), Inv X pins σ H s → RelV o ov → RelV i iv → RelV v u → t o i v H Q →
    wpAny (model X.prog X.w) X.A (setItem ov iv u) (fun _ s' => ∃ H', Inv X pins σ H' s' ∧ Q H') X.xe s
/-- a op= b, by values -/
abbrev TIp := V → V → Hp → VK → Prop
def PIp (X : Cx) (op : Operator) (t : TIp) : Prop :=
  ∀ (pins : List (Addr × Obj)) (s : Shared) (σ : St) (H : Hp) (x y : V) (v u : Value) (Q : VK), Inv X pins σ H s → RelV x v → RelV y u → t x y H Q →
    wpAny (model X.prog X.w) X.A (inplaceOp op v u) (EP X pins σ Q) X.xe s
section
variable {X : Cx} {pos : Pos}
def gName (i : Nat) : TG := fun v σ H Q => Q (σ.set i (some v)) H
theorem pg_name {i : Nat} {x : Str} (hN : X.N.Nodup) (hi : X.N[i]? = some x) (hx : Loc X.env.scope x) (hf : X.fn x = true ∨ X.env.scope.names.lookup x = some .local := by first | exact .inl rfl | exact .inr rfl | assumption) : PG X (.Name x pos) (gName i) := by
  intro pins s σ H v u Q I r h
  exact wpAny_assign_Name (store_ok I hN hi hx r (fun s' I' => ⟨_, H, I', h⟩) hf)
def gNil : TGs := fun vs σ H Q => vs = [] ∧ Q σ H
def gCons (t : TG) (u : TGs) : TGs := fun vs σ H Q => ∃ v r, vs = v :: r ∧ t v σ H fun σ' H' => u r σ' H' Q
theorem pgs_nil : PGs X [] gNil := by
  intro pins s σ H vs us Q I r h
  obtain ⟨e, h⟩ := h
  subst e
  cases r
  exact assignInOrder_nil ⟨σ, H, I, h⟩
theorem pgs_cons {e : Expr} {es : List Expr} {t : TG} {u : TGs} (h1 : PG X e t) (h2 : PGs X es u)
    (hs : (assignEach (e :: es) X.env).map (·.2) = assign e X.env :: (assignEach es X.env).map (·.2) := by rfl) : PGs X (e :: es) (gCons t u) := by
  intro pins s σ H vs us Q I r h
  obtain ⟨v, vr, e1, h⟩ := h
  subst e1
  cases r with
  | cons r rr =>
    rw [hs]
    refine assignInOrder_cons (thn (h1 pins s σ H _ _ _ I r h) fun _ s1 ⟨σ1, H1, I1, q1⟩ => ?_)
    exact h2 pins s1 σ1 H1 _ _ Q I1 rr q1
/-- (a, b, ..) = a tuple of that length -/
def gTup (K : PySem.W.Frag) (n : Nat) (t : TGs) : TG := fun v σ H Q => ∃ a xs, v = .ref a ∧ SqT K H a xs ∧ xs.length = n ∧ t xs σ H Q
theorem pg_tup {es : List Expr} {k : Nat} {t : TGs} {n : Nat} (hc : X.calm = true) (h : PGs X es t)
    (hn : (assignEach es X.env).length = n := by rfl) (hst : (assignEach es X.env).findIdx? (·.1) = none := by rfl) : PG X (.Tuple es k pos) (gTup X.K n t) := by
  intro pins s σ H v u Q I r hw
  obtain ⟨a, xs, e1, hq, hl, hw⟩ := hw
  subst e1
  cases r
  obtain ⟨its, rv, ht, hz⟩ := I.tuple hq
  refine assign_Tuple_tuple (I.ok.hd hc) ht (by simp [hn, ← hl, rv.length]) hst fun h' hx => ?_
  have I1 : Inv X pins σ H { s with heap := h' } := I.kept (t' := s.toks) fun b o e => hx b o (Nat.ne_of_lt (Heap.lt_size e)) e
  exact h pins _ σ H xs _ Q I1 (by simpa using rv) hw
/-- o[i] = .. -/
def gSub (to ti : TE) (t : TSet) : TG := fun v σ H Q => to σ H fun o H1 => ti σ H1 fun i H2 => t o i v H2 fun H3 => Q σ H3
theorem pg_sub {o i : Expr} {to ti : TE} {t : TSet} (ho : PE X o to) (hi : PE X i ti) (hs : PSet X t)
    (ha : ∀ v, assign (.Subscript o i pos) X.env v = (do
      let ov ← holding [v] (eval o X.env)
      let iv ← holding [v, ov] (eval i X.env)
      standAt pos
      holding [v, ov, iv] (setItem ov iv v)
      release [v, ov, iv] []) := by intro _; rfl) : PG X (.Subscript o i pos) (gSub to ti t) := by
  intro pins s σ H v u Q I r h
  rw [ha]
  refine wpAny_bind (wpAny_holding (thn (ho pins s σ H _ I h) fun ov s1 ⟨x, H1, I1, r1, q1⟩ => ?_))
  refine wpAny_bind (wpAny_holding (thn (hi pins s1 σ H1 _ I1 q1) fun iv s2 ⟨y, H2, I2, r2, q2⟩ => ?_))
  refine wpAny_bind (wpAny_standAt (wpAny_bind (wpAny_holding (thn (hs pins s2 σ H2 x y v ov iv u _ I2 r1 r2 r q2) fun _ s3 ⟨H3, I3, q3⟩ => ?_))))
  exact wpAny_release ⟨σ, H3, I3, q3⟩
/-- target = value -/
def tAsg (te : TE) (g : TG) : TS := fun D σ H => te σ H fun x H1 => g x σ H1 D.nx
theorem ps_asg {tg e : Expr} {te : TE} {g : TG} (he : PE X e te) (hg : PG X tg g) (hs : swapsWithSole [tg] e pos.line X.env = pure false := by rfl) (hw : swappedStores [tg] e X.env = pure none := by rfl)
    (h1 : (assignEach [tg] X.env).map (·.2) = [assign tg X.env] := by rfl) : PS X (.Assign [tg] e pos) (tAsg te g) := by
  intro pins s σ H D I h
  refine wpAny_Assign_stores (thn (he pins s σ H _ I h) fun v s1 ⟨x, H1, I1, r1, q1⟩ => ?_) hs hw
  rw [h1]
  exact thn (hg pins s1 σ H1 x v _ I1 r1 q1) fun _ s2 q => q
/-- name = value -/
theorem ps_set {i : Nat} {x : Str} {e : Expr} {te : TE} {pos' : Pos} (hN : X.N.Nodup) (hi : X.N[i]? = some x) (hx : Loc X.env.scope x) (he : PE X e te) (hs : swapsWith e (some (.Name x pos')) pos.line X.env = pure false := by rfl) (hf : X.fn x = true ∨ X.env.scope.names.lookup x = some .local := by first | exact .inl rfl | exact .inr rfl | assumption) :
    PS X (.Assign [.Name x pos'] e pos) (tAsg te (gName i)) := by
  intro pins s σ H D I h
  refine wpAny_Assign_Name (thn (he pins s σ H _ I h) fun v s1 ⟨y, H1, I1, r1, q1⟩ => ?_) hs
  exact store_ok I1 hN hi hx r1 (fun s2 I2 => ⟨_, H1, I2, q1⟩) hf
/-- a, b = x, y with plain local names: stored from the right; the pair itself is not tracked (the opening rows as in PyProof/Rows/TupAssign.lean:23) -/
def tPar (i j : Nat) (ta : TA) : TS := fun D σ H => ta σ H fun vs H1 => ∃ v w, vs = [v, w] ∧ D.nx ((σ.set i (some v)).set j (some w)) H1
theorem ps_par {i j : Nat} {x y : Str} {a b : Expr} {ta : TA} {px py pt : Pos} {kt k2 pt2} (hc : X.calm = true) (hN : X.N.Nodup) (hi : X.N[i]? = some x) (hj : X.N[j]? = some y) (hij : i ≠ j)
    (hx : X.env.scope.names.lookup x = some .local) (hy : X.env.scope.names.lookup y = some .local) (ha : PA X [a, b] ta)
    (hw : swappedStores [.Tuple [.Name x px, .Name y py] kt pt] (.Tuple [a, b] k2 pt2) X.env = pure (some [x, y]))
    (hs : swapsWithSole [.Tuple [.Name x px, .Name y py] kt pt] (.Tuple [a, b] k2 pt2) pos.line X.env = pure false := by rfl) :
    PS X (.Assign [.Tuple [.Name x px, .Name y py] kt pt] (.Tuple [a, b] k2 pt2) pos) (tPar i j ta) := by
  intro pins s σ H D I h
  rw [exec_Assign_arm]
  refine wpAny_bind (wpAny_standAt ?_)
  rw [hs]
  refine wpAny_bind (wpAny_pure ?_)
  rw [if_neg (by decide)]
  refine wpAny_bind (Tuple_ (thn (ha _ pins s σ H _ I h) fun us s1 ⟨vs, H1, I1, r1, q1⟩ => ?_))
  obtain ⟨v, w, e1, q1⟩ := q1
  subst e1
  obtain ⟨u1, u2, rfl, rv, rw'⟩ : ∃ u1 u2, us = [u1, u2] ∧ RelV v u1 ∧ RelV w u2 := by
    cases r1 with
    | cons p q =>
      cases q with
      | cons p' q' =>
        cases q'
        exact ⟨_, _, rfl, p, p'⟩
  refine wpAny_newObj_type ?_ (by show 2 ≤ sizeLine; decide)
  have I2 : Inv X pins σ H1 { s1 with heap := s1.heap.push { cls := .type "tuple", data := .seq [u1, u2].toArray } } := I1.kept (t' := s1.toks) fun b o e => Heap.get?_push_of_some _ e
  rw [hw]
  refine wpAny_bind (wpAny_pure ?_)
  show wpAny (model X.prog X.w) X.A (do rule "assign.swapped-stores"; let items ← unpackItems (.ref s1.heap.objs.size) 2 none; assignInOrder [fun v => bindName X.env y v, fun v => bindName X.env x v] items.reverse; pure Flow.next) _ _ _
  refine wpAny_bind (wpAny_rule (wpAny_bind (unpackItems_tuple (items := #[u1, u2]) (I.ok.hd hc) (IsTup.new s1.heap _) fun h' hx' => ?_)))
  have I3 := I2.kept (h' := h') (t' := s1.toks) fun b o e => hx' b o (Nat.ne_of_lt (Heap.lt_size e)) e
  show wpAny _ _ (assignInOrder [fun v => bindName X.env y v, fun v => bindName X.env x v] [u2, u1] >>= fun _ => pure Flow.next) _ _ _
  refine wpAny_bind (assignInOrder_cons (wpAny_bindName (store_ok I3 hN hj (.inl hy) rw' (fun s2 I4 => ?_) (.inr hy))))
  refine assignInOrder_cons (wpAny_bindName (store_ok I4 hN hi (.inl hx) rv (fun s3 I5 => assignInOrder_nil (wpAny_pure ?_)) (.inr hx)))
  rw [List.set_comm _ _ (Ne.symm hij)] at I5
  exact ⟨_, H1, I5, q1⟩
/-- name op= e -/
def tAug (i : Nat) (te : TE) (ti : TIp) : TS := fun D σ H => ∃ x, σ[i]? = some (some x) ∧ te σ H fun y H1 => ti x y H1 fun z H2 => D.nx (σ.set i (some z)) H2
theorem ps_aug {i : Nat} {x : Str} {e : Expr} {te : TE} {op : Operator} {ti : TIp} {pos' : Pos} (hN : X.N.Nodup) (hi : X.N[i]? = some x) (hx : Loc X.env.scope x) (he : PE X e te) (ho : PIp X op ti) (hf : X.fn x = true ∨ X.env.scope.names.lookup x = some .local := by first | exact .inl rfl | exact .inr rfl | assumption) :
    PS X (.AugAssign (.Name x pos') op e pos) (tAug i te ti) := by
  intro pins s σ H D I h
  obtain ⟨v, e1, h⟩ := h
  obtain ⟨m, hn, hl⟩ := I.loc
  have vis : Vis X.env.scope x := by rcases hx with k | k; exact .inl k; exact .inr (.inl k)
  obtain ⟨u, r, l⟩ := hl i x v hi e1 vis
  refine wpAny_AugAssign_Name ?_
  have go : wpAny (model X.prog X.w) X.A (eval e X.env) (fun w s₂ => wpAny (model X.prog X.w) X.A (inplaceOp op u w) (fun r s₃ => wpAny (model X.prog X.w) X.A (storeName X.env x r) (fun _ => SP X pins D .next) X.xe s₃) X.xe s₂) X.xe s := by
    refine thn (he pins s σ H _ I h) fun w s1 ⟨y, H1, I1, r1, q1⟩ => ?_
    refine thn (ho pins s1 σ H1 v y u w _ I1 r r1 q1) fun z s2 ⟨zv, H2, I2, r2, q2⟩ => ?_
    exact store_ok I2 hN hi hx r2 (fun s3 I3 => ⟨_, H2, I3, q2⟩) hf
  rcases l with ⟨hk, hm⟩ | ⟨hk, c, hc, hcell⟩
  · exact wpAny_loadName_local I.ok.kind hk hn hm go
  · rcases hk with hk | hk
    · exact wpAny_loadName_cell I.ok.kind hk hc hcell go
    · rcases hx with k | k
      · have : X.env.scope.names.lookup x = some .free := hk
        rw [k] at this; cases this
      · have : X.env.scope.names.lookup x = some .free := hk
        rw [k] at this; cases this
/-- o[i] op= e -/
def tAugS (to ti te : TE) (tget : V → V → Hp → VK → Prop) (tip : TIp) (tset : TSet) : TS := fun D σ H => to σ H fun o H1 => ti σ H1 fun i H2 => tget o i H2 fun x H3 => te σ H3 fun y H4 => tip x y H4 fun z H5 => tset o i z H5 fun H6 => D.nx σ H6
/-- o[i], by values -/
def PGet (X : Cx) (t : V → V → Hp → VK → Prop) : Prop :=
  ∀ (pins : List (Addr × Obj)) (s : Shared) (σ : St) (H : Hp) (o i : V) (ov iv : Value) (Q : VK), Inv X pins σ H s → RelV o ov → RelV i iv → t o i H Q →
    wpAny (model X.prog X.w) X.A (getItem ov iv) (EP X pins σ Q) X.xe s
theorem ps_augS {o i e : Expr} {to ti te : TE} {tget : V → V → Hp → VK → Prop} {tip : TIp} {tset : TSet} {op : Operator} {tpos : Pos} (ho : PE X o to) (hi : PE X i ti) (hg : PGet X tget) (he : PE X e te) (hp : PIp X op tip) (hs : PSet X tset)
    (ha : ∀ ov iv new, augStore i ov iv new = (do holding [new, ov, iv] (setItem ov iv new); release [new, ov, iv] []; pure .next) := by intros; rfl) : PS X (.AugAssign (.Subscript o i tpos) op e pos) (tAugS to ti te tget tip tset) := by
  intro pins s σ H D I h
  refine wpAny_AugAssign_SubscriptAny (thn (ho pins s σ H _ I h) fun ov s1 ⟨x1, H1, I1, r1, q1⟩ => ?_) ha
  refine thn (hi pins s1 σ H1 _ I1 q1) fun iv s2 ⟨x2, H2, I2, r2, q2⟩ => ?_
  refine thn (hg pins s2 σ H2 x1 x2 ov iv _ I2 r1 r2 q2) fun old s3 ⟨x3, H3, I3, r3, q3⟩ => ?_
  refine thn (he pins s3 σ H3 _ I3 q3) fun v s4 ⟨x4, H4, I4, r4, q4⟩ => ?_
  refine thn (hp pins s4 σ H4 x3 x4 old v _ I4 r3 r4 q4) fun new s5 ⟨x5, H5, I5, r5, q5⟩ => ?_
  exact thn (hs pins s5 σ H5 x1 x2 x5 ov iv new _ I5 r1 r2 r5 q5) fun _ s6 ⟨H6, I6, q6⟩ => ⟨σ, H6, I6, q6⟩
/-- ints -/
def ipI (f : Int → Int → Int) : TIp := fun x y H Q => ∃ i j, x = .int i ∧ y = .int j ∧ Q (.int (f i j)) H
theorem ip_add : PIp X .Add (ipI fun i j => i + j) := by
  intro pins s σ H x y v u Q I r1 r2 h
  obtain ⟨i, j, e1, e2, q⟩ := h
  subst e1; subst e2
  obtain ⟨t, rfl⟩ := r1
  obtain ⟨t', rfl⟩ := r2
  exact iadd_int ⟨.int _, H, I.tok _, ⟨_, rfl⟩, q⟩
theorem ip_sub : PIp X .Sub (ipI fun i j => i - j) := by
  intro pins s σ H x y v u Q I r1 r2 h
  obtain ⟨i, j, e1, e2, q⟩ := h
  subst e1; subst e2
  obtain ⟨t, rfl⟩ := r1
  obtain ⟨t', rfl⟩ := r2
  exact isub_int ⟨.int _, H, I.tok _, ⟨_, rfl⟩, q⟩
end

/-! ### while -/
section
variable {X : Cx} {pos : Pos}
/-- the invariant W with its measure -/
def tWhile (c : TT) (tb : TS) : TS := fun D σ H => ∃ W : Nat → St → Hp → Prop, (∃ m, W m σ H) ∧ ∀ m σ H, W m σ H →
  c σ H fun b H1 => if b = true then ∃ N : St → Hp → Prop, (∀ σ' H', N σ' H' → ∃ m', m' < m ∧ W m' σ' H') ∧ tb { D with nx := N, ct := N, bk := D.nx } σ H1 else D.nx σ H1
theorem ps_while {c : Expr} {body : List Stmt} {tc : TT} {tb : TS} (hp : PassesOwn (model X.prog X.w) X.A X.env X.xe) (hc : PT X c tc) (hb : PSs X body tb) : PS X (.While c body [] pos) (tWhile tc tb) := by
  intro pins s σ H D I h
  obtain ⟨W, ⟨m0, w0⟩, turn⟩ := h
  refine wpAny_While (codeAny_whileLoop (fun n s' => ∃ σ' H', Inv X pins σ' H' s' ∧ W n σ' H') ?_ m0 ⟨σ, H, I, w0⟩)
  rintro n s1 ⟨σ1, H1, I1, w1⟩
  refine wpAny_passesOwn hp (thn (hc pins s1 σ1 H1 _ I1 (turn n σ1 H1 w1)) fun b s2 ⟨H2, I2, q2⟩ => ?_)
  cases b with
  | true =>
    obtain ⟨N, hN, q2⟩ := q2
    rw [if_pos rfl]
    refine wpAny_passesOwn hp (thn (hb pins s2 σ1 H2 _ I2 q2) fun f s3 q3 => ?_)
    cases f with
    | next =>
      obtain ⟨σ3, H3, I3, n3⟩ := q3
      obtain ⟨m', hm, w3⟩ := hN σ3 H3 n3
      exact ⟨m', hm, σ3, H3, I3, w3⟩
    | cont =>
      obtain ⟨σ3, H3, I3, n3⟩ := q3
      obtain ⟨m', hm, w3⟩ := hN σ3 H3 n3
      exact ⟨m', hm, σ3, H3, I3, w3⟩
    | brk => exact q3
    | ret v => exact q3
  | false =>
    rw [if_neg Bool.false_ne_true]
    exact wpAny_execs_nil ⟨σ1, H2, I2, q2⟩
end

/-! ### what a loop or a comprehension walks -/
/-- at turn i: it yields x (the heap may grow), or it stops -/
structure It where
  go : Nat → Hp → Prop
  yld : Nat → Hp → V → Hp → Prop
  stop : Nat → Hp → Prop
/-- the iterator's own objects may turn: they are not the frame's, not pinned, younger than the entry (or a comprehension's own) -/
def FpOk (X : Cx) (pins : List (Addr × Obj)) (H : Hp) (b : Addr) : Prop :=
  H b = none ∧ b ≠ X.env.locals ∧ b ∉ X.fs ∧ (b ∈ X.ex ∨ X.s₀.heap.objs.size ≤ b) ∧ (∀ x c, X.env.cells.lookup x = some c → c ≠ b) ∧ ∀ p ∈ X.pn ++ pins, p.1 ≠ b
theorem Inv.fpOk {X : Cx} {pins : List (Addr × Obj)} {σ : St} {H H' : Hp} {s : Shared} {b : Addr} (I : Inv X pins σ H s) (hb : s.heap.objs.size ≤ b) (hn : H' b = none) : FpOk X pins H' b := by
  refine ⟨hn, Nat.ne_of_gt (Nat.lt_of_lt_of_le I.lt hb), I.nofs hb, .inr (Nat.le_trans I.sz hb), fun x c e z => ?_, fun p hp z => ?_⟩
  · obtain ⟨v, q⟩ := I.cell x c e
    exact absurd (Nat.lt_of_lt_of_le q.lt (by rw [z]; exact hb)) (Nat.lt_irrefl _)
  · exact absurd (Nat.lt_of_lt_of_le (Heap.lt_size (I.pin p hp).1) (by rw [z]; exact hb)) (Nat.lt_irrefl _)
structure Turn (P : Program) (w : World) (K : PySem.W.Frag) (tg : Expr) (J : It) (fp : List Addr) (it : Addr) (tn : Nat → Heap → Prop) : Prop where
  mem : it ∈ fp
  obj : ∀ i h, tn i h → ∀ b ∈ fp, ∃ o, h.get? b = some o ∧ ∀ v, o.data ≠ .cell v
  keep : ∀ i h h', tn i h → (∀ b ∈ fp, ∀ o, h.get? b = some o → h'.get? b = some o) → tn i h'
  item : ∀ (X : Cx), X.prog = P → X.w = w → X.K = K → X.calm = true → ∀ (i : Nat) (pins : List (Addr × Obj)) (s : Shared) (σ : St) (H : Hp) (E : Value → Shared → Prop), Inv X pins σ H s → (∀ b ∈ fp, FpOk X pins H b) → tn i s.heap → J.go i H →
    wpAny (model P w) X.A (pyNext (.ref it)) (fun r s1 => ∃ u, r = some u ∧
      wpAny (model P w) X.A (letOwnedTupleGo tg (.ref it) u) (fun _ s2 => ∃ x H', Inv X pins σ H' s2 ∧ RelV x u ∧ J.yld i H x H' ∧ tn (i + 1) s2.heap ∧ ∀ b ∈ fp, H' b = none) E s1) E s
  done : ∀ (X : Cx), X.prog = P → X.w = w → X.K = K → X.calm = true → ∀ (i : Nat) (pins : List (Addr × Obj)) (s : Shared) (σ : St) (H : Hp) (E : Value → Shared → Prop), Inv X pins σ H s → (∀ b ∈ fp, FpOk X pins H b) → tn i s.heap → J.stop i H →
    wpAny (model P w) X.A (pyNext (.ref it)) (fun r s1 => r = none ∧ Inv X pins σ H s1) E s
  self : ∀ (A : Around) (i : Nat) (s : Shared) (Q : Value → Shared → Prop) (E : Value → Shared → Prop), tn i s.heap → Q (.ref it) s → wpAny (model P w) A (pyIter (.ref it)) Q E s
abbrev TI := St → Hp → (It → Hp → Prop) → Prop
/-- an iterator has come -/
def PIE (X : Cx) (pins : List (Addr × Obj)) (σ : St) (tg : Expr) (R : It → Hp → Prop) (itv : Value) (s2 : Shared) : Prop :=
  ∃ (it : Addr) (fp : List Addr) (tn : Nat → Heap → Prop) (J : It) (H' : Hp), itv = .ref it ∧ Inv X pins σ H' s2 ∧ Turn X.prog X.w X.K tg J fp it tn ∧ tn 0 s2.heap ∧ (∀ b ∈ fp, FpOk X pins H' b) ∧ R J H'
def PI (X : Cx) (tg iter : Expr) (wi : TI) : Prop :=
  ∀ (pins : List (Addr × Obj)) (s : Shared) (σ : St) (H : Hp) (R : It → Hp → Prop), Inv X pins σ H s → wi σ H R →
    wpAny (model X.prog X.w) X.A (eval iter X.env) (fun v s1 => wpAny (model X.prog X.w) X.A (pyIter v) (PIE X pins σ tg R) X.xe s1) X.xe s

/-- the step ahead of the store is nothing for an iterator that keeps no tuple -/
theorem go_of {M : Model} {A : Around} {E : Value → Shared → Prop} {s : Shared} {tg : Expr} {it : Addr} {u : Value} {o : Obj} {n : String} {vs : Array Value} {Q : Unit → Shared → Prop} (ho : s.heap.get? it = some o) (hc : o.cls = .type n) (hd : o.data = .fields vs)
    (hn : ["enumerate", "zip", "dict_itemiterator", "dict_reverseitemiterator", "odict_iterator", "itertools.zip_longest", "itertools.pairwise"].contains n = false) (hQ : Q () s) : wpAny M A (letOwnedTupleGo tg (.ref it) u) Q E s := by
  unfold letOwnedTupleGo
  cases tg <;> first
    | exact wpAny_pure hQ
    | (cases u <;> first
        | exact wpAny_pure hQ
        | (refine wpAny_bind (wpAny_load ho ?_)
           rw [hc, hd]
           show wpAny M A (if (["enumerate", "zip", "dict_itemiterator", "dict_reverseitemiterator", "odict_iterator", "itertools.zip_longest", "itertools.pairwise"].contains n && vs[0]? == some (rawInt _)) = true then _ else _) Q E s
           rw [if_neg (by intro h; rw [hn, Bool.false_and] at h; cases h)]
           exact wpAny_pure hQ))

/-- the list at a, as it stands at each turn (a loop may append to it) -/
def Itl (K : PySem.W.Frag) (a : Addr) : It :=
  ⟨fun i H => ∃ xs x, SqL K H a xs ∧ xs[i]? = some x, fun i H x H' => H' = H ∧ ∀ xs, SqL K H a xs → xs[i]? = some x, fun i H => ∃ xs, SqL K H a xs ∧ xs.length ≤ i⟩
def Itt (K : PySem.W.Frag) (a : Addr) : It :=
  ⟨fun i H => ∃ xs x, SqT K H a xs ∧ xs[i]? = some x, fun i H x H' => H' = H ∧ ∀ xs, SqT K H a xs → xs[i]? = some x, fun i H => ∃ xs, SqT K H a xs ∧ xs.length ≤ i⟩
/-- lo, lo + 1, .. (n of them) -/
def Itr (lo : Int) (n : Nat) : It := ⟨fun i _ => i < n, fun i H x H' => H' = H ∧ x = .int (lo + i), fun i _ => n ≤ i⟩
theorem turn_list {P : Program} {w : World} {K : PySem.W.Frag} {tg : Expr} (a it : Addr) : Turn P w K tg (Itl K a) [it] it (fun i h => h.IsListIter it a i) where
  mem := by simp
  obj := fun i h st b hb => by
    have e : b = it := by simpa using hb
    subst e
    obtain ⟨o, e, c, d⟩ := st
    exact ⟨o, e, fun v z => by rw [d] at z; cases z⟩
  keep := fun i h h' st k => st.at fun o e => k it (by simp) o e
  item := by
    intro X hP hw hK hc i pins s σ H E I hf st hg
    subst hP hw hK
    obtain ⟨xs, x, hq, hx⟩ := hg
    obtain ⟨its, rv, p, hz⟩ := I.list hq
    obtain ⟨u, hu, ru⟩ := rv.get hx
    obtain ⟨f0, f1, f2, f3, f4, f5⟩ := hf it (by simp)
    refine wpAny_pyNext_list_item st p.isList (x := u) (by simpa using hu) fun h' st' sb => ?_
    have I1 : Inv X pins σ H { s with heap := h' } := I.turned (t' := s.toks) (fun b o hb e => (sb.2 b hb).trans e) f0 f1 f3 f4 f5
    obtain ⟨o, e, c, d⟩ := id st'
    exact ⟨u, rfl, go_of (s := { s with heap := h' }) e c d (by decide) ⟨x, H, I1, ru, ⟨rfl, fun ys hy => by rw [I.list_inj hy hq]; exact hx⟩, st', fun b hb => (hf b hb).1⟩⟩
  done := by
    intro X hP hw hK hc i pins s σ H E I hf st hg
    subst hP hw hK
    obtain ⟨xs, hq, hx⟩ := hg
    obtain ⟨its, rv, p, hz⟩ := I.list hq
    obtain ⟨f0, f1, f2, f3, f4, f5⟩ := hf it (by simp)
    have hl := rv.length
    exact wpAny_pyNext_list_end (I.ok.hd hc) st p.isList (by simp; omega) fun h' eb => ⟨rfl, I.turned (t' := s.toks) (fun b o hb e => eb b o hb e) f0 f1 f3 f4 f5⟩
  self := fun _ _ _ _ _ st h => wpAny_pyIter_listiter st h
theorem turn_tuple {P : Program} {w : World} {K : PySem.W.Frag} {tg : Expr} (a it : Addr) : Turn P w K tg (Itt K a) [it] it (fun i h => h.IsTupleIter it a i) where
  mem := by simp
  obj := fun i h st b hb => by
    have e : b = it := by simpa using hb
    subst e
    obtain ⟨o, e, c, d⟩ := st
    exact ⟨o, e, fun v z => by rw [d] at z; cases z⟩
  keep := fun i h h' st k => st.at fun o e => k it (by simp) o e
  item := by
    intro X hP hw hK hc i pins s σ H E I hf st hg
    subst hP hw hK
    obtain ⟨xs, x, hq, hx⟩ := hg
    obtain ⟨its, rv, p, hz⟩ := I.tuple hq
    obtain ⟨u, hu, ru⟩ := rv.get hx
    obtain ⟨f0, f1, f2, f3, f4, f5⟩ := hf it (by simp)
    refine wpAny_pyNext_tuple_item st (show s.heap.IsTuple a its.toArray from p) (x := u) (by simpa using hu) fun h' st' sb => ?_
    have I1 : Inv X pins σ H { s with heap := h' } := I.turned (t' := s.toks) (fun b o hb e => (sb.2 b hb).trans e) f0 f1 f3 f4 f5
    obtain ⟨o, e, c, d⟩ := id st'
    exact ⟨u, rfl, go_of (s := { s with heap := h' }) e c d (by decide) ⟨x, H, I1, ru, ⟨rfl, fun ys hy => by rw [I.tuple_inj hy hq]; exact hx⟩, st', fun b hb => (hf b hb).1⟩⟩
  done := by
    intro X hP hw hK hc i pins s σ H E I hf st hg
    subst hP hw hK
    obtain ⟨xs, hq, hx⟩ := hg
    obtain ⟨its, rv, p, hz⟩ := I.tuple hq
    obtain ⟨f0, f1, f2, f3, f4, f5⟩ := hf it (by simp)
    have hl := rv.length
    exact wpAny_pyNext_tuple_end (I.ok.hd hc) st (show s.heap.IsTuple a its.toArray from p) (by simp; omega) fun h' eb => ⟨rfl, I.turned (t' := s.toks) (fun b o hb e => eb b o hb e) f0 f1 f3 f4 f5⟩
  self := fun _ _ _ _ _ st h => wpAny_pyIter_tupleiter st h
theorem turn_range {P : Program} {w : World} {K : PySem.W.Frag} {tg : Expr} (it : Addr) (lo : Int) (n : Nat) : Turn P w K tg (Itr lo n) [it] it (fun i h => IsRangeIter h it (lo + (i : Nat) * 1) ((n : Int) - (i : Nat)) 1) where
  mem := by simp
  obj := fun i h st b hb => by
    have e : b = it := by simpa using hb
    subst e
    exact ⟨_, st, fun v z => by
      have z' : Data.fields _ = Data.cell v := z
      cases z'⟩
  keep := fun i h h' st k => k it (by simp) _ st
  item := by
    intro X hP hw hK hc i pins s σ H E I hf st hg
    subst hP hw hK
    obtain ⟨f0, f1, f2, f3, f4, f5⟩ := hf it (by simp)
    have W := Walks.range (prog := X.prog) (w := X.w) (I.ok.hd hc) it lo 1 n
    refine W.item i s _ _ hg st fun v h' tk hv st' kk => ?_
    obtain ⟨t, rfl⟩ := hv
    have I1 : Inv X pins σ H { s with heap := h', toks := tk } := I.turned (fun b o hb e => kk b o (by simpa using hb) e) f0 f1 f3 f4 f5
    refine ⟨_, rfl, go_of (s := { s with heap := h', toks := tk }) (n := "range_iterator") st' rfl rfl (by decide) ⟨.int (lo + i), H, I1, ⟨t, ?_⟩, ⟨rfl, rfl⟩, st', fun b hb => (hf b hb).1⟩⟩
    rw [Int.mul_one]
  done := by
    intro X hP hw hK hc i pins s σ H E I hf st hg
    subst hP hw hK
    obtain ⟨f0, f1, f2, f3, f4, f5⟩ := hf it (by simp)
    exact wpAny_pyNext_range_end (I.ok.hd hc) st (by have : n ≤ i := hg; omega) fun h' eb => ⟨rfl, I.turned (t' := s.toks) (fun b o hb e => eb b o hb e) f0 f1 f3 f4 f5⟩
  self := fun _ _ _ _ _ st h => wpAny_pyIter_rangeiter st h
end L2

namespace L2
open PySem PySem.Spec PyProof.Rows
section
variable {X : Cx} {tg : Expr}
def iList (K : PySem.W.Frag) (tl : TE) : TI := fun σ H R => tl σ H fun x H1 => ∃ a, x = .ref a ∧ (∃ xs, SqL K H1 a xs) ∧ R (Itl K a) H1
def iTup (K : PySem.W.Frag) (tl : TE) : TI := fun σ H R => tl σ H fun x H1 => ∃ a, x = .ref a ∧ (∃ xs, SqT K H1 a xs) ∧ R (Itt K a) H1
theorem pi_list {l : Expr} {tl : TE} (hl : PE X l tl) : PI X tg l (iList X.K tl) := by
  intro pins s σ H R I h
  refine thn (hl pins s σ H _ I h) fun v s1 ⟨x, H1, I1, r1, q1⟩ => ?_
  obtain ⟨a, e, ⟨xs, hq⟩, q⟩ := q1
  subst e
  cases r1
  obtain ⟨its, rv, p, hz⟩ := I1.list hq
  refine wpAny_pyIter_list p.isList ?_
  refine ⟨s1.heap.objs.size, [s1.heap.objs.size], _, _, H1, rfl, I1.kept (t' := s1.toks) fun b o e => Heap.get?_push_of_some _ e, turn_list a _, ⟨_, Heap.get?_push_size _ rfl, rfl, rfl⟩, fun b hb => ?_, q⟩
  have e : b = s1.heap.objs.size := by simpa using hb
  subst e
  exact I1.fpOk (Nat.le_refl _) (I1.hok.fresh (Nat.le_refl _))
theorem pi_tup {l : Expr} {tl : TE} (hl : PE X l tl) : PI X tg l (iTup X.K tl) := by
  intro pins s σ H R I h
  refine thn (hl pins s σ H _ I h) fun v s1 ⟨x, H1, I1, r1, q1⟩ => ?_
  obtain ⟨a, e, ⟨xs, hq⟩, q⟩ := q1
  subst e
  cases r1
  obtain ⟨its, rv, p, hz⟩ := I1.tuple hq
  refine wpAny_pyIter_tuple (show s1.heap.IsTuple a its.toArray from p) ?_
  refine ⟨s1.heap.objs.size, [s1.heap.objs.size], _, _, H1, rfl, I1.kept (t' := s1.toks) fun b o e => Heap.get?_push_of_some _ e, turn_tuple a _, ⟨_, Heap.get?_push_size _ rfl, rfl, rfl⟩, fun b hb => ?_, q⟩
  have e : b = s1.heap.objs.size := by simpa using hb
  subst e
  exact I1.fpOk (Nat.le_refl _) (I1.hok.fresh (Nat.le_refl _))
/-- a range object just made, walked -/
theorem range_it {pins : List (Addr × Obj)} {σ : St} {H : Hp} {s : Shared} {R : It → Hp → Prop} {E : Value → Shared → Prop} {lo hi : Int} {t u v : Tok} {tk : Nat} (I : Inv X pins σ H s) (h1 : -(2 ^ 62) ≤ lo) (h2 : lo < 2 ^ 62) (h3 : -(2 ^ 62) ≤ hi) (h4 : hi < 2 ^ 62)
    (q : R (Itr lo (hi - lo).toNat) H) : wpAny (model X.prog X.w) X.A (pyIter (.ref s.heap.objs.size)) (PIE X pins σ tg R) E { s with heap := s.heap.push { cls := .type "range", data := .fields #[.int lo t, .int hi u, .int 1 v] }, toks := tk } := by
  refine wpAny_pyIter_range (IsRange.new ..) (small_one h1 h2 h3 h4) ?_
  have I1 : Inv X pins σ H { s with heap := s.heap.push { cls := .type "range", data := .fields #[.int lo t, .int hi u, .int 1 v] }, toks := tk } := I.kept fun b o e => Heap.get?_push_of_some _ e
  refine ⟨(s.heap.push { cls := .type "range", data := .fields #[.int lo t, .int hi u, .int 1 v] }).objs.size, [(s.heap.push { cls := .type "range", data := .fields #[.int lo t, .int hi u, .int 1 v] }).objs.size], _, _, H, rfl,
    I1.kept (t' := tk) fun b o e => Heap.get?_push_of_some _ e, turn_range _ lo (hi - lo).toNat, ?_, fun b hb => ?_, q⟩
  · have e1 : lo + ((0 : Nat) : Int) * 1 = lo := by simp
    have e2 : (((hi - lo).toNat : Nat) : Int) - ((0 : Nat) : Int) = Builtin.Range.rangeSize lo hi 1 := by rw [rangeSize_one]; split <;> omega
    show IsRangeIter _ _ (lo + ((0 : Nat) : Int) * 1) ((((hi - lo).toNat : Nat) : Int) - ((0 : Nat) : Int)) 1
    rw [e1, e2]
    exact Heap.get?_push_size _ rfl
  · have e : b = (s.heap.push { cls := .type "range", data := .fields #[.int lo t, .int hi u, .int 1 v] }).objs.size := by simpa using hb
    subst e
    exact I1.fpOk (Nat.le_refl _) (I1.hok.fresh (Nat.le_refl _))
def iRng1 (ta : TA) : TI := fun σ H R => ta σ H fun vs H1 => ∃ j : Int, vs = [.int j] ∧ -(2 ^ 62) ≤ j ∧ j < 2 ^ 62 ∧ R (Itr 0 j.toNat) H1
def iRng2 (ta : TA) : TI := fun σ H R => ta σ H fun vs H1 => ∃ i j : Int, vs = [.int i, .int j] ∧ (-(2 ^ 62) ≤ i ∧ i < 2 ^ 62 ∧ -(2 ^ 62) ≤ j ∧ j < 2 ^ 62) ∧ R (Itr i (j - i).toNat) H1
theorem pi_range1 {a : Expr} {ta : TA} {p pos : Pos} (hg : Gl X "range") (hm : X.mg "range" = none) (ha : PA X [a] ta) (hs : starEach [a] X.env = [(false, eval a X.env)] := by rfl) : PI X tg (.Call (.Name "range" p) [a] [] pos) (iRng1 ta) := by
  intro pins s σ H R I h
  refine Call_ (ld_blt I hg hm boot_range (PyProof.Rows.callWith_type1 (thn (ha pos pins s σ H _ I h) fun us s1 ⟨vs, H1, I1, r1, q1⟩ => ?_) hs rfl))
  obtain ⟨j, e, q1, q2, q⟩ := q1
  subst e
  cases r1 with
  | cons r rr =>
    cases rr
    obtain ⟨t, rfl⟩ := r
    exact call_range_1 (range_it I1 (by omega) (by omega) q1 q2 (by simpa using q))
theorem pi_range2 {a b : Expr} {ta : TA} {p pos : Pos} (hg : Gl X "range") (hm : X.mg "range" = none) (ha : PA X [a, b] ta) (hs : starEach [a, b] X.env = [(false, eval a X.env), (false, eval b X.env)] := by rfl) (hs2 : starEach [b] X.env = [(false, eval b X.env)] := by rfl) :
    PI X tg (.Call (.Name "range" p) [a, b] [] pos) (iRng2 ta) := by
  intro pins s σ H R I h
  refine Call_ (ld_blt I hg hm boot_range (PyProof.Rows.callWith_type1 (thn (ha pos pins s σ H _ I h) fun us s1 ⟨vs, H1, I1, r1, q1⟩ => ?_) (by rw [hs, hs2]) (by rw [hs2]; rfl)))
  obtain ⟨i, j, e, ⟨q1, q2, q3, q4⟩, q⟩ := q1
  subst e
  cases r1 with
  | cons r rr =>
    cases rr with
    | cons r' rr =>
      cases rr
      obtain ⟨t, rfl⟩ := r
      obtain ⟨t', rfl⟩ := r'
      exact call_range_2 (range_it I1 q1 q2 q3 q4 q)

/-! ### for -/
/-- W: the invariant by the turn and a measure; N: what the body is to reach -/
def tFor (wi : TI) (g : TG) (tb : TS) : TS := fun D σ H => wi σ H fun J H1 => ∃ W : Nat → Nat → St → Hp → Prop, (∃ m, W 0 m σ H1) ∧ ∀ i m σ H, W i m σ H →
  (J.stop i H ∧ D.nx σ H) ∨ (J.go i H ∧ ∃ N : St → Hp → Prop, (∀ σ' H', N σ' H' → ∃ m', m' < m ∧ W (i + 1) m' σ' H') ∧ ∀ x H', J.yld i H x H' → g x σ H' fun σ2 H2 => tb { D with nx := N, ct := N, bk := D.nx } σ2 H2)
/-- the records at fp as they stand -/
def pinsAt (fp : List Addr) (h : Heap) : List (Addr × Obj) := fp.filterMap fun b => (h.get? b).map fun o => (b, o)
theorem mem_pinsAt {fp : List Addr} {h : Heap} {b : Addr} {o : Obj} (hb : b ∈ fp) (e : h.get? b = some o) : (b, o) ∈ pinsAt fp h := List.mem_filterMap.mpr ⟨b, hb, by rw [e]; rfl⟩
theorem of_pinsAt {fp : List Addr} {h : Heap} {p : Addr × Obj} (hp : p ∈ pinsAt fp h) : p.1 ∈ fp ∧ h.get? p.1 = some p.2 := by
  obtain ⟨b, hb, e⟩ := List.mem_filterMap.mp hp
  cases q : h.get? b with
  | none => rw [q] at e; cases e
  | some o =>
    rw [q] at e
    have e' : (b, o) = p := Option.some.inj e
    subst e'
    exact ⟨hb, q⟩
theorem Inv.pinned {pins : List (Addr × Obj)} {σ : St} {H : Hp} {s : Shared} {fp : List Addr} (I : Inv X pins σ H s) (hf : ∀ b ∈ fp, FpOk X pins H b) (ho : ∀ b ∈ fp, ∃ o, s.heap.get? b = some o ∧ ∀ v, o.data ≠ .cell v) : Inv X (pins ++ pinsAt fp s.heap) σ H s :=
  I.pins_of fun p hp => (List.mem_append.mp hp).elim (fun z => I.pin p (List.mem_append_right _ z)) fun z => by
    obtain ⟨hb, e⟩ := of_pinsAt z
    obtain ⟨f0, f1, f2, _⟩ := hf p.1 hb
    obtain ⟨o, e', d⟩ := ho p.1 hb
    rw [e] at e'; cases e'
    exact ⟨e, f0, f1, f2, d⟩
theorem Inv.unpinned {pins pl : List (Addr × Obj)} {σ : St} {H : Hp} {s : Shared} (I : Inv X (pins ++ pl) σ H s) : Inv X pins σ H s := I.pins_of fun p hp => I.pin p (List.mem_append_right _ (List.mem_append_left _ hp))
theorem ps_for {iter : Expr} {body : List Stmt} {wi : TI} {g : TG} {tb : TS} {pos : Pos} (hp : PassesOwn (model X.prog X.w) X.A X.env X.xe) (hc : X.calm = true) (hi : PI X tg iter wi) (hg : PG X tg g) (hb : PSs X body tb)
    (hs : ∀ x, foldedSetIterable iter X.env x = pure x := by intro _; rfl) : PS X (.For tg iter body [] pos) (tFor wi g tb) := by
  intro pins s σ H D I h
  refine wpAny_For (thn (hi pins s σ H _ I h) fun v s1 h1 => thn h1 fun itv s2 h2 => ?_) hs
  obtain ⟨it, fp, tn, J, H2, e, I2, T, st2, f2, W, ⟨m0, w0⟩, turn⟩ := h2
  subst e
  -- what stays true of the iterator's objects through the loop
  have stat : ∀ {H' : Hp}, (∀ b ∈ fp, H' b = none) → ∀ b ∈ fp, FpOk X pins H' b := fun hn b hb => ⟨hn b hb, (f2 b hb).2⟩
  refine codeAny_forLoop_any (fun n s' => ∃ i σ' H', Inv X pins σ' H' s' ∧ tn i s'.heap ∧ (∀ b ∈ fp, H' b = none) ∧ W i n σ' H') ?_ m0 ⟨0, σ, H2, I2, st2, fun b hb => (f2 b hb).1, w0⟩
  rintro n s3 ⟨i, σ3, H3, I3, st3, fr3, w3⟩
  rcases turn i n σ3 H3 w3 with ⟨stop, qn⟩ | ⟨go, N, hN, step⟩
  · refine wpAny_passesOwn hp (thn (T.done X rfl rfl rfl hc i pins s3 σ3 H3 X.xe I3 (stat fr3) st3 stop) fun r s4 ⟨hr, I4⟩ => ?_)
    subst hr
    exact wpAny_execs_nil ⟨σ3, H3, I4, qn⟩
  · refine wpAny_passesOwn hp (thn (T.item X rfl rfl rfl hc i pins s3 σ3 H3 X.xe I3 (stat fr3) st3 go) fun r s4 ⟨u, hr, h4⟩ => ?_)
    subst hr
    refine wpAny_passesOwn hp (thn h4 fun _ s5 ⟨x, H5, I5, r5, y5, st5, fr5⟩ => ?_)
    have I5' := I5.pinned (stat fr5) (T.obj _ _ st5)
    refine wpAny_passesOwn hp (thn (hg _ s5 σ3 H5 x u _ I5' r5 (step x H5 y5)) fun _ s6 ⟨σ6, H6, I6, q6⟩ => ?_)
    refine wpAny_passesOwn hp (thn (hb _ s6 σ6 H6 _ I6 q6) fun f s7 q7 => ?_)
    have again : ∀ {σ7 : St} {H7 : Hp}, Inv X (pins ++ pinsAt fp s5.heap) σ7 H7 s7 → N σ7 H7 → ∃ m, m < n ∧ ∃ i σ' H', Inv X pins σ' H' s7 ∧ tn i s7.heap ∧ (∀ b ∈ fp, H' b = none) ∧ W i m σ' H' := fun {σ7 H7} I7 n7 => by
      obtain ⟨m', hm, w7⟩ := hN σ7 H7 n7
      refine ⟨m', hm, i + 1, σ7, H7, I7.unpinned, T.keep _ _ _ st5 fun b hb o e => (I7.pin (b, o) (List.mem_append_right _ (List.mem_append_right _ (mem_pinsAt hb e)))).1, fun b hb => ?_, w7⟩
      obtain ⟨o, e, d⟩ := T.obj _ _ st5 b hb
      exact (I7.pin (b, o) (List.mem_append_right _ (List.mem_append_right _ (mem_pinsAt hb e)))).2.1
    cases f with
    | next => obtain ⟨σ7, H7, I7, n7⟩ := q7; exact again I7 n7
    | cont => obtain ⟨σ7, H7, I7, n7⟩ := q7; exact again I7 n7
    | brk => obtain ⟨σ7, H7, I7, q7⟩ := q7; exact ⟨σ7, H7, I7.unpinned, q7⟩
    | ret v => obtain ⟨x7, σ7, H7, I7, r7, q7⟩ := q7; exact ⟨x7, σ7, H7, I7.unpinned, r7, q7⟩
end

/-! ### the forms one uses -/
/-- over a list that the body leaves as it is -/
theorem for_list {K : PySem.W.Frag} {a : Addr} {xs : List V} {g : TG} {tb : TS} {D : Ends} {σ : St} {H : Hp} (Pv : Nat → St → Hp → Prop) (h0 : Pv 0 σ H) (hl : ∀ i σ H, i ≤ xs.length → Pv i σ H → SqL K H a xs)
    (hs : ∀ i x σ H, xs[i]? = some x → Pv i σ H → g x σ H fun σ2 H2 => tb { D with nx := Pv (i + 1), ct := Pv (i + 1), bk := D.nx } σ2 H2) (hd : ∀ σ H, Pv xs.length σ H → D.nx σ H) :
    ∃ W : Nat → Nat → St → Hp → Prop, (∃ m, W 0 m σ H) ∧ ∀ i m σ H, W i m σ H →
      ((Itl K a).stop i H ∧ D.nx σ H) ∨ ((Itl K a).go i H ∧ ∃ N : St → Hp → Prop, (∀ σ' H', N σ' H' → ∃ m', m' < m ∧ W (i + 1) m' σ' H') ∧ ∀ x H', (Itl K a).yld i H x H' → g x σ H' fun σ2 H2 => tb { D with nx := N, ct := N, bk := D.nx } σ2 H2) := by
  refine ⟨fun i m σ H => m = xs.length - i ∧ i ≤ xs.length ∧ Pv i σ H, ⟨xs.length, by simp, Nat.zero_le _, h0⟩, ?_⟩
  rintro i m σ H ⟨rfl, hi, p⟩
  have q := hl i σ H hi p
  by_cases hlt : i < xs.length
  · refine .inr ⟨⟨xs, xs[i], q, by simp [hlt]⟩, Pv (i + 1), fun σ' H' p' => ⟨xs.length - (i + 1), by omega, rfl, hlt, p'⟩, fun x H' y => ?_⟩
    obtain ⟨e, y⟩ := y
    subst e
    exact hs i x σ _ (y xs q) p
  · have e : i = xs.length := by omega
    subst e
    exact .inl ⟨⟨xs, q, Nat.le_refl _⟩, hd σ H p⟩
theorem for_tup {K : PySem.W.Frag} {a : Addr} {xs : List V} {g : TG} {tb : TS} {D : Ends} {σ : St} {H : Hp} (Pv : Nat → St → Hp → Prop) (h0 : Pv 0 σ H) (hl : ∀ i σ H, i ≤ xs.length → Pv i σ H → SqT K H a xs)
    (hs : ∀ i x σ H, xs[i]? = some x → Pv i σ H → g x σ H fun σ2 H2 => tb { D with nx := Pv (i + 1), ct := Pv (i + 1), bk := D.nx } σ2 H2) (hd : ∀ σ H, Pv xs.length σ H → D.nx σ H) :
    ∃ W : Nat → Nat → St → Hp → Prop, (∃ m, W 0 m σ H) ∧ ∀ i m σ H, W i m σ H →
      ((Itt K a).stop i H ∧ D.nx σ H) ∨ ((Itt K a).go i H ∧ ∃ N : St → Hp → Prop, (∀ σ' H', N σ' H' → ∃ m', m' < m ∧ W (i + 1) m' σ' H') ∧ ∀ x H', (Itt K a).yld i H x H' → g x σ H' fun σ2 H2 => tb { D with nx := N, ct := N, bk := D.nx } σ2 H2) := by
  refine ⟨fun i m σ H => m = xs.length - i ∧ i ≤ xs.length ∧ Pv i σ H, ⟨xs.length, by simp, Nat.zero_le _, h0⟩, ?_⟩
  rintro i m σ H ⟨rfl, hi, p⟩
  have q := hl i σ H hi p
  by_cases hlt : i < xs.length
  · refine .inr ⟨⟨xs, xs[i], q, by simp [hlt]⟩, Pv (i + 1), fun σ' H' p' => ⟨xs.length - (i + 1), by omega, rfl, hlt, p'⟩, fun x H' y => ?_⟩
    obtain ⟨e, y⟩ := y
    subst e
    exact hs i x σ _ (y xs q) p
  · have e : i = xs.length := by omega
    subst e
    exact .inl ⟨⟨xs, q, Nat.le_refl _⟩, hd σ H p⟩
theorem for_range {lo : Int} {n : Nat} {g : TG} {tb : TS} {D : Ends} {σ : St} {H : Hp} (Pv : Nat → St → Hp → Prop) (h0 : Pv 0 σ H)
    (hs : ∀ i σ H, i < n → Pv i σ H → g (.int (lo + i)) σ H fun σ2 H2 => tb { D with nx := Pv (i + 1), ct := Pv (i + 1), bk := D.nx } σ2 H2) (hd : ∀ σ H, Pv n σ H → D.nx σ H) :
    ∃ W : Nat → Nat → St → Hp → Prop, (∃ m, W 0 m σ H) ∧ ∀ i m σ H, W i m σ H →
      ((Itr lo n).stop i H ∧ D.nx σ H) ∨ ((Itr lo n).go i H ∧ ∃ N : St → Hp → Prop, (∀ σ' H', N σ' H' → ∃ m', m' < m ∧ W (i + 1) m' σ' H') ∧ ∀ x H', (Itr lo n).yld i H x H' → g x σ H' fun σ2 H2 => tb { D with nx := N, ct := N, bk := D.nx } σ2 H2) := by
  refine ⟨fun i m σ H => m = n - i ∧ i ≤ n ∧ Pv i σ H, ⟨n, by simp, Nat.zero_le _, h0⟩, ?_⟩
  rintro i m σ H ⟨rfl, hi, p⟩
  by_cases hlt : i < n
  · refine .inr ⟨hlt, Pv (i + 1), fun σ' H' p' => ⟨n - (i + 1), by omega, rfl, hlt, p'⟩, fun x H' y => ?_⟩
    obtain ⟨e, y⟩ := y
    subst e y
    exact hs i σ _ hlt p
  · have e : i = n := by omega
    subst e
    exact .inl ⟨Nat.le_refl _, hd σ H p⟩
/-- while, by a word and a measure of the state -/
theorem while_by {c : TT} {tb : TS} {D : Ends} {σ : St} {H : Hp} (Pv : St → Hp → Prop) (μ : St → Hp → Nat) (h0 : Pv σ H)
    (hs : ∀ σ H, Pv σ H → c σ H fun b H1 => if b = true then tb { D with nx := fun σ' H' => Pv σ' H' ∧ μ σ' H' < μ σ H, ct := fun σ' H' => Pv σ' H' ∧ μ σ' H' < μ σ H, bk := D.nx } σ H1 else D.nx σ H1)
    (mono : ∀ σ H Q Q', (∀ b H1, Q b H1 → Q' b H1) → c σ H Q → c σ H Q') : tWhile c tb D σ H := by
  refine ⟨fun m σ H => m = μ σ H ∧ Pv σ H, ⟨_, rfl, h0⟩, ?_⟩
  rintro m σ H ⟨rfl, p⟩
  refine mono σ H _ _ (fun b H1 q => ?_) (hs σ H p)
  cases b with
  | true => exact ⟨_, fun σ' H' ⟨p', l⟩ => ⟨_, l, rfl, p'⟩, q⟩
  | false => exact q
end L2

namespace L2
open PySem PySem.Spec PyProof.Rows

abbrev R2 := V → V → Hp → VK → Prop
/-- a two-place operation on values: f is binaryOp op, inplaceOp op or compareOp op -/
def OpR (X : Cx) (f : Value → Value → Sem Value) (r : R2) : Prop :=
  ∀ (pins : List (Addr × Obj)) (s : Shared) (σ : St) (H : Hp) (x y : V) (v u : Value) (Q : VK), Inv X pins σ H s → RelV x v → RelV y u → r x y H Q →
    wpAny (model X.prog X.w) X.A (f v u) (EP X pins σ Q) X.xe s
/-- a one-place operation -/
def UnR (X : Cx) (f : Value → Sem Value) (r : V → Hp → VK → Prop) : Prop :=
  ∀ (pins : List (Addr × Obj)) (s : Shared) (σ : St) (H : Hp) (x : V) (v : Value) (Q : VK), Inv X pins σ H s → RelV x v → r x H Q →
    wpAny (model X.prog X.w) X.A (f v) (EP X pins σ Q) X.xe s
/-- a call of a value that is known (a builtin, a type) with values -/
def CallR (X : Cx) (f : Value) (r : List V → Hp → VK → Prop) : Prop :=
  ∀ (pins : List (Addr × Obj)) (s : Shared) (σ : St) (H : Hp) (xs : List V) (us : List Value) (Q : VK), Inv X pins σ H s → Vals xs us → r xs H Q →
    wpAny (model X.prog X.w) X.A (call f us) (EP X pins σ Q) X.xe s
/-- a value's truth -/
def TruR (X : Cx) (r : V → Hp → (Bool → Hp → Prop) → Prop) : Prop :=
  ∀ (pins : List (Addr × Obj)) (s : Shared) (σ : St) (H : Hp) (x : V) (v : Value) (Q : Bool → Hp → Prop), Inv X pins σ H s → RelV x v → r x H Q →
    wpAny (model X.prog X.w) X.A (truthy v) (TP X pins σ Q) X.xe s

def tOp (r : R2) (ta tb : TE) : TE := fun σ H Q => ta σ H fun x H1 => tb σ H1 fun y H2 => r x y H2 Q
def tUn (r : V → Hp → VK → Prop) (ta : TE) : TE := fun σ H Q => ta σ H fun x H1 => r x H1 Q
/-- ints in, under C, and a value out -/
def rI (C : Int → Int → Prop) (g : Int → Int → V) : R2 := fun x y H Q => ∃ i j, x = .int i ∧ y = .int j ∧ C i j ∧ Q (g i j) H
def rI0 (g : Int → Int → V) : R2 := fun x y H Q => ∃ i j, x = .int i ∧ y = .int j ∧ Q (g i j) H
def rU (g : Int → V) : V → Hp → VK → Prop := fun x H Q => ∃ i, x = .int i ∧ Q (g i) H

section
variable {X : Cx} {a b c : Expr} {ta tb tc : TE} {pos : Pos}

theorem binT (ha : PE X a ta) (hb : PE X b tb) {pins : List (Addr × Obj)} {s : Shared} {σ : St} {H : Hp} {R : V → V → Hp → Prop} (I : Inv X pins σ H s)
    (h : ta σ H fun x H1 => tb σ H1 fun y H2 => R x y H2) {Q : Value → Shared → Prop} {f : Value → Value → Sem Value}
    (hf : ∀ v u s2 x y H2, Inv X pins σ H2 s2 → RelV x v → RelV y u → R x y H2 → wpAny (model X.prog X.w) X.A (f v u) Q X.xe s2) :
    wpAny (model X.prog X.w) X.A (eval a X.env) (fun v s₁ => wpAny (model X.prog X.w) X.A (eval b X.env) (fun u s₂ => wpAny (model X.prog X.w) X.A (f v u) Q X.xe s₂) X.xe s₁) X.xe s := by
  refine thn (ha pins s σ H _ I h) fun v s1 ⟨x, H1, I1, r1, q1⟩ => ?_
  refine thn (hb pins s1 σ H1 _ I1 q1) fun u s2 ⟨y, H2, I2, r2, q2⟩ => ?_
  exact hf v u s2 x y H2 I2 r1 r2 q2

theorem pe_op {op : Operator} {r : R2} (ho : OpR X (binaryOp op) r) (ha : PE X a ta) (hb : PE X b tb) : PE X (.BinOp a op b pos) (tOp r ta tb) := by
  intro pins s σ H Q I h
  exact wpAny_BinOp (binT ha hb I h fun v u s2 x y H2 I2 rx ry q => ho pins s2 σ H2 x y v u Q I2 rx ry q)
theorem pe_un {op : UnaryOp} {r : V → Hp → VK → Prop} (ho : UnR X (unaryOp op) r) (ha : PE X a ta) : PE X (.UnaryOp op a pos) (tUn r ta) := by
  intro pins s σ H Q I h
  exact UnaryOp_ (thn (ha pins s σ H _ I h) fun v s1 ⟨x, H1, I1, r1, q1⟩ => ho pins s1 σ H1 x v Q I1 r1 q1)
/-- a op= e at a name: the name's slot i -/
theorem augR {op : Operator} {r : R2} (ho : OpR X (inplaceOp op) r) {pins : List (Addr × Obj)} {s : Shared} {σ : St} {H : Hp} {x y : V} {v u : Value} {Q : VK} (I : Inv X pins σ H s)
    (rx : RelV x v) (ry : RelV y u) (q : r x y H Q) : wpAny (model X.prog X.w) X.A (inplaceOp op v u) (EP X pins σ Q) X.xe s := ho pins s σ H x y v u Q I rx ry q

/-! ### ints -/
theorem opI {f : Value → Value → Sem Value} {C : Int → Int → Prop} {g : Int → Int → Int}
    (rule : ∀ (i j : Int) (t u : Tok) (s : Shared) (Q : Value → Shared → Prop) (E : Value → Shared → Prop), C i j → Q (.int (g i j) s.toks) { s with toks := s.toks + 1 } → wpAny (model X.prog X.w) X.A (f (.int i t) (.int j u)) Q E s) :
    OpR X f (rI C fun i j => .int (g i j)) := by
  intro pins s σ H x y v u Q I rx ry h
  obtain ⟨i, j, rfl, rfl, hc, q⟩ := h
  obtain ⟨t, rfl⟩ := rx
  obtain ⟨t', rfl⟩ := ry
  exact rule i j t t' s _ _ hc ⟨.int (g i j), H, I.tok _, ⟨_, rfl⟩, q⟩
theorem opI0 {f : Value → Value → Sem Value} {g : Int → Int → Int}
    (rule : ∀ (i j : Int) (t u : Tok) (s : Shared) (Q : Value → Shared → Prop) (E : Value → Shared → Prop), Q (.int (g i j) s.toks) { s with toks := s.toks + 1 } → wpAny (model X.prog X.w) X.A (f (.int i t) (.int j u)) Q E s) :
    OpR X f (rI0 fun i j => .int (g i j)) := by
  intro pins s σ H x y v u Q I rx ry h
  obtain ⟨i, j, rfl, rfl, q⟩ := h
  obtain ⟨t, rfl⟩ := rx
  obtain ⟨t', rfl⟩ := ry
  exact rule i j t t' s _ _ ⟨.int (g i j), H, I.tok _, ⟨_, rfl⟩, q⟩
theorem opB0 {f : Value → Value → Sem Value} {g : Int → Int → Bool}
    (rule : ∀ (i j : Int) (t u : Tok) (s : Shared) (Q : Value → Shared → Prop) (E : Value → Shared → Prop), Q (.bool (g i j)) s → wpAny (model X.prog X.w) X.A (f (.int i t) (.int j u)) Q E s) :
    OpR X f (rI0 fun i j => .bl (g i j)) := by
  intro pins s σ H x y v u Q I rx ry h
  obtain ⟨i, j, rfl, rfl, q⟩ := h
  obtain ⟨t, rfl⟩ := rx
  obtain ⟨t', rfl⟩ := ry
  exact rule i j t t' s _ _ ⟨.bl (g i j), H, I, rfl, q⟩

def CDiv (i j : Int) : Prop := 0 < j ∧ j < 1073741824
def CDivN (i j : Int) : Prop := j ≠ 0 ∧ j.natAbs < 1073741824
def CPow (i j : Int) : Prop := 0 ≤ j ∧ j ≤ 1000000 ∧ i.natAbs < 2 ^ 64
def CMul (i j : Int) : Prop := (-(2 ^ 64) < i ∧ i < 2 ^ 64) ∨ (-(2 ^ 64) < j ∧ j < 2 ^ 64)
theorem CMul.ok {i j : Int} (h : CMul i j) : IntMulOk i j := by
  rcases h with ⟨h1, h2⟩ | ⟨h1, h2⟩
  · exact .of_left (intBits_le_64 h1 h2)
  · exact .of_right (intBits_le_64 h1 h2)
theorem two_pow_nn (k : Nat) : (0 : Int) ≤ 2 ^ k := by
  rw [two_pow_cast]
  exact Int.natCast_nonneg _

theorem op_add : OpR X (binaryOp .Add) (rI0 fun i j => .int (i + j)) := opI0 fun _ _ _ _ _ _ _ q => add_int q
theorem op_sub : OpR X (binaryOp .Sub) (rI0 fun i j => .int (i - j)) := opI0 fun _ _ _ _ _ _ _ q => sub_int q
theorem op_mul : OpR X (binaryOp .Mult) (rI CMul fun i j => .int (i * j)) := opI fun _ _ _ _ _ _ _ hc q => mul_int q hc.ok
/-- // by a positive divisor -/
theorem op_fdiv : OpR X (binaryOp .FloorDiv) (rI CDiv fun i j => .int (i / j)) := opI fun i j _ _ _ _ _ hc q => by
  have h1 : (0 : Int) < j := hc.1
  have h2 : j < 1073741824 := hc.2
  exact floordiv_int (by omega) (by rw [Int.fdiv_eq_ediv_of_nonneg i (by omega)]; exact q) (.inl (PyProof.noPylong_small (by omega)))
theorem op_fdivN : OpR X (binaryOp .FloorDiv) (rI CDivN fun i j => .int (i.fdiv j)) := opI fun _ _ _ _ _ _ _ hc q => floordiv_int hc.1 q (.inl (PyProof.noPylong_small hc.2))
/-- % by a positive divisor of any size -/
theorem op_mod : OpR X (binaryOp .Mod) (rI (fun _ j => 0 < j) fun i j => .int (i % j)) := opI fun i j _ _ _ _ _ hc q => by
  have h1 : (0 : Int) < j := hc
  exact mod_int' (by omega) (by rw [Int.fmod_eq_emod_of_nonneg i (by omega)]; exact q)
theorem op_modN : OpR X (binaryOp .Mod) (rI (fun _ j => j ≠ 0) fun i j => .int (i.fmod j)) := opI fun _ _ _ _ _ _ _ hc q => mod_int' hc q
theorem op_pow : OpR X (binaryOp .Pow) (rI CPow fun i j => .int (i ^ j.toNat)) := opI fun _ _ _ _ _ _ _ hc q => pow_int_small hc.1 hc.2.1 hc.2.2 q
theorem op_shl : OpR X (binaryOp .LShift) (rI CPow fun i j => .int (i * 2 ^ j.toNat)) := opI fun _ _ _ _ _ _ _ hc q => lshift_int_small hc.1 hc.2.1 hc.2.2 q
theorem op_shr : OpR X (binaryOp .RShift) (rI (fun _ j => 0 ≤ j) fun i j => .int (i / 2 ^ j.toNat)) := opI fun i j _ _ _ _ _ hc q =>
  rshift_int hc (by rw [Int.fdiv_eq_ediv_of_nonneg i (two_pow_nn _)]; exact q)
theorem op_and : OpR X (binaryOp .BitAnd) (rI0 fun i j => .int (Builtin.bitAnd i j)) := opI0 fun _ _ _ _ _ _ _ q => and_int q
theorem op_or : OpR X (binaryOp .BitOr) (rI0 fun i j => .int (Builtin.bitOr i j)) := opI0 fun _ _ _ _ _ _ _ q => or_int q
theorem op_xor : OpR X (binaryOp .BitXor) (rI0 fun i j => .int (Builtin.bitXor i j)) := opI0 fun _ _ _ _ _ _ _ q => xor_int q

theorem iop_add : OpR X (inplaceOp .Add) (rI0 fun i j => .int (i + j)) := opI0 fun _ _ _ _ _ _ _ q => iadd_int q
theorem iop_sub : OpR X (inplaceOp .Sub) (rI0 fun i j => .int (i - j)) := opI0 fun _ _ _ _ _ _ _ q => isub_int q
theorem iop_mul : OpR X (inplaceOp .Mult) (rI CMul fun i j => .int (i * j)) := opI fun _ _ _ _ _ _ _ hc q => imul_int q hc.ok
theorem iop_fdiv : OpR X (inplaceOp .FloorDiv) (rI CDiv fun i j => .int (i / j)) := opI fun i j _ _ _ _ _ hc q => by
  have h1 : (0 : Int) < j := hc.1
  have h2 : j < 1073741824 := hc.2
  exact ifloordiv_int (by omega) (by rw [Int.fdiv_eq_ediv_of_nonneg i (by omega)]; exact q) (.inl (PyProof.noPylong_small (by omega)))
theorem iop_mod : OpR X (inplaceOp .Mod) (rI (fun _ j => 0 < j) fun i j => .int (i % j)) := opI fun i j _ _ _ _ _ hc q => by
  have h1 : (0 : Int) < j := hc
  exact imod_int (by omega) (by rw [Int.fmod_eq_emod_of_nonneg i (by omega)]; exact q)
theorem iop_shl : OpR X (inplaceOp .LShift) (rI CPow fun i j => .int (i * 2 ^ j.toNat)) := opI fun _ _ _ _ _ _ _ hc q => ilshift_int_small hc.1 hc.2.1 hc.2.2 q
theorem iop_shr : OpR X (inplaceOp .RShift) (rI (fun _ j => 0 ≤ j) fun i j => .int (i / 2 ^ j.toNat)) := opI fun i j _ _ _ _ _ hc q =>
  irshift_int hc (by rw [Int.fdiv_eq_ediv_of_nonneg i (two_pow_nn _)]; exact q)
theorem iop_and : OpR X (inplaceOp .BitAnd) (rI0 fun i j => .int (Builtin.bitAnd i j)) := opI0 fun _ _ _ _ _ _ _ q => iand_int q
theorem iop_or : OpR X (inplaceOp .BitOr) (rI0 fun i j => .int (Builtin.bitOr i j)) := opI0 fun _ _ _ _ _ _ _ q => ior_int q
theorem iop_xor : OpR X (inplaceOp .BitXor) (rI0 fun i j => .int (Builtin.bitXor i j)) := opI0 fun _ _ _ _ _ _ _ q => ixor_int q

theorem unI {f : Value → Sem Value} {g : Int → Int}
    (rule : ∀ (i : Int) (t : Tok) (s : Shared) (Q : Value → Shared → Prop) (E : Value → Shared → Prop), Q (.int (g i) s.toks) { s with toks := s.toks + 1 } → wpAny (model X.prog X.w) X.A (f (.int i t)) Q E s) :
    UnR X f (rU fun i => .int (g i)) := by
  intro pins s σ H x v Q I rx h
  obtain ⟨i, rfl, q⟩ := h
  obtain ⟨t, rfl⟩ := rx
  exact rule i t s _ _ ⟨.int (g i), H, I.tok _, ⟨_, rfl⟩, q⟩
theorem un_neg : UnR X (unaryOp .USub) (rU fun i => .int (-i)) := unI fun _ _ _ _ _ q => neg_int q
theorem un_inv : UnR X (unaryOp .Invert) (rU fun i => .int (Builtin.bitNot i)) := unI fun _ _ _ _ _ q => invert_int q

/-! ### bools among ints: n += (a < b) -/
theorem op_add_ib : OpR X (binaryOp .Add) (fun x y H Q => ∃ i k, x = .int i ∧ y = .bl k ∧ Q (.int (i + b2i k)) H) := by
  intro pins s σ H x y v u Q I rx ry h
  obtain ⟨i, k, rfl, rfl, q⟩ := h
  obtain ⟨t, rfl⟩ := rx
  cases ry
  exact add_int_bool ⟨.int (i + b2i k), H, I.tok _, ⟨_, rfl⟩, q⟩
end

/-! ### comparisons -/
/-- the scalars that == tells apart as data does -/
def scal : V → V → Bool
  | .non, .non => true | .non, .int _ => true | .int _, .non => true | .non, .bl _ => true | .bl _, .non => true | .non, .str _ => true | .str _, .non => true
  | .int _, .int _ => true | .bl _, .bl _ => true | .str _, .str _ => true | .byt _, .byt _ => true
  | .int _, .str _ => true | .str _, .int _ => true | .bl _, .str _ => true | .str _, .bl _ => true
  | _, _ => false
def rEq : R2 := fun x y H Q => scal x y = true ∧ Q (.bl (decide (x = y))) H
def rNe : R2 := fun x y H Q => scal x y = true ∧ Q (.bl (!decide (x = y))) H

theorem dec_int {i j : Int} : decide (V.int i = V.int j) = (i == j) := by
  rw [Bool.eq_iff_iff]
  simp
theorem dec_bl {i j : Bool} : decide (V.bl i = V.bl j) = (i == j) := by
  rw [Bool.eq_iff_iff]
  simp
theorem dec_str {i j : Str} : decide (V.str i = V.str j) = (i == j) := by
  rw [Bool.eq_iff_iff]
  simp
theorem dec_byt {i j : Array UInt8} : decide (V.byt i = V.byt j) = (i.toList == j.toList) := by
  rw [Bool.eq_iff_iff]
  cases i
  cases j
  simp

section
variable {X : Cx} {a b c : Expr} {ta tb tc : TE} {pos : Pos}
theorem fin_bl {pins : List (Addr × Obj)} {σ : St} {H : Hp} {s : Shared} {Q : VK} {k k' : Bool} (I : Inv X pins σ H s) (q : Q (.bl k) H) (e : k = k') : EP X pins σ Q (.bool k') s := by
  subst e
  exact ⟨.bl k, H, I, rfl, q⟩
theorem op_eq : OpR X (compareOp .Eq) rEq := by
  intro pins s σ H x y v u Q I rx ry h
  obtain ⟨hs, q⟩ := h
  cases x with
  | non =>
    cases rx
    cases y with
    | non => cases ry; exact PySem.EqNone.eq_none_none (fin_bl I q (by simp))
    | bl j => cases ry; exact PySem.EqNone.eq_none_bool (fin_bl I q (by simp))
    | int j => obtain ⟨t', rfl⟩ := ry; exact PySem.EqNone.eq_none_int (fin_bl I q (by simp))
    | str j => obtain ⟨t', rfl⟩ := ry; exact PySem.EqNone.eq_none_str (fin_bl I q (by simp))
    | _ => exact absurd (show false = true from hs) Bool.false_ne_true
  | bl i =>
    cases rx
    cases y with
    | non => cases ry; exact PySem.EqNone.eq_bool_none (fin_bl I q (by simp))
    | bl j => cases ry; exact eq_bool (fin_bl I q dec_bl)
    | str j => obtain ⟨t', rfl⟩ := ry; exact PySem.EqMixed.eq_bool_str (fin_bl I q (by simp))
    | _ => exact absurd (show false = true from hs) Bool.false_ne_true
  | int i =>
    obtain ⟨t, rfl⟩ := rx
    cases y with
    | non => cases ry; exact PySem.EqNone.eq_int_none (fin_bl I q (by simp))
    | int j => obtain ⟨t', rfl⟩ := ry; exact eq_int (fin_bl I q dec_int)
    | str j => obtain ⟨t', rfl⟩ := ry; exact PySem.EqMixed.eq_int_str (fin_bl I q (by simp))
    | _ => exact absurd (show false = true from hs) Bool.false_ne_true
  | str i =>
    obtain ⟨t, rfl⟩ := rx
    cases y with
    | non => cases ry; exact PySem.EqNone.eq_str_none (fin_bl I q (by simp))
    | bl j => cases ry; exact PySem.EqMixed.eq_str_bool (fin_bl I q (by simp))
    | int j => obtain ⟨t', rfl⟩ := ry; exact PySem.EqMixed.eq_str_int (fin_bl I q (by simp))
    | str j => obtain ⟨t', rfl⟩ := ry; exact eq_str (fin_bl I q dec_str)
    | _ => exact absurd (show false = true from hs) Bool.false_ne_true
  | byt i =>
    obtain ⟨t, rfl⟩ := rx
    cases y with
    | byt j => obtain ⟨t', rfl⟩ := ry; exact PySem.W.eq_bytes (fin_bl I q dec_byt)
    | _ => exact absurd (show false = true from hs) Bool.false_ne_true
  | _ => cases y <;> exact absurd (show false = true from hs) Bool.false_ne_true
theorem op_ne : OpR X (compareOp .NotEq) rNe := by
  intro pins s σ H x y v u Q I rx ry h
  obtain ⟨hs, q⟩ := h
  cases x with
  | non =>
    cases rx
    cases y with
    | non => cases ry; exact PySem.EqNone.ne_none_none (fin_bl I q (by simp))
    | bl j => cases ry; exact PySem.EqNone.ne_none_bool (fin_bl I q (by simp))
    | int j => obtain ⟨t', rfl⟩ := ry; exact PySem.EqNone.ne_none_int (fin_bl I q (by simp))
    | str j => obtain ⟨t', rfl⟩ := ry; exact PySem.EqNone.ne_none_str (fin_bl I q (by simp))
    | _ => exact absurd (show false = true from hs) Bool.false_ne_true
  | bl i =>
    cases rx
    cases y with
    | non => cases ry; exact PySem.EqNone.ne_bool_none (fin_bl I q (by simp))
    | bl j => cases ry; exact ne_bool (fin_bl I q (congrArg not dec_bl))
    | str j => obtain ⟨t', rfl⟩ := ry; exact PySem.EqMixed.ne_bool_str (fin_bl I q (by simp))
    | _ => exact absurd (show false = true from hs) Bool.false_ne_true
  | int i =>
    obtain ⟨t, rfl⟩ := rx
    cases y with
    | non => cases ry; exact PySem.EqNone.ne_int_none (fin_bl I q (by simp))
    | int j => obtain ⟨t', rfl⟩ := ry; exact ne_int (fin_bl I q (congrArg not dec_int))
    | str j => obtain ⟨t', rfl⟩ := ry; exact PySem.EqMixed.ne_int_str (fin_bl I q (by simp))
    | _ => exact absurd (show false = true from hs) Bool.false_ne_true
  | str i =>
    obtain ⟨t, rfl⟩ := rx
    cases y with
    | non => cases ry; exact PySem.EqNone.ne_str_none (fin_bl I q (by simp))
    | bl j => cases ry; exact PySem.EqMixed.ne_str_bool (fin_bl I q (by simp))
    | int j => obtain ⟨t', rfl⟩ := ry; exact PySem.EqMixed.ne_str_int (fin_bl I q (by simp))
    | str j => obtain ⟨t', rfl⟩ := ry; exact ne_str (fin_bl I q (congrArg not dec_str))
    | _ => exact absurd (show false = true from hs) Bool.false_ne_true
  | byt i =>
    obtain ⟨t, rfl⟩ := rx
    cases y with
    | byt j => obtain ⟨t', rfl⟩ := ry; exact PySem.W.ne_bytes (fin_bl I q (congrArg not dec_byt))
    | _ => exact absurd (show false = true from hs) Bool.false_ne_true
  | _ => cases y <;> exact absurd (show false = true from hs) Bool.false_ne_true

theorem op_lt : OpR X (compareOp .Lt) (rI0 fun i j => .bl (decide (i < j))) := opB0 fun _ _ _ _ _ _ _ q => lt_int q
theorem op_le : OpR X (compareOp .LtE) (rI0 fun i j => .bl (decide (i ≤ j))) := opB0 fun _ _ _ _ _ _ _ q => le_int q
theorem op_gt : OpR X (compareOp .Gt) (rI0 fun i j => .bl (decide (j < i))) := opB0 fun _ _ _ _ _ _ _ q => gt_int q
theorem op_ge : OpR X (compareOp .GtE) (rI0 fun i j => .bl (decide (j ≤ i))) := opB0 fun _ _ _ _ _ _ _ q => ge_int q
theorem op_lt_str : OpR X (compareOp .Lt) (fun x y H Q => ∃ i j, x = .str i ∧ y = .str j ∧ Q (.bl (decide (i.cps.toList < j.cps.toList))) H) := by
  intro pins s σ H x y v u Q I rx ry h
  obtain ⟨i, j, rfl, rfl, q⟩ := h
  obtain ⟨t, rfl⟩ := rx
  obtain ⟨t', rfl⟩ := ry
  exact lt_str (fin_bl I q rfl)
/-- the one string within the other -/
theorem op_in_str : OpR X (compareOp .In) (fun x y H Q => ∃ i j, x = .str i ∧ y = .str j ∧ Q (.bl (!(Builtin.Str.occurrences j i 0 j.length 1).isEmpty)) H) := by
  intro pins s σ H x y v u Q I rx ry h
  obtain ⟨i, j, rfl, rfl, q⟩ := h
  obtain ⟨t, rfl⟩ := rx
  obtain ⟨t', rfl⟩ := ry
  exact in_str (fin_bl I q rfl)

/-- is None, is not None: the right side a value none -/
theorem op_isN : OpR X (compareOp .Is) (fun x y H Q => y = .non ∧ Q (.bl (decide (x = .non))) H) := by
  intro pins s σ H x y v u Q I rx ry h
  obtain ⟨rfl, q⟩ := h
  cases ry
  refine is_none_gen (fin_bl I q ?_)
  cases x <;> first
    | (cases rx; rfl)
    | (obtain ⟨t, rfl⟩ := rx; rfl)
theorem op_notN : OpR X (compareOp .IsNot) (fun x y H Q => y = .non ∧ Q (.bl (!decide (x = .non))) H) := by
  intro pins s σ H x y v u Q I rx ry h
  obtain ⟨rfl, q⟩ := h
  cases ry
  refine isnot_none_gen (fin_bl I q ?_)
  cases x <;> first
    | (cases rx; rfl)
    | (obtain ⟨t, rfl⟩ := rx; rfl)

theorem op_notin_str : OpR X (compareOp .NotIn) (fun x y H Q => ∃ i j, x = .str i ∧ y = .str j ∧ Q (.bl (!(!(Builtin.Str.occurrences j i 0 j.length 1).isEmpty))) H) := by
  intro pins s σ H x y v u Q I rx ry h
  obtain ⟨i, j, rfl, rfl, q⟩ := h
  obtain ⟨t, rfl⟩ := rx
  obtain ⟨t', rfl⟩ := ry
  exact notIn_str (fin_bl I q rfl)
/-- is, is not of two objects that are tracked lists or instances -/
def isObj : HO → Bool
  | .lst _ => true
  | .ins _ _ _ => true
  | _ => false
theorem obj_there {pins : List (Addr × Obj)} {s : Shared} {σ : St} {H : Hp} {a : Addr} {o : HO} (I : Inv X pins σ H s) (h : H a = some o) (p : isObj o = true) : ∃ ob, s.heap.get? a = some ob ∧ ob.cls ≠ .type "tuple" := by
  cases o with
  | lst xs =>
    obtain ⟨_, its, n, _, e⟩ : xs.length ≤ sizeLine ∧ ∃ (its : List Value) (n : Nat), Vals xs its ∧ s.heap.get? a = some { cls := .type "list", data := .seq its.toArray n } := I.hok a _ h
    exact ⟨_, e, (by show Value.type "list" ≠ .type "tuple"; decide +kernel)⟩
  | ins C dx fs =>
    have x := I.hok a _ h
    obtain ⟨_, _, _, e, _⟩ := x
    exact ⟨_, e, (by show Value.ref C ≠ .type "tuple"; exact fun z => by cases z)⟩
  | _ => exact absurd (show false = true from p) Bool.false_ne_true
theorem op_is_ref : OpR X (compareOp .Is) (fun x y H Q => ∃ a b oa ob, x = .ref a ∧ y = .ref b ∧ H a = some oa ∧ isObj oa = true ∧ H b = some ob ∧ isObj ob = true ∧ Q (.bl (decide (a = b))) H) := by
  intro pins s σ H x y v u Q I rx ry h
  obtain ⟨a, b, oa, ob, rfl, rfl, ha, pa, hb, pb, q⟩ := h
  cases rx
  cases ry
  obtain ⟨o1, e1, n1⟩ := obj_there I ha pa
  obtain ⟨o2, e2, _⟩ := obj_there I hb pb
  by_cases z : a = b
  · subst z
    exact wpAny_is_ref_self (fin_bl I q (by simp))
  · exact wpAny_is_ref_other z e1 e2 n1 (fin_bl I q (by simp [z]))
theorem op_isnot_ref : OpR X (compareOp .IsNot) (fun x y H Q => ∃ a b oa ob, x = .ref a ∧ y = .ref b ∧ H a = some oa ∧ isObj oa = true ∧ H b = some ob ∧ isObj ob = true ∧ Q (.bl (!decide (a = b))) H) := by
  intro pins s σ H x y v u Q I rx ry h
  obtain ⟨a, b, oa, ob, rfl, rfl, ha, pa, hb, pb, q⟩ := h
  cases rx
  cases ry
  obtain ⟨o1, e1, n1⟩ := obj_there I ha pa
  obtain ⟨o2, e2, _⟩ := obj_there I hb pb
  by_cases z : a = b
  · subst z
    exact wpAny_isNot_ref_self (fin_bl I q (by simp))
  · exact wpAny_isNot_ref_other z e1 e2 n1 (fin_bl I q (by simp [z]))

/-- two rules for one operation: by cases -/
theorem OpR.or {f : Value → Value → Sem Value} {r r' : R2} (h : OpR X f r) (h' : OpR X f r') : OpR X f (fun x y H Q => r x y H Q ∨ r' x y H Q) := by
  intro pins s σ H x y v u Q I rx ry q
  rcases q with q | q
  · exact h pins s σ H x y v u Q I rx ry q
  · exact h' pins s σ H x y v u Q I rx ry q

theorem nomark (b : Expr) {op : CmpOp} (h : op ≠ .In := by decide) (h2 : op ≠ .NotIn := by decide) : behindInMarks op b = false := by
  have e1 : (op == CmpOp.In) = false := by cases op <;> first | rfl | exact absurd rfl h
  have e2 : (op == CmpOp.NotIn) = false := by cases op <;> first | rfl | exact absurd rfl h2
  cases b <;> simp [behindInMarks, e1, e2]
/-- a comparison as a value; hm: nomark b, or (for in, not in) by with_unfolding_all rfl -/
theorem pe_cmpR {op : CmpOp} {r : R2} (ho : OpR X (compareOp op) r) (ha : PE X a ta) (hb : PE X b tb) (hm : behindInMarks op b = false) : PE X (.Compare a [op] [b] pos) (tOp r ta tb) := by
  intro pins s σ H Q I h
  exact wpAny_Compare1 (binT ha hb I h fun v u s2 x y H2 I2 rx ry q => ho pins s2 σ H2 x y v u Q I2 rx ry q) hm
/-- a reading of a value as a test -/
def tTest (t : TE) : TT := fun σ H Q => t σ H fun x H' => ∃ k, x = .bl k ∧ Q k H'
theorem pt_cmpR {op : CmpOp} {r : R2} (ho : OpR X (compareOp op) r) (ha : PE X a ta) (hb : PE X b tb) (hm : behindInMarks op b = false) : PT X (.Compare a [op] [b] pos) (tTest (tOp r ta tb)) := by
  intro pins s σ H Q I h
  refine wpAny_isTrue_Compare1 (thn (ha pins s σ H _ I h) fun v s1 ⟨x, H1, I1, r1, q1⟩ => thn (hb pins s1 σ H1 _ I1 q1) fun u s2 ⟨y, H2, I2, r2, q2⟩ =>
    thn (ho pins s2 σ H2 x y v u _ I2 r1 r2 q2) fun c s3 ⟨z, H3, I3, r3, k, e, q3⟩ => ?_) hm
  subst e
  cases r3
  exact wpAny_truthy_bool ⟨H3, I3, q3⟩
/-- a op1 b op2 c -/
def tChain (r r' : R2) (ta tb tc : TE) : TE := fun σ H Q => ta σ H fun x H1 => tb σ H1 fun y H2 => r x y H2 fun z H3 => ∃ k, z = .bl k ∧
  (if k = true then tc σ H3 fun w' H4 => r' y w' H4 Q else Q (.bl false) H3)
theorem pe_chain {op op' : CmpOp} {r r' : R2} (ho : OpR X (compareOp op) r) (ho' : OpR X (compareOp op') r') (ha : PE X a ta) (hb : PE X b tb) (hc : PE X c tc)
    (hm : lastMarks [op, op'] [b, c] = false := by with_unfolding_all rfl) : PE X (.Compare a [op, op'] [b, c] pos) (tChain r r' ta tb tc) := by
  intro pins s σ H Q I h
  refine Compare_chain (thn (ha pins s σ H _ I h) fun v s1 ⟨x, H1, I1, r1, q1⟩ => chain_link (thn (hb pins s1 σ H1 _ I1 q1) fun u s2 ⟨y, H2, I2, r2, q2⟩ =>
    thn (ho pins s2 σ H2 x y v u _ I2 r1 r2 q2) fun d s3 ⟨z, H3, I3, r3, k, e, q3⟩ => ?_)) hm
  subst e
  cases r3
  refine wpAny_truthy_bool ?_
  cases k with
  | false => exact ite_ff ⟨.bl false, H3, I3, rfl, q3⟩
  | true => exact ite_tt (chain_last (thn (hc pins s3 σ H3 _ I3 q3) fun w' s4 ⟨z', H4, I4, r4, q4⟩ => ho' pins s4 σ H4 y z' u w' Q I4 r2 r4 q4))
theorem pt_chain {op op' : CmpOp} {r r' : R2} (ho : OpR X (compareOp op) r) (ho' : OpR X (compareOp op') r') (ha : PE X a ta) (hb : PE X b tb) (hc : PE X c tc)
    (hm : lastMarks [op, op'] [b, c] = false := by with_unfolding_all rfl) : PT X (.Compare a [op, op'] [b, c] pos) (tTest (tChain r r' ta tb tc)) := by
  intro pins s σ H Q I h
  refine isTrue_chain (thn (ha pins s σ H _ I h) fun v s1 ⟨x, H1, I1, r1, q1⟩ => test_link (thn (hb pins s1 σ H1 _ I1 q1) fun u s2 ⟨y, H2, I2, r2, q2⟩ =>
    thn (ho pins s2 σ H2 x y v u _ I2 r1 r2 q2) fun d s3 ⟨z, H3, I3, r3, k, e, q3⟩ => ?_)) hm
  subst e
  cases r3
  refine wpAny_truthy_bool ?_
  cases k with
  | false =>
    obtain ⟨k', e', q'⟩ := q3
    cases e'
    exact ite_ff ⟨H3, I3, q'⟩
  | true =>
    refine ite_tt (test_last (thn (hc pins s3 σ H3 _ I3 q3) fun w' s4 ⟨z', H4, I4, r4, q4⟩ => thn (ho' pins s4 σ H4 y z' u w' _ I4 r2 r4 q4) fun d' s5 ⟨z2, H5, I5, r5, k2, e2, q5⟩ => ?_))
    subst e2
    cases r5
    exact wpAny_truthy_bool ⟨H5, I5, q5⟩

/-! ### truth -/
/-- a value's truth by the abstract heap -/
def TruV (K : PySem.W.Frag) (x : V) (H : Hp) (k : Bool) : Prop :=
  match x with
  | .non => k = false
  | .bl b => k = b
  | .int i => k = (i != 0)
  | .str y => y.length ≤ sizeLine ∧ k = ((y.length : Int) != 0)
  | .byt y => y.size ≤ sizeLine ∧ k = ((y.size : Int) != 0)
  | .ref p => (∃ xs, SqL K H p xs ∧ k = !xs.isEmpty) ∨ (∃ xs, SqT K H p xs ∧ k = !xs.isEmpty) ∨ ∃ kvs, H p = some (.dK kvs) ∧ k = !kvs.isEmpty
  | _ => False
theorem isEmpty_kv {κ : Type} {kvs : List (κ × V)} {vs : List (κ × Value)} (r : KV kvs vs) : (!vs.isEmpty) = !kvs.isEmpty := by
  cases r <;> rfl
theorem isEmpty_of {xs : List V} {its : List Value} (r : Vals xs its) : (!its.toArray.isEmpty) = !xs.isEmpty := by
  cases r <;> simp
theorem line63 : (sizeLine : Nat) < 2 ^ 63 := by rw [sizeLine_eq]; decide
theorem tru_ok : TruR X (fun x H Q => ∃ k, TruV X.K x H k ∧ Q k H) := by
  intro pins s σ H x v Q I rx h
  obtain ⟨k, e, q⟩ := h
  have hl := line63
  have hs : sizeLine = 16777216 := sizeLine_eq
  cases x with
  | non =>
    cases rx
    have e' : k = false := e
    subst e'
    exact truthy_none ⟨H, I, q⟩
  | bl b =>
    cases rx
    have e' : k = b := e
    subst e'
    exact wpAny_truthy_bool ⟨H, I, q⟩
  | int i =>
    obtain ⟨t, rfl⟩ := rx
    have e' : k = (i != 0) := e
    subst e'
    exact PySem.P.truthy_int ⟨H, I, q⟩
  | str y =>
    obtain ⟨t, rfl⟩ := rx
    obtain ⟨hy, e'⟩ : y.length ≤ sizeLine ∧ k = ((y.length : Int) != 0) := e
    subst e'
    exact PySem.P.truthy_str (by omega) ⟨H, I.tok _, q⟩
  | byt y =>
    obtain ⟨t, rfl⟩ := rx
    obtain ⟨hy, e'⟩ : y.size ≤ sizeLine ∧ k = ((y.size : Int) != 0) := e
    subst e'
    exact PySem.W.truthy_bytes (by omega) ⟨H, I.tok _, q⟩
  | ref p =>
    cases rx
    have e' : (∃ xs, SqL X.K H p xs ∧ k = !xs.isEmpty) ∨ (∃ xs, SqT X.K H p xs ∧ k = !xs.isEmpty) ∨ ∃ kvs, H p = some (.dK kvs) ∧ k = !kvs.isEmpty := e
    rcases e' with ⟨xs, hx, e'⟩ | ⟨xs, hx, e'⟩ | ⟨kvs, hx, e'⟩
    · subst e'
      obtain ⟨its, r, pl, hz⟩ := I.list hx
      have hlen := r.length
      exact wpAny_truthy_list pl.isList (by simp only [List.size_toArray]; omega) ⟨H, I.tok _, by rw [isEmpty_of r]; exact q⟩
    · subst e'
      obtain ⟨its, r, pl, hz⟩ := I.tuple hx
      have hlen := r.length
      exact truthy_tuple pl (by simp only [List.size_toArray]; omega) ⟨H, I.tok _, by rw [isEmpty_of r]; exact q⟩
    · subst e'
      obtain ⟨hz, hS, vs, r, m⟩ : kvs.length ≤ sizeLine ∧ (p == sysModules) = false ∧ ∃ vs, KV kvs vs ∧ s.heap.DictOf (mixKind X.prog X.w) p vs := I.hok p _ hx
      have hlen : kvs.length = vs.length := Paired.length r
      exact wpAny_truthy_dict hS m (by omega) ⟨H, I.tok _, by rw [isEmpty_kv r]; exact q⟩
  | _ => exact (show False from e).elim
/-- any expression whose test is its value's truth (a name, a call, a subscript, a field ..: he by fun _ => rfl) -/
theorem pt_truth (ha : PE X a ta) (he : ∀ whole, isTrue a X.env whole = (do let v ← whole; standAt a.pos; holding [v] (truthy v))) :
    PT X a (fun σ H Q => ta σ H fun x H' => ∃ k, TruV X.K x H' k ∧ Q k H') := by
  intro pins s σ H Q I h
  exact isTrue_plain (thn (ha pins s σ H _ I h) fun v s1 ⟨x, H1, I1, r1, q1⟩ => tru_ok pins s1 σ H1 x v Q I1 r1 q1) (he _)

/-! ### strs and bytes -/
theorem pe_byt {x : List UInt8} {k : Nat} : PE X (.Constant (.bytes x) k pos) (fun _ H Q => Q (.byt x.toArray) H) := fun _ _ _ H _ I h => PySem.W.Constant_bytes ⟨.byt x.toArray, H, I.tok _, ⟨_, rfl⟩, h⟩
theorem op_add_str : OpR X (binaryOp .Add) (fun x y H Q => ∃ i j, x = .str i ∧ y = .str j ∧ i.length + j.length ≤ sizeLine ∧ Q (.str (i ++ j)) H) := by
  intro pins s σ H x y v u Q I rx ry h
  obtain ⟨i, j, rfl, rfl, hz, q⟩ := h
  obtain ⟨t, rfl⟩ := rx
  obtain ⟨t', rfl⟩ := ry
  exact add_str (fun t' tk => ⟨.str (i ++ j), H, I.tok _, ⟨_, rfl⟩, q⟩) hz
theorem iop_add_str : OpR X (inplaceOp .Add) (fun x y H Q => ∃ i j, x = .str i ∧ y = .str j ∧ i.length + j.length ≤ sizeLine ∧ Q (.str (i ++ j)) H) := by
  intro pins s σ H x y v u Q I rx ry h
  obtain ⟨i, j, rfl, rfl, hz, q⟩ := h
  obtain ⟨t, rfl⟩ := rx
  obtain ⟨t', rfl⟩ := ry
  exact iadd_str (fun t' tk => ⟨.str (i ++ j), H, I.tok _, ⟨_, rfl⟩, q⟩) hz
theorem op_add_byt : OpR X (binaryOp .Add) (fun x y H Q => ∃ i j, x = .byt i ∧ y = .byt j ∧ i.size + j.size ≤ 16777216 ∧ Q (.byt (i ++ j)) H) := by
  intro pins s σ H x y v u Q I rx ry h
  obtain ⟨i, j, rfl, rfl, hz, q⟩ := h
  obtain ⟨t, rfl⟩ := rx
  obtain ⟨t', rfl⟩ := ry
  exact PySem.W.KBy.add_bytes hz (fun t' tk => ⟨.byt (i ++ j), H, I.tok _, ⟨_, rfl⟩, q⟩)

def PlainIxT (b : Expr) : Prop := ∀ o i, subscripted b false o i = operate [o, i] (getItem o i)
/-- s[i], 0 ≤ i < len -/
theorem pe_item_str (ha : PE X a ta) (hb : PE X b tb) (hs : PlainIxT b) :
    PE X (.Subscript a b pos) (tOp (fun x y H Q => ∃ z i c, x = .str z ∧ y = .int i ∧ 0 ≤ i ∧ i < 2 ^ 63 ∧ i < z.length ∧ z.cps[i.toNat]? = some c ∧ Q (.str ⟨#[c]⟩) H) ta tb) := by
  intro pins s σ H Q I h
  refine Subscript_ (binT ha hb I h fun v u s2 x y H2 I2 rx ry q => ?_)
  obtain ⟨z, i, c, rfl, rfl, h0, h63, h1, hc, q⟩ := q
  obtain ⟨t, rfl⟩ := rx
  obtain ⟨t', rfl⟩ := ry
  have e : seqIndex? i z.length = some i.toNat := PySem.StrLaws.seqIndex_nonneg h0 h1
  exact tail_any (typeIs_str s2 z t) slot_str_getitem.lookup (getItem_str (c := c) (by
    have e1 : decide (i < -(2 ^ 63 : Int)) = false := decide_eq_false (by omega)
    have e2 : decide (i ≥ 2 ^ 63) = false := decide_eq_false (by omega)
    rw [e1, e2] <;> rfl) (by rw [e]; exact hc) ⟨.str ⟨#[c]⟩, H2, I2.tok _, ⟨_, rfl⟩, q⟩) (hs _ _)
/-- b[i], 0 ≤ i < len -/
theorem pe_item_byt (ha : PE X a ta) (hb : PE X b tb) (hs : PlainIxT b) :
    PE X (.Subscript a b pos) (tOp (fun x y H Q => ∃ (z : List UInt8) (i : Int), x = .byt z.toArray ∧ y = .int i ∧ z.length ≤ sizeLine ∧ 0 ≤ i ∧ i < z.length ∧ Q (.int ((z.getD i.toNat 0).toNat : Nat)) H) ta tb) := by
  intro pins s σ H Q I h
  refine Subscript_ (binT ha hb I h fun v u s2 x y H2 I2 rx ry q => ?_)
  obtain ⟨z, i, rfl, rfl, hz, h0, h1, q⟩ := q
  obtain ⟨t, rfl⟩ := rx
  obtain ⟨t', rfl⟩ := ry
  have hl : sizeLine = 16777216 := sizeLine_eq
  exact tail_any (PySem.W.typeIs_bytes s2 z.toArray t) PySem.W.FB.slot_bytes_getitem.lookup (PySem.W.getItem_bytes (by omega) h0 h1 ⟨.int ((z.getD i.toNat 0).toNat : Nat), H2, I2.tok _, ⟨_, rfl⟩, q⟩) (hs _ _)

/-! ### scalar builtins, by CallR -/
theorem vals1 {x : V} {us : List Value} (r : Vals [x] us) : ∃ u, us = [u] ∧ RelV x u := by
  cases r with
  | cons r1 r2 => cases r2; exact ⟨_, rfl, r1⟩
theorem vals2 {x y : V} {us : List Value} (r : Vals [x, y] us) : ∃ u w', us = [u, w'] ∧ RelV x u ∧ RelV y w' := by
  cases r with
  | cons r1 r2 =>
    cases r2 with
    | cons r3 r4 => cases r4; exact ⟨_, _, rfl, r1, r3⟩
theorem call_abs : CallR X (.builtin "abs") (fun xs H Q => ∃ i, xs = [.int i] ∧ Q (.int (if i < 0 then -i else i)) H) := by
  intro pins s σ H xs us Q I r h
  obtain ⟨i, rfl, q⟩ := h
  obtain ⟨u, rfl, t, rfl⟩ := vals1 r
  exact call_abs_int fun u tk => ⟨.int (if i < 0 then -i else i), H, I.tok _, ⟨_, rfl⟩, q⟩
theorem call_max2 (hc : X.calm = true) : CallR X (.builtin "max") (fun xs H Q => ∃ i j, xs = [.int i, .int j] ∧ Q (.int (if j > i then j else i)) H) := by
  intro pins s σ H xs us Q I r h
  obtain ⟨i, j, rfl, q⟩ := h
  obtain ⟨u, w', rfl, ⟨t, rfl⟩, ⟨t', rfl⟩⟩ := vals2 r
  refine max_two_ints (I.ok.hd hc) fun h' tk k => ⟨_, H, I.kept k, ?_, q⟩
  by_cases hj : j > i
  · rw [if_pos hj, if_pos hj]; exact ⟨_, rfl⟩
  · rw [if_neg hj, if_neg hj]; exact ⟨_, rfl⟩
theorem call_min2 (hc : X.calm = true) : CallR X (.builtin "min") (fun xs H Q => ∃ i j, xs = [.int i, .int j] ∧ Q (.int (if j < i then j else i)) H) := by
  intro pins s σ H xs us Q I r h
  obtain ⟨i, j, rfl, q⟩ := h
  obtain ⟨u, w', rfl, ⟨t, rfl⟩, ⟨t', rfl⟩⟩ := vals2 r
  refine min_two_ints (I.ok.hd hc) fun h' tk k => ⟨_, H, I.kept k, ?_, q⟩
  by_cases hj : j < i
  · rw [if_pos hj, if_pos hj]; exact ⟨_, rfl⟩
  · rw [if_neg hj, if_neg hj]; exact ⟨_, rfl⟩
theorem call_int1 : CallR X (.type "int") (fun xs H Q => (∃ i, xs = [.int i] ∧ Q (.int i) H) ∨ ∃ k, xs = [.bl k] ∧ Q (.int (if k then 1 else 0)) H) := by
  intro pins s σ H xs us Q I r h
  rcases h with ⟨i, rfl, q⟩ | ⟨k, rfl, q⟩
  · obtain ⟨u, rfl, t, rfl⟩ := vals1 r
    exact call_int_int ⟨.int i, H, I, ⟨_, rfl⟩, q⟩
  · obtain ⟨u, rfl, r1⟩ := vals1 r
    cases r1
    exact call_int_bool ⟨.int (if k then 1 else 0), H, I.tok _, ⟨_, rfl⟩, q⟩
theorem call_bool1 : CallR X (.type "bool") (fun xs H Q => (∃ i, xs = [.int i] ∧ Q (.bl (i != 0)) H) ∨ ∃ k, xs = [.bl k] ∧ Q (.bl k) H) := by
  intro pins s σ H xs us Q I r h
  rcases h with ⟨i, rfl, q⟩ | ⟨k, rfl, q⟩
  · obtain ⟨u, rfl, t, rfl⟩ := vals1 r
    exact call_bool_int ⟨.bl (i != 0), H, I, rfl, q⟩
  · obtain ⟨u, rfl, r1⟩ := vals1 r
    cases r1
    exact call_bool_bool ⟨.bl k, H, I, rfl, q⟩
theorem call_str_int : CallR X (.type "str") (fun xs H Q => ∃ i, xs = [.int i] ∧ i.natAbs.log2 < 1920 ∧ Q (.str (toString i)) H) := by
  intro pins s σ H xs us Q I r h
  obtain ⟨i, rfl, hz, q⟩ := h
  obtain ⟨u, rfl, t, rfl⟩ := vals1 r
  exact PySem.P.str_of_int hz ⟨.str _, H, I.tok _, ⟨_, rfl⟩, q⟩
theorem call_ord : CallR X (.builtin "ord") (fun xs H Q => ∃ x, xs = [.str x] ∧ x.length = 1 ∧ Q (.int (x.cps.getD 0 0 : Nat)) H) := by
  intro pins s σ H xs us Q I r h
  obtain ⟨x, rfl, hz, q⟩ := h
  obtain ⟨u, rfl, t, rfl⟩ := vals1 r
  exact ord_of_one hz ⟨.int _, H, I.tok _, ⟨_, rfl⟩, q⟩
theorem call_chr : CallR X (.builtin "chr") (fun xs H Q => ∃ i, xs = [.int i] ∧ 0 ≤ i ∧ i ≤ 1114111 ∧ Q (.str ⟨#[i.toNat]⟩) H) := by
  intro pins s σ H xs us Q I r h
  obtain ⟨i, rfl, h0, h1, q⟩ := h
  obtain ⟨u, rfl, t, rfl⟩ := vals1 r
  exact chr_of_range h0 h1 ⟨.str _, H, I.tok _, ⟨_, rfl⟩, q⟩
/-- len of a str, a bytes, a list, a tuple -/
def LenV (K : PySem.W.Frag) (x : V) (H : Hp) (n : Nat) : Prop :=
  match x with
  | .str y => y.length ≤ sizeLine ∧ n = y.length
  | .byt y => y.size ≤ sizeLine ∧ n = y.size
  | .ref p => (∃ xs, SqL K H p xs ∧ n = xs.length) ∨ ∃ xs, SqT K H p xs ∧ n = xs.length
  | _ => False
theorem call_len : CallR X (.builtin "len") (fun xs H Q => ∃ x n, xs = [x] ∧ LenV X.K x H n ∧ Q (.int n) H) := by
  intro pins s σ H xs us Q I r h
  obtain ⟨x, n, rfl, e, q⟩ := h
  obtain ⟨u, rfl, rx⟩ := vals1 r
  have hl := line63
  have hs : sizeLine = 16777216 := sizeLine_eq
  cases x with
  | str y =>
    obtain ⟨t, rfl⟩ := rx
    obtain ⟨hy, e'⟩ : y.length ≤ sizeLine ∧ n = y.length := e
    subst e'
    exact len_str (by omega) ⟨.int _, H, I.tok _, ⟨_, rfl⟩, q⟩
  | byt y =>
    obtain ⟨t, rfl⟩ := rx
    obtain ⟨hy, e'⟩ : y.size ≤ sizeLine ∧ n = y.size := e
    subst e'
    exact PySem.W.len_bytes (by omega) ⟨.int _, H, I.tok _, ⟨_, rfl⟩, q⟩
  | ref p =>
    cases rx
    have e' : (∃ xs, SqL X.K H p xs ∧ n = xs.length) ∨ ∃ xs, SqT X.K H p xs ∧ n = xs.length := e
    rcases e' with ⟨xs, hx, e'⟩ | ⟨xs, hx, e'⟩
    · subst e'
      obtain ⟨its, r', pl, hz⟩ := I.list hx
      have hlen := r'.length
      exact Calls.call_len_list pl.isList (by simp only [List.size_toArray]; omega) ⟨.int xs.length, H, I.tok _, ⟨_, by simp only [List.size_toArray]; rw [hlen]⟩, q⟩
    · subst e'
      obtain ⟨its, r', pl, hz⟩ := I.tuple hx
      have hlen := r'.length
      exact len_tuple pl (by simp only [List.size_toArray]; omega) ⟨.int xs.length, H, I.tok _, ⟨_, by simp only [List.size_toArray]; rw [hlen]⟩, q⟩
  | _ => exact (show False from e).elim
/-- divmod: a new tuple -/
theorem call_divmod : CallR X (.builtin "divmod") (fun xs H Q => ∃ i j, xs = [.int i, .int j] ∧ CDiv i j ∧ ∀ p, H p = none → Q (.ref p) (upd H p (.tup [.int (i / j), .int (i % j)]))) := by
  intro pins s σ H xs us Q I r h
  obtain ⟨i, j, rfl, ⟨h1, h2⟩, q⟩ := h
  obtain ⟨u, w', rfl, ⟨t, rfl⟩, ⟨t', rfl⟩⟩ := vals2 r
  refine divmod_int (by omega) ?_ (.inl (PyProof.noPylong_small (by omega)))
  rw [Int.fdiv_eq_ediv_of_nonneg i (by omega), Int.fmod_eq_emod_of_nonneg i (by omega)]
  have hn : H s.heap.objs.size = none := I.hok.fresh (Nat.le_refl _)
  refine ⟨.ref s.heap.objs.size, _, ?_, rfl, q _ hn⟩
  refine I.laid (fun b o e => Heap.get?_push_of_some _ e) (Nat.le_refl _) ⟨by simp only [List.length_cons, List.length_nil]; rw [sizeLine_eq]; decide, [.int (i / j) s.toks, .int (i % j) (s.toks + 1)], .cons ⟨_, rfl⟩ (.cons ⟨_, rfl⟩ .nil), ?_⟩
  exact ⟨_, Heap.get?_push_size s.heap rfl, rfl, 0, rfl⟩
end
end L2

namespace L2
open PySem PySem.Spec PyProof.Rows

/-! ### an instance, its attributes a map -/
structure ObjM (h : Heap) (x dx C : Addr) (mA : Str → Option Value) : Prop where
  obj : h.get? x = some (PySem.W.instObj C dx)
  ns : h.Ns1 dx mA
  ne : dx ≠ x

theorem lookIn_ns {h : Heap} {dx : Addr} {mA : Str → Option Value} (n : h.Ns1 dx mA) : ∃ od, h.get? dx = some od ∧ ∀ name, PySem.W.lookIn name od = some (mA name) := by
  obtain ⟨o, es, ep, ho, hd, hk, _, hm⟩ := n
  refine ⟨o, ho, fun name => ?_⟩
  have e := hm name
  unfold nsFind findBy at e
  rw [← Array.find?_toList] at e
  unfold PySem.W.lookIn
  rw [hd]
  dsimp only
  split
  · rename_i y q
    rw [q] at e
    exact congrArg some e
  · rename_i q
    rw [q] at e
    have a : es.toList.any (·.refKey) = false := by
      rw [List.any_eq_false]
      intro y hy
      obtain ⟨z, t, hkey⟩ := hk y (Array.mem_toList_iff.mp hy)
      simp [DictEntry.refKey, hkey]
    have a' : ¬ es.toList.any (·.refKey) = true := by rw [a]; exact Bool.false_ne_true
    rw [if_neg a']
    exact congrArg some e

theorem ObjM.look {h : Heap} {x dx C : Addr} {mA : Str → Option Value} (I : ObjM h x dx C mA) : ∃ od, PySem.W.InstAt h x (PySem.W.instObj C dx) C (some od) ∧ ∀ name, PySem.W.lookIn name od = some (mA name) :=
  let ⟨od, ho, hl⟩ := lookIn_ns I.ns
  ⟨od, ⟨I.obj, rfl, rfl, ho⟩, hl⟩

section
variable {prog : Program} {w : World} {A : Around} {E : Value → Shared → Prop} {s : Shared} {K : PySem.W.Frag} {x dx C f : Addr} {mA : Str → Option Value} {name : Str} {v : Value}

theorem get_map {expr : Bool} {Q : Value → Shared → Prop} (X : K.In s.heap) (I : ObjM s.heap x dx C mA) (hg : PySem.W.plainGet K C name = true) (hh : PySem.W.hasDictIn K C = true)
    (ha : PySem.W.findIn K (.ref C) name = some none) (hv : mA name = some v) (hv' : PySem.W.handedIn v = true) (h : Q v { s with toks := s.toks + 1 }) :
    wpAny (model prog w) A (getAttr (.ref x) name expr) Q E s := by
  obtain ⟨od, J, hl⟩ := I.look
  exact PySem.W.get_value X J (PySem.W.plainGet_of hg).1 (PySem.W.findObj_own hh ha rfl (by rw [hl, hv])) hv' h

theorem get_const {expr : Bool} {a : Value} {Q : Value → Shared → Prop} (X : K.In s.heap) (I : ObjM s.heap x dx C mA) (hg : PySem.W.plainGet K C name = true) (hh : PySem.W.hasDictIn K C = true)
    (ha : PySem.W.findIn K (.ref C) name = some (some a)) (hn : PySem.W.specialIn K a "__get__" = some none) (hc : PySem.W.copiedNames.contains name = false) (hv : mA name = none) (hv' : PySem.W.handedIn a = true)
    (h : Q a { s with toks := s.toks + 1 }) : wpAny (model prog w) A (getAttr (.ref x) name expr) Q E s := by
  obtain ⟨od, J, hl⟩ := I.look
  exact PySem.W.get_value X J (PySem.W.plainGet_of hg).1 (PySem.W.findObj_cls hh ha hn hv' hc (by rw [hl, hv])) hv' h

theorem get_meth {pl : Sem Bool} {Q : Value × List Value → Shared → Prop} (X : K.In s.heap) (I : ObjM s.heap x dx C mA) (hg : PySem.W.plainGet K C name = true)
    (hf : PySem.W.findIn K (.ref C) name = some (some (.ref f))) (ht : PySem.W.isFn K (.ref f) = true) (hv : mA name = none) (h : Q (.ref f, [.ref x]) s) :
    wpAny (model prog w) A (getMethod (.ref x) name pl) Q E s := by
  obtain ⟨od, J, hl⟩ := I.look
  exact PySem.W.method_fn X J (PySem.W.plainGet_of hg).1 (PySem.W.plainGet_of hg).2 hf (beq_iff_eq.mp ht) (by show (PySem.W.lookIn name od).map (·.isSome) = some false; rw [hl, hv]; rfl) h

theorem set_map {ns : List Str} {Q : Unit → Shared → Prop} (X : K.In s.heap) (I : ObjM s.heap x dx C mA)
    (hs : PySem.W.findIn K (.ref C) "__setattr__" = some (some (.builtin "object.__setattr__"))) (hp : PySem.W.plainOver K C = true) (ht : PySem.W.takerIn K C name = some none) (hh : PySem.W.hasDictIn K C = true)
    (hw : PySem.Within mA ns) (hsz : ns.length ≤ sizeLine)
    (h : ∀ h', ObjM h' x dx C (fun y => if y = name then some v else mA y) → Heap.SameBut dx s.heap h' → Q () { s with heap := h', toks := s.toks + 2 }) :
    wpAny (model prog w) A (setAttr (.ref x) name v) Q E s := by
  obtain ⟨od, J, hl⟩ := I.look
  refine PySem.W.set_plain X J hs (PySem.W.osa_open (s := { s with toks := s.toks + 1 }) (r := none) X J hp ht fun b => ?_)
  obtain ⟨cd, hc, hd'⟩ := PySem.W.any_some hh
  have hx : s.heap.get? x = some ⟨.ref C, some dx, .plain, #[]⟩ := I.obj
  refine wpAny_bind (wpAny_pure (wpAny_bind (wpAny_bind (wpAny_loadPart hx (wpAny_bind (PySem.W.Looks.here (s := { s with toks := s.toks + 1 }) (PySem.W.looks_clsIn X hc) ?_))))))
  rw [hd']
  refine wpAny_pure (a := some dx) (wpAny_bind (wpAny_pure (wpAny_bind ?_)))
  refine wpAny_nsSet1 (s := { s with toks := s.toks + 1 }) I.ns fun h' hn2 hs2 => ?_
  obtain ⟨oD, esD, epD, hoD, hdD, hcD⟩ := hn2.count (PySem.Within.cons name v hw)
  refine wpAny_bind (wpAny_lookBehind hoD (by rw [hdD]; exact pastItsLine_dict (Nat.le_trans hcD (by rw [List.length_cons]; omega))) ?_)
  exact wpAny_pure (h _ ⟨(hs2.2 _ (Ne.symm I.ne)).trans I.obj, hn2, I.ne⟩ hs2)

/-- C(..): the dict at the heap's end, the instance behind it; then its __init__ -/
theorem make_map {R : Result → Shared → Prop} {vs : List Value} {kw : List (Str × Value)} (X : K.In s.heap) (hm : PySem.W.makesIn K C = true)
    (hi : PySem.W.findIn K (.ref C) "__init__" = some (some (.ref f))) (hf : PySem.W.typeIn K (.ref f) = some (.type "function"))
    (h : codeAny (model prog w) (A.under (.builtin "type.__call__" ⟨.ref C :: vs, kw⟩)) (.call (.ref f) ⟨.ref (s.heap.objs.size + 1) :: vs, kw⟩) (PySem.W.InitBack (s.heap.objs.size + 1) R)
      { s with heap := (s.heap.push PySem.W.emptyDict).push (PySem.W.instObj C s.heap.objs.size) }) :
    codeAny (model prog w) A (.call (.ref C) ⟨vs, kw⟩) R s := by
  obtain ⟨hh, g, d, t, os⟩ := s
  exact PySem.W.make_core (PySem.W.makes_of X hm) (PySem.W.looks_findIn X hi) (fun self => PySem.W.bind_fn X self hf) (.inl rfl) h
/-- C() where there is no __init__ but object's -/
theorem make_map0 {R : Result → Shared → Prop} (X : K.In s.heap) (hm : PySem.W.makesIn K C = true)
    (hi : PySem.W.findIn K (.ref C) "__init__" = some (some (.builtin "object.__init__")))
    (hb : ∀ self, PySem.W.Looks (model prog w) s.heap (bindSpecial (.builtin "object.__init__") self) (.builtin "object.__init__", [self]))
    (h : codeAny (model prog w) (A.under (.builtin "type.__call__" ⟨[.ref C], []⟩)) (.call (.builtin "object.__init__") ⟨[.ref (s.heap.objs.size + 1)], []⟩) (PySem.W.InitBack (s.heap.objs.size + 1) R)
      { s with heap := (s.heap.push PySem.W.emptyDict).push (PySem.W.instObj C s.heap.objs.size) }) :
    codeAny (model prog w) A (.call (.ref C) ⟨[], []⟩) R s := by
  obtain ⟨hh, g, d, t, os⟩ := s
  exact PySem.W.make_core (PySem.W.makes_of X hm) (PySem.W.looks_findIn X hi) hb (.inr ⟨rfl, rfl⟩) h
end

/-! ### the attributes as a list of pairs -/
def putF (f : Str) (v : V) : List (Str × V) → List (Str × V)
  | [] => [(f, v)]
  | (g, x) :: r => if g = f then (g, v) :: r else (g, x) :: putF f v r
theorem lookup_putF (f g : Str) (v : V) : ∀ fs : List (Str × V), (putF f v fs).lookup g = if g = f then some v else fs.lookup g
  | [] => by
    show List.lookup g [(f, v)] = _
    by_cases h : g = f
    · have hb : (g == f) = true := beq_iff_eq.mpr h
      simp only [List.lookup, hb, if_pos h]
    · have hb : (g == f) = false := beq_eq_false_iff_ne.mpr h
      simp only [List.lookup, hb, if_neg h]
  | (k, x) :: r => by
    have ih := lookup_putF f g v r
    rw [show putF f v ((k, x) :: r) = (if k = f then (k, v) :: r else (k, x) :: putF f v r) from rfl]
    by_cases hk : k = f
    · rw [if_pos hk]
      by_cases h : g = k
      · have hb : (g == k) = true := beq_iff_eq.mpr h
        simp only [List.lookup, hb, if_pos (h.trans hk)]
      · have hb : (g == k) = false := beq_eq_false_iff_ne.mpr h
        simp only [List.lookup, hb, if_neg (fun e : g = f => h (e.trans hk.symm))]
    · rw [if_neg hk]
      by_cases h : g = k
      · have hb : (g == k) = true := beq_iff_eq.mpr h
        simp only [List.lookup, hb, if_neg (fun e : g = f => hk (h.symm.trans e))]
      · have hb : (g == k) = false := beq_eq_false_iff_ne.mpr h
        simp only [List.lookup, hb]
        exact ih
theorem keys_putF (f : Str) (v : V) : ∀ fs : List (Str × V), f ∈ (putF f v fs).map (·.1) ∧ ∀ g, g ∈ fs.map (·.1) → g ∈ (putF f v fs).map (·.1)
  | [] => ⟨by simp [putF], fun g h => by simp at h⟩
  | (k, x) :: r => by
    obtain ⟨i1, i2⟩ := keys_putF f v r
    rw [show putF f v ((k, x) :: r) = (if k = f then (k, v) :: r else (k, x) :: putF f v r) from rfl]
    by_cases hk : k = f
    · rw [if_pos hk]
      subst hk
      exact ⟨by simp, fun g h => by simpa using h⟩
    · rw [if_neg hk]
      refine ⟨?_, fun g h => ?_⟩
      · rw [List.map_cons]
        exact List.mem_cons_of_mem _ i1
      · rw [List.map_cons] at h ⊢
        rcases List.mem_cons.mp h with e | e
        · exact List.mem_cons.mpr (.inl e)
        · exact List.mem_cons_of_mem _ (i2 g e)
theorem length_putF (f : Str) (v : V) : ∀ fs : List (Str × V), (putF f v fs).length ≤ fs.length + 1
  | [] => by simp [putF]
  | (k, x) :: r => by
    have ih := length_putF f v r
    rw [show putF f v ((k, x) :: r) = (if k = f then (k, v) :: r else (k, x) :: putF f v r) from rfl]
    by_cases hk : k = f
    · rw [if_pos hk, List.length_cons, List.length_cons]; omega
    · rw [if_neg hk, List.length_cons, List.length_cons]; omega

theorem RelO.some_of {v : V} {o : Option Value} (r : RelO (some v) o) : ∃ u, o = some u ∧ RelV v u := by
  cases o with
  | none => exact (show False from r).elim
  | some u => exact ⟨u, rfl, r⟩
theorem RelO.none_of {o : Option Value} (r : RelO none o) : o = none := by
  cases o with
  | none => rfl
  | some u => exact (show False from r).elim
theorem handed_of {v : V} {u : Value} (r : RelV v u) : PySem.W.handedIn u = true := by
  cases v with
  | non => cases (show u = Value.none from r); rfl
  | bl b => cases (show u = Value.bool b from r); rfl
  | int i => obtain ⟨t, e⟩ := (show ∃ t, u = Value.int i t from r); cases e; rfl
  | str x => obtain ⟨t, e⟩ := (show ∃ t, u = Value.str x t from r); cases e; rfl
  | byt b => obtain ⟨t, e⟩ := (show ∃ t, u = Value.bytes b t from r); cases e; rfl
  | flt b => obtain ⟨t, e⟩ := (show ∃ t, u = Value.float b t from r); cases e; rfl
  | ref a => cases (show u = Value.ref a from r); rfl
  | ty n => cases (show u = Value.type n from r); rfl

section
variable {P : Program} {w : World} {H H' : Hp} {h h' : Heap} {a C dx : Addr} {fs fs' : List (Str × V)}
theorem ins_get (hok : HOk P w H h) (e : H a = some (.ins C dx fs)) : ∃ mA, ObjM h a dx C mA ∧ (∀ f, RelO (fs.lookup f) (mA f)) ∧ PySem.Within mA (fs.map (·.1)) ∧ fs.length ≤ 1000 ∧ H dx = some (.own a) := by
  obtain ⟨d, z, ne, ob, mA, n, r, q⟩ := (show ObjOk P w H h a (.ins C dx fs) from hok a _ e)
  exact ⟨mA, ⟨ob, n, ne⟩, r, q, z, d⟩
end

/-! ### what of the text a class must have -/
structure Cls (K : PySem.W.Frag) (C : Addr) : Prop where
  pg : PySem.W.plainGet K C Str.empty = true
  hd : PySem.W.hasDictIn K C = true
  po : PySem.W.plainOver K C = true
  sa : PySem.W.findIn K (.ref C) "__setattr__" = some (some (.builtin "object.__setattr__"))
theorem Cls.get {K : PySem.W.Frag} {C : Addr} (c : Cls K C) (f : Str) : PySem.W.plainGet K C f = true := c.pg
/-- no class of it has the name -/
def NoAttr (K : PySem.W.Frag) (C : Addr) (f : Str) : Prop := PySem.W.findIn K (.ref C) f = some none
theorem NoAttr.taker {K : PySem.W.Frag} {C : Addr} {f : Str} (n : NoAttr K C f) : PySem.W.takerIn K C f = some none := by
  unfold PySem.W.takerIn
  rw [show PySem.W.findIn K (.ref C) f = some none from n]
  rfl
/-- a constant of the class -/
structure Con (K : PySem.W.Frag) (C : Addr) (f : Str) (v : V) (u : Value) : Prop where
  at_ : PySem.W.findIn K (.ref C) f = some (some u)
  rel : RelV v u
  get : PySem.W.specialIn K u "__get__" = some none
  cp : PySem.W.copiedNames.contains f = false
/-- a method: a plain def of the class or of one above it -/
structure Meth (K : PySem.W.Frag) (C : Addr) (m : Str) (f : Addr) : Prop where
  at_ : PySem.W.findIn K (.ref C) m = some (some (.ref f))
  fn : PySem.W.isFn K (.ref f) = true
  kp : PySem.W.keepIn K (.ref f) = true

section
variable {X : Cx} {pins : List (Addr × Obj)} {σ : St} {H : Hp} {s : Shared} {a C dx : Addr} {fs : List (Str × V)} {f : Str} {v : V} {A : Around} {E : Value → Shared → Prop}

theorem getattr_ok {b : Bool} {Q : Value → Shared → Prop} (I : Inv X pins σ H s) (e : H a = some (.ins C dx fs)) (c : Cls X.K C) (n : NoAttr X.K C f) (l : fs.lookup f = some v)
    (h : ∀ u s', Inv X pins σ H s' → RelV v u → Q u s') : wpAny (model X.prog X.w) A (getAttr (.ref a) f b) Q E s := by
  obtain ⟨mA, O, r, _, _, _⟩ := ins_get I.hok e
  obtain ⟨u, hu, ru⟩ := RelO.some_of (v := v) (o := mA f) (by rw [← l]; exact r f)
  exact get_map I.kIn O (c.get f) c.hd n hu (handed_of ru) (h u _ (I.tok _) ru)

theorem getcon_ok {b : Bool} {u : Value} {Q : Value → Shared → Prop} (I : Inv X pins σ H s) (e : H a = some (.ins C dx fs)) (c : Cls X.K C) (k : Con X.K C f v u) (l : fs.lookup f = none)
    (h : ∀ s', Inv X pins σ H s' → Q u s') : wpAny (model X.prog X.w) A (getAttr (.ref a) f b) Q E s := by
  obtain ⟨mA, O, r, _, _, _⟩ := ins_get I.hok e
  have hn : mA f = none := RelO.none_of (by rw [← l]; exact r f)
  exact get_const I.kIn O (c.get f) c.hd k.at_ k.get k.cp hn (handed_of k.rel) (h _ (I.tok _))

theorem getmeth_ok {m : Str} {g : Addr} {pl : Sem Bool} {Q : Value × List Value → Shared → Prop} (I : Inv X pins σ H s) (e : H a = some (.ins C dx fs)) (c : Cls X.K C) (k : Meth X.K C m g) (l : fs.lookup m = none)
    (h : Q (.ref g, [.ref a]) s) : wpAny (model X.prog X.w) A (getMethod (.ref a) m pl) Q E s := by
  obtain ⟨mA, O, r, _, _, _⟩ := ins_get I.hok e
  have hn : mA m = none := RelO.none_of (by rw [← l]; exact r m)
  exact get_meth I.kIn O (c.get m) k.at_ k.fn hn h

theorem setattr_ok {y : V} {u : Value} {Q : Unit → Shared → Prop} (I : Inv X pins σ H s) (e : H a = some (.ins C dx fs)) (c : Cls X.K C) (n : NoAttr X.K C f) (hl : fs.length < 1000) (ry : RelV y u)
    (h : ∀ s', Inv X pins σ (upd H a (.ins C dx (putF f y fs))) s' → Q () s') : wpAny (model X.prog X.w) A (setAttr (.ref a) f u) Q E s := by
  obtain ⟨mA, O, r, wi, _, ho⟩ := ins_get I.hok e
  have hz : (fs.map (·.1)).length ≤ sizeLine := by rw [List.length_map, sizeLine_eq]; omega
  refine set_map I.kIn O c.sa c.po n.taker c.hd wi hz fun h' O' sb => h _ ?_
  have hd : ∃ o, h'.get? dx = some o := let ⟨o, _, _, e', _⟩ := O'.ns; ⟨o, e'⟩
  refine I.write (x := a) (e := dx) (by rw [e]; exact True.intro) (.inr ho) (fun b q hb z => (sb.2 b hb).trans z) hd ?_
  refine ⟨by rw [upd_ne O.ne]; exact ho, ?_, O.ne, O'.obj, _, O'.ns, fun g => ?_, fun g hg => ?_⟩
  · have := length_putF f y fs; omega
  · show RelO ((putF f y fs).lookup g) (if g = f then some u else mA g)
    rw [lookup_putF]
    by_cases q : g = f
    · rw [if_pos q, if_pos q]; exact ry
    · rw [if_neg q, if_neg q]; exact r g
  · by_cases q : g = f
    · rw [q]; exact (keys_putF f y fs).1
    · refine (keys_putF f y fs).2 g (wi g fun z => hg ?_)
      show (if g = f then some u else mA g) = none
      rw [if_neg q]; exact z

/-- a new instance, tracked, without attributes -/
theorem Inv.made (I : Inv X pins σ H s) : Inv X pins σ (upd (upd H s.heap.objs.size (.own (s.heap.objs.size + 1))) (s.heap.objs.size + 1) (.ins C s.heap.objs.size []))
    { s with heap := (s.heap.push PySem.W.emptyDict).push (PySem.W.instObj C s.heap.objs.size) } := by
  have e1 : (s.heap.push PySem.W.emptyDict).get? s.heap.objs.size = some PySem.W.emptyDict := Heap.get?_push_size s.heap rfl
  have e2 : ((s.heap.push PySem.W.emptyDict).push (PySem.W.instObj C s.heap.objs.size)).get? (s.heap.objs.size + 1) = some (PySem.W.instObj C s.heap.objs.size) := by
    have := Heap.get?_push_size (s.heap.push PySem.W.emptyDict) (o := PySem.W.instObj C s.heap.objs.size) rfl
    rwa [Heap.size_push] at this
  have e3 : (s.heap.push PySem.W.emptyDict).Ns s.heap.objs.size (fun _ => none) := ⟨PySem.W.emptyDict, #[], _, e1, rfl, (fun e he => absurd he (by simp)), fun _ => rfl⟩
  have I1 := I.laid (a := s.heap.objs.size) (o := .own (s.heap.objs.size + 1)) (h' := s.heap.push PySem.W.emptyDict) (t' := s.toks) (fun b u q => Heap.get?_push_of_some _ q) (Nat.le_refl _) ⟨_, e1⟩
  refine I1.laid (a := s.heap.objs.size + 1) (o := .ins C s.heap.objs.size []) (t' := s.toks) (fun b u q => Heap.get?_push_of_some _ q) (Nat.le_of_eq (Heap.size_push _ _)) ?_
  have ne : s.heap.objs.size ≠ s.heap.objs.size + 1 := Nat.ne_of_lt (Nat.lt_succ_self _)
  refine ⟨by rw [upd_ne ne, upd_same], Nat.zero_le _, ne, e2, fun _ => none, (Heap.Ns1.of_empty e3).at fun o q => Heap.get?_push_of_some _ q, fun _ => True.intro, fun y hy => absurd rfl hy⟩

/-- e.f where nothing but the object is asked: through attributeBase (super) and the last hold -/
theorem attr_of {prog : Program} {w : World} {env : Env} {e : Expr} {f : Str} {pos : Pos} {s : Shared} {Q : Value → Shared → Prop} (hb : attributeBase e f env (eval e env) = eval e env)
    (h : wpAny (model prog w) A (eval e env) (fun o s₁ => wpAny (model prog w) A (getAttr o f true) Q E s₁) E s) : wpAny (model prog w) A (eval (.Attribute e f pos) env) Q E s :=
  Attribute_any_ h (by rw [arm_eval_Attribute, hb])
end

/-! ### readings and rules -/
/-- e.f, an attribute of the instance -/
def tFld (K : PySem.W.Frag) (ta : TE) (f : Str) : TE := fun σ H Q => ta σ H fun x H1 => ∃ a C dx fs v, x = .ref a ∧ H1 a = some (.ins C dx fs) ∧ Cls K C ∧ NoAttr K C f ∧ fs.lookup f = some v ∧ Q v H1
/-- e.f, a constant of the class -/
def tCon (K : PySem.W.Frag) (ta : TE) (f : Str) : TE := fun σ H Q => ta σ H fun x H1 => ∃ a C dx fs v u, x = .ref a ∧ H1 a = some (.ins C dx fs) ∧ Cls K C ∧ Con K C f v u ∧ fs.lookup f = none ∧ Q v H1
/-- e.f = value -/
def sFld (K : PySem.W.Frag) (ta tv : TE) (f : Str) : TS := fun D σ H => tv σ H fun y H1 => ta σ H1 fun x H2 => ∃ a C dx fs, x = .ref a ∧ H2 a = some (.ins C dx fs) ∧ Cls K C ∧ NoAttr K C f ∧ fs.length < 1000 ∧
  D.nx σ (upd H2 a (.ins C dx (putF f y fs)))
/-- an augmented operator on two values -/
def InOp (X : Cx) (op : Operator) (rd : V → V → Hp → VK → Prop) : Prop :=
  ∀ (pins : List (Addr × Obj)) (s : Shared) (σ : St) (H : Hp) (x y : V) (u v : Value) (Q : VK), Inv X pins σ H s → RelV x u → RelV y v → rd x y H Q → wpAny (model X.prog X.w) X.A (inplaceOp op u v) (EP X pins σ Q) X.xe s
/-- e.f op= value -/
def sFldAug (K : PySem.W.Frag) (ta tv : TE) (rd : V → V → Hp → VK → Prop) (f : Str) : TS := fun D σ H => ta σ H fun x H1 => ∃ a C dx fs v, x = .ref a ∧ H1 a = some (.ins C dx fs) ∧ Cls K C ∧ NoAttr K C f ∧ fs.lookup f = some v ∧
  tv σ H1 fun y H2 => rd v y H2 fun z H3 => ∃ dx' fs', H3 a = some (.ins C dx' fs') ∧ fs'.length < 1000 ∧ D.nx σ (upd H3 a (.ins C dx' (putF f z fs')))

section
variable {X : Cx} {o e value : Expr} {f : Str} {pos pos' tpos : Pos} {ta tv : TE}
theorem pe_fld (he : PE X e ta) (hb : attributeBase e f X.env (eval e X.env) = eval e X.env) : PE X (.Attribute e f pos) (tFld X.K ta f) := by
  intro pins s σ H Q I h
  refine attr_of hb (thn (he pins s σ H _ I h) fun u s1 ⟨x, H1, I1, rx, a, C, dx, fs, v, ex, ea, c, n, l, q⟩ => ?_)
  subst ex
  obtain rfl : u = Value.ref a := rx
  exact getattr_ok I1 ea c n l fun u' s2 I2 ru => ⟨v, H1, I2, ru, q⟩
theorem pe_con (he : PE X e ta) (hb : attributeBase e f X.env (eval e X.env) = eval e X.env) : PE X (.Attribute e f pos) (tCon X.K ta f) := by
  intro pins s σ H Q I h
  refine attr_of hb (thn (he pins s σ H _ I h) fun u s1 ⟨x, H1, I1, rx, a, C, dx, fs, v, u0, ex, ea, c, k, l, q⟩ => ?_)
  subst ex
  obtain rfl : u = Value.ref a := rx
  exact getcon_ok I1 ea c k l fun s2 I2 => ⟨v, H1, I2, k.rel, q⟩
theorem ps_fld (ha : PE X o ta) (hv : PE X value tv) (hs : swapsWith value (some (.Attribute o f pos')) pos.line X.env = pure false) : PS X (.Assign [.Attribute o f pos'] value pos) (sFld X.K ta tv f) := by
  intro pins s σ H D I h
  refine plainObj_wpAny_Assign_Attribute (thn (hv pins s σ H _ I h) fun u s1 ⟨y, H1, I1, ry, q⟩ => thn (ha pins s1 σ H1 _ I1 q) fun ov s2 ⟨x, H2, I2, rx, a, C, dx, fs, ex, ea, c, n, l, q2⟩ => ?_) hs
  subst ex
  obtain rfl : ov = Value.ref a := rx
  exact setattr_ok I2 ea c n l ry fun s3 I3 => ⟨σ, _, I3, q2⟩
theorem ps_fldaug {op : Operator} {rd : V → V → Hp → VK → Prop} (ha : PE X o ta) (hv : PE X value tv) (hop : InOp X op rd) : PS X (.AugAssign (.Attribute o f tpos) op value pos) (sFldAug X.K ta tv rd f) := by
  intro pins s σ H D I h
  refine wpAny_AugAssign_AttributeAny (thn (ha pins s σ H _ I h) fun ov s1 ⟨x, H1, I1, rx, a, C, dx, fs, v, ex, ea, c, n, l, q⟩ => ?_)
  subst ex
  obtain rfl : ov = Value.ref a := rx
  refine getattr_ok I1 ea c n l fun u s2 I2 ru => thn (hv pins s2 σ H1 _ I2 q) fun w3 s3 ⟨y, H2, I3, ry, q3⟩ => thn (hop pins s3 σ H2 v y u w3 _ I3 ru ry q3) fun w4 s4 ⟨z, H3, I4, rz, dx', fs', ea', l', q4⟩ => ?_
  exact setattr_ok I4 ea' c n l' rz fun s5 I5 => ⟨σ, _, I5, q4⟩
def rAdd : V → V → Hp → VK → Prop := fun x y H Q => ∃ i j, x = .int i ∧ y = .int j ∧ Q (.int (i + j)) H
def rSub : V → V → Hp → VK → Prop := fun x y H Q => ∃ i j, x = .int i ∧ y = .int j ∧ Q (.int (i - j)) H
theorem in_add : InOp X .Add rAdd := by
  rintro pins s σ H x y u v Q I rx ry ⟨i, j, rfl, rfl, q⟩
  obtain ⟨t, rfl⟩ := (show ∃ t, u = Value.int i t from rx)
  obtain ⟨t', rfl⟩ := (show ∃ t', v = Value.int j t' from ry)
  exact PyProof.Rows.iadd_int ⟨.int (i + j), H, I.tok _, ⟨_, rfl⟩, q⟩
theorem in_sub : InOp X .Sub rSub := by
  rintro pins s σ H x y u v Q I rx ry ⟨i, j, rfl, rfl, q⟩
  obtain ⟨t, rfl⟩ := (show ∃ t, u = Value.int i t from rx)
  obtain ⟨t', rfl⟩ := (show ∃ t', v = Value.int j t' from ry)
  exact PyProof.Rows.isub_int ⟨.int (i - j), H, I.tok _, ⟨_, rfl⟩, q⟩

/-- what is between an instance and its method: the tree of a method call -/
theorem methcall_of {pl : Sem Bool} {m : Str} {apos : Pos} {args : List Expr} {pins : List (Addr × Obj)} {s : Shared} {σ : St} {H : Hp} {Q : Value → Shared → Prop} {te : TE} (he : PE X e te) (I : Inv X pins σ H s)
    (h : te σ H fun x H1 => ∃ a C dx fs g, x = .ref a ∧ H1 a = some (.ins C dx fs) ∧ Cls X.K C ∧ Meth X.K C m g ∧ fs.lookup m = none ∧
      ∀ s1, Inv X pins σ H1 s1 → wpAny (model X.prog X.w) X.A (callWith pos (.ref g) [.ref a] (backTo pos (starEach args X.env)) (backToKw pos (keywordEach [] X.env))) Q X.xe s1)
    (ht : eval (.Call (.Attribute e m apos) args [] pos) X.env = (do
      let ov ← eval e X.env
      standAt apos.atName
      let (f, first) ← holding [ov] (getMethod ov m pl)
      callWith pos f first (backTo pos (starEach args X.env)) (backToKw pos (keywordEach [] X.env)))) :
    wpAny (model X.prog X.w) X.A (eval (.Call (.Attribute e m apos) args [] pos) X.env) Q X.xe s := by
  refine PySem.W.methodCall_KW (pl := pl) (thn (he pins s σ H _ I h) fun u s1 ⟨x, H1, I1, rx, a, C, dx, fs, g, ex, ea, c, k, l, q⟩ => ?_) ht
  subst ex
  obtain rfl : u = Value.ref a := rx
  exact getmeth_ok I1 ea c k l (q s1 I1)
end

/-! ### isinstance -/
section
variable {X : Cx} {pins : List (Addr × Obj)} {σ : St} {H : Hp} {s : Shared} {A : Around} {E : Value → Shared → Prop} {Q : Value → Shared → Prop} {c : Value} {b : Bool}
/-- the type of a value, as the fragment's deciders take it; for an instance its class -/
inductive TyOf (K : PySem.W.Frag) (H : Hp) : V → Value → Prop where
  | non : TyOf K H .non (.type "NoneType")
  | bl (x : Bool) : TyOf K H (.bl x) (.type "bool")
  | int (i : Int) : TyOf K H (.int i) (.type "int")
  | str (x : Str) : TyOf K H (.str x) (.type "str")
  | flt (x : UInt64) : TyOf K H (.flt x) (.type "float")
  | lst {a : Addr} {xs : List V} (e : H a = some (.lst xs)) : TyOf K H (.ref a) (.type "list")
  | frz {a : Addr} {o : Obj} {xs : List V} (e : H a = some (.frz o (.lst xs))) : TyOf K H (.ref a) (.type "list")
  | tup {a : Addr} {xs : List V} (e : H a = some (.tup xs)) : TyOf K H (.ref a) (.type "tuple")
  | dK {a : Addr} {kvs : List (Key × V)} (e : H a = some (.dK kvs)) : TyOf K H (.ref a) (.type "dict")
  | dT {a : Addr} {kvs : List (List Key × V)} (e : H a = some (.dT kvs)) : TyOf K H (.ref a) (.type "dict")
  | ins {a C dx : Addr} {fs : List (Str × V)} (e : H a = some (.ins C dx fs)) (cl : Cls K C) (ha : PySem.W.findIn K (.ref C) "__class__" = some (some (.builtin "object.__class__")))
      (hn : PySem.W.specialIn K (.builtin "object.__class__") "__get__" = some (some (.builtin "getset_descriptor.__get__"))) (htk : PySem.W.takesIn K (.builtin "object.__class__") = some true)
      (hm : PySem.W.mroIn K C (.type "object") = some true) : TyOf K H (.ref a) (.ref C)
/-- isinstance(x, c) for one class c, a built-in or an own one: kitOne's answer -/
theorem isinst_ok {x : V} {u t : Value} (I : Inv X pins σ H s) (rx : RelV x u) (ty : TyOf X.K H x t) (e : PySem.W.kitOne X.K t c = some b) (h : ∀ tk, Q (.bool b) { s with toks := tk }) :
    wpAny (model X.prog X.w) A (call (.builtin "isinstance") [u, c]) Q E s := by
  cases ty with
  | non => cases (show u = Value.none from rx); exact PySem.W.kia_one PySem.W.kitx_none I.kIn True.intro e (fun z => nomatch z) h
  | bl y => cases (show u = Value.bool y from rx); exact PySem.W.kia_one PySem.W.kitx_bool I.kIn True.intro e (fun z => nomatch z) h
  | int i => obtain ⟨t, q⟩ := (show ∃ t, u = Value.int i t from rx); cases q; exact PySem.W.kia_one PySem.W.kitx_int I.kIn True.intro e (fun z => nomatch z) h
  | str y => obtain ⟨t, q⟩ := (show ∃ t, u = Value.str y t from rx); cases q; exact PySem.W.kia_one PySem.W.kitx_str I.kIn True.intro e (fun z => nomatch z) h
  | flt y => obtain ⟨t, q⟩ := (show ∃ t, u = Value.float y t from rx); cases q; exact PySem.W.kia_one PySem.W.kitx_float I.kIn True.intro e (fun z => nomatch z) h
  | @lst a xs ea =>
    cases (show u = Value.ref a from rx)
    obtain ⟨_, _, n, _, h1⟩ := (show ObjOk X.prog X.w H s.heap a (.lst xs) from I.hok a _ ea)
    exact PySem.W.kia_one PySem.W.kitx_list I.kIn ⟨_, h1, rfl⟩ e (fun z => nomatch z) h
  | @frz a ob xs ea =>
    cases (show u = Value.ref a from rx)
    obtain ⟨_, _, _, n, _, h1⟩ := (show ObjOk X.prog X.w H s.heap a (.frz ob (.lst xs)) from I.hok a _ ea)
    exact PySem.W.kia_one PySem.W.kitx_list I.kIn ⟨_, h1, rfl⟩ e (fun z => nomatch z) h
  | @tup a xs ea =>
    cases (show u = Value.ref a from rx)
    obtain ⟨_, _, _, p⟩ := (show ObjOk X.prog X.w H s.heap a (.tup xs) from I.hok a _ ea)
    obtain ⟨o, h1, h2, _⟩ := p
    exact PySem.W.kia_one PySem.W.kitx_tuple I.kIn ⟨o, h1, h2⟩ e (fun z => nomatch z) h
  | @dK a kvs ea =>
    cases (show u = Value.ref a from rx)
    obtain ⟨_, _, vs, _, p⟩ := (show ObjOk X.prog X.w H s.heap a (.dK kvs) from I.hok a _ ea)
    obtain ⟨o, es, ep, h1, h2, _⟩ := p
    exact PySem.W.kia_one PySem.W.kitx_dict I.kIn ⟨o, h1, h2.1⟩ e (fun z => nomatch z) h
  | @dT a kvs ea =>
    cases (show u = Value.ref a from rx)
    obtain ⟨_, _, xs, _, o, es, ep, h1, h2, _⟩ := (show ObjOk X.prog X.w H s.heap a (.dT kvs) from I.hok a _ ea)
    exact PySem.W.kia_one PySem.W.kitx_dict I.kIn ⟨o, h1, h2.1⟩ e (fun z => nomatch z) h
  | @ins a C dx fs ea cl ha hn htk hm =>
    cases (show u = Value.ref a from rx)
    obtain ⟨mA, O, _⟩ := ins_get I.hok ea
    obtain ⟨od, J, _⟩ := O.look
    exact PySem.W.kia_one (PySem.W.kitx_own (cl.get _) cl.hd ha hn htk hm) I.kIn J e (fun z => nomatch z) h
end
end L2

namespace L2
open PySem PySem.Spec PyProof.Rows

/-! ### room -/
structure Room (k : Nat) (A : Around) : Prop where
  hd : A.handled = none
  dp : A.depth + 3 * k + 5 < recursionLimit
  un : A.units + 16 * k + 200 < cLine
theorem Room.mono {j k : Nat} {A : Around} (r : Room k A) (h : j ≤ k) : Room j A := ⟨r.hd, by have := r.dp; omega, by have := r.un; omega⟩
theorem Room.deeper {k : Nat} {A : Around} (r : Room (k + 1) A) (env : Env) : Room k (A.deeper env) :=
  ⟨r.hd, by have := r.dp; show A.depth + 1 + 3 * k + 5 < _; omega, by have := r.un; show A.units + 3 + 16 * k + 200 < _; omega⟩
theorem Room.in1 {k : Nat} {A : Around} (r : Room (k + 1) A) : Room k A.in1 :=
  ⟨r.hd, by have := r.dp; show A.depth + 3 * k + 5 < _; omega, by have := r.un; show A.units + 1 + 16 * k + 200 < _; omega⟩
theorem make_depth {A : Around} {C : Addr} {us : List Value} {kw : List (Str × Value)} : (A.under (.builtin "type.__call__" ⟨.ref C :: us, kw⟩)).depth = A.depth + 1 := by
  first | rfl | simp [Around.under, Code.weight, Code.isCreation, Code.isGuard, Code.isCaller, Code.frames, Code.isFrame, guardIds]
theorem make_units {A : Around} {C : Addr} {us : List Value} {kw : List (Str × Value)} : (A.under (.builtin "type.__call__" ⟨.ref C :: us, kw⟩)).units = A.units + 1 := by
  first | rfl | simp [Around.under, Code.cUnits, Code.frames, Code.isFrame]
theorem Room.make {k : Nat} {A : Around} (r : Room (k + 1) A) (C : Addr) (us : List Value) (kw : List (Str × Value)) : Room k (A.under (.builtin "type.__call__" ⟨.ref C :: us, kw⟩)) :=
  ⟨r.hd, by have := r.dp; rw [make_depth]; omega, by have := r.un; rw [make_units]; omega⟩
theorem Room.depth {k : Nat} {A : Around} (r : Room k A) : A.depth < recursionLimit := by have := r.dp; omega
theorem Room.units {k : Nat} {A : Around} (r : Room k A) : A.units + 64 < cLine := by have := r.un; omega
theorem Room.units0 {k : Nat} {A : Around} (r : Room k A) : A.units < cLine := by have := r.un; omega

/-! ### argument lists and displays -/
def tNil : TA := fun _ H Q => Q [] H
def tCons (ta : TE) (tr : TA) : TA := fun σ H Q => ta σ H fun x H1 => tr σ H1 fun xs H2 => Q (x :: xs) H2
section
variable {X : Cx} {e : Expr} {es : List Expr} {te : TE} {t : TA} {pos : Pos}
theorem pa_nil : PA X [] tNil := fun _ _ _ _ H Q I h => Calls.spliced_nil ⟨[], H, I, .nil, h⟩
theorem pa_cons (ha : PE X e te) (hr : PA X es t) (hs : starEach (e :: es) X.env = (false, eval e X.env) :: starEach es X.env := by rfl) : PA X (e :: es) (tCons te t) := by
  intro pos pins s σ H Q I h
  rw [hs]
  show wpAny _ _ (spliced ((false, eval e X.env) :: backTo pos (starEach es X.env))) _ _ s
  refine Calls.spliced_cons (thn (ha pins s σ H _ I h) fun u s1 ⟨x, H1, I1, r1, q1⟩ => ?_)
  exact thn (hr pos pins s1 σ H1 _ I1 q1) fun us s2 ⟨xs, H2, I2, r2, q2⟩ => ⟨x :: xs, H2, I2, .cons r1 r2, q2⟩

/-- a tuple, a list of written items -/
def tTup (t : TA) : TE := fun σ H Q => t σ H fun xs H1 => xs.length ≤ sizeLine ∧ ∀ p, H1 p = none → Q (.ref p) (upd H1 p (.tup xs))
def tLst (t : TA) : TE := fun σ H Q => t σ H fun xs H1 => xs.length ≤ sizeLine ∧ ∀ p, H1 p = none → Q (.ref p) (upd H1 p (.lst xs))
theorem pe_tup {x1} (h : PA X es t) : PE X (.Tuple es x1 pos) (tTup t) := by
  intro pins s σ H Q I hq
  refine wpAny_Tuple_spliced (thn (h pos pins s σ H _ I hq) fun us s1 ⟨xs, H1, I1, r, z, q⟩ => ⟨by rw [← r.length]; exact z, ?_⟩)
  have hf : H1 s1.heap.objs.size = none := I1.hok.fresh (Nat.le_refl _)
  refine ⟨.ref s1.heap.objs.size, upd H1 s1.heap.objs.size (.tup xs), I1.laid (t' := s1.toks) (fun b u e => Heap.get?_push_of_some _ e) (Nat.le_refl _) ?_, rfl, q _ hf⟩
  exact ⟨z, us, r, ⟨_, Heap.get?_push_size _ rfl, rfl, _, rfl⟩⟩
theorem pe_lst (h : PA X es t) : PE X (.List es pos) (tLst t) := by
  intro pins s σ H Q I hq
  refine wpAny_List_spliced (thn (h pos pins s σ H _ I hq) fun us s1 ⟨xs, H1, I1, r, z, q⟩ => ⟨by rw [← r.length]; exact z, ?_⟩)
  have hf : H1 s1.heap.objs.size = none := I1.hok.fresh (Nat.le_refl _)
  refine ⟨.ref s1.heap.objs.size, upd H1 s1.heap.objs.size (.lst xs), I1.laid (t' := s1.toks) (fun b u e => Heap.get?_push_of_some _ e) (Nat.le_refl _) ?_, rfl, q _ hf⟩
  exact ⟨z, us, 0, r, Heap.get?_push_size _ rfl⟩
end

/-! ### what a def promises -/
/-- a def's promise: the bound arguments in the parameters' order, the heap, the wanted end, the wanted exception -/
abbrev Sp := List V → Hp → VK → XK → Prop
/-- how an exception lies behind a call (file 08 gives it): the callers' frames, abstract heap and state ahead of the call, the wish, the exception, the state -/
abbrev CXT := List Env → Hp → Shared → XK → Value → Shared → Prop

/-- the state at a call -/
structure Env0 (P : Program) (w : World) (K : PySem.W.Frag) (mg : Str → Option Value) (base : Heap) (A : Around) (outer : List Env) (s : Shared) (H : Hp) : Prop where
  frames : A.frames = some outer
  mod : Mod K mg base
  bs : ∀ b o, base.get? b = some o → s.heap.get? b = some o ∧ H b = none
  bsz : base.objs.size ≤ s.heap.objs.size
  funs : s.heap.FunFrames base outer
  frf : ∀ b ∈ frs outer, H b = none
  hok : HOk P w H s.heap
  bare : AllBare s.gens
/-- a call's end -/
def CE (outer : List Env) (P : Program) (w : World) (H : Hp) (s : Shared) (Q : VK) (u : Value) (s' : Shared) : Prop :=
  ∃ v H', s'.os = s.os ∧ GOk s.gens s'.gens ∧ Un (frs outer) [] H H' s.heap s'.heap ∧ HOk P w H' s'.heap ∧ RelV v u ∧ Q v H'
def CR (CX : CXT) (outer : List Env) (P : Program) (w : World) (H : Hp) (s : Shared) (Q : VK) (E : XK) (r : Result) (s' : Shared) : Prop :=
  match r with
  | .ok (.ret u) => CE outer P w H s Q u s'
  | .ok _ => False
  | .error e => CX outer H s E e s'
structure FnOk (P : Program) (w : World) (K : PySem.W.Frag) (mg : Str → Option Value) (base : Heap) (CX : CXT) (k : Nat) (f : Addr) (fd : FuncData) (ps : List Str) (sp : Sp) : Prop where
  len : ∀ vs H Q E, sp vs H Q E → vs.length = ps.length
  run : ∀ (A : Around) (outer : List Env) (s : Shared) (H : Hp) (args : Args) (us : List Value) (vs : List V) (Q : VK) (E : XK), Room k A → Env0 P w K mg base A outer s H → BindsTo s fd args (ps.zip us) → Vals vs us → sp vs H Q E →
    codeAny (model P w) A (.call (.ref f) args) (CR CX outer P w H s Q E) s
theorem FnOk.mono {P : Program} {w : World} {K : PySem.W.Frag} {mg : Str → Option Value} {base : Heap} {CX : CXT} {j k : Nat} {f : Addr} {fd : FuncData} {ps : List Str} {sp : Sp} (F : FnOk P w K mg base CX j f fd ps sp) (h : j ≤ k) :
    FnOk P w K mg base CX k f fd ps sp := ⟨F.len, fun A outer s H args us vs Q E hr => F.run A outer s H args us vs Q E (hr.mono h)⟩
/-- a weaker promise -/
theorem FnOk.imp {P : Program} {w : World} {K : PySem.W.Frag} {mg : Str → Option Value} {base : Heap} {CX : CXT} {k : Nat} {f : Addr} {fd : FuncData} {ps : List Str} {sp sp' : Sp} (F : FnOk P w K mg base CX k f fd ps sp)
    (h : ∀ vs H Q E, sp' vs H Q E → sp vs H Q E) : FnOk P w K mg base CX k f fd ps sp' :=
  ⟨fun vs H Q E q => F.len vs H Q E (h _ _ _ _ q), fun A outer s H args us vs Q E hr he hb hv hs => F.run A outer s H args us vs Q E hr he hb hv (h _ _ _ _ hs)⟩

theorem Env0.make {P : Program} {w : World} {K : PySem.W.Frag} {mg : Str → Option Value} {base : Heap} {A : Around} {outer : List Env} {s : Shared} {H : Hp} (e : Env0 P w K mg base A outer s H) (C : Addr) (us : List Value) (kw : List (Str × Value)) :
    Env0 P w K mg base (A.under (.builtin "type.__call__" ⟨.ref C :: us, kw⟩)) outer s H := ⟨by first | exact e.frames | (simpa [Around.under, Code.envs, Code.isFrame, pushEnvs] using e.frames), e.mod, e.bs, e.bsz, e.funs, e.frf, e.hok, e.bare⟩
theorem Env0.in1 {P : Program} {w : World} {K : PySem.W.Frag} {mg : Str → Option Value} {base : Heap} {A : Around} {outer : List Env} {s : Shared} {H : Hp} (e : Env0 P w K mg base A outer s H) :
    Env0 P w K mg base A.in1 outer s H := ⟨e.frames, e.mod, e.bs, e.bsz, e.funs, e.frf, e.hok, e.bare⟩

section
variable {X : Cx} {pins : List (Addr × Obj)} {σ : St} {H : Hp} {s s' : Shared}
/-- from a body: what a callee wants -/
theorem Inv.env0 (I : Inv X pins σ H s) : Env0 X.prog X.w X.K X.mg X.base X.A X.stack s H :=
  ⟨I.ok.frames, I.ok.mod, I.bs, Nat.le_trans I.ok.bsz I.sz, I.stack, I.stkFree, I.hok, I.bare.1⟩
/-- behind a call -/
theorem Inv.after {Q : VK} {u : Value} (I : Inv X pins σ H s) (h : CE X.stack X.prog X.w H s Q u s') : EP X pins σ Q u s' := by
  obtain ⟨v, H', os, bare, un, hok, r, q⟩ := h
  obtain ⟨hh, g, d, t, os'⟩ := s'
  obtain rfl : os' = s.os := os
  exact ⟨v, H', I.call (h' := hh) (g' := g) (d' := d) (t' := t) (ch := []) un hok bare (fun b z => absurd z (by simp)), r, q⟩
end

/-! ### calls -/
/-- f(..): the written arguments, then the defaults dvs; E: what is wanted of an exception -/
def tCall (sp : Sp) (dvs : List V) (E : XK) (t : TA) : TE := fun σ H Q => t σ H fun vs H1 => sp (vs ++ dvs) H1 Q E
/-- o.m(..) of an instance of the class at C -/
def tMeth (C : Addr) (m : Str) (sp : Sp) (dvs : List V) (E : XK) (ta : TE) (t : TA) : TE := fun σ H Q => ta σ H fun x H1 => ∃ a dx fs, x = .ref a ∧ H1 a = some (.ins C dx fs) ∧ fs.lookup m = none ∧
  t σ H1 fun vs H2 => sp (x :: (vs ++ dvs)) H2 Q E
/-- C(..): a new instance and its dict, then __init__ -/
def tMake (C : Addr) (sp : Sp) (dvs : List V) (E : XK) (t : TA) : TE := fun σ H Q => t σ H fun vs H1 => ∀ x dx, H1 x = none → H1 dx = none → dx ≠ x →
  sp (.ref x :: (vs ++ dvs)) (upd (upd H1 dx (.own x)) x (.ins C dx [])) (fun v H2 => v = .non ∧ Q (.ref x) H2) E

/-- how the parameters are bound: us the positional arguments, kw the keywords' values by name, ds the defaults that fill up -/
def Binds (K : PySem.W.Frag) (fd : FuncData) (ps : List Str) (ds : List Value) : Prop :=
  ∀ (s : Shared) (us : List Value), K.In s.heap → (us ++ ds).length = ps.length → BindsTo s fd ⟨us, []⟩ (ps.zip (us ++ ds))
/-- every parameter is given -/
theorem Binds.all {K : PySem.W.Frag} {fd : FuncData} {ps : List Str} (h : ∀ us : List Value, us.length = ps.length → bindArgs fd ⟨us, []⟩ = pure (ps.zip us)) : Binds K fd ps [] := fun s us _ hl => by
  rw [List.append_nil] at hl ⊢
  exact .of_eq (h us hl)

/-- an exception of a callee reaches what this body wants of exceptions -/
def Passes (CX : CXT) (X : Cx) (E : XK) : Prop := ∀ (pins : List (Addr × Obj)) (σ : St) (H : Hp) (s : Shared) (e : Value) (s' : Shared), Inv X pins σ H s → CX X.stack H s E e s' → X.xe e s'

section
variable {X : Cx} {CX : CXT} {k : Nat} {f C : Addr} {fd : FuncData} {ps : List Str} {sp : Sp} {dvs : List V} {ds : List Value} {E : XK} {x m : Str} {p pos apos : Pos} {e o : Expr} {es : List Expr} {ta : TE} {t : TA}

/-- the callee runs -/
theorem run_fn {pins : List (Addr × Obj)} {σ : St} {H : Hp} {s : Shared} {Q : VK} {us : List Value} {vs : List V} (F : FnOk X.prog X.w X.K X.mg X.base CX k f fd ps sp) (hr : Room k X.A) (hb : Binds X.K fd ps ds) (hd : Vals dvs ds) (hx : Passes CX X E)
    (I : Inv X pins σ H s) (r : Vals vs us) (h : sp (vs ++ dvs) H Q E) : wpAny (model X.prog X.w) X.A (call (.ref f) us) (EP X pins σ Q) X.xe s := by
  have r2 : Vals (vs ++ dvs) (us ++ ds) := r.append hd
  have hl : (us ++ ds).length = ps.length := by rw [← r2.length]; exact F.len _ _ _ _ h
  refine wpAny_call (codeAny_mono (F.run X.A X.stack s H ⟨us, []⟩ (us ++ ds) (vs ++ dvs) Q E hr I.env0 (hb s us I.kIn hl) r2 h) fun r s' hq => ?_)
  cases r with
  | error e => exact hx pins σ H s e s' I hq
  | ok fl =>
    cases fl with
    | ret u => exact I.after hq
    | next => exact False.elim hq
    | brk => exact False.elim hq
    | cont => exact False.elim hq

theorem pe_call (F : FnOk X.prog X.w X.K X.mg X.base CX k f fd ps sp) (hr : Room k X.A) (hg : Gl X x) (hm : X.mg x = some (.ref f)) (hk : PySem.W.keepIn X.K (.ref f) = true) (hb : Binds X.K fd ps ds) (hd : Vals dvs ds) (hx : Passes CX X E)
    (ha : PA X (e :: es) t) (hdb : (x == ("__debug__" : Str)) = false := by decide) (he : starEach (e :: es) X.env = (false, eval e X.env) :: starEach es X.env := by rfl) (hpl : (backTo pos (starEach es X.env)).any (·.1) = false := by rfl) :
    PE X (.Call (.Name x p) (e :: es) [] pos) (tCall sp dvs E t) := by
  intro pins s σ H Q I h
  refine wpAny_Call_Name_kw (ld_glob I hg hm ?_ hdb)
  refine PySem.W.callWith_K (h₀ := X.base) I.ok.mod.kin hk (thn (ha pos pins s σ H _ I h) fun us s1 ⟨vs, H1, I1, r, q⟩ => ⟨I1.kIn, ?_⟩) he hpl
  exact run_fn F hr hb hd hx I1 r q
theorem pe_call0 (F : FnOk X.prog X.w X.K X.mg X.base CX k f fd ps sp) (hr : Room k X.A) (hg : Gl X x) (hm : X.mg x = some (.ref f)) (hk : PySem.W.keepIn X.K (.ref f) = true) (hb : Binds X.K fd ps ds) (hd : Vals dvs ds) (hx : Passes CX X E)
    (hdb : (x == ("__debug__" : Str)) = false := by decide) : PE X (.Call (.Name x p) [] [] pos) (tCall sp dvs E tNil) := by
  intro pins s σ H Q I h
  refine wpAny_Call_Name_kw (ld_glob I hg hm ?_ hdb)
  exact PySem.W.callWith_K0 I.kIn hk (run_fn (us := []) F hr hb hd hx I .nil h)

/-- o.m(e, ..) -/
theorem pe_meth {pl : Sem Bool} (he : PE X o ta) (c : Cls X.K C) (hm : Meth X.K C m f) (F : FnOk X.prog X.w X.K X.mg X.base CX k f fd ps sp) (hr : Room k X.A) (hb : Binds X.K fd ps ds) (hd : Vals dvs ds) (hx : Passes CX X E) (ha : PA X (e :: es) t)
    (hst : starEach (e :: es) X.env = (false, eval e X.env) :: starEach es X.env := by rfl) (hpl : (backTo pos (starEach es X.env)).any (·.1) = false := by rfl)
    (ht : eval (.Call (.Attribute o m apos) (e :: es) [] pos) X.env = (do
      let ov ← eval o X.env
      standAt apos.atName
      let (f, first) ← holding [ov] (getMethod ov m pl)
      callWith pos f first (backTo pos (starEach (e :: es) X.env)) (backToKw pos (keywordEach [] X.env))) := by rfl) :
    PE X (.Call (.Attribute o m apos) (e :: es) [] pos) (tMeth C m sp dvs E ta t) := by
  intro pins s σ H Q I h
  refine PySem.W.methodCall_KW (pl := pl) (thn (he pins s σ H _ I h) fun u s1 ⟨x, H1, I1, rx, a, dx, fs, ex, ea, l, q⟩ => ?_) ht
  subst ex
  obtain rfl : u = Value.ref a := rx
  refine getmeth_ok I1 ea c hm l ?_
  refine PySem.W.callWith_K (first := [.ref a]) (h₀ := X.base) I.ok.mod.kin hm.kp (thn (ha pos pins s1 σ H1 _ I1 q) fun us s2 ⟨vs, H2, I2, r, q2⟩ => ⟨I2.kIn, ?_⟩) hst hpl
  exact run_fn (us := .ref a :: us) (vs := .ref a :: vs) F hr hb hd hx I2 (.cons rfl r) q2
/-- o.m() -/
theorem pe_meth0 {pl : Sem Bool} (he : PE X o ta) (c : Cls X.K C) (hm : Meth X.K C m f) (F : FnOk X.prog X.w X.K X.mg X.base CX k f fd ps sp) (hr : Room k X.A) (hb : Binds X.K fd ps ds) (hd : Vals dvs ds) (hx : Passes CX X E)
    (ht : eval (.Call (.Attribute o m apos) [] [] pos) X.env = (do
      let ov ← eval o X.env
      standAt apos.atName
      let (f, first) ← holding [ov] (getMethod ov m pl)
      callWith pos f first (backTo pos (starEach [] X.env)) (backToKw pos (keywordEach [] X.env))) := by rfl) :
    PE X (.Call (.Attribute o m apos) [] [] pos) (tMeth C m sp dvs E ta tNil) := by
  intro pins s σ H Q I h
  refine PySem.W.methodCall_KW (pl := pl) (thn (he pins s σ H _ I h) fun u s1 ⟨x, H1, I1, rx, a, dx, fs, ex, ea, l, q⟩ => ?_) ht
  subst ex
  obtain rfl : u = Value.ref a := rx
  refine getmeth_ok I1 ea c hm l ?_
  exact PySem.W.callWith_K0 (first := [.ref a]) I1.kIn hm.kp (run_fn (us := [.ref a]) (vs := [.ref a]) F hr hb hd hx I1 (.cons rfl .nil) q)

/-- what a class must have to be made -/
structure Mk (K : PySem.W.Frag) (C f : Addr) : Prop where
  makes : PySem.W.makesIn K C = true
  init : PySem.W.findIn K (.ref C) "__init__" = some (some (.ref f))
  fn : PySem.W.isFn K (.ref f) = true
  kp : PySem.W.keepIn K (.ref C) = true

theorem run_make {pins : List (Addr × Obj)} {σ : St} {H : Hp} {s : Shared} {Q : VK} {us : List Value} {vs : List V} (M : Mk X.K C f) (F : FnOk X.prog X.w X.K X.mg X.base CX k f fd ps sp) (hr : Room (k + 1) X.A) (hb : Binds X.K fd ps ds) (hd : Vals dvs ds)
    (hx : Passes CX X E) (I : Inv X pins σ H s) (r : Vals vs us)
    (h : ∀ x dx, H x = none → H dx = none → dx ≠ x → sp (.ref x :: (vs ++ dvs)) (upd (upd H dx (.own x)) x (.ins C dx [])) (fun v H2 => v = .non ∧ Q (.ref x) H2) E) :
    wpAny (model X.prog X.w) X.A (call (.ref C) us) (EP X pins σ Q) X.xe s := by
  have hq := h (s.heap.objs.size + 1) s.heap.objs.size (I.hok.fresh (Nat.le_succ _)) (I.hok.fresh (Nat.le_refl _)) (Nat.ne_of_lt (Nat.lt_succ_self _))
  have I2 := Inv.made (C := C) I
  have r2 : Vals (V.ref (s.heap.objs.size + 1) :: (vs ++ dvs)) (Value.ref (s.heap.objs.size + 1) :: (us ++ ds)) := .cons rfl (r.append hd)
  have hl : (Value.ref (s.heap.objs.size + 1) :: us ++ ds).length = ps.length := by
    have e := r2.length
    rw [F.len _ _ _ _ hq] at e
    exact e.symm
  refine wpAny_call (make_map (f := f) I.kIn M.makes M.init (beq_iff_eq.mp M.fn) (codeAny_mono (F.run _ X.stack _ _ ⟨Value.ref (s.heap.objs.size + 1) :: us, []⟩ (Value.ref (s.heap.objs.size + 1) :: (us ++ ds)) _ _ E (hr.make C us [])
    (I2.env0.make C us []) (hb _ (Value.ref (s.heap.objs.size + 1) :: us) I2.kIn hl) r2 hq) fun r s' hq' => ?_))
  cases r with
  | error e => exact hx pins σ _ _ e s' I2 hq'
  | ok fl =>
    cases fl with
    | ret u =>
      obtain ⟨v, H', I3, rv, ev, q3⟩ := I2.after hq'
      subst ev
      exact ⟨rv, ⟨V.ref (s.heap.objs.size + 1), H', I3, rfl, q3⟩⟩
    | next => exact False.elim hq'
    | brk => exact False.elim hq'
    | cont => exact False.elim hq'
theorem pe_make (M : Mk X.K C f) (F : FnOk X.prog X.w X.K X.mg X.base CX k f fd ps sp) (hr : Room (k + 1) X.A) (hg : Gl X x) (hm : X.mg x = some (.ref C)) (hb : Binds X.K fd ps ds) (hd : Vals dvs ds) (hx : Passes CX X E)
    (ha : PA X (e :: es) t) (hdb : (x == ("__debug__" : Str)) = false := by decide) (he : starEach (e :: es) X.env = (false, eval e X.env) :: starEach es X.env := by rfl) (hpl : (backTo pos (starEach es X.env)).any (·.1) = false := by rfl) :
    PE X (.Call (.Name x p) (e :: es) [] pos) (tMake C sp dvs E t) := by
  intro pins s σ H Q I h
  refine wpAny_Call_Name_kw (ld_glob I hg hm ?_ hdb)
  refine PySem.W.callWith_K (h₀ := X.base) I.ok.mod.kin M.kp (thn (ha pos pins s σ H _ I h) fun us s1 ⟨vs, H1, I1, r, q⟩ => ⟨I1.kIn, ?_⟩) he hpl
  exact run_make M F hr hb hd hx I1 r q
theorem pe_make0 (M : Mk X.K C f) (F : FnOk X.prog X.w X.K X.mg X.base CX k f fd ps sp) (hr : Room (k + 1) X.A) (hg : Gl X x) (hm : X.mg x = some (.ref C)) (hb : Binds X.K fd ps ds) (hd : Vals dvs ds) (hx : Passes CX X E)
    (hdb : (x == ("__debug__" : Str)) = false := by decide) : PE X (.Call (.Name x p) [] [] pos) (tMake C sp dvs E tNil) := by
  intro pins s σ H Q I h
  refine wpAny_Call_Name_kw (ld_glob I hg hm ?_ hdb)
  exact PySem.W.callWith_K0 I.kIn M.kp (run_make (us := []) M F hr hb hd hx I .nil h)
end

/-! ### keywords -/
/-- the values of the keywords, from the left -/
def PK (X : Cx) (kws : List Keyword) (t : TA) : Prop :=
  ∀ (pos : Pos) (pins : List (Addr × Obj)) (s : Shared) (σ : St) (H : Hp) (Q : List V → Hp → Prop), Inv X pins σ H s → t σ H Q → wpAny (model X.prog X.w) X.A (evalAll ((backToKw pos (keywordEach kws X.env)).map (·.2))) (AP X pins σ Q) X.xe s
section
variable {X : Cx} {CX : CXT} {k : Nat} {f C : Addr} {fd : FuncData} {ps ks : List Str} {sp : Sp} {E : XK} {x m : Str} {p pos apos kpos : Pos} {e o : Expr} {es : List Expr} {kws : List Keyword} {te ta : TE} {t tk : TA} {nm : Option Str}
theorem pk_nil : PK X [] tNil := fun _ _ _ _ H Q I h => wpAny_evalAll_nil ⟨[], H, I, .nil, h⟩
theorem pk_cons (ha : PE X e te) (hr : PK X kws t) : PK X (⟨nm, e, kpos⟩ :: kws) (tCons te t) := by
  intro pos pins s σ H Q I h
  show wpAny _ _ (evalAll ((do let v ← eval e X.env; standAt pos; pure v) :: (backToKw pos (keywordEach kws X.env)).map (·.2))) _ _ s
  refine wpAny_evalAll_cons (wpAny_bind (thn (ha pins s σ H _ I h) fun u s1 ⟨x, H1, I1, r1, q1⟩ => wpAny_bind (wpAny_standAt (wpAny_pure ?_))))
  exact thn (hr pos pins s1 σ H1 _ I1 q1) fun us s2 ⟨xs, H2, I2, r2, q2⟩ => ⟨x :: xs, H2, I2, .cons r1 r2, q2⟩

/-- how a call with keywords binds: g puts the positional values us and the keywords' values ws (names ks) in the parameters' order, defaults among them -/
structure KBinds (K : PySem.W.Frag) (fd : FuncData) (ps ks : List Str) (g : List Value → List Value → List Value) (gV : List V → List V → List V) : Prop where
  to : ∀ (s : Shared) (us ws : List Value), K.In s.heap → (g us ws).length = ps.length → BindsTo s fd ⟨us, ks.zip ws⟩ (ps.zip (g us ws))
  rel : ∀ {vs : List V} {us : List Value} {zs : List V} {ws : List Value}, Vals vs us → Vals zs ws → Vals (gV vs zs) (g us ws)
def tCallK (sp : Sp) (gV : List V → List V → List V) (E : XK) (t tk : TA) : TE := fun σ H Q => t σ H fun vs H1 => tk σ H1 fun zs H2 => sp (gV vs zs) H2 Q E
variable {g : List Value → List Value → List Value} {gV : List V → List V → List V}
theorem run_fnk {pins : List (Addr × Obj)} {σ : St} {H : Hp} {s : Shared} {Q : VK} {us ws : List Value} {vs zs : List V} (F : FnOk X.prog X.w X.K X.mg X.base CX k f fd ps sp) (hr : Room k X.A) (hb : KBinds X.K fd ps ks g gV) (hx : Passes CX X E)
    (I : Inv X pins σ H s) (r : Vals vs us) (rz : Vals zs ws) (h : sp (gV vs zs) H Q E) : wpAny (model X.prog X.w) X.A (call (.ref f) us (ks.zip ws)) (EP X pins σ Q) X.xe s := by
  have r2 := hb.rel r rz
  have hl : (g us ws).length = ps.length := by rw [← r2.length]; exact F.len _ _ _ _ h
  refine wpAny_call (codeAny_mono (F.run X.A X.stack s H ⟨us, ks.zip ws⟩ (g us ws) (gV vs zs) Q E hr I.env0 (hb.to s us ws I.kIn hl) r2 h) fun r s' hq => ?_)
  cases r with
  | error e => exact hx pins σ H s e s' I hq
  | ok fl =>
    cases fl with
    | ret u => exact I.after hq
    | next => exact False.elim hq
    | brk => exact False.elim hq
    | cont => exact False.elim hq
/-- f(e, .., k = v, ..) -/
theorem pe_callK (F : FnOk X.prog X.w X.K X.mg X.base CX k f fd ps sp) (hr : Room k X.A) (hg : Gl X x) (hm : X.mg x = some (.ref f)) (hk : PySem.W.keepIn X.K (.ref f) = true) (hb : KBinds X.K fd ps ks g gV) (hx : Passes CX X E)
    (ha : PA X (e :: es) t) (hkw : PK X kws tk) (hall : (backToKw pos (keywordEach kws X.env)).all (·.1.isSome) = true := by rfl) (hks : (backToKw pos (keywordEach kws X.env)).filterMap (·.1) = ks := by rfl)
    (hdb : (x == ("__debug__" : Str)) = false := by decide) (he : starEach (e :: es) X.env = (false, eval e X.env) :: starEach es X.env := by rfl)
    (hpl : ((backTo pos (starEach (e :: es) X.env)).any (·.1) || (backToKw pos (keywordEach kws X.env)).any (·.1.isNone)) = false := by rfl) :
    PE X (.Call (.Name x p) (e :: es) kws pos) (tCallK sp gV E t tk) := by
  intro pins s σ H Q I h
  refine wpAny_Call_Name_kw (ld_glob I hg hm ?_ hdb)
  refine PySem.W.callWith_KW (h₀ := X.base) I.ok.mod.kin hk hall (thn (ha pos pins s σ H _ I h) fun us s1 ⟨vs, H1, I1, r, q⟩ => ?_) hpl he
  refine thn (hkw pos pins s1 σ H1 _ I1 q) fun ws s2 ⟨zs, H2, I2, rz, q2⟩ => ⟨I2.kIn, ?_⟩
  rw [hks]
  exact run_fnk F hr hb hx I2 r rz q2
end

/-! ### a def's body keeps its promise -/
/-- names: the parameters first -/
structure FnScope (N P : List Str) (sc : Scope) : Prop where
  kind : sc.kind = .function
  co : sc.isCoroutine = false
  gen : sc.isGenerator = false
  nd : N.Nodup
  pre : N.take P.length = P
  par : ∀ x ∈ P, sc.names.lookup x = some .local ∨ sc.names.lookup x = some .cell
  nofree : ∀ y ∈ sc.names, y.2 ≠ .free

theorem bindL_out {kindOf : Str → Option NameKind} {x : Str} : ∀ {binds : List (Str × Value)} {m : Str → Option Value}, (∀ v, (x, v) ∉ binds) → bindL kindOf binds m x = m x
  | [], _, _ => rfl
  | (n, v) :: r, m, h => by
    unfold bindL
    rw [bindL_out fun w hw => h w (List.mem_cons_of_mem _ hw)]
    split
    · have : x ≠ n := by rintro rfl; exact h v List.mem_cons_self
      simp [this]
    · rfl
theorem bindC_out {kindOf : Str → Option NameKind} {x : Str} : ∀ {binds : List (Str × Value)} {m : Str → Option Value}, (∀ v, (x, v) ∉ binds) → bindC kindOf binds m x = m x
  | [], _, _ => rfl
  | (n, v) :: r, m, h => by
    unfold bindC
    rw [bindC_out fun w hw => h w (List.mem_cons_of_mem _ hw)]
    split
    · rfl
    · have : x ≠ n := by rintro rfl; exact h v List.mem_cons_self
      simp [this]
theorem bindL_get {kindOf : Str → Option NameKind} {x : Str} {v : Value} : ∀ {P : List Str} {vs : List Value} {i : Nat} {m : Str → Option Value}, P.Nodup → P[i]? = some x → vs[i]? = some v → kindOf x = some .local →
    bindL kindOf (P.zip vs) m x = some v
  | [], _, _, _, _, h, _, _ => by simp at h
  | _ :: _, [], _, _, _, _, h, _ => by simp at h
  | p :: P, w :: vs, 0, m, nd, h1, h2, hk => by
    simp at h1 h2; subst h1; subst h2
    show bindL kindOf ((p, w) :: P.zip vs) m p = _
    unfold bindL
    rw [bindL_out fun v hv => (List.nodup_cons.mp nd).1 (List.of_mem_zip hv).1, if_pos hk]
    simp
  | p :: P, w :: vs, i + 1, m, nd, h1, h2, hk => by
    show bindL kindOf ((p, w) :: P.zip vs) m x = _
    unfold bindL
    exact bindL_get (i := i) (List.nodup_cons.mp nd).2 (by simpa using h1) (by simpa using h2) hk
theorem bindC_get {kindOf : Str → Option NameKind} {x : Str} {v : Value} : ∀ {P : List Str} {vs : List Value} {i : Nat} {m : Str → Option Value}, P.Nodup → P[i]? = some x → vs[i]? = some v → kindOf x ≠ some .local →
    bindC kindOf (P.zip vs) m x = some v
  | [], _, _, _, _, h, _, _ => by simp at h
  | _ :: _, [], _, _, _, _, h, _ => by simp at h
  | p :: P, w :: vs, 0, m, nd, h1, h2, hk => by
    simp at h1 h2; subst h1; subst h2
    show bindC kindOf ((p, w) :: P.zip vs) m p = _
    unfold bindC
    rw [bindC_out fun v hv => (List.nodup_cons.mp nd).1 (List.of_mem_zip hv).1, if_neg hk]
    simp
  | p :: P, w :: vs, i + 1, m, nd, h1, h2, hk => by
    show bindC kindOf ((p, w) :: P.zip vs) m x = _
    unfold bindC
    exact bindC_get (i := i) (List.nodup_cons.mp nd).2 (by simpa using h1) (by simpa using h2) hk

/-- the names' values at the entry -/
def start (N : List Str) (vs : List V) : St := vs.map some ++ List.replicate (N.length - vs.length) none

/-- the context of a def's body, at its entry; an exception leaves the frame, then lies as CX says -/
def cxOf (CX : CXT) (P : Program) (w : World) (K : PySem.W.Frag) (mg : Str → Option Value) (base : Heap) (N : List Str) (qual : Str) (scope : Scope) (f : Addr) (cd : Value) (A : Around) (outer : List Env) (s : Shared) (H : Hp) (E : XK) : Cx where
  prog := P
  w := w
  K := K
  mg := mg
  base := base
  A := A.deeper (envOfC qual scope s.heap.objs.size f cd)
  N := N
  s₀ := s
  H₀ := H
  env := envOfC qual scope s.heap.objs.size f cd
  outer := outer
  stack := envOfC qual scope s.heap.objs.size f cd :: outer
  ex := []
  calm := true
  fn := fun _ => true
  pn := []
  xe := fun e s' => wpAny (model P w) (A.deeper (envOfC qual scope s.heap.objs.size f cd)) (leaving (envOfC qual scope s.heap.objs.size f cd) e) (fun _ s'' => CX outer H s E e s'') (fun e' s'' => CX outer H s E e' s'') s'

theorem cell_has {sc : Scope} {n : Nat} {x : Str} (h : sc.names.lookup x = some .cell) : ∃ c, (cellsFrom n sc.names []).lookup x = some c := by
  have q := PySem.W.cellsFrom_some sc.names n [] (.inl h)
  exact Option.isSome_iff_exists.mp q

theorem inv_start {CX : CXT} {P : Program} {w : World} {K : PySem.W.Frag} {mg : Str → Option Value} {base : Heap} {N ps : List Str} {qual : Str} {scope : Scope} {f : Addr} {cd : Value} {A : Around} {outer : List Env} {s s1 : Shared} {H : Hp} {E : XK} {us : List Value} {vs : List V}
    (S : FnScope N ps scope) (hd : A.handled = none) (e0 : Env0 P w K mg base A outer s H) (hl : vs.length = ps.length) (r : Vals vs us)
    (x : InCallC s s.heap.objs.size (bindL (envOfC qual scope s.heap.objs.size f cd).kindOf (ps.zip us) fun _ => none) (cellsFrom (s.heap.objs.size + 1) scope.names []) (bindC (envOfC qual scope s.heap.objs.size f cd).kindOf (ps.zip us) fun _ => none) s1) :
    Inv (cxOf CX P w K mg base N qual scope f cd A outer s H E) [] (start N vs) H s1 := by
  have hpl : ps.length ≤ N.length := by have := congrArg List.length S.pre; rw [List.length_take] at this; omega
  obtain ⟨h1, tk, rfl, hk⟩ := x.done
  have noA : ∀ b : Addr, b ∉ (cxOf CX P w K mg base N qual scope f cd A outer s H E).ex := fun b z => absurd (show b ∈ ([] : List Addr) from z) (by simp)
  refine ⟨⟨e0.mod, S.kind, rfl, rfl, Nat.le_refl _, fun y z c h1 h2 => ?_, fun y hy => ?_, fun y c _ h => ?_, fun _ => hd, Around.frames_deeper e0.frames, .inr ⟨rfl, rfl⟩, fun b z => absurd z (noA b), e0.bs, e0.bsz, fun b _ _ => noA b, fun b z => absurd z (noA b), e0.funs, e0.frf⟩,
    rfl, ⟨e0.bare, Nat.le_refl _⟩, Un.kept hk, ⟨_, x.toInCall.ns, fun i y v h1 h2 h3 => ?_⟩, fun y c h => ⟨_, x.cell y c h⟩, e0.hok.fresh (Nat.le_refl _), fun y c h => ?_, fun p hp => absurd (show p ∈ ([] : List (Addr × Obj)) from hp) (by simp), e0.hok.kept hk, ?_⟩
  · exact name_of_addr x.apart (PySem.mem_of_lookup h1) (PySem.mem_of_lookup h2)
  · have hy : scope.names.lookup y = some .cell ∨ scope.names.lookup y = some .free := hy
    rcases hy with hy | hy
    · exact cell_has hy
    · exact absurd rfl (S.nofree _ (PySem.mem_of_lookup hy))
  · exact Nat.le_of_lt (x.above y c (PySem.mem_of_lookup h))
  · have hi : i < vs.length := by
      unfold start at h2
      by_cases hi : i < vs.length
      · exact hi
      · rw [List.getElem?_append_right (by simpa using hi)] at h2
        rw [List.getElem?_replicate] at h2
        split at h2 <;> cases h2
    have ha : vs[i]? = some v := by
      unfold start at h2
      rw [List.getElem?_append_left (by simpa using hi), List.getElem?_map] at h2
      cases e : vs[i]? with
      | none => rw [e] at h2; cases h2
      | some a => rw [e] at h2; cases h2; rfl
    obtain ⟨u, hu, rv⟩ := r.get ha
    have hp : ps[i]? = some y := by
      rw [← S.pre, List.getElem?_take_of_lt (by omega)]; exact h1
    have ndP : ps.Nodup := by rw [← S.pre]; exact S.nd.sublist (List.take_sublist _ _)
    refine ⟨u, rv, ?_⟩
    rcases S.par y (List.mem_of_getElem? hp) with k | k
    · exact .inl ⟨k, bindL_get ndP hp hu k⟩
    · obtain ⟨c, e⟩ := cell_has (n := s.heap.objs.size + 1) k
      refine .inr ⟨.inl k, c, e, ?_⟩
      have q := x.cell y c e
      rw [bindC_get ndP hp hu (by show scope.names.lookup y ≠ _; rw [k]; decide)] at q
      exact q
  · exact e0.hok.fresh (Nat.le_of_lt (x.above y c (PySem.mem_of_lookup h)))
  · unfold start
    show _ = N.length
    rw [List.length_append, List.length_map, List.length_replicate]
    omega

/-- THE RULE: a def (or a method) of the text, by its body. The body's reading t is chosen for each entry; it is run at the parameters' values -/
theorem fn_of {CX : CXT} {P : Program} {w : World} {K : PySem.W.Frag} {mg : Str → Option Value} {base : Heap} {k : Nat} {f : Addr} {name qual : Str} {params : Arguments} {body : List Stmt} {scope : Scope} {dV kV doc pm cdv ct oc : Value} {an od : Option Addr}
    {osl : Array (Option Value)} {N ps : List Str} {sp : Sp} (lk : K.lookup f = some ⟨oc, od, .func (PySem.W.fnOf name qual params body scope dV kV doc pm an cdv ct), osl⟩) (hcd : PySem.W.codeIn K cdv qual = true) (S : FnScope N ps scope)
    (len : ∀ vs H Q E, sp vs H Q E → vs.length = ps.length)
    (hbody : ∀ (A : Around) (outer : List Env) (s : Shared) (H : Hp) (vs : List V) (Q : VK) (E : XK), Room k (A.deeper (envOfC qual scope s.heap.objs.size f cdv)) → sp vs H Q E →
      ∃ t, PSs (cxOf CX P w K mg base N qual scope f cdv A outer s H E) body t ∧ t { nx := fun _ H' => Q .non H', rt := Q } (start N vs) H) :
    FnOk P w K mg base CX (k + 1) f (PySem.W.fnOf name qual params body scope dV kV doc pm an cdv ct) ps sp := by
  refine ⟨len, fun A outer s H args us vs Q E hr e0 hb r hsp => ?_⟩
  have hl := len _ _ _ _ hsp
  have KX : K.In s.heap := e0.mod.kin.keeps fun b o e => (e0.bs b o e).1
  have lim : s.heap.NoLimit := e0.mod.nolimit.keeps fun b o e => (e0.bs b o e).1
  have hkind : ∀ y ∈ ps.zip us, scope.names.lookup y.1 = some .local ∨ (scope.names.lookup y.1 = some .cell ∧ ((cellsFrom (s.heap.objs.size + 1) scope.names []).lookup y.1).isSome = true) := fun ⟨n, v⟩ hy => by
    rcases S.par n (List.of_mem_zip hy).1 with q | q
    · exact .inl q
    · exact .inr ⟨q, PySem.W.cellsFrom_some _ _ _ (.inl q)⟩
  refine codeAny_call_function hr.depth (KX _ _ lk) rfl S.co S.gen rfl (PySem.W.codeRec_of KX hcd) (hb _ _ _ _ ?_)
  refine wpAny_newFunctionEnv_cells S.kind hkind fun env he s1 x => ?_
  subst he
  refine ⟨lim.keeps x.toInCall.keep, codeAny_func ?_⟩
  obtain ⟨t, ht, hq⟩ := hbody A outer s H vs Q E (hr.deeper _) hsp
  have I : Inv (cxOf CX P w K mg base N qual scope f cdv A outer s H E) [] (start N vs) H s1 := inv_start S hr.hd e0 hl r x
  refine wpAny_mono (ht [] s1 (start N vs) H _ I hq) (fun fl s' hs => ?_) fun e s' hs => hs
  have fin : ∀ {σ' : St} {H' : Hp} {v : V} {u : Value}, Inv (cxOf CX P w K mg base N qual scope f cdv A outer s H E) [] σ' H' s' → RelV v u → Q v H' → CE outer P w H s Q u s' :=
    fun {σ' H' v u} J rv q => ⟨v, H', J.os, J.bare, J.base, J.hok, rv, q⟩
  cases fl with
  | ret u =>
    obtain ⟨v, σ', H', J, rv, q⟩ := hs
    exact fin J rv q
  | next =>
    obtain ⟨σ', H', J, q⟩ := hs
    exact fin (v := V.non) (u := Value.none) J rfl q
  | brk =>
    obtain ⟨_, _, _, q⟩ := hs
    exact False.elim q
  | cont =>
    obtain ⟨_, _, _, q⟩ := hs
    exact False.elim q
end L2

namespace L2
open PySem PySem.Spec PyProof.Rows
section
variable {X : Cx} {x : Str} {p pos : Pos} {e : Expr} {es : List Expr} {t : TA} {id T : String} {r : List V → Hp → VK → Prop}

def tCB (r : List V → Hp → VK → Prop) (t : TA) : TE := fun σ H Q => t σ H fun vs H1 => r vs H1 Q
/-- f(e, ..), f a built-in function -/
theorem pe_callB (hc : CallR X (.builtin id) r) (hg : Gl X x) (hm : X.mg x = none) (hv : bootBuiltins x = some (.builtin id)) (ha : PA X (e :: es) t) (hn : x ≠ "__name__" := by decide) (hdb : (x == ("__debug__" : Str)) = false := by decide)
    (he : starEach (e :: es) X.env = (false, eval e X.env) :: starEach es X.env := by rfl) (hpl : (backTo pos (starEach es X.env)).any (·.1) = false := by rfl) : PE X (.Call (.Name x p) (e :: es) [] pos) (tCB r t) := by
  intro pins s σ H Q I h
  refine wpAny_Call_Name_kw (ld_blt I hg hm hv ?_ hn hdb)
  exact PyProof.Rows.callWith_builtin1 (thn (ha pos pins s σ H _ I h) fun us s1 ⟨vs, H1, I1, r1, q1⟩ => hc pins s1 σ H1 vs us Q I1 r1 q1) he hpl
/-- T(e, ..), T a built-in type -/
theorem pe_callTy (hc : CallR X (.type T) r) (hg : Gl X x) (hm : X.mg x = none) (hv : bootBuiltins x = some (.type T)) (ha : PA X (e :: es) t) (hn : x ≠ "__name__" := by decide) (hdb : (x == ("__debug__" : Str)) = false := by decide)
    (he : starEach (e :: es) X.env = (false, eval e X.env) :: starEach es X.env := by rfl) (hpl : (backTo pos (starEach es X.env)).any (·.1) = false := by rfl) : PE X (.Call (.Name x p) (e :: es) [] pos) (tCB r t) := by
  intro pins s σ H Q I h
  refine wpAny_Call_Name_kw (ld_blt I hg hm hv ?_ hn hdb)
  exact PyProof.Rows.callWith_type1 (thn (ha pos pins s σ H _ I h) fun us s1 ⟨vs, H1, I1, r1, q1⟩ => hc pins s1 σ H1 vs us Q I1 r1 q1) he hpl
/-- T() -/
theorem pe_callTy0 (hc : CallR X (.type T) r) (hg : Gl X x) (hm : X.mg x = none) (hv : bootBuiltins x = some (.type T)) (hn : x ≠ "__name__" := by decide) (hdb : (x == ("__debug__" : Str)) = false := by decide) :
    PE X (.Call (.Name x p) [] [] pos) (tCB r tNil) := by
  intro pins s σ H Q I h
  refine wpAny_Call_Name_kw (ld_blt I hg hm hv ?_ hn hdb)
  exact PyProof.Rows.callWith_type0 (hc pins s σ H [] [] Q I .nil h)
end
end L2

namespace HT
open PySem PyProof.Rows

/-- t < u of tuples of ints -/
def lexLt : List Int → List Int → Bool
  | [], [] => false
  | [], _ :: _ => true
  | _ :: _, [] => false
  | x :: xs, y :: ys => if x = y then lexLt xs ys else decide (x < y)
theorem lexLt_cons (x y : Int) (xs ys : List Int) : lexLt (x :: xs) (y :: ys) = if x = y then lexLt xs ys else decide (x < y) := rfl
theorem lexLt_nil_nil : lexLt [] [] = false := rfl
theorem lexLt_nil_cons (y : Int) (ys : List Int) : lexLt [] (y :: ys) = true := rfl
theorem lexLt_cons_nil (x : Int) (xs : List Int) : lexLt (x :: xs) [] = false := rfl

theorem eqAt_int (A : Around) (s : Shared) (a : Int) (t : Tok) (c : Int) (u : Tok) : ∃ e, SeqAt.EqAt A s (.int a t) (.int c u) e ∧ (e = true ↔ a = c) :=
  ⟨(a == c), SeqAt.EqAt.int_int a t c u, by simp⟩
theorem rcLt_int (A : Around) (s : Shared) (a : Int) (t : Tok) (c : Int) (u : Tok) (prog : Program) (w : World) (E : Value → Shared → Prop) (Q : Value → Shared → Prop) (h : Q (.bool (decide (a < c))) s) :
    wpAny (model prog w) A (richCompare .Lt (.int a t) (.int c u)) Q E s :=
  (PyProof.Rows.lt_int h : wpAny (model prog w) A (compareOp .Lt (.int a t) (.int c u)) Q E s)

section
open PySem.SeqAt
open PySem.AutoSeq1 (wpAny_loadPart')
open PySem.MeetsSeq PySem.MeetsSeq2 PySem.MeetsSeq3

theorem tuple_lt_ints (l b : Addr) (items items2 : Array Value) (n n2 : Nat) (dd dd2 : Option Addr) (sl sl2 : Array (Option Value)) (ns ms : List Int) (hi : IntsAre items.toList ns) (hj : IntsAre items2.toList ms) :
    Meets (Builtin.«tuple.__lt__» ⟨[.ref l, .ref b], []⟩)
      (fun _ R s => s.heap.get? l = some { cls := .type "tuple", dict := dd, data := .seq items n, slots := sl } ∧ s.heap.get? b = some { cls := .type "tuple", dict := dd2, data := .seq items2 n2, slots := sl2 } ∧
        R (.ok (.ret (.bool (lexLt ns ms)))) s) :=
  .of_wp fun prog w A R s h => by
    obtain ⟨hp, g, d, tk, os⟩ := s; obtain ⟨hl, hb, h⟩ := h
    have f2 := AutoSeq1.sub_tuple_tuple
    have z1 : items.size = ns.length := by rw [← hi.length]; simp
    have z2 : items2.size = ms.length := by rw [← hj.length]; simp
    wp_walk using wpAny_loadPart' hl, wpAny_loadPart' hb, wpAny_forIn_list _ (fun rest b s' => b.1 = none ∧ s' = ⟨hp, g, d, tk, os⟩ ∧ ∃ (vs ws : List Value) (ns' ms' : List Int), rest = vs.zip ws ∧
      IntsAre vs ns' ∧ IntsAre ws ms' ∧ ns'.length + items2.size = ms'.length + items.size ∧ R (.ok (.ret (.bool (lexLt ns' ms')))) ⟨hp, g, d, tk, os⟩) _
    case turn =>
      rintro ⟨y, x⟩ rest b s' ⟨hb', rfl, vs, ws, ns', ms', hz, hvi, hwi, hlen, hR⟩
      cases hvi with
      | nil => rw [List.zip_nil_left] at hz; cases hz
      | cons a t hvi' =>
        cases hwi with
        | nil => rw [List.zip_nil_right] at hz; cases hz
        | cons c u hwi' =>
          rw [List.zip_cons_cons] at hz
          injection hz with hyx hrest
          injection hyx with hy hx
          subst hy hx
          rw [lexLt_cons] at hR
          simp only [List.length_cons] at hlen
          obtain ⟨e, he, hiff⟩ := eqAt_int A.in1 ⟨hp, g, d, tk, os⟩ a t c u
          refine wpAny_bind (he prog w _ _ ?_)
          cases e with
          | true =>
            rw [if_pos (hiff.mp rfl)] at hR
            wp_walk
            exact ⟨rfl, rfl, _, _, _, _, hrest, hvi', hwi', by omega, hR⟩
          | false =>
            rw [if_neg (fun q => absurd (hiff.mpr q) Bool.false_ne_true)] at hR
            have hri := rcLt_int A.in1 ⟨hp, g, d, tk, os⟩ a t c u prog w
            wp_walk using hri
            exact ⟨_, rfl, by simpa using hR⟩
    case fin =>
      rintro ⟨b1, b2⟩ s' ⟨hb', rfl, vs, ws, ns', ms', hz, hvi, hwi, hlen, hR⟩
      simp only at hb'
      subst hb'
      have hv : lexLt ns' ms' = decide (items.size < items2.size) := by
        cases hvi with
        | nil =>
          cases hwi with
          | nil =>
            simp only [List.length_nil] at hlen
            rw [lexLt_nil_nil]
            exact (decide_eq_false (by omega)).symm
          | cons c u hw =>
            simp only [List.length_nil, List.length_cons] at hlen
            rw [lexLt_nil_cons]
            exact (decide_eq_true (by omega)).symm
        | cons a t hv =>
          cases hwi with
          | nil =>
            simp only [List.length_nil, List.length_cons] at hlen
            rw [lexLt_cons_nil]
            exact (decide_eq_false (by omega)).symm
          | cons c u hw =>
            rw [List.zip_cons_cons] at hz
            cases hz
      rw [hv] at hR
      wp_walk
      exact ⟨_, rfl, by simpa [Builtin.Tuple.tupleCompareSizes] using hR⟩
    case h =>
      exact ⟨rfl, rfl, items.toList, items2.toList, ns, ms, rfl, hi, hj, by omega, h⟩
end

section
variable {prog : Program} {w : World} {A : Around} {E : Value → Shared → Prop} {s : Shared}

theorem lt_tupInts {l b : Addr} {items items2 : Array Value} {ns ms : List Int} {Q : Value → Shared → Prop} (hl : IsTup s.heap l items) (hb : IsTup s.heap b items2) (hi : IntsAre items.toList ns) (hj : IntsAre items2.toList ms)
    (hu : A.units < cLine) (h : Q (.bool (lexLt ns ms)) s) : wpAny (model prog w) A (compareOp .Lt (.ref l) (.ref b)) Q E s := by
  obtain ⟨⟨cls, dd, data, sl⟩, ho, hc, n, hd⟩ := id hl
  obtain ⟨⟨cls2, dd2, data2, sl2⟩, ho2, hc2, n2, hd2⟩ := id hb
  simp only at hc hd hc2 hd2
  subst hc hd hc2 hd2
  exact richCompare_meets_room (op := .Lt) ⟨_, ho, rfl⟩ ⟨_, ho2, rfl⟩ PySem.F.slot_tuple_lt PySem.F.entry_tuple_lt (PySem.F.args_tuple_lt_2 _ _) (tuple_lt_ints l b items items2 n n2 dd dd2 sl sl2 ns ms hi hj)
    ⟨ho, ho2, show Value.bool (lexLt ns ms) ≠ Value.notImplemented ∧ Q (.bool (lexLt ns ms)) s from ⟨(fun x => nomatch x), h⟩⟩ hu

/-- t + u, t not empty -/
theorem cat_tup {t b : Addr} {vs ws : List Value} {Q : Value → Shared → Prop} (ht : IsTup s.heap t vs.toArray) (hb : IsTup s.heap b ws.toArray) (hv : vs ≠ [])
    (h1 : ws = [] → Q (.ref t) s) (h2 : ws ≠ [] → Q (.ref s.heap.objs.size) { s with heap := s.heap.push { cls := .type "tuple", data := .seq (vs ++ ws).toArray } })
    (hsz : vs.length + ws.length ≤ sizeLine) : wpAny (model prog w) A (binaryOp .Add (.ref t) (.ref b)) Q E s := by
  obtain ⟨⟨cls, dd, data, sl⟩, ho, hc, n, hd⟩ := id ht
  obtain ⟨⟨cls2, dd2, data2, sl2⟩, ho2, hc2, n2, hd2⟩ := id hb
  simp only at hc hd hc2 hd2
  subst hc hd hc2 hd2
  have e : vs.toArray ++ ws.toArray = (vs ++ ws).toArray := by simp
  by_cases hw : ws = []
  · exact concat_meets ⟨_, ho, rfl⟩ ⟨_, ho2, rfl⟩ noFill_tuple_add seq_tuple_add PySem.F.slot_tuple_add PySem.F.entry_tuple_add (PySem.F.args_tuple_add_2 _ _)
      (tuple_addW1 t b vs.toArray ws.toArray n n2 dd dd2 sl sl2 (by simpa using hv) (by simp [hw])) ⟨ho, ho2, h1 hw⟩
  · refine concat_meets ⟨_, ho, rfl⟩ ⟨_, ho2, rfl⟩ noFill_tuple_add seq_tuple_add PySem.F.slot_tuple_add PySem.F.entry_tuple_add (PySem.F.args_tuple_add_2 _ _)
      (tuple_addW2 t b vs.toArray ws.toArray n n2 dd dd2 sl sl2 (by simpa using hv) (by simpa using hw) (by rw [List.size_toArray, List.size_toArray]; exact hsz)) ⟨ho, ho2, ?_⟩
    rw [e]
    exact h2 hw

/-! ### t[a:b], not the whole -/
/-- a slice's bound as a place among n (d where it is left out) -/
def sIx (n d : Nat) : Option Int → Nat
  | none => d
  | some v => if v < 0 then (v + (n : Int)).toNat else min v.toNat n
theorem sIx_none (n d : Nat) : sIx n d none = d := rfl
theorem sIx_nat (n d k : Nat) : sIx n d (some (k : Int)) = min k n := by
  show (if (k : Int) < 0 then ((k : Int) + (n : Int)).toNat else min (k : Int).toNat n) = min k n
  rw [if_neg (by omega), Int.toNat_natCast]
theorem sIx_le (n d : Nat) (hd : d ≤ n) (o : Option Int) : sIx n d o ≤ n := by
  cases o with
  | none => exact hd
  | some v =>
    show (if v < 0 then (v + (n : Int)).toNat else min v.toNat n) ≤ n
    by_cases hv : v < 0
    · rw [if_pos hv]; omega
    · rw [if_neg hv]; exact Nat.min_le_right _ _
theorem clip_eq (v : Int) (n d : Nat) : (if v < 0 then max (v + (n : Int)) 0 else min v (n : Int)) = ((sIx n d (some v) : Nat) : Int) := by
  show (if v < 0 then max (v + (n : Int)) 0 else min v (n : Int)) = (((if v < 0 then (v + (n : Int)).toNat else min v.toNat n) : Nat) : Int)
  by_cases hv : v < 0
  · simp only [if_pos hv]; omega
  · simp only [if_neg hv]; omega
theorem adjust_gen (lo hi : Option Int) (n : Nat) : Builtin.Slice.sliceAdjust lo hi 1 (n : Int) = (((sIx n 0 lo : Nat) : Int), ((sIx n n hi : Nat) : Int)) := by
  have h1 : ¬ ((1 : Int) < 0) := by omega
  unfold Builtin.Slice.sliceAdjust
  simp only [h1, if_false]
  refine Prod.ext ?_ ?_
  · cases lo with
    | none => rfl
    | some v => exact clip_eq v n 0
  · cases hi with
    | none => rfl
    | some v => exact clip_eq v n n
theorem places_gen (i j : Nat) : Builtin.Slice.slicePlaces (i : Int) (j : Int) 1 = j - i := by
  unfold Builtin.Slice.slicePlaces
  have h1 : (1 : Int) > 0 := by omega
  simp only [h1, if_true, Int.ediv_one]
  split <;> omega
theorem slicePart_ {v : Value} {o : Option Int} {Q : Option Int → Shared → Prop} (p : IsPart v o) (h : Q o s) : wpAny (model prog w) A (Builtin.Slice.slicePartIndex v) Q E s := by
  cases p with
  | none => exact slicePart_none h
  | int i t => exact slicePart_int h
theorem sliceApplied_gen {sl : Addr} {vl vu : Value} {lo hi : Option Int} {n : Nat} {Q : Int × Int × Nat → Shared → Prop} (hs : s.heap.IsSliceOf sl vl vu .none) (pl : IsPart vl lo) (pu : IsPart vu hi)
    (h : Q (((sIx n 0 lo : Nat) : Int), 1, sIx n n hi - sIx n 0 lo) s) : wpAny (model prog w) A (Builtin.Slice.sliceApplied (.ref sl) (pure (n : Int))) Q E s := by
  obtain ⟨os, hos, hcs, hds⟩ := id hs
  unfold Builtin.Slice.sliceApplied Builtin.Slice.sliceFields
  refine wpAny_bind (wpAny_bind (wpAny_field hos hds (x := vl) rfl (wpAny_bind (wpAny_field hos hds (x := vu) rfl (wpAny_bind (wpAny_field hos hds (x := .none) rfl (wpAny_pure ?_)))))))
  refine wpAny_bind (slicePart_none ?_)
  show wpAny _ _ (if ((1 : Int) == 0) = true then _ else _) _ _ s
  rw [if_neg (by decide)]
  refine wpAny_bind (slicePart_ pl (wpAny_bind (slicePart_ pu (wpAny_bind (wpAny_pure ?_)))))
  show wpAny _ _ (match Builtin.Slice.sliceAdjust lo hi 1 (n : Int) with | (lo, hi) => pure (lo, (1 : Int), Builtin.Slice.slicePlaces lo hi 1)) _ _ s
  rw [adjust_gen lo hi n]
  show wpAny _ _ (pure (((sIx n 0 lo : Nat) : Int), (1 : Int), Builtin.Slice.slicePlaces ((sIx n 0 lo : Nat) : Int) ((sIx n n hi : Nat) : Int) 1)) _ _ s
  rw [places_gen]
  exact wpAny_pure h
theorem pick_gen (xs : Array Value) (i k : Nat) : ((List.range k).filterMap fun (m : Nat) => xs[((i : Int) + (m : Int) * 1).toNat]?).toArray = ((xs.toList.drop i).take k).toArray := by
  have e : (fun (m : Nat) => xs[((i : Int) + (m : Int) * 1).toNat]?) = fun m => xs[i + m]? := by
    funext m
    have : ((i : Int) + (m : Int) * 1).toNat = i + m := by omega
    rw [this]
  rw [e]
  have := pick_run xs i k
  rw [List.filterMap_map] at this
  have e2 : ((fun x => xs[x]?) ∘ fun x => i + x) = fun m => xs[i + m]? := rfl
  rw [e2] at this
  rw [this]

theorem getItem_tuple_cut {t sl : Addr} {items : Array Value} {vl vu : Value} {lo hi : Option Int} {Q : Value → Shared → Prop} (ht : IsTup s.heap t items) (hs : s.heap.IsSliceOf sl vl vu .none) (pl : IsPart vl lo) (pu : IsPart vu hi)
    (hw : ¬ (sIx items.size 0 lo = 0 ∧ sIx items.size items.size hi = items.size))
    (h : Q (.ref s.heap.objs.size) { s with heap := s.heap.push { cls := .type "tuple", data := .seq ((items.toList.drop (sIx items.size 0 lo)).take (sIx items.size items.size hi - sIx items.size 0 lo)).toArray } })
    (hsz : items.size ≤ sizeLine) : wpAny (model prog w) A (getItem (.ref t) (.ref sl)) Q E s := by
  have htake : sizeOk (.seq ((items.toList.drop (sIx items.size 0 lo)).take (sIx items.size items.size hi - sIx items.size 0 lo)).toArray) := by
    show ((items.toList.drop (sIx items.size 0 lo)).take (sIx items.size items.size hi - sIx items.size 0 lo)).toArray.size ≤ sizeLine
    rw [List.size_toArray, List.length_take, List.length_drop, Array.length_toList]
    omega
  have hj : sIx items.size items.size hi ≤ items.size := sIx_le _ _ (Nat.le_refl _) hi
  obtain ⟨os, hos, hcs, hds⟩ := id hs
  have hTs : s.TypeIs (.ref sl) "slice" := ⟨os, hos, hcs⟩
  unfold getItem
  try with_reducible refine wpAny_holding ?_
  first | refine wpAny_bind (wpAny_pure ?_) | skip
  refine wpAny_bind (wpAny_sequenceKey ht.typeIs (by decide) ?_)
  refine wpAny_bind (wpAny_callSpecial?_slot (name := Str.ofString "__getitem__") ht.typeIs PyProof.Rows.slot_tuple_getitem
    (wpAny_call_entry PyProof.Rows.slot_tuple_getitem ht.typeIs entry_tuple_getitem ?_ (args_tuple_getitem _ _)))
  show wpAny _ _ (Builtin.Tuple.tupleItemsOf (.ref t) >>= _) _ _ s
  refine wpAny_bind (tupleItemsOf_ ht ?_)
  refine wpAny_bind (wpAny_typeOf hTs ?_)
  rw [if_pos (by decide)]
  refine wpAny_bind (sliceApplied_gen hs pl pu ?_)
  have hno : ¬ ((((sIx items.size 0 lo : Nat) : Int) == 0 && (1 : Int) == 1 && (sIx items.size items.size hi - sIx items.size 0 lo) == items.size) = true) := by
    intro q
    rw [Bool.and_eq_true, Bool.and_eq_true] at q
    have q1 : ((sIx items.size 0 lo : Nat) : Int) = 0 := eq_of_beq q.1.1
    have q2 : sIx items.size items.size hi - sIx items.size 0 lo = items.size := eq_of_beq q.2
    exact hw ⟨by omega, by omega⟩
  show wpAny _ _ (if (((sIx items.size 0 lo : Nat) : Int) == 0 && (1 : Int) == 1 && (sIx items.size items.size hi - sIx items.size 0 lo) == items.size) = true then _ else _) _ _ s
  rw [if_neg hno, pick_gen]
  first
    | exact wpAny_bind (m := Builtin.Tuple.tupleExact _) (wpAny_newObj_type (wpAny_pure ⟨_, rfl, wpAny_pure h⟩) htake)
    | exact wpAny_bind (m := Builtin.Tuple.tupleExact _) (wpAny_newObj_type (wpAny_bind (wpAny_pure (wpAny_pure ⟨_, rfl, wpAny_pure h⟩))) htake)
    | exact wpAny_bind (wpAny_bind (m := Builtin.Tuple.tupleExact _) (wpAny_newObj_type (wpAny_pure (wpAny_pure ⟨_, rfl, wpAny_pure h⟩)) htake))
    | exact wpAny_bind (wpAny_bind (m := Builtin.Tuple.tupleExact _) (wpAny_newObj_type (wpAny_pure ⟨_, rfl, wpAny_pure h⟩) htake))
end
end HT

namespace L2
open PySem PySem.Spec PyProof.Rows

/-! ### the parts of a slice -/
abbrev TO := St → Hp → (Option Int → Hp → Prop) → Prop
/-- a slice's part (left out, or an int) -/
def PO (X : Cx) (e : Option Expr) (t : TO) : Prop :=
  ∀ (pins : List (Addr × Obj)) (s : Shared) (σ : St) (H : Hp) (Q : Option Int → Hp → Prop), Inv X pins σ H s → t σ H Q →
    wpAny (model X.prog X.w) X.A (evalPart e X.env) (fun u s' => ∃ o H', Inv X pins σ H' s' ∧ IsPart u o ∧ Q o H') X.xe s
def tNoPart : TO := fun _ H Q => Q none H
def tPart (t : TE) : TO := fun σ H Q => t σ H fun x H1 => ∃ i, x = .int i ∧ Q (some i) H1

theorem intsAre_of {ns : List Int} : ∀ {us : List Value}, Vals (ns.map V.int) us → IntsAre us ns := by
  induction ns with
  | nil => intro us r; rw [List.map_nil] at r; cases r; exact .nil
  | cons n ns ih =>
    intro us r
    rw [List.map_cons] at r
    cases r with
    | cons r1 r2 =>
      obtain ⟨t, e⟩ := r1
      subst e
      exact .cons n t (ih r2)

section
variable {X : Cx} {e : Expr} {te : TE} {lo hi : Option Expr} {tl th : TO} {pos p2 : Pos}

theorem po_none : PO X none tNoPart := by
  intro pins s σ H Q I h
  rw [evalPart_none]
  exact wpAny_pure ⟨none, H, I, .none, h⟩
theorem po_some (h : PE X e te) : PO X (some e) (tPart te) := by
  intro pins s σ H Q I hw
  rw [evalPart_some]
  refine thn (h pins s σ H _ I hw) fun u s1 ⟨x, H1, I1, r1, q1⟩ => ?_
  obtain ⟨i, rfl, q⟩ := q1
  obtain ⟨t, rfl⟩ := r1
  exact ⟨some i, H1, I1, .int i t, q⟩

/-- what a slice of a value is, by values: the slice object stands at sl -/
def SlR (X : Cx) (r : V → Option Int → Option Int → Hp → VK → Prop) : Prop :=
  ∀ (pins : List (Addr × Obj)) (s : Shared) (σ : St) (H : Hp) (x : V) (v vl vu : Value) (lo hi : Option Int) (sl : Addr) (Q : VK), Inv X pins σ H s → RelV x v → s.heap.IsSliceOf sl vl vu .none → IsPart vl lo → IsPart vu hi → r x lo hi H Q →
    ∃ T id, typeLookup (.type T) "__getitem__" = pure (some (.builtin id)) ∧ s.TypeIs v T ∧ wpAny (model X.prog X.w) X.A (getItem v (.ref sl)) (EP X pins σ Q) X.xe s
theorem SlR.or {r r' : V → Option Int → Option Int → Hp → VK → Prop} (h : SlR X r) (h' : SlR X r') : SlR X (fun x lo hi H Q => r x lo hi H Q ∨ r' x lo hi H Q) := by
  intro pins s σ H x v vl vu lo hi sl Q I rx hs pl pu q
  rcases q with q | q
  · exact h pins s σ H x v vl vu lo hi sl Q I rx hs pl pu q
  · exact h' pins s σ H x v vl vu lo hi sl Q I rx hs pl pu q
def tSl (r : V → Option Int → Option Int → Hp → VK → Prop) (te : TE) (tl th : TO) : TE := fun σ H Q => te σ H fun x H1 => tl σ H1 fun l H2 => th σ H2 fun u H3 => r x l u H3 Q
/-- a[lo:hi], any a -/
theorem pe_slice {r : V → Option Int → Option Int → Hp → VK → Prop} (hr : SlR X r) (he : PE X e te) (hl : PO X lo tl) (hu : PO X hi th) : PE X (.Subscript e (.Slice lo hi none p2) pos) (tSl r te tl th) := by
  intro pins s σ H Q I h
  refine Subscript_ (thn (he pins s σ H _ I h) fun v s1 ⟨x, H1, I1, r1, q1⟩ => ?_)
  refine wpAny_Slice (thn (hl pins s1 σ H1 _ I1 q1) fun vl s2 ⟨l, H2, I2, pl, q2⟩ => thn (hu pins s2 σ H2 _ I2 q2) fun vu s3 ⟨u, H3, I3, pu, q3⟩ => ?_)
  rw [evalPart_none]
  refine wpAny_pure ?_
  have I4 : Inv X pins σ H3 { s3 with heap := s3.heap.push { cls := .type "slice", data := .fields #[vl, vu, .none] } } := I3.kept (t' := s3.toks) fun b ob q => Heap.get?_push_of_some _ q
  obtain ⟨T, id, hT, ht, hg⟩ := hr pins { s3 with heap := s3.heap.push { cls := .type "slice", data := .fields #[vl, vu, .none] } } σ H3 x v vl vu l u s3.heap.objs.size Q I4 r1 (Heap.IsSliceOf.new ..) pl pu q3
  show wpAny (model X.prog X.w) X.A (subscriptTail e (.Slice lo hi none p2) v (.ref s3.heap.objs.size)) (EP X pins σ Q) X.xe { s3 with heap := s3.heap.push { cls := .type "slice", data := .fields #[vl, vu, .none] } }
  exact tail_any (ops := [.ref s3.heap.objs.size, v]) ht hT hg (by with_unfolding_all rfl)

/-- the items of xs[lo:hi] -/
def cutV (xs : List V) (lo hi : Option Int) : List V := (xs.drop (HT.sIx xs.length 0 lo)).take (HT.sIx xs.length xs.length hi - HT.sIx xs.length 0 lo)
theorem cutV_length (xs : List V) (lo hi : Option Int) : (cutV xs lo hi).length ≤ xs.length := by
  unfold cutV
  rw [List.length_take, List.length_drop]
  omega
/-- t[lo:hi], not the whole of it (the whole would be t itself) -/
def rSlT (K : PySem.W.Frag) : V → Option Int → Option Int → Hp → VK → Prop := fun x lo hi H Q => ∃ a xs, x = .ref a ∧ SqT K H a xs ∧
  ¬ (HT.sIx xs.length 0 lo = 0 ∧ HT.sIx xs.length xs.length hi = xs.length) ∧ ∀ p, H p = none → Q (.ref p) (upd H p (.tup (cutV xs lo hi)))
theorem sl_tup : SlR X (rSlT X.K) := by
  intro pins s σ H x v vl vu lo hi sl Q I rx hs pl pu h
  obtain ⟨a, xs, rfl, hx, hw, q⟩ := h
  cases rx
  obtain ⟨its, r, ht, hz⟩ := I.tuple hx
  have hlen : its.toArray.size = xs.length := by rw [List.size_toArray]; exact r.length.symm
  refine ⟨"tuple", _, PyProof.Rows.slot_tuple_getitem.lookup, ht.typeIs, ?_⟩
  refine HT.getItem_tuple_cut ht hs pl pu (by rw [hlen]; exact hw) ?_ (by rw [hlen]; exact hz)
  rw [hlen]
  refine ⟨.ref s.heap.objs.size, _, I.laid (t' := s.toks) (o := .tup (cutV xs lo hi)) (fun b ob q => Heap.get?_push_of_some _ q) (Nat.le_refl _) ?_, rfl, q _ (I.hok.fresh (Nat.le_refl _))⟩
  exact ⟨Nat.le_trans (cutV_length xs lo hi) hz, _, (r.drop (HT.sIx xs.length 0 lo)).take (HT.sIx xs.length xs.length hi - HT.sIx xs.length 0 lo), IsTup.new _ _⟩

/-! ### t < u, t + u -/
def rLtT (K : PySem.W.Frag) : R2 := fun x y H Q => ∃ a b ns ms, x = .ref a ∧ y = .ref b ∧ SqT K H a (ns.map V.int) ∧ SqT K H b (ms.map V.int) ∧ Q (.bl (HT.lexLt ns ms)) H
theorem op_ltT (hu : X.A.units < cLine) : OpR X (compareOp .Lt) (rLtT X.K) := by
  intro pins s σ H x y v u Q I rx ry h
  obtain ⟨a, b, ns, ms, rfl, rfl, ha, hb, q⟩ := h
  cases rx
  cases ry
  obtain ⟨its, r1, p1, _⟩ := I.tuple ha
  obtain ⟨its2, r2, p2, _⟩ := I.tuple hb
  have i1 : IntsAre its.toArray.toList ns := intsAre_of r1
  have i2 : IntsAre its2.toArray.toList ms := intsAre_of r2
  exact HT.lt_tupInts p1 p2 i1 i2 hu ⟨.bl (HT.lexLt ns ms), H, I, rfl, q⟩
/-- t + u, t not empty: u empty gives t itself -/
def rCatT (K : PySem.W.Frag) : R2 := fun x y H Q => ∃ a b xs ys, x = .ref a ∧ y = .ref b ∧ SqT K H a xs ∧ SqT K H b ys ∧ xs ≠ [] ∧ xs.length + ys.length ≤ sizeLine ∧
  (ys = [] → Q (.ref a) H) ∧ (ys ≠ [] → ∀ p, H p = none → Q (.ref p) (upd H p (.tup (xs ++ ys))))
theorem Vals.nil_iff {xs : List V} {us : List Value} (r : Vals xs us) : us = [] ↔ xs = [] := by
  cases r with
  | nil => simp
  | cons _ _ => simp
theorem op_catT : OpR X (binaryOp .Add) (rCatT X.K) := by
  intro pins s σ H x y v u Q I rx ry h
  obtain ⟨a, b, xs, ys, rfl, rfl, ha, hb, hx, hz, q1, q2⟩ := h
  cases rx
  cases ry
  obtain ⟨its, r1, p1, _⟩ := I.tuple ha
  obtain ⟨its2, r2, p2, _⟩ := I.tuple hb
  refine HT.cat_tup p1 p2 (fun z => hx (r1.nil_iff.mp z)) (fun z => ⟨.ref a, H, I, rfl, q1 (r2.nil_iff.mp z)⟩) (fun z => ?_) (by rw [← r1.length, ← r2.length]; exact hz)
  refine ⟨.ref s.heap.objs.size, _, I.laid (t' := s.toks) (o := .tup (xs ++ ys)) (fun b ob q => Heap.get?_push_of_some _ q) (Nat.le_refl _) ?_, rfl, q2 (fun w => z (r2.nil_iff.mpr w)) _ (I.hok.fresh (Nat.le_refl _))⟩
  exact ⟨by rw [List.length_append]; exact hz, _, r1.append r2, IsTup.new _ _⟩
/-- tuple(t) -/
theorem call_tupleT : CallR X (.type "tuple") (fun xs H Q => ∃ a ys, xs = [.ref a] ∧ SqT X.K H a ys ∧ Q (.ref a) H) := by
  intro pins s σ H xs us Q I r h
  obtain ⟨a, ys, rfl, ha, q⟩ := h
  obtain ⟨u, rfl, ru⟩ := vals1 r
  cases ru
  obtain ⟨its, _, p1, _⟩ := I.tuple ha
  exact call_tuple_same (items := its.toArray) p1 ⟨.ref a, H, I, rfl, q⟩
end
end L2

namespace L2
open PySem PySem.Spec PyProof.Rows

/-! ### places -/
/-- the place that an index of any sign means -/
def ixN (n : Nat) (i : Int) : Option Nat := if 0 ≤ i then (if i < n then some i.toNat else none) else if -(n : Int) ≤ i then some (i + n).toNat else none
def atI {α : Type} (xs : List α) (i : Int) : Option α := (ixN xs.length i).bind fun j => xs[j]?
theorem ixN_seq {n : Nat} {i : Int} {j : Nat} (h : ixN n i = some j) : seqIndex? i n = some j ∧ j < n ∧ -(n : Int) ≤ i ∧ i < n := by
  unfold ixN at h
  by_cases h0 : 0 ≤ i
  · rw [if_pos h0] at h
    by_cases h1 : i < n
    · rw [if_pos h1] at h
      have e : i.toNat = j := Option.some.inj h
      exact ⟨by rw [seqIndex_of h0 h1, e], by omega, by omega, h1⟩
    · rw [if_neg h1] at h; cases h
  · rw [if_neg h0] at h
    by_cases h1 : -(n : Int) ≤ i
    · rw [if_pos h1] at h
      have e : (i + n).toNat = j := Option.some.inj h
      exact ⟨by rw [seqIndex_neg (by omega) h1, e], by omega, h1, by omega⟩
    · rw [if_neg h1] at h; cases h
theorem atI_get {α : Type} {xs : List α} {i : Int} {v : α} (h : atI xs i = some v) : ∃ j, seqIndex? i xs.length = some j ∧ xs[j]? = some v ∧ j < xs.length ∧ -(xs.length : Int) ≤ i ∧ i < xs.length := by
  unfold atI at h
  cases e : ixN xs.length i with
  | none => rw [e] at h; cases h
  | some j =>
    rw [e] at h
    obtain ⟨h1, h2, h3, h4⟩ := ixN_seq e
    exact ⟨j, h1, h, h2, h3, h4⟩
theorem atI_nat {α : Type} {xs : List α} {j : Nat} {v : α} (h : xs[j]? = some v) : atI xs (j : Int) = some v := by
  have hj : j < xs.length := (List.getElem?_eq_some_iff.mp h).1
  have e : ixN xs.length (j : Int) = some j := by
    unfold ixN
    rw [if_pos (by omega), if_pos (by omega)]; simp
  unfold atI; rw [e]; exact h
theorem atI_last {α : Type} (xs : List α) (v : α) : atI (xs ++ [v]) (-1) = some v := by
  have hl : (xs ++ [v]).length = xs.length + 1 := by simp
  have e : ixN (xs ++ [v]).length (-1) = some xs.length := by
    unfold ixN
    rw [hl, if_neg (by decide), if_pos (by omega)]
    congr 1
    omega
  unfold atI
  rw [e]
  show (xs ++ [v])[xs.length]? = some v
  simp

/-! ### what may be subscripted -/
/-- what stands as an index of a plain subscript -/
def PlainIx (b : Expr) : Prop := ∀ o i, subscripted b false o i = operate [o, i] (getItem o i)
/-- a subscript by values -/
def IxR (X : Cx) (r : R2) : Prop :=
  ∀ (value slice : Expr) (pins : List (Addr × Obj)) (s : Shared) (σ : St) (H : Hp) (x y : V) (v u : Value) (Q : VK), Inv X pins σ H s → RelV x v → RelV y u → r x y H Q →
    subscripted slice false v u = operate [v, u] (getItem v u) → wpAny (model X.prog X.w) X.A (subscriptTail value slice v u) (EP X pins σ Q) X.xe s
/-- a call of a builtin's method by values: the receiver, the arguments -/
def MtR (X : Cx) (id : String) (r : V → List V → Hp → VK → Prop) : Prop :=
  ∀ (pins : List (Addr × Obj)) (s : Shared) (σ : St) (H : Hp) (x : V) (xs : List V) (v : Value) (us : List Value) (Q : VK), Inv X pins σ H s → RelV x v → Vals xs us → r x xs H Q →
    wpAny (model X.prog X.w) X.A (call (.builtin id) (v :: us)) (EP X pins σ Q) X.xe s
section
variable {X : Cx} {a b : Expr} {ta tb : TE} {pos : Pos}
theorem IxR.or {r r' : R2} (h : IxR X r) (h' : IxR X r') : IxR X (fun x y H Q => r x y H Q ∨ r' x y H Q) := by
  intro value slice pins s σ H x y v u Q I rx ry q hs
  rcases q with q | q
  · exact h value slice pins s σ H x y v u Q I rx ry q hs
  · exact h' value slice pins s σ H x y v u Q I rx ry q hs
theorem MtR.or {id : String} {r r' : V → List V → Hp → VK → Prop} (h : MtR X id r) (h' : MtR X id r') : MtR X id (fun x xs H Q => r x xs H Q ∨ r' x xs H Q) := by
  intro pins s σ H x xs v us Q I rx rs q
  rcases q with q | q
  · exact h pins s σ H x xs v us Q I rx rs q
  · exact h' pins s σ H x xs v us Q I rx rs q
/-- a[b] -/
theorem pe_ix {r : R2} (hr : IxR X r) (ha : PE X a ta) (hb : PE X b tb) (hs : PlainIx b) : PE X (.Subscript a b pos) (tOp r ta tb) := by
  intro pins s σ H Q I h
  exact Subscript_ (binT ha hb I h fun v u s2 x y H2 I2 rx ry q => hr a b pins s2 σ H2 x y v u Q I2 rx ry q (hs _ _))

def rIxL (K : PySem.W.Frag) : R2 := fun x y H Q => ∃ p xs i v, x = .ref p ∧ y = .int i ∧ SqL K H p xs ∧ atI xs i = some v ∧ Q v H
def rIxT (K : PySem.W.Frag) : R2 := fun x y H Q => ∃ p xs i v, x = .ref p ∧ y = .int i ∧ SqT K H p xs ∧ atI xs i = some v ∧ Q v H
def rIxS : R2 := fun x y H Q => ∃ z i c, x = .str z ∧ y = .int i ∧ z.length ≤ sizeLine ∧ atI z.cps.toList i = some c ∧ Q (.str ⟨#[c]⟩) H
theorem ix_list : IxR X (rIxL X.K) := by
  intro value slice pins s σ H x y v u Q I rx ry h hs
  obtain ⟨p, xs, i, z, rfl, rfl, hq, he, q⟩ := h
  cases rx
  obtain ⟨t, rfl⟩ := ry
  obtain ⟨its, r, pl, hz⟩ := I.list hq
  obtain ⟨j, h1, h2, h3, h4, h5⟩ := atI_get he
  obtain ⟨w, ew, rw'⟩ := r.get h2
  have hl := r.length
  have hn := line63
  have fin : EP X pins σ Q w s := ⟨z, H, I, rw', q⟩
  by_cases h0 : 0 ≤ i
  · have hj : i.toNat = j := by
      rw [seqIndex_of h0 h5] at h1
      exact Option.some.inj h1
    exact item_listR pl.isList h0 (by omega) (by rw [hj]; simpa using ew) fin hs
  · have hj : (i + (its.toArray.size : Int)).toNat = j := by
      rw [seqIndex_neg (by omega) h4] at h1
      rw [List.size_toArray, ← hl]
      exact Option.some.inj h1
    exact subscriptTail_builtinR (x := w) pl.isList.typeIs slot_list_getitem.lookup
      (wpAny_getItem_list_neg (Q := fun r s' => r = w ∧ EP X pins σ Q r s') pl.isList (by omega) (by rw [List.size_toArray] <;> omega) (by omega) (by rw [hj]; simpa using ew) ⟨rfl, fin⟩) hs
theorem ix_tup : IxR X (rIxT X.K) := by
  intro value slice pins s σ H x y v u Q I rx ry h hs
  obtain ⟨p, xs, i, z, rfl, rfl, hq, he, q⟩ := h
  cases rx
  obtain ⟨t, rfl⟩ := ry
  obtain ⟨its, r, pl, hz⟩ := I.tuple hq
  obtain ⟨j, h1, h2, h3, h4, h5⟩ := atI_get he
  obtain ⟨w, ew, rw'⟩ := r.get h2
  have hl := r.length
  have hn := line63
  have fin : EP X pins σ Q w s := ⟨z, H, I, rw', q⟩
  exact subscriptTail_builtinR (x := w) pl.typeIs slot_tuple_getitem.lookup
    (getItem_tuple (j := j) (Q := fun r s' => r = w ∧ EP X pins σ Q r s') pl (by omega) (by omega) (by rw [List.size_toArray, ← hl]; exact h1) (by simpa using ew) ⟨rfl, fin⟩) hs
theorem ix_str : IxR X rIxS := by
  intro value slice pins s σ H x y v u Q I rx ry h hs
  obtain ⟨z, i, c, rfl, rfl, hz, he, q⟩ := h
  obtain ⟨t, rfl⟩ := rx
  obtain ⟨t', rfl⟩ := ry
  obtain ⟨j, h1, h2, h3, h4, h5⟩ := atI_get he
  have hl : z.cps.toList.length = z.length := by simp [Str.length]
  rw [hl] at h1 h4 h5
  have hn := line63
  exact tail_any (typeIs_str s z t) slot_str_getitem.lookup (getItem_str (c := c) (by
    have e1 : decide (i < -(2 ^ 63 : Int)) = false := decide_eq_false (by omega)
    have e2 : decide (i ≥ 2 ^ 63) = false := decide_eq_false (by omega)
    rw [e1, e2, Bool.or_false]) (by rw [h1]; simpa using h2) ⟨.str ⟨#[c]⟩, H, I.tok _, ⟨_, rfl⟩, q⟩) hs
/-- list, tuple or str -/
def rIx (K : PySem.W.Frag) : R2 := fun x y H Q => rIxL K x y H Q ∨ rIxT K x y H Q ∨ rIxS x y H Q
theorem ix_seq : IxR X (rIx X.K) := ix_list.or (ix_tup.or ix_str)

/-! ### xs[i] = v, any sign -/
/-- the list's object behind a store -/
theorem mapSeq_set (its : List Value) (n j : Nat) (u : Value) : Obj.mapSeq (·.setIfInBounds j u) { cls := .type "list", data := .seq its.toArray n } = { cls := .type "list", data := .seq (its.set j u).toArray n } := by
  simp [Obj.mapSeq]
theorem Inv.lst {pins : List (Addr × Obj)} {σ : St} {H : Hp} {s : Shared} {p : Addr} {xs : List V} (I : Inv X pins σ H s) (h : H p = some (.lst xs)) :
    ∃ (its : List Value) (n : Nat), Vals xs its ∧ s.heap.get? p = some { cls := .type "list", data := .seq its.toArray n } ∧ xs.length ≤ sizeLine := by
  obtain ⟨z, its, n, r, e⟩ := I.hok p _ h
  exact ⟨its, n, r, e, z⟩
/-- the list at p is written by an update of its object -/
theorem Inv.lstUpd {pins : List (Addr × Obj)} {σ : St} {H : Hp} {s : Shared} {p : Addr} {xs ys : List V} {its its' : List Value} {n n' : Nat} {f : Obj → Obj} (I : Inv X pins σ H s) (h : H p = some (.lst xs))
    (ho : s.heap.get? p = some { cls := .type "list", data := .seq its.toArray n }) (hf : f { cls := .type "list", data := .seq its.toArray n } = { cls := .type "list", data := .seq its'.toArray n' }) (r : Vals ys its') (hz : ys.length ≤ sizeLine) (t : Nat) :
    Inv X pins σ (upd H p (.lst ys)) { s with heap := s.heap.update p f, toks := t } := by
  have e : (s.heap.update p f).get? p = some { cls := .type "list", data := .seq its'.toArray n' } := by
    rw [Heap.get?_update_self f ho (by rw [hf] <;> rfl), hf]
  refine I.write (x := p) (e := p) (by rw [h]; trivial) (.inl rfl) (fun b u hb q => (Heap.get?_update_other _ _ (Ne.symm hb)).trans q) ⟨_, e⟩ ?_
  exact ⟨hz, its', n', r, e⟩
def rSetL : V → V → V → Hp → (Hp → Prop) → Prop := fun o i v H Q => ∃ p xs k j, o = .ref p ∧ i = .int k ∧ H p = some (.lst xs) ∧ ixN xs.length k = some j ∧ Q (upd H p (.lst (xs.set j v)))
theorem set_list : PSet X rSetL := by
  intro pins s σ H o i v ov iv u Q I ro ri rv h
  obtain ⟨p, xs, k, j, rfl, rfl, hp, hj, q⟩ := h
  cases ro
  obtain ⟨t, rfl⟩ := ri
  obtain ⟨its, n, r, ho, hz⟩ := I.lst hp
  obtain ⟨h1, h2, h3, h4⟩ := ixN_seq hj
  have hl := r.length
  have hn := line63
  have I' : Inv X pins σ (upd H p (.lst (xs.set j v))) { s with heap := s.heap.update p (Obj.mapSeq (·.setIfInBounds j u)) } :=
    I.lstUpd hp ho (mapSeq_set its n j u) (r.set rv j) (by rw [List.length_set]; exact hz) s.toks
  by_cases h0 : 0 ≤ k
  · have hk : k.toNat = j := by
      rw [seqIndex_of h0 h4] at h1
      exact Option.some.inj h1
    exact PySem.W.ki_setAt ho h0 (by omega) (by rw [List.size_toArray, ← hl]; exact h4) (by rw [hk]; exact ⟨_, I', q⟩)
  · have hk : (k + (its.toArray.size : Int)).toNat = j := by
      rw [seqIndex_neg (by omega) h3] at h1
      rw [List.size_toArray, ← hl]
      exact Option.some.inj h1
    exact PySem.W.ki_setBack ho (by omega) (by rw [List.size_toArray, ← hl]; exact h3) (by omega) (by rw [hk]; exact ⟨_, I', q⟩)

/-! ### slices -/
theorem slice_bounds (lo hi : Option Int) (n : Nat) : (sliceBounds lo hi none n).1 = ((HT.sIx n 0 lo : Nat) : Int) ∧ (sliceBounds lo hi none n).2.1 = ((HT.sIx n n hi : Nat) : Int) ∧ (sliceBounds lo hi none n).2.2 = 1 := by
  refine ⟨?_, ?_, rfl⟩
  · cases lo with
    | none => simp [sliceBounds, HT.sIx]
    | some i =>
      simp only [sliceBounds, HT.sIx, Option.getD_none, show (1 : Int) > 0 by decide, if_true]
      by_cases h : i < 0
      · simp only [h, if_true] <;> omega
      · simp only [h, if_false] <;> omega
  · cases hi with
    | none => simp [sliceBounds, HT.sIx]
    | some i =>
      simp only [sliceBounds, HT.sIx, Option.getD_none, show (1 : Int) > 0 by decide, if_true]
      by_cases h : i < 0
      · simp only [h, if_true] <;> omega
      · simp only [h, if_false] <;> omega
theorem slicePick_cut (its : List Value) (lo hi : Option Int) : slicePick its.toArray lo hi none = ((its.drop (HT.sIx its.length 0 lo)).take (HT.sIx its.length its.length hi - HT.sIx its.length 0 lo)).toArray := by
  obtain ⟨h1, h2, h3⟩ := slice_bounds lo hi its.toArray.size
  unfold slicePick
  rw [h1, h2, h3]
  simp only [sliceRange_one, pick_run, List.size_toArray] <;> rfl
/-- xs[lo:hi] of a list: a new list -/
def rSlL (K : PySem.W.Frag) : V → Option Int → Option Int → Hp → VK → Prop := fun x lo hi H Q => ∃ a xs, x = .ref a ∧ SqL K H a xs ∧ ∀ p, H p = none → Q (.ref p) (upd H p (.lst (cutV xs lo hi)))
theorem sl_list : SlR X (rSlL X.K) := by
  intro pins s σ H x v vl vu lo hi sl Q I rx hs pl pu h
  obtain ⟨a, xs, rfl, hx, q⟩ := h
  cases rx
  obtain ⟨its, r, ht, hz⟩ := I.list hx
  have hlen := r.length
  refine ⟨"list", _, slot_list_getitem.lookup, ht.isList.typeIs, ?_⟩
  refine wpAny_getItem_list_slice ht.isList hs pl pu .none (by simp) ?_ (by rw [List.size_toArray] <;> omega)
  rw [slicePick_cut, ← hlen]
  refine ⟨.ref s.heap.objs.size, _, I.laid (t' := s.toks) (o := .lst (cutV xs lo hi)) (fun b ob q => Heap.get?_push_of_some _ q) (Nat.le_refl _) ?_, rfl, q _ (I.hok.fresh (Nat.le_refl _))⟩
  exact ⟨Nat.le_trans (cutV_length xs lo hi) hz, _, 0, (r.drop (HT.sIx xs.length 0 lo)).take (HT.sIx xs.length xs.length hi - HT.sIx xs.length 0 lo), Heap.get?_push_size _ rfl⟩

/-! ### in, not in: flat items -/
def flatV : V → Bool
  | .non => true
  | .bl _ => true
  | .int _ => true
  | .str _ => true
  | _ => false
/-- == of flat values -/
def eqV : V → V → Bool
  | .non, .non => true
  | .bl a, .bl b => a == b
  | .bl a, .int b => (if a then 1 else 0) == b
  | .int a, .bl b => a == (if b then 1 else 0)
  | .int a, .int b => a == b
  | .str a, .str b => a == b
  | _, _ => false
theorem eqAt_V {A : Around} {s : Shared} {y x : V} {u v : Value} (ry : RelV y u) (rx : RelV x v) (fy : flatV y = true) (fx : flatV x = true) : SeqAt.EqAt A s u v (eqV y x) := by
  cases y with
  | non =>
    cases ry
    cases x with
    | non => cases rx; exact SeqAt.EqAt.same _
    | bl b => cases rx; exact SeqAt.EqAt.none_bool b
    | int b => obtain ⟨t, rfl⟩ := rx; exact SeqAt.EqAt.none_int b t
    | str b => obtain ⟨t, rfl⟩ := rx; exact SeqAt.EqAt.none_str b t
    | _ => exact absurd (show false = true from fx) Bool.false_ne_true
  | bl a =>
    cases ry
    cases x with
    | non => cases rx; exact SeqAt.EqAt.bool_none a
    | bl b => cases rx; exact SeqAt.EqAt.bool_bool a b
    | int b => obtain ⟨t, rfl⟩ := rx; exact SeqAt.EqAt.bool_int a b t
    | str b => obtain ⟨t, rfl⟩ := rx; exact SeqAt.EqAt.bool_str a b t
    | _ => exact absurd (show false = true from fx) Bool.false_ne_true
  | int a =>
    obtain ⟨t', rfl⟩ := ry
    cases x with
    | non => cases rx; exact SeqAt.EqAt.int_none a t'
    | bl b => cases rx; exact SeqAt.EqAt.int_bool a t' b
    | int b => obtain ⟨t, rfl⟩ := rx; exact SeqAt.EqAt.int_int a t' b t
    | str b => obtain ⟨t, rfl⟩ := rx; exact SeqAt.EqAt.int_str a t' b t
    | _ => exact absurd (show false = true from fx) Bool.false_ne_true
  | str a =>
    obtain ⟨t', rfl⟩ := ry
    cases x with
    | non => cases rx; exact SeqAt.EqAt.str_none a t'
    | bl b => cases rx; exact SeqAt.EqAt.str_bool a t' b
    | int b => obtain ⟨t, rfl⟩ := rx; exact SeqAt.EqAt.str_int a t' b t
    | str b => obtain ⟨t, rfl⟩ := rx; exact SeqAt.EqAt.str_str a t' b t
    | _ => exact absurd (show false = true from fx) Bool.false_ne_true
  | _ => exact absurd (show false = true from fy) Bool.false_ne_true
/-- the items' answers, read off the values (a value's own answer does not lean on its token) -/
def eqU (x : V) (u : Value) : Bool := match u with
  | .none => eqV .non x
  | .bool b => eqV (.bl b) x
  | .int i _ => eqV (.int i) x
  | .str z _ => eqV (.str z) x
  | _ => false
theorem eqU_of {x y : V} {u : Value} (r : RelV y u) (f : flatV y = true) : eqU x u = eqV y x := by
  cases y with
  | non => cases r; rfl
  | bl b => cases r; rfl
  | int i => obtain ⟨t, rfl⟩ := r; rfl
  | str z => obtain ⟨t, rfl⟩ := r; rfl
  | _ => exact absurd (show false = true from f) Bool.false_ne_true
theorem any_eqU {x : V} : ∀ {xs : List V} {us : List Value}, Vals xs us → xs.all flatV = true → us.any (eqU x) = xs.any fun y => eqV y x
  | _, _, .nil, _ => rfl
  | y :: xs, u :: us, .cons r t, f => by
    rw [List.all_cons, Bool.and_eq_true] at f
    rw [List.any_cons, List.any_cons, eqU_of r f.1, any_eqU t f.2]
theorem mem_eqAt {A : Around} {s : Shared} {x : V} {v : Value} (rx : RelV x v) (fx : flatV x = true) : ∀ {xs : List V} {us : List Value}, Vals xs us → xs.all flatV = true → ∀ u ∈ us, SeqAt.EqAt A s u v (eqU x u)
  | _, _, .nil, _ => fun u hu => by cases hu
  | y :: xs, u :: us, .cons r t, f => fun u' hu => by
    rw [List.all_cons, Bool.and_eq_true] at f
    rcases List.mem_cons.mp hu with rfl | hu
    · rw [eqU_of r f.1]; exact eqAt_V r rx f.1 fx
    · exact mem_eqAt rx fx t f.2 u' hu
def inV (x : V) (xs : List V) : Bool := xs.any fun y => eqV y x
/-- x in a list or tuple of flat items -/
def rIn (K : PySem.W.Frag) (neg : Bool) : R2 := fun x y H Q => ∃ p xs, y = .ref p ∧ (SqL K H p xs ∨ SqT K H p xs) ∧ flatV x = true ∧ xs.all flatV = true ∧ Q (.bl (if neg then !inV x xs else inV x xs)) H
theorem op_in_seq : OpR X (compareOp .In) (rIn X.K false) := by
  intro pins s σ H x y v u Q I rx ry h
  obtain ⟨p, xs, rfl, hq, fx, fs, q⟩ := h
  cases ry
  rcases hq with hq | hq
  · obtain ⟨its, r, pl, hz⟩ := I.list hq
    refine SeqAt.in_listAt (eqU x) pl.isList (fun w hw => mem_eqAt rx fx r fs w (by simpa using hw)) ⟨.bl _, H, I, rfl, ?_⟩
    rw [show its.toArray.any (eqU x) = its.any (eqU x) by simp, any_eqU r fs]
    exact q
  · obtain ⟨its, r, pl, hz⟩ := I.tuple hq
    refine SeqAt.in_tupleAt (eqU x) pl (fun w hw => mem_eqAt rx fx r fs w (by simpa using hw)) ⟨.bl _, H, I, rfl, ?_⟩
    rw [show its.toArray.any (eqU x) = its.any (eqU x) by simp, any_eqU r fs]
    exact q
theorem op_notIn_seq : OpR X (compareOp .NotIn) (rIn X.K true) := by
  intro pins s σ H x y v u Q I rx ry h
  obtain ⟨p, xs, rfl, hq, fx, fs, q⟩ := h
  cases ry
  rcases hq with hq | hq
  · obtain ⟨its, r, pl, hz⟩ := I.list hq
    refine SeqAt.notIn_listAt (eqU x) pl.isList (fun w hw => mem_eqAt rx fx r fs w (by simpa using hw)) ⟨.bl _, H, I, rfl, ?_⟩
    rw [show its.toArray.any (eqU x) = its.any (eqU x) by simp, any_eqU r fs]
    exact q
  · obtain ⟨its, r, pl, hz⟩ := I.tuple hq
    refine SeqAt.notIn_tupleAt (eqU x) pl (fun w hw => mem_eqAt rx fx r fs w (by simpa using hw)) ⟨.bl _, H, I, rfl, ?_⟩
    rw [show its.toArray.any (eqU x) = its.any (eqU x) by simp, any_eqU r fs]
    exact q
theorem op_notIn_str : OpR X (compareOp .NotIn) (fun x y H Q => ∃ i j, x = .str i ∧ y = .str j ∧ Q (.bl (!(!(Builtin.Str.occurrences j i 0 j.length 1).isEmpty))) H) := by
  intro pins s σ H x y v u Q I rx ry h
  obtain ⟨i, j, rfl, rfl, q⟩ := h
  obtain ⟨t, rfl⟩ := rx
  obtain ⟨t', rfl⟩ := ry
  exact notIn_str ⟨.bl _, H, I, rfl, q⟩

/-! ### len, list(x), tuple(x) of any list or tuple that is read -/
theorem call_len_seq : CallR X (.builtin "len") (fun xs H Q => ∃ p ys, xs = [.ref p] ∧ (SqL X.K H p ys ∨ SqT X.K H p ys) ∧ Q (.int ys.length) H) := by
  intro pins s σ H xs us Q I r h
  obtain ⟨p, ys, rfl, hq, q⟩ := h
  obtain ⟨u, rfl, rx⟩ := vals1 r
  cases rx
  have hn := line63
  rcases hq with hq | hq
  · obtain ⟨its, r', pl, hz⟩ := I.list hq
    have hlen := r'.length
    exact Calls.call_len_list pl.isList (by simp only [List.size_toArray] <;> omega) ⟨.int ys.length, H, I.tok _, ⟨s.toks + 1, by rw [List.size_toArray, hlen]⟩, q⟩
  · obtain ⟨its, r', pl, hz⟩ := I.tuple hq
    have hlen := r'.length
    exact len_tuple pl (by simp only [List.size_toArray] <;> omega) ⟨.int ys.length, H, I.tok _, ⟨s.toks + 1, by rw [List.size_toArray, hlen]⟩, q⟩
theorem call_len_str : CallR X (.builtin "len") (fun xs H Q => ∃ z, xs = [.str z] ∧ z.length ≤ sizeLine ∧ Q (.int z.length) H) := by
  intro pins s σ H xs us Q I r h
  obtain ⟨z, rfl, hz, q⟩ := h
  obtain ⟨u, rfl, t, rfl⟩ := vals1 r
  have hn := line63
  exact len_str (by omega) ⟨.int z.length, H, I.tok _, ⟨_, rfl⟩, q⟩
theorem CallR.or {f : Value} {r r' : List V → Hp → VK → Prop} (h : CallR X f r) (h' : CallR X f r') : CallR X f (fun xs H Q => r xs H Q ∨ r' xs H Q) := by
  intro pins s σ H xs us Q I rs q
  rcases q with q | q
  · exact h pins s σ H xs us Q I rs q
  · exact h' pins s σ H xs us Q I rs q
theorem call_list_of : CallR X (.type "list") (fun xs H Q => ∃ p ys, xs = [.ref p] ∧ (SqL X.K H p ys ∨ SqT X.K H p ys) ∧ ∀ l, H l = none → Q (.ref l) (upd H l (.lst ys))) := by
  intro pins s σ H xs us Q I r h
  obtain ⟨p, ys, rfl, hq, q⟩ := h
  obtain ⟨u, rfl, rx⟩ := vals1 r
  cases rx
  have fin : ∀ (its : List Value), Vals ys its → ys.length ≤ sizeLine → ∀ (h' : Heap) (c' : Nat), (∀ b o', s.heap.get? b = some o' → h'.get? b = some o') →
      h'.get? s.heap.objs.size = some { cls := .type "list", dict := none, data := .seq its.toArray c', slots := #[] } → EP X pins σ Q (.ref s.heap.objs.size) { s with heap := h' } := fun its r' hz h' c' kp e =>
    ⟨.ref s.heap.objs.size, _, I.laid (t' := s.toks) kp (Nat.le_refl _) (show ObjOk X.prog X.w _ h' _ (.lst ys) from ⟨hz, its, c', r', e⟩), rfl, q _ (I.hok.fresh (Nat.le_refl _))⟩
  rcases hq with hq | hq
  · obtain ⟨its, r', pl, hz⟩ := I.list hq
    have hlen := r'.length
    obtain ⟨o, ho, hc, n, hd⟩ := pl.isList
    exact call_list_seq p (.inl rfl) ho hc hd (fun h' c' kp e => fin its r' hz h' c' kp e) (by simp only [List.size_toArray] <;> omega)
  · obtain ⟨its, r', pl, hz⟩ := I.tuple hq
    have hlen := r'.length
    obtain ⟨o, ho, hc, n, hd⟩ := pl
    exact call_list_seq p (.inr rfl) ho hc hd (fun h' c' kp e => fin its r' hz h' c' kp e) (by simp only [List.size_toArray] <;> omega)
theorem call_tuple_of : CallR X (.type "tuple") (fun xs H Q => ∃ p ys, xs = [.ref p] ∧ ((SqL X.K H p ys ∧ ∀ l, H l = none → Q (.ref l) (upd H l (.tup ys))) ∨ (SqT X.K H p ys ∧ Q (.ref p) H))) := by
  intro pins s σ H xs us Q I r h
  obtain ⟨p, ys, rfl, h⟩ := h
  obtain ⟨u, rfl, rx⟩ := vals1 r
  cases rx
  rcases h with ⟨hq, q⟩ | ⟨hq, q⟩
  · obtain ⟨its, r', pl, hz⟩ := I.list hq
    have hlen := r'.length
    refine call_tuple_list pl.isList (fun h' kp => ?_) (by simp only [List.size_toArray] <;> omega)
    have I1 : Inv X pins σ H { s with heap := h' } := I.kept (t' := s.toks) kp
    have I2 : Inv X pins σ (upd H h'.objs.size (.tup ys)) { s with heap := h'.push { cls := .type "tuple", data := .seq its.toArray } } :=
      I1.laid (t' := s.toks) (fun b o e => Heap.get?_push_of_some _ e) (Nat.le_refl _) (show ObjOk X.prog X.w _ _ _ (.tup ys) from ⟨hz, its, r', IsTup.new _ _⟩)
    exact ⟨.ref h'.objs.size, _, I2, rfl, q _ (I1.hok.fresh (Nat.le_refl _))⟩
  · obtain ⟨its, r', pl, hz⟩ := I.tuple hq
    exact call_tuple_same pl ⟨.ref p, H, I, rfl, q⟩

/-! ### the call of a builtin's method: o.m(..) -/
/-- the value is of that builtin type -/
def tyV (K : PySem.W.Frag) (T : String) (x : V) (H : Hp) : Prop := match x with
  | .str _ => T = "str"
  | .int _ => T = "int"
  | .ref p => (T = "list" ∧ ∃ xs, SqL K H p xs) ∨ (T = "tuple" ∧ ∃ o, K.lookup p = some o ∧ o.cls = .type "tuple" ∧ o.dict = none) ∨
      (T = "dict" ∧ ((∃ kvs, H p = some (.dK kvs)) ∨ ∃ kvs, H p = some (.dT kvs))) ∨ (T = "set" ∧ ∃ S n, H p = some (.set S n))
  | _ => False
theorem tyV_is {pins : List (Addr × Obj)} {σ : St} {H : Hp} {s : Shared} {T : String} {x : V} {v : Value} (I : Inv X pins σ H s) (r : RelV x v) (ty : tyV X.K T x H) :
    s.TypeIs v T ∧ ∀ a, v = .ref a → ∃ ob, s.heap.get? a = some ob ∧ ob.dict = none := by
  cases x with
  | str z =>
    obtain ⟨t, rfl⟩ := r
    cases (show T = "str" from ty)
    exact ⟨typeIs_str s z t, fun _ e => nomatch e⟩
  | int i =>
    obtain ⟨t, rfl⟩ := r
    cases (show T = "int" from ty)
    exact ⟨typeIs_int s i t, fun _ e => nomatch e⟩
  | ref p =>
    cases r
    rcases ty with ⟨rfl, xs, hq⟩ | ⟨rfl, o, hk, hc, hd⟩ | ⟨rfl, hk⟩ | ⟨rfl, S, n, hk⟩
    · obtain ⟨its, _, pl, _⟩ := I.list hq
      refine ⟨pl.isList.typeIs, fun a e => ?_⟩
      cases e
      obtain ⟨o, n, e, c, hd, _⟩ := pl
      exact ⟨o, e, hd⟩
    · refine ⟨⟨o, I.kIn p o hk, hc⟩, fun a e => ?_⟩
      cases e
      exact ⟨o, I.kIn _ o hk, hd⟩
    · have z : ∃ o, s.heap.get? p = some o ∧ o.ExactDict := by
        rcases hk with ⟨kvs, hk⟩ | ⟨kvs, hk⟩
        · obtain ⟨_, _, _, _, o, _, _, e, ex, _⟩ := I.hok p _ hk
          exact ⟨o, e, ex⟩
        · obtain ⟨_, _, _, _, o, _, _, e, ex, _⟩ := I.hok p _ hk
          exact ⟨o, e, ex⟩
      obtain ⟨o, e, ex⟩ := z
      refine ⟨⟨o, e, ex.1⟩, fun a e2 => ?_⟩
      cases e2
      exact ⟨o, e, ex.2.1⟩
    · obtain ⟨o, _, _, _, e, ex, _⟩ := I.hok p _ hk
      refine ⟨⟨o, e, ex.1⟩, fun a e2 => ?_⟩
      cases e2
      exact ⟨o, e, ex.2.1⟩
  | _ => exact False.elim ty
def tBM0 (K : PySem.W.Frag) (T : String) (r : V → List V → Hp → VK → Prop) (to : TE) : TE := fun σ H Q => to σ H fun x H1 => tyV K T x H1 ∧ r x [] H1 Q
def tBM (K : PySem.W.Frag) (T : String) (r : V → List V → Hp → VK → Prop) (to : TE) (t : TA) : TE := fun σ H Q => to σ H fun x H1 => tyV K T x H1 ∧ t σ H1 fun xs H2 => r x xs H2 Q
variable {o e : Expr} {es : List Expr} {to : TE} {t : TA} {name : Str} {apos cpos : Pos} {T id : String} {r : V → List V → Hp → VK → Prop}
theorem pe_bm0 (pa : PlainAttrs T) (slot : Slot T name id) (hty : typeOf (.builtin id) = pure (.type "method_descriptor")) (hm : MtR X id r) (ho : PE X o to)
    (hbase : attributeBase o name X.env (eval o X.env) = eval o X.env := by rfl) (hline : (apos.endLine == cpos.line) = true := by rfl) : PE X (.Call (.Attribute o name apos) [] [] cpos) (tBM0 X.K T r to) := by
  intro pins s σ H Q I h
  refine wpAny_Call_method0_late hbase hline (thn (ho pins s σ H _ I h) fun v s1 ⟨x, H1, I1, r1, ty, q1⟩ => ?_)
  obtain ⟨h1, h2⟩ := tyV_is I1 r1 ty
  exact ⟨T, id, pa, slot, hty, h1, h2, Calls.callWith_builtin rfl (PySem.evalArgs_none (hm pins s1 σ H1 x [] v [] Q I1 r1 .nil q1))⟩
theorem pe_bm (pa : PlainAttrs T) (slot : Slot T name id) (hty : typeOf (.builtin id) = pure (.type "method_descriptor")) (hm : MtR X id r) (ho : PE X o to) (ha : PA X (e :: es) t)
    (hbase : attributeBase o name X.env (eval o X.env) = eval o X.env := by rfl)
    (hfew : ((backTo cpos (starEach (e :: es) X.env)).all (fun x => !x.1) && (backToKw cpos (keywordEach [] X.env)).all (fun x => x.1.isSome)
      && decide ((e :: es).length + ([] : List Keyword).length + (if ([] : List Keyword).isEmpty then 0 else 1) < 30)) = true := by rfl)
    (hline : (apos.endLine == cpos.line) = true := by rfl) (hs : starEach (e :: es) X.env = (false, eval e X.env) :: starEach es X.env := by rfl) (hplain : (backTo cpos (starEach es X.env)).any (·.1) = false := by rfl) :
    PE X (.Call (.Attribute o name apos) (e :: es) [] cpos) (tBM X.K T r to t) := by
  intro pins s σ H Q I h
  refine wpAny_Call_method_late hbase hfew hline rfl (thn (ho pins s σ H _ I h) fun v s1 ⟨x, H1, I1, r1, ty, q1⟩ => ?_)
  obtain ⟨h1, h2⟩ := tyV_is I1 r1 ty
  refine ⟨T, id, pa, slot, hty, h1, h2, ?_⟩
  have hA := ha cpos pins s1 σ H1 _ I1 q1
  rw [hs] at hA ⊢
  refine Calls.callWith_builtin (by show (false || (backTo cpos (starEach es X.env)).any (·.1)) = false; rw [hplain] <;> rfl) (Calls.evalArgs_plain ?_)
  exact thn hA fun us s2 ⟨vs, H2, I2, r2, q2⟩ => hm pins s2 σ H2 x vs v us Q I2 r1 r2 q2
/- xs.append(e), list.index on a module's tuple .. are MtR facts of 06m -/
end
end L2

namespace L2
open PySem PySem.Spec PyProof.Rows

def MtM (X : Cx) (id : String) (r : V → List V → Hp → VK → Prop) : Prop :=
  ∀ (pins : List (Addr × Obj)) (s : Shared) (σ : St) (H : Hp) (x : V) (xs : List V) (v : Value) (us : List Value) (Q : VK), Inv X pins σ H s → RelV x v → Vals xs us → r x xs H Q →
    wpAny (model X.prog X.w) X.A (call (.builtin id) (v :: us)) (EP X pins σ Q) X.xe s

/-! ### lists of values -/
theorem Vals.one : ∀ {x : V} {us : List Value}, Vals [x] us → ∃ u, us = [u] ∧ RelV x u
  | _, _, .cons r .nil => ⟨_, rfl, r⟩
theorem Vals.two : ∀ {x y : V} {us : List Value}, Vals [x, y] us → ∃ u v, us = [u, v] ∧ RelV x u ∧ RelV y v
  | _, _, _, .cons r (.cons q .nil) => ⟨_, _, rfl, r, q⟩
theorem Vals.zero : ∀ {us : List Value}, Vals [] us → us = []
  | _, .nil => rfl
theorem Vals.dropLast {xs : List V} {us : List Value} (h : Vals xs us) : Vals xs.dropLast us.dropLast := by
  induction h with
  | nil => exact .nil
  | cons r t ih =>
    cases t with
    | nil => exact .nil
    | cons q t' => exact .cons r ih
theorem Vals.eraseIdx : ∀ {xs : List V} {us : List Value} (i : Nat), Vals xs us → Vals (xs.eraseIdx i) (us.eraseIdx i)
  | _, _, _, .nil => .nil
  | _, _, 0, .cons _ t => t
  | _, _, i + 1, .cons r t => .cons r (Vals.eraseIdx i t)
theorem Vals.reverse {xs : List V} {us : List Value} (h : Vals xs us) : Vals xs.reverse us.reverse := by
  induction h with
  | nil => exact .nil
  | cons r t ih => rw [List.reverse_cons, List.reverse_cons]; exact Vals.append ih (.cons r .nil)
theorem Vals.rep {xs : List V} {us : List Value} (h : Vals xs us) : ∀ k : Nat, Vals (List.replicate k xs).flatten (List.replicate k us).flatten
  | 0 => .nil
  | k + 1 => by
    rw [List.replicate_succ, List.replicate_succ, List.flatten_cons, List.flatten_cons]
    exact Vals.append h (Vals.rep h k)
theorem erase_last {α : Type} (l : List α) : l.eraseIdx (l.length - 1) = l.dropLast := by
  induction l with
  | nil => rfl
  | cons a r ih =>
    cases r with
    | nil => rfl
    | cons b r =>
      have e : (a :: b :: r).length - 1 = ((b :: r).length - 1) + 1 := by
        have h1 : (a :: b :: r).length = r.length + 2 := rfl
        have h2 : (b :: r).length = r.length + 1 := rfl
        omega
      rw [e, List.eraseIdx_cons_succ, ih]
      all_goals rfl
theorem len_erase {α : Type} : ∀ (l : List α) (i : Nat), (l.eraseIdx i).length ≤ l.length
  | [], _ => Nat.le_refl _
  | _ :: _, 0 => Nat.le_succ _
  | _ :: r, i + 1 => Nat.succ_le_succ (len_erase r i)
theorem foldl_rep (its : List Value) : ∀ (k : Nat) (acc : List Value),
    List.foldl (fun x1 x2 => x1 ++ x2) acc.toArray (List.replicate k its.toArray) = (acc ++ (List.replicate k its).flatten).toArray
  | 0, acc => by simp
  | k + 1, acc => by
    have e : acc.toArray ++ its.toArray = (acc ++ its).toArray := by simp
    have e2 : (acc ++ its) ++ (List.replicate k its).flatten = acc ++ (List.replicate (k + 1) its).flatten := by
      rw [List.replicate_succ, List.flatten_cons, List.append_assoc]
    rw [← e2, ← foldl_rep its k (acc ++ its), ← e, List.replicate_succ, List.foldl_cons]

section
variable {X : Cx} {pins : List (Addr × Obj)} {σ : St} {H : Hp} {s : Shared} {l b : Addr} {xs ys zs : List V}

/-! ### the two steps: a tracked list is rewritten, a new list is laid -/
theorem Inv.lset {its its' : List Value} {n : Nat} {f : Array Value → Array Value} {t' : Nat} (I : Inv X pins σ H s) (hH : H l = some (.lst xs))
    (e : s.heap.get? l = some { cls := .type "list", data := .seq its.toArray n }) (hf : f its.toArray = its'.toArray) (hv : Vals ys its') (hz : ys.length ≤ sizeLine) :
    Inv X pins σ (upd H l (.lst ys)) { s with heap := s.heap.update l (Obj.mapSeq f), toks := t' } := by
  have q := PySem.IsL.update e f
  rw [hf] at q
  refine I.write (x := l) (e := l) (by rw [hH]; exact trivial) (.inl rfl) (fun b' u hb hu => (Heap.get?_update_other s.heap (Obj.mapSeq f) (Ne.symm hb)).trans hu) ⟨_, q⟩ ?_
  exact ⟨hz, its', _, hv, q⟩
theorem Inv.lnew {its : List Value} {t' : Nat} (I : Inv X pins σ H s) (hv : Vals ys its) (hz : ys.length ≤ sizeLine) :
    Inv X pins σ (upd H s.heap.objs.size (.lst ys)) { s with heap := s.heap.push { cls := .type "list", data := .seq its.toArray }, toks := t' } :=
  I.laid (fun _ _ q => Heap.get?_push_of_some _ q) (Nat.le_refl _) ⟨hz, its, 0, hv, Heap.get?_push_size _ rfl⟩
theorem Inv.fresh (I : Inv X pins σ H s) : H s.heap.objs.size = none := I.hok.fresh (Nat.le_refl _)
theorem Inv.lstM (I : Inv X pins σ H s) (hH : H l = some (.lst xs)) : xs.length ≤ sizeLine ∧ ∃ (its : List Value) (n : Nat), Vals xs its ∧ xs.length = its.length ∧ s.heap.get? l = some { cls := .type "list", data := .seq its.toArray n } := by
  obtain ⟨z, its, n, r, e⟩ := I.hok l _ hH
  exact ⟨z, its, n, r, r.length, e⟩

theorem notLongL {n : Nat} (h : n ≤ sizeLine) : Builtin.List.listTooLong n = false := by
  unfold Builtin.List.listTooLong
  exact decide_eq_false (by omega)
end

section
variable {X : Cx}

/-! ### methods -/
def rAppend : V → List V → Hp → VK → Prop := fun x vs H Q => ∃ l xs y, x = .ref l ∧ vs = [y] ∧ H l = some (.lst xs) ∧ xs.length < sizeLine ∧ Q .non (upd H l (.lst (xs ++ [y])))
theorem mt_append : MtM X "list.append" rAppend := by
  intro pins s σ H x vs v us Q I rx rv h
  obtain ⟨l, xs, y, rfl, rfl, hH, hz, q⟩ := h
  cases rx
  obtain ⟨u, rfl, ru⟩ := rv.one
  obtain ⟨z, its, n, r, hl, e⟩ := I.lstM hH
  refine call_meets F.slot_list_append ⟨_, e, rfl⟩ F.entry_list_append (F.args_list_append_2 _ _) (PySem.list_append l its.toArray n u (by rw [List.size_toArray]; omega)) ⟨e, ?_⟩
  refine ⟨.non, _, I.lset (its' := its ++ [u]) hH e (by simp) (r.append (.cons ru .nil)) ?_, rfl, q⟩
  rw [List.length_append, List.length_singleton]
  omega

def rExtend : V → List V → Hp → VK → Prop := fun x vs H Q => ∃ l b xs zs, x = .ref l ∧ vs = [.ref b] ∧ H l = some (.lst xs) ∧ H b = some (.lst zs) ∧ xs.length + zs.length ≤ sizeLine ∧ Q .non (upd H l (.lst (xs ++ zs)))
theorem mt_extend : MtM X "list.extend" rExtend := by
  intro pins s σ H x vs v us Q I rx rv h
  obtain ⟨l, b, xs, zs, rfl, rfl, hH, hB, hz, q⟩ := h
  cases rx
  obtain ⟨u, rfl, ru⟩ := rv.one
  cases ru
  obtain ⟨z, its, n, r, hl, e⟩ := I.lstM hH
  obtain ⟨z2, its2, n2, r2, hl2, e2⟩ := I.lstM hB
  have hsz : its.toArray.size + its2.toArray.size ≤ sizeLine := by rw [List.size_toArray, List.size_toArray]; omega
  have hlong : ¬ (!its.toArray.isEmpty && Builtin.List.listTooLong (its.toArray.size + its2.toArray.size)) = true := by
    rw [notLongL hsz, Bool.and_false]
    exact Bool.false_ne_true
  refine call_meets F.slot_list_extend ⟨_, e, rfl⟩ F.entry_list_extend (F.args_list_extend_2 _ _)
    (AutoSeq1.list_extend_list_list_0 l its.toArray n b its2.toArray n2 hlong (by rw [List.size_toArray]; omega) (by omega)) ⟨e, e2, ?_⟩
  refine ⟨.non, _, I.lset (its' := its ++ its2) hH e (by simp) (r.append r2) ?_, rfl, q⟩
  rw [List.length_append]
  omega

def rPop : V → List V → Hp → VK → Prop := fun x vs H Q => ∃ l xs y, x = .ref l ∧ vs = [] ∧ H l = some (.lst xs) ∧ xs[xs.length - 1]? = some y ∧ Q y (upd H l (.lst xs.dropLast))
theorem mt_pop : MtM X "list.pop" rPop := by
  intro pins s σ H x vs v us Q I rx rv h
  obtain ⟨l, xs, y, rfl, rfl, hH, hy, q⟩ := h
  cases rx
  have hus := rv.zero
  subst hus
  obtain ⟨z, its, n, r, hl, e⟩ := I.lstM hH
  obtain ⟨u, hu, ru⟩ := r.get hy
  have hy' : its.toArray[its.toArray.size - 1]? = some u := by
    show its.toArray[its.length - 1]? = some u
    rw [← Array.getElem?_toList, ← hl]
    exact hu
  refine call_meets F.slot_list_pop ⟨_, e, rfl⟩ F.entry_list_pop (F.args_list_pop_1 _) (MeetsSeq.list_pop_last l its.toArray n u hy' (by rw [List.size_toArray]; omega)) ⟨e, ?_⟩
  refine ⟨y, _, I.lset (its' := its.dropLast) hH e ?_ r.dropLast ?_, ru, q⟩
  · show its.toArray.eraseIdxIfInBounds (its.toArray.size - 1) = its.dropLast.toArray
    rw [List.size_toArray, List.eraseIdxIfInBounds_toArray, erase_last]
  · rw [List.length_dropLast]
    omega

def rPopAt : V → List V → Hp → VK → Prop := fun x vs H Q => ∃ l xs i k y, x = .ref l ∧ vs = [.int i] ∧ H l = some (.lst xs) ∧ -(2 ^ 63) ≤ i ∧ i < 2 ^ 63 ∧ seqIndex? i xs.length = some k ∧ xs[k]? = some y ∧ Q y (upd H l (.lst (xs.eraseIdx k)))
theorem mt_popAt : MtM X "list.pop" rPopAt := by
  intro pins s σ H x vs v us Q I rx rv h
  obtain ⟨l, xs, i, k, y, rfl, rfl, hH, h1, h2, hk, hy, q⟩ := h
  cases rx
  obtain ⟨u, rfl, ru⟩ := rv.one
  obtain ⟨t, rfl⟩ := ru
  obtain ⟨z, its, n, r, hl, e⟩ := I.lstM hH
  obtain ⟨w, hw, rw'⟩ := r.get hy
  refine call_meets F.slot_list_pop ⟨_, e, rfl⟩ F.entry_list_pop (F.args_list_pop_2 _ _)
    (MeetsSeq.list_pop_at l its.toArray n i t k w (fitsIndex_both h1 h2) (by rw [List.size_toArray, ← hl]; exact hk) (by rw [← Array.getElem?_toList]; exact hw) (by rw [List.size_toArray]; omega)) ⟨e, ?_⟩
  refine ⟨y, _, I.lset (its' := its.eraseIdx k) hH e ?_ (r.eraseIdx k) ?_, rw', q⟩
  · show its.toArray.eraseIdxIfInBounds k = (its.eraseIdx k).toArray
    rw [List.eraseIdxIfInBounds_toArray]
  · have := len_erase xs k
    omega

def rReverse : V → List V → Hp → VK → Prop := fun x vs H Q => ∃ l xs, x = .ref l ∧ vs = [] ∧ H l = some (.lst xs) ∧ Q .non (upd H l (.lst xs.reverse))
theorem mt_reverse : MtM X "list.reverse" rReverse := by
  intro pins s σ H x vs v us Q I rx rv h
  obtain ⟨l, xs, rfl, rfl, hH, q⟩ := h
  cases rx
  have hus := rv.zero
  subst hus
  obtain ⟨z, its, n, r, hl, e⟩ := I.lstM hH
  refine call_meets F.slot_list_reverse ⟨_, e, rfl⟩ F.entry_list_reverse (F.args_list_reverse_1 _) (AutoSeq1.list_reverse_list_0 l its.toArray n (by rw [List.size_toArray]; omega)) ⟨e, ?_⟩
  refine ⟨.non, _, I.lset (its' := its.reverse) hH e (by simp) r.reverse ?_, rfl, q⟩
  rw [List.length_reverse]
  omega

def rClear : V → List V → Hp → VK → Prop := fun x vs H Q => ∃ l xs, x = .ref l ∧ vs = [] ∧ H l = some (.lst xs) ∧ Q .non (upd H l (.lst []))
theorem mt_clear : MtM X "list.clear" rClear := by
  intro pins s σ H x vs v us Q I rx rv h
  obtain ⟨l, xs, rfl, rfl, hH, q⟩ := h
  cases rx
  have hus := rv.zero
  subst hus
  obtain ⟨z, its, n, r, hl, e⟩ := I.lstM hH
  refine call_meets F.slot_list_clear ⟨_, e, rfl⟩ F.entry_list_clear (F.args_list_clear_1 _) (AutoSeq1.list_clear_list_0 l its.toArray n (by rw [List.size_toArray]; omega)) ⟨e, ?_⟩
  exact ⟨.non, _, I.lset (its' := []) (ys := []) hH e rfl .nil (Nat.zero_le _), rfl, q⟩

/-! ### list + list, list += list, list * int -/
def rCat : R2 := fun x y H Q => ∃ l b xs zs, x = .ref l ∧ y = .ref b ∧ H l = some (.lst xs) ∧ H b = some (.lst zs) ∧ xs.length + zs.length ≤ sizeLine ∧ ∀ p, H p = none → Q (.ref p) (upd H p (.lst (xs ++ zs)))
theorem op_cat : OpR X (binaryOp .Add) rCat := by
  intro pins s σ H x y v u Q I rx ry h
  obtain ⟨l, b, xs, zs, rfl, rfl, hH, hB, hz, q⟩ := h
  cases rx
  cases ry
  obtain ⟨z, its, n, r, hl, e⟩ := I.lstM hH
  obtain ⟨z2, its2, n2, r2, hl2, e2⟩ := I.lstM hB
  refine PySem.P.add_list e e2 ?_ (by rw [List.size_toArray, List.size_toArray]; omega)
  have ea : its.toArray ++ its2.toArray = (its ++ its2).toArray := by simp
  rw [ea]
  exact ⟨.ref _, _, I.lnew (t' := s.toks) (r.append r2) (by rw [List.length_append]; omega), rfl, q _ I.fresh⟩
/-- a list times an int (a negative one is nothing) -/
def rRep : R2 := fun x y H Q => ∃ l k xs, x = .ref l ∧ y = .int k ∧ H l = some (.lst xs) ∧ -(2 ^ 63) ≤ k ∧ k < 2 ^ 63 ∧ xs.length * k.toNat ≤ sizeLine ∧
  ∀ p, H p = none → Q (.ref p) (upd H p (.lst (List.replicate k.toNat xs).flatten))
theorem len_rep {α : Type} (xs : List α) (k : Nat) : (List.replicate k xs).flatten.length = k * xs.length := by
  induction k with
  | zero => simp
  | succ k ih => rw [List.replicate_succ, List.flatten_cons, List.length_append, ih, Nat.succ_mul, Nat.add_comm]
theorem op_rep : OpR X (binaryOp .Mult) rRep := by
  intro pins s σ H x y v u Q I rx ry h
  obtain ⟨l, k, xs, rfl, rfl, hH, h1, h2, hz, q⟩ := h
  cases rx
  obtain ⟨t, rfl⟩ := ry
  obtain ⟨z, its, n, r, hl, e⟩ := I.lstM hH
  have hlen : its.toArray.size * k.toNat ≤ sizeLine := by rw [List.size_toArray, ← hl]; exact hz
  have hcap : ¬ its.toArray.size * k.toNat > (2 ^ 63 - 1) / 8 := by
    have : (sizeLine : Nat) ≤ (2 ^ 63 - 1) / 8 := by decide
    omega
  have hfit : ¬ (!Builtin.List.listFitsIndex k) = true := by
    rw [fitsIndex_both h1 h2]
    exact Bool.false_ne_true
  have hlong : ¬ Builtin.List.listTooLong (its.toArray.size * k.toNat) = true := by
    rw [notLongL hlen]
    exact Bool.false_ne_true
  have hnew : List.foldl (fun x1 x2 => x1 ++ x2) #[] (List.replicate (if its.toArray.isEmpty = true then 0 else k.toNat) its.toArray) = (List.replicate k.toNat its).flatten.toArray := by
    have f0 : ∀ m : Nat, List.foldl (fun x1 x2 => x1 ++ x2) #[] (List.replicate m its.toArray) = (List.replicate m its).flatten.toArray := fun m => by
      have := foldl_rep its m []
      rw [List.nil_append] at this
      exact this
    rw [f0]
    cases its with
    | nil => simp
    | cons a r' => rw [if_neg (by simp)]
  refine wpAny_binaryOp_repeat_ref (T := "list") (U := "int") (by decide) ⟨_, e, rfl⟩ (fun s' => typeIs_int s' k t) noFill_list_mul F.fills_int_mul F.slot_int_rmul repeat_list F.slot_int_index.lookup
    (call_meets F.slot_int_rmul (typeIs_int s k t) F.entry_int_rmul (F.args_int_rmul_2 _ _) (int___rmul___int_list k t l its.toArray n)
      ⟨e, rfl, ⟨_, e, rfl⟩, call_meets F.slot_list_mul ⟨_, e, rfl⟩ F.entry_list_mul (F.args_list_mul_2 _ _) (AutoListH.list___mul___list_int_3 l its.toArray n k t hfit hcap hlong) ⟨e, ?_⟩⟩)
  rw [hnew]
  exact ⟨.ref _, _, I.lnew (t' := s.toks) (r.rep k.toNat) (by rw [len_rep, Nat.mul_comm]; exact hz), rfl, q _ I.fresh⟩

/-! ### del xs[i] -/
theorem del_list {pins : List (Addr × Obj)} {s : Shared} {σ : St} {H : Hp} {l : Addr} {xs : List V} {i : Int} {t : Tok} {k : Nat} {Q : Unit → Shared → Prop} (I : Inv X pins σ H s) (hH : H l = some (.lst xs))
    (h1 : -(2 ^ 63) ≤ i) (h2 : i < 2 ^ 63) (hk : seqIndex? i xs.length = some k) (h : ∀ s', Inv X pins σ (upd H l (.lst (xs.eraseIdx k))) s' → Q () s') :
    wpAny (model X.prog X.w) X.A (delItem (.ref l) (.int i t)) Q X.xe s := by
  obtain ⟨z, its, n, r, hl, e⟩ := I.lstM hH
  refine PySem.P.delItem_list (k := k) e (fitsIndex_both h1 h2) (by rw [List.size_toArray, ← hl]; exact hk) (h _ ?_) (by rw [List.size_toArray]; omega)
  refine I.lset (its' := its.eraseIdx k) (t' := s.toks) hH e ?_ (r.eraseIdx k) ?_
  · show its.toArray.eraseIdxIfInBounds k = (its.eraseIdx k).toArray
    rw [List.eraseIdxIfInBounds_toArray]
  · have := len_erase xs k
    omega
end

/-! ### xs[a:b] = ys -/
section
variable {prog : Program} {w : World} {A : Around} {E : Value → Shared → Prop} {s : Shared}
theorem splice_eq (its its2 : List Value) (a c : Nat) : its.toArray.extract 0 a ++ its2.toArray ++ its.toArray.extract c its.toArray.size = (its.take a ++ its2 ++ its.drop c).toArray := by
  apply Array.toList_inj.mp
  first
    | (simp
       exact List.take_of_length_le (by simp))
    | simp [List.take_of_length_le]
    | simp
theorem bounds_run {a c n : Nat} (hac : a ≤ c) (hc : c ≤ n) : sliceBounds (some (a : Int)) (some (c : Int)) none n = ((a : Int), (c : Int), 1) := by
  simp only [sliceBounds, Option.getD_none]
  have h1 : ¬ ((a : Int) < 0) := by omega
  have h2 : ¬ ((c : Int) < 0) := by omega
  simp only [h1, h2, if_false, show (1 : Int) > 0 by decide, if_true]
  congr 1
  · omega
  · congr 1; omega
set_option maxRecDepth 100000 in
/-- list.__setitem__ with a slice of step one and another list -/
theorem setItem_slice {l b sl : Addr} {items new : Array Value} {n n2 : Nat} {vl vu : Value} {a c : Nat} {Q : Unit → Shared → Prop}
    (e : s.heap.get? l = some { cls := .type "list", data := .seq items n }) (e2 : s.heap.get? b = some { cls := .type "list", data := .seq new n2 }) (hne : l ≠ b)
    (hs : s.heap.IsSliceOf sl vl vu .none) (pl : IsPart vl (some (a : Int))) (pu : IsPart vu (some (c : Int))) (hac : a ≤ c) (hc : c ≤ items.size)
    (hsz : items.size + new.size ≤ sizeLine) (h : Q () { s with heap := s.heap.update l (Obj.mapSeq fun xs => xs.extract 0 a ++ new ++ xs.extract c xs.size) }) :
    wpAny (model prog w) A (setItem (.ref l) (.ref sl) (.ref b)) Q E s := by
  have hl : s.heap.IsList l items := PySem.IsL.isList e
  have hb : s.heap.IsList b new := PySem.IsL.isList e2
  obtain ⟨os, hos, hcs, hds⟩ := id hs
  have hTs : s.TypeIs (.ref sl) "slice" := ⟨os, hos, hcs⟩
  have hstep : ¬ ((rawPart none == rawInt 0) = true) := Bool.false_ne_true
  have hsame : Builtin.List.listSameRef (.ref l) (.ref b) = false := by
    unfold Builtin.List.listSameRef
    exact beq_eq_false_iff_ne.mpr hne
  have hmax : (max (a : Int) (c : Int)).toNat = c := by omega
  have hz' : ((fun xs : Array Value => xs.extract 0 a ++ new ++ xs.extract c xs.size) items).size ≤ sizeLine + 1 := by
    simp only [Array.size_append, Array.size_extract]
    omega
  unfold setItem
  try with_reducible refine wpAny_holding ?_
  first | refine wpAny_bind (wpAny_pure ?_) | skip
  refine wpAny_bind (wpAny_sequenceKey hl.typeIs (by decide) ?_)
  refine wpAny_bind (wpAny_callSpecial?_slot (name := Str.ofString "__setitem__") hl.typeIs slot_list_setitem
    (wpAny_call_entry slot_list_setitem hl.typeIs entry_list_setitem ?_ (args_list_setitem _ _ _)))
  show wpAny _ _ (Builtin.List.listSubscript? (.ref sl) >>= _) _ _ s
  refine wpAny_bind ?_
  unfold Builtin.List.listSubscript?
  refine wpAny_bind (wpAny_specialOf hTs slice_no_index ?_)
  simp only [Option.isNone_none, if_true]
  refine wpAny_pure ?_
  show wpAny _ _ (typeOf (.ref sl) >>= _) _ _ s
  refine wpAny_bind (wpAny_typeOf hTs ?_)
  first
    | rw [if_neg (by decide)]
    | refine PySem.W.KFB.if_not (by decide) ?_
  rw [listSliceParts_eq]
  refine wpAny_bind (wpAny_bind (wpAny_field hos hds (x := .none) rfl (wpAny_bind (wpAny_listPart .none ?_))))
  rw [if_neg hstep]
  refine wpAny_bind (wpAny_field hos hds (x := vl) rfl (wpAny_bind (wpAny_listPart pl ?_)))
  refine wpAny_bind (wpAny_field hos hds (x := vu) rfl (wpAny_bind (wpAny_listPart pu (wpAny_pure ?_))))
  first
    | simp only [hsame, Bool.false_eq_true, if_false]
    | refine PySem.W.KFB.if_not hsame ?_
    | (dsimp only
       rw [if_neg (by rw [hsame]; exact Bool.false_ne_true)])
  refine wpAny_bind (m := Builtin.List.listAllItems (.ref b) "must assign iterable to extended slice") ?_
  unfold Builtin.List.listAllItems
  refine wpAny_bind (wpAny_typeOf hb.typeIs ?_)
  first
    | refine PySem.W.KFB.if_so (by decide) ?_
    | rw [if_pos (by decide)]
    | simp only [beq_self_eq_true, Bool.true_or, if_true]
  unfold Builtin.List.listItems
  refine wpAny_bind (wpAny_seqItems e2 rfl (wpAny_pure ?_))
  refine wpAny_bind (wpAny_bind (wpAny_seqItems e rfl (wpAny_pure ?_)))
  refine wpAny_bind (wpAny_of_eq ((sliceIndices_raw (some (a : Int)) (some (c : Int)) none items.size (by simp)).trans (congrArg (pure : Int × Int × Int → Sem (Int × Int × Int)) (bounds_run hac hc))) ?_)
  show wpAny _ _ (if ((1 : Int) == 1) = true then _ else _) _ _ s
  rw [if_pos (by decide)]
  refine wpAny_bind (wpAny_rule ?_)
  first
    | simp only [notLongL hsz, Bool.false_eq_true, if_false]
    | refine PySem.W.KFB.if_not (notLongL hsz) ?_
  first | refine wpAny_bind (wpAny_pure ?_) | skip
  show wpAny _ _ (updateSeq l (fun xs => xs.extract 0 ((a : Int)).toNat ++ new ++ xs.extract (max (a : Int) (c : Int)).toNat xs.size) >>= _) _ _ s
  rw [hmax, Int.toNat_natCast]
  refine wpAny_bind (wpAny_updateSeq (hz := Nat.le_trans (Nat.le_add_right _ _) hsz) (_hz' := hz') e rfl ?_)
  refine wpAny_bind (wpAny_letGo ?_)
  first
    | exact wpAny_bind (wpAny_pure (wpAny_pure ⟨.none, rfl, wpAny_pure h⟩))
    | exact wpAny_pure ⟨.none, rfl, wpAny_pure h⟩
end

section
variable {X : Cx}
/-- xs[a:c] = ys of another list, at the value level: sl is the slice object that was just made -/
theorem set_slice {pins : List (Addr × Obj)} {s : Shared} {σ : St} {H : Hp} {l b sl : Addr} {xs ys : List V} {a c : Int} {vl vu : Value} {Q : Unit → Shared → Prop} (I : Inv X pins σ H s)
    (hH : H l = some (.lst xs)) (hB : H b = some (.lst ys)) (hne : l ≠ b) (hs : s.heap.IsSliceOf sl vl vu .none) (ra : RelV (.int a) vl) (rc : RelV (.int c) vu) (h0 : 0 ≤ a) (hac : a ≤ c) (hc : c ≤ xs.length)
    (hz : xs.length + ys.length ≤ sizeLine) (h : ∀ s', Inv X pins σ (upd H l (.lst (xs.take a.toNat ++ ys ++ xs.drop c.toNat))) s' → Q () s') :
    wpAny (model X.prog X.w) X.A (setItem (.ref l) (.ref sl) (.ref b)) Q X.xe s := by
  obtain ⟨ta, rfl⟩ := ra
  obtain ⟨tc, rfl⟩ := rc
  obtain ⟨z, its, n, r, hl, e⟩ := I.lstM hH
  obtain ⟨z2, its2, n2, r2, hl2, e2⟩ := I.lstM hB
  obtain ⟨a', rfl⟩ := Int.eq_ofNat_of_zero_le h0
  obtain ⟨c', rfl⟩ := Int.eq_ofNat_of_zero_le (Int.le_trans h0 hac)
  simp only [Int.toNat_natCast] at h
  refine setItem_slice (a := a') (c := c') e e2 hne hs (.int _ _) (.int _ _) (by omega) (by rw [List.size_toArray]; omega) (by rw [List.size_toArray, List.size_toArray]; omega) (h _ ?_)
  refine I.lset (its' := its.take a' ++ its2 ++ its.drop c') (t' := s.toks) hH e ?_ (Vals.append (Vals.append (r.take _) r2) (r.drop _)) ?_
  · exact splice_eq its its2 a' c'
  · rw [List.length_append, List.length_append, List.length_take, List.length_drop]
    omega
end
end L2

namespace Att
open PySem PySem.W PySem.Calls PyProof.Rows

/-! ### the script -/
theorem ints_of_wellAll {P : Params} {h : Heap} : ∀ (ns : List Int) (vs : List Value), WellAll P h vs (ns.map WData.int) → IntsAre vs ns := by
  intro ns
  induction ns with
  | nil =>
    intro vs w
    rw [List.map_nil] at w
    cases w
    exact .nil
  | cons n ns ih =>
    intro vs w
    rw [List.map_cons] at w
    cases w with
    | cons a b =>
      cases a
      exact .cons _ _ (ih _ b)

theorem script_of {l : OpenLaw} {n : Nat} (hn : l.most = some n) {P : Params} {h : Heap} {args : List WData} {vals : List Value}
    (hpre : l.row.toRowW.claim.pre args = true) (hwl : WellAll P h vals args) :
    ∃ a vs ns, vals = [Value.ref a] ∧ args = [WData.list (ns.map WData.int)] ∧ h.get? a = some { cls := .type "list", data := .seq vs.toArray } ∧ IntsAre vs ns ∧ ns.length ≤ n := by
  have hsh : WShape.hasAll [] args [.list .int] = true := (pre_splitW hpre).1
  have hc : l.pre.holds [] { args := args } = true := (pre_splitW hpre).2
  obtain ⟨d, r, rfl, h1, h2⟩ := hasAllW_cons hsh
  obtain rfl := hasAllW_nil h2
  obtain ⟨xs, rfl, h3⟩ := hasW_list h1
  obtain ⟨ns, rfl⟩ := items_int h3
  have hlen : ns.length ≤ n := by
    unfold OpenLaw.pre at hc
    have h4 : (WTm.not (.lt (.lit (.int (n : Int))) (.len (.arg 0)))).holds [] { args := [.list (ns.map .int)] } = true := by
      have h4 := (holds_andW hc).1
      rw [hn] at h4
      exact h4
    have h5 := condW_of h4 (w_not (w_lt w_lit (w_len_list (w_arg rfl))))
    rw [List.length_map] at h5
    refine Nat.le_of_not_lt fun q => ?_
    have q' : (n : Int) < ((ns.length : Nat) : Int) := by omega
    first
      | (rw [decide_eq_true q'] at h5; exact absurd h5 (by decide))
      | (simp at h5; omega)
  cases hwl with
  | cons w1 w2 =>
    cases w2
    cases w1 with
    | list ho hall => exact ⟨_, _, ns, rfl, rfl, ho, ints_of_wellAll ns _ hall, hlen⟩

theorem post_true (l : OpenLaw) (args : List WData) : l.row.toRowW.claim.post args (.bool true) args = true :=
  postW_of (r := l.row.toRowW) (X := (true == true))
    (show WShape.has [] (.bool true) .bool = true by first | rfl | decide | simp [WShape.has, WShape.arms, WShape.armsAll])
    (show (WTm.eq .res (.lit (.bool true))).value [] { args := args, res := some (.bool true), after := args } = some (.bool (true == true)) from w_eq_bool (w_res rfl) w_lit) rfl

/-! ### the attachment: holds_open's last premise (the goal 'hc' behind k_head) from a wpAny of the law's body -/
theorem attach {l : OpenLaw} {n : Nat} {q : Program} {loose : List Str} {XP : (Str → Option Value) → Heap → Prop} {YP : World → Heap → Prop} {d : DefRec} {x : Str}
    (hn : l.most = some n) (hdf : d.params.defaults = [])
    (hbind : ∀ pm cd doc v : Value, bindArgs (docDef d.name d.params d.body d.scope pm cd doc) ⟨[v], []⟩ = pure [(x, v)])
    (hx : d.scope.names.lookup x = some .local ∨ d.scope.names.lookup x = some .cell)
    (hk : d.scope.kind = .function) (hco : d.scope.isCoroutine = false) (hgen : d.scope.isGenerator = false)
    (body : ∀ (w : World) (s₀ s₁ s : Shared) (mg mb : Str → Option Value) (fa : Addr) (o : Obj) (pm cd doc : Value) (a : Addr) (vs : List Value) (ns : List Int),
      Ground q loose [] XP w s₀ mg mb s₁.heap → YP w s₁.heap →
      s₁.heap.get? fa = some o → o.data = .func (docDef d.name d.params d.body d.scope pm cd doc) → s₁.heap.CodeRec cd d.name → mg d.name = some (.ref fa) →
      s₁.heap.get? a = some { cls := .type "list", data := .seq vs.toArray } → IntsAre vs ns → ns.length ≤ n →
      s.gens = #[] → s.os = s₁.os →
      Fr s₁.heap s₁.heap.objs.size s.heap (bindL (envOfC d.name d.scope s₁.heap.objs.size fa cd).kindOf [(x, .ref a)] fun _ => none) →
      Cl s₁.heap.objs.size (cellsFrom (s₁.heap.objs.size + 1) d.scope.names []) s.heap (bindC (envOfC d.name d.scope s₁.heap.objs.size fa cd).kindOf [(x, .ref a)] fun _ => none) →
      wpAny (model l.prog w) (callerA.deeper (envOfC d.name d.scope s₁.heap.objs.size fa cd)) (execs d.body (envOfC d.name d.scope s₁.heap.objs.size fa cd))
        (fun f s' => f = .ret (.bool true) ∧ OldK s₁.heap s'.heap ∧ s'.os = s₁.os ∧ AllBare s'.gens) (fun _ _ => False) s) :
    WalkO q loose XP YP l.row.toRowW d [] (fun f vs => PySem.call f vs) := by
  intro w s₀ s₁ mg mb G Y fa o pm cd doc dV kV ho hd hcd hD hmg hg args vals as hpre hlay hrd hwl hlo
  obtain rfl : dV = .none := Dflts.none hD hdf
  obtain rfl : kV = .none := Dflts.noKw hD
  obtain ⟨a, vs, ns, rfl, rfl, hobj, hints, hlen⟩ := script_of hn hpre hwl
  refine enter_call ?_
  refine call_cells_ret (o := o) (by rw [depth_caller]; decide) ho (fd_plain hd) G.T.nolimit hcd (hbind pm cd doc (.ref a)) (fun y hy => ?_) (fun h₁ tk F X => ?_) hco hgen hk
  · obtain rfl : y = (x, Value.ref a) := List.mem_singleton.mp hy
    rcases hx with e | e
    · exact .inl e
    · exact .inr ⟨e, cellsFrom_some _ _ _ (.inl e)⟩
  · refine wpAny_mono (body w s₀ s₁ { s₁ with heap := h₁, toks := tk } mg mb fa o pm cd doc a vs ns G Y ho (fd_plain hd) hcd hmg hobj hints hlen hg rfl F X) (fun f s' hq => ?_) (fun _ _ hq => hq)
    obtain ⟨rfl, h2, h3, h4⟩ := hq
    exact ⟨.inl ⟨.bool true, .bool true, [], rfl, fun _ => rfl, .bool true, post_true l _, fun _ => ⟨List.Pairwise.nil, fun _ hm => (nomatch hm)⟩⟩, h2, h3, h4⟩

/-- the same from a codeAny of the CALL (for a layer whose function contracts speak of calls) -/
theorem attach_call {l : OpenLaw} {n : Nat} {q : Program} {loose : List Str} {XP : (Str → Option Value) → Heap → Prop} {YP : World → Heap → Prop} {d : DefRec}
    (hn : l.most = some n) (hdf : d.params.defaults = [])
    (call : ∀ (w : World) (s₀ s₁ : Shared) (mg mb : Str → Option Value) (fa : Addr) (o : Obj) (pm cd doc : Value) (a : Addr) (vs : List Value) (ns : List Int),
      Ground q loose [] XP w s₀ mg mb s₁.heap → YP w s₁.heap →
      s₁.heap.get? fa = some o → o.data = .func (docDef d.name d.params d.body d.scope pm cd doc) → s₁.heap.CodeRec cd d.name → mg d.name = some (.ref fa) →
      s₁.heap.get? a = some { cls := .type "list", data := .seq vs.toArray } → IntsAre vs ns → ns.length ≤ n → s₁.gens = #[] →
      codeAny (model l.prog w) callerA (.call (.ref fa) ⟨[.ref a], []⟩) (fun r s' => r = .ok (.ret (.bool true)) ∧ OldK s₁.heap s'.heap ∧ s'.os = s₁.os ∧ AllBare s'.gens) s₁) :
    WalkO q loose XP YP l.row.toRowW d [] (fun f vs => PySem.call f vs) := by
  intro w s₀ s₁ mg mb G Y fa o pm cd doc dV kV ho hd hcd hD hmg hg args vals as hpre hlay hrd hwl hlo
  obtain rfl : dV = .none := Dflts.none hD hdf
  obtain rfl : kV = .none := Dflts.noKw hD
  obtain ⟨a, vs, ns, rfl, rfl, hobj, hints, hlen⟩ := script_of hn hpre hwl
  refine enter_call (codeAny_mono (call w s₀ s₁ mg mb fa o pm cd doc a vs ns G Y ho (fd_plain hd) hcd hmg hobj hints hlen hg) fun r s' hq => ?_)
  obtain ⟨rfl, h2, h3, h4⟩ := hq
  exact ⟨.inl ⟨.bool true, .bool true, [], rfl, fun _ => rfl, .bool true, post_true l _, fun _ => ⟨List.Pairwise.nil, fun _ hm => (nomatch hm)⟩⟩, h2, h3, h4⟩

/-- the same where the top left finished generators (o_head chose holds_openN): nothing may have changed at all and no generator may be left -/
theorem attachN {l : OpenLaw} {n : Nat} {q : Program} {loose : List Str} {XP : (Str → Option Value) → Heap → Prop} {YP : World → Heap → Prop} {d : DefRec} {x : Str}
    (hn : l.most = some n) (hdf : d.params.defaults = [])
    (hbind : ∀ pm cd doc v : Value, bindArgs (docDef d.name d.params d.body d.scope pm cd doc) ⟨[v], []⟩ = pure [(x, v)])
    (hx : d.scope.names.lookup x = some .local ∨ d.scope.names.lookup x = some .cell)
    (hk : d.scope.kind = .function) (hco : d.scope.isCoroutine = false) (hgen : d.scope.isGenerator = false)
    (body : ∀ (w : World) (s₀ s₁ s : Shared) (mg mb : Str → Option Value) (fa : Addr) (o : Obj) (pm cd doc : Value) (a : Addr) (vs : List Value) (ns : List Int),
      Ground q loose [] XP w s₀ mg mb s₁.heap → YP w s₁.heap →
      s₁.heap.get? fa = some o → o.data = .func (docDef d.name d.params d.body d.scope pm cd doc) → s₁.heap.CodeRec cd d.name → mg d.name = some (.ref fa) →
      s₁.heap.get? a = some { cls := .type "list", data := .seq vs.toArray } → IntsAre vs ns → ns.length ≤ n →
      s.gens = #[] → s.os = s₁.os →
      Fr s₁.heap s₁.heap.objs.size s.heap (bindL (envOfC d.name d.scope s₁.heap.objs.size fa cd).kindOf [(x, .ref a)] fun _ => none) →
      Cl s₁.heap.objs.size (cellsFrom (s₁.heap.objs.size + 1) d.scope.names []) s.heap (bindC (envOfC d.name d.scope s₁.heap.objs.size fa cd).kindOf [(x, .ref a)] fun _ => none) →
      wpAny (model l.prog w) (callerA.deeper (envOfC d.name d.scope s₁.heap.objs.size fa cd)) (execs d.body (envOfC d.name d.scope s₁.heap.objs.size fa cd))
        (fun f s' => f = .ret (.bool true) ∧ (∀ b o, s₁.heap.get? b = some o → s'.heap.get? b = some o) ∧ s'.os = s₁.os ∧ s'.gens = #[]) (fun _ _ => False) s) :
    WalkN q loose XP YP l.row.toRowW d [] (fun f vs => PySem.call f vs) := by
  intro w s₀ s₁ mg mb G Y fa o pm cd doc dV kV ho hd hcd hD hmg hg args vals as hpre hlay hrd hwl hlo
  obtain rfl : dV = .none := Dflts.none hD hdf
  obtain rfl : kV = .none := Dflts.noKw hD
  obtain ⟨a, vs, ns, rfl, rfl, hobj, hints, hlen⟩ := script_of hn hpre hwl
  refine enter_callW ?_
  refine call_cells_ret (o := o) (by rw [depth_caller]; decide) ho (fd_plain hd) G.T.nolimit hcd (hbind pm cd doc (.ref a)) (fun y hy => ?_) (fun h₁ tk F X => ?_) hco hgen hk
  · obtain rfl : y = (x, Value.ref a) := List.mem_singleton.mp hy
    rcases hx with e | e
    · exact .inl e
    · exact .inr ⟨e, cellsFrom_some _ _ _ (.inl e)⟩
  · refine wpAny_mono (body w s₀ s₁ { s₁ with heap := h₁, toks := tk } mg mb fa o pm cd doc a vs ns G Y ho (fd_plain hd) hcd hmg hobj hints hlen hg rfl F X) (fun f s' hq => ?_) (fun _ _ hq => hq)
    obtain ⟨rfl, h2, h3, h4⟩ := hq
    exact ⟨.inl ⟨.bool true, .bool true, [], rfl, fun _ => rfl, .bool true, post_true l _, fun _ => ⟨List.Pairwise.nil, fun _ hm => (nomatch hm)⟩⟩, h2, h3, h4⟩

/-! ### rules over ANY heap (no ledger) from facts about the written part K: the library's own take a ledger (News) for what they write -/
section
variable {prog : Program} {w : World} {A : Around} {E : Value → Shared → Prop} {s : Shared} {K : Frag}

/-- a def of the module, or a method (qual 'C.m'), entered: the frame is the next address; cells behind it -/
theorem call_fn {R : Result → Shared → Prop} {name qual : Str} {params : Arguments} {body : List Stmt} {scope : Scope} {dV kV doc pm cdv ct oc : Value} {an od : Option Addr} {osl : Array (Option Value)} {f : Addr} {args : Args} {binds : List (Str × Value)}
    (X : K.In s.heap) (hlim : s.heap.NoLimit) (ho : K.lookup f = some ⟨oc, od, .func (fnOf name qual params body scope dV kV doc pm an cdv ct), osl⟩) (hcd : codeIn K cdv qual = true) (hroom : A.depth < recursionLimit)
    (hbind : BindsTo s (fnOf name qual params body scope dV kV doc pm an cdv ct) args binds)
    (hkind : (binds.all fun y => scope.names.lookup y.1 == some .local || scope.names.lookup y.1 == some .cell) = true)
    (h : ∀ s₁, InCallC s s.heap.objs.size (bindL (envOfC qual scope s.heap.objs.size f cdv).kindOf binds fun _ => none) (cellsFrom (s.heap.objs.size + 1) scope.names [])
        (bindC (envOfC qual scope s.heap.objs.size f cdv).kindOf binds fun _ => none) s₁ →
      wpAny (model prog w) (A.deeper (envOfC qual scope s.heap.objs.size f cdv)) (execs body (envOfC qual scope s.heap.objs.size f cdv))
        (fun fl s' => R (.ok (.ret (match fl with | .ret v => v | _ => .none))) s')
        (fun e s' => wpAny (model prog w) (A.deeper (envOfC qual scope s.heap.objs.size f cdv)) (leaving (envOfC qual scope s.heap.objs.size f cdv) e) (fun _ s'' => R (.error e) s'') (fun e' s'' => R (.error e') s'') s') s₁)
    (hco : scope.isCoroutine = false) (hgen : scope.isGenerator = false) (hk : scope.kind = .function) : codeAny (model prog w) A (.call (.ref f) args) R s := by
  refine codeAny_call_function hroom (X _ _ ho) rfl hco hgen rfl (codeRec_of X hcd) (hbind _ _ _ _ ?_)
  refine wpAny_newFunctionEnv_cells hk (kindsX hkind _) fun env he s₁ x => ?_
  subst he
  exact ⟨hlim.keeps x.toInCall.keep, codeAny_func (h s₁ x)⟩

/-- C(..): dict at size, instance at size + 1, then __init__ -/
theorem make_obj {R : Result → Shared → Prop} {C fI : Addr} {rest : List Value} {kw : List (Str × Value)}
    (X : K.In s.heap) (hm : makesIn K C = true) (hi : findIn K (.ref C) "__init__" = some (some (.ref fI))) (hf : isFn K (.ref fI) = true)
    (h : codeAny (model prog w) (A.under (.builtin "type.__call__" ⟨.ref C :: rest, kw⟩)) (.call (.ref fI) ⟨.ref (s.heap.objs.size + 1) :: rest, kw⟩) (InitBack (s.heap.objs.size + 1) R)
      { s with heap := (s.heap.push emptyDict).push (instObj C s.heap.objs.size) }) : codeAny (model prog w) A (.call (.ref C) ⟨rest, kw⟩) R s := by
  obtain ⟨hh, g, d, t, os⟩ := s
  exact make_core (makes_of X hm) (looks_findIn X hi) (fun self => bind_fn X self (beq_iff_eq.mp hf)) (.inl rfl) h

/-- x.name where the instance's dict holds the name and the class does not -/
theorem get_field {x C : Addr} {ox : Obj} {es : List DictEntry} {n : Nat} {name : Str} {expr : Bool} {v : Value} {Q : Value → Shared → Prop}
    (X : K.In s.heap) (I : PySem.W.InstAt s.heap x ox C (some (dictOf es n))) (hg : plainGet K C name = true) (hh : hasDictIn K C = true) (ha : findIn K (.ref C) name = some none)
    (hl : getL name es = some (some v)) (hv : handedIn v = true) (h : Q v { s with toks := s.toks + 1 }) : wpAny (model prog w) A (getAttr (.ref x) name expr) Q E s :=
  get_value X I (plainGet_of hg).1 (findObj_own hh ha rfl hl) hv h

/-- x.m(..): the method found in the class -/
theorem get_method {x C f : Addr} {ox : Obj} {es : List DictEntry} {n : Nat} {name : Str} {pl : Sem Bool} {Q : Value × List Value → Shared → Prop}
    (X : K.In s.heap) (I : PySem.W.InstAt s.heap x ox C (some (dictOf es n))) (hg : plainGet K C name = true) (hf : findIn K (.ref C) name = some (some (.ref f))) (ht : isFn K (.ref f) = true)
    (hl : getL name es = some none) (h : Q (.ref f, [.ref x]) s) : wpAny (model prog w) A (getMethod (.ref x) name pl) Q E s :=
  method_fn X I (plainGet_of hg).1 (plainGet_of hg).2 hf (beq_iff_eq.mp ht) (by show (lookIn name (dictOf es n)).map _ = _; rw [lookIn_dict, hl]; rfl) h

/-! the whole heap as the ledger: makes every rule that writes through a ledger a rule over any heap -/
def noObjs (h : Heap) : Heap := { h with objs := #[] }
theorem noObjs_get (h : Heap) (b : Addr) : (noObjs h).get? b = none := by
  cases e : (noObjs h).get? b with
  | none => rfl
  | some o => exact absurd (Heap.lt_size e) (Nat.not_lt_zero _)
def ledger (h : Heap) (L d : Addr) : List (Addr × Obj) := (List.range h.objs.size).filterMap fun a => if a = L ∨ a = d then none else (h.get? a).map fun o => (a, o)
theorem mem_ledger {h : Heap} {L d a : Addr} {o : Obj} : (a, o) ∈ ledger h L d ↔ a ≠ L ∧ a ≠ d ∧ h.get? a = some o := by
  unfold ledger
  rw [List.mem_filterMap]
  constructor
  · rintro ⟨b, _, e⟩
    split at e
    · cases e
    · rename_i hb
      obtain ⟨o', ho, e'⟩ := Option.map_eq_some_iff.mp e
      cases e'
      exact ⟨fun q => hb (.inl q), fun q => hb (.inr q), ho⟩
  · rintro ⟨n1, n2, ho⟩
    refine ⟨a, List.mem_range.mpr (Heap.lt_size ho), ?_⟩
    rw [if_neg (show ¬ (a = L ∨ a = d) from fun q => q.elim n1 n2), ho] <;> rfl
theorem news_ledger {h : Heap} {L d : Addr} {od : Obj} (hne : d ≠ L) (ho : h.get? d = some od) : News (noObjs h) L h ([] ++ (d, od) :: ledger h L d) := by
  rintro ⟨a, o⟩ hp
  rcases List.mem_cons.mp hp with e | hp
  · cases e
    exact ⟨ho, hne, noObjs_get _ _⟩
  · obtain ⟨n1, n2, e⟩ := mem_ledger.mp hp
    exact ⟨e, n1, noObjs_get _ _⟩
theorem fr_all {h : Heap} {L : Addr} {m : Str → Option Value} (n : h.Ns L m) : Fr (noObjs h) L h m :=
  ⟨n, fun b o e => (by rw [noObjs_get] at e; cases e), Nat.zero_le _⟩
/-- Upd of the head entry (for append_K, setItem_K ..) -/
theorem upd_ledger {h : Heap} {L d : Addr} {o o' : Obj} : Upd d o o' ((d, o) :: ledger h L d) ((d, o') :: ledger h L d) :=
  .head fun ⟨_, _⟩ hp => (mem_ledger.mp hp).2.1

/-- x.name = v over any heap: L is any namespace of the heap (the frame's, say): its map stays, its object is not told; all else but the dict stays -/
theorem set_field {x C dx L : Addr} {ox : Obj} {m : Str → Option Value} {es es' : List DictEntry} {n n' : Nat} {name : Str} {v : Value} {Q : Unit → Shared → Prop}
    (X : K.In s.heap) (I : PySem.W.InstAt s.heap x ox C (some (dictOf es n))) (hd : ox.dict = some dx) (hL : s.heap.Ns L m) (hne : dx ≠ L)
    (hs : findIn K (.ref C) "__setattr__" = some (some (.builtin "object.__setattr__"))) (hp : plainOver K C = true) (ht : takerIn K C name = some none) (hh : hasDictIn K C = true) (hl : (getL name es).isSome = true)
    (e : (putL name (PyData.keyHash w.params name) (.str name (s.toks + 1)) v es, putN name es n) = (es', n')) (hz : es'.length ≤ 1000)
    (h : ∀ h' : Heap, h'.Ns L m → h'.get? dx = some (dictOf es' n') → (∀ b o, b ≠ dx → b ≠ L → s.heap.get? b = some o → h'.get? b = some o) → Q () { s with heap := h', toks := s.toks + 2 }) :
    wpAny (model prog w) A (setAttr (.ref x) name v) Q E s := by
  obtain ⟨e1, e2⟩ := Prod.mk.inj e
  have hdx : s.heap.get? dx = some (dictOf es n) := by
    have := I.dict
    rw [hd] at this
    exact this
  refine set_plain X I hs (osa_dict (s := { s with toks := s.toks + 1 }) (h₀ := noObjs s.heap) (L := L) (m := m) (od := dictOf es n) (od' := dictOf es' n') (es := es') (n := n') (pre := []) (post := ledger s.heap L dx)
    (fr_all hL) (news_ledger hne hdx) X I hd hp ht hh hl (fun _ q => nomatch q) (fun ⟨_, _⟩ q => (mem_ledger.mp q).2.1) (by rw [putName_dict, e1, e2]) rfl hz fun h' F' N' => ?_)
  exact h h' F'.ns (N'.get (List.Mem.head _)) fun b o n1 n2 ho => N'.get (List.Mem.tail _ (mem_ledger.mpr ⟨n2, n1, ho⟩))
end
end Att

namespace L2
open PySem PySem.Spec PyProof.Rows

theorem vals_ints : ∀ {vs : List Value} {ns : List Int}, IntsAre vs ns → Vals (ns.map V.int) vs
  | _, _, .nil => .nil
  | _, _, .cons n t h => .cons ⟨t, rfl⟩ (vals_ints h)

/-- nothing is tracked but the script, known to the object (or it is an object of the module) -/
def Only (H : Hp) : Prop := ∀ b, H b = none ∨ ∃ o xs, H b = some (.frz o (.lst xs))

/-- THE HEAD: the law's promise, at the heap behind the top. F, the promise of the law's def, may use that base is part of the heap (so K.In base, base.Ns mainGlobals mg stand in Mod) -/
theorem law_call {P : Program} {w : World} {K : PySem.W.Frag} {mg mb : Str → Option Value} {CX : CXT} {k : Nat} {fa a : Addr} {fd : FuncData} {x : Str} {sp : Sp} {s₁ : Shared} {vs : List Value} {ns : List Int}
    (KX : K.In s₁.heap) (hns : s₁.heap.Ns mainGlobals mg) (hb : s₁.heap.Ns builtinsNs mb) (hbb : ∀ x : Str, x ≠ "__name__" → mb x = bootBuiltins x) (hlim : s₁.heap.NoLimit) (hg : s₁.gens = #[])
    (ha : s₁.heap.get? a = some { cls := .type "list", data := .seq vs.toArray }) (hi : IntsAre vs ns) (hl : ns.length ≤ sizeLine) (hr : Room k callerA)
    (F : ∀ base : Heap, K.In base → base.Ns mainGlobals mg → FnOk P w K mg base CX k fa fd [x] sp) (hbind : ∀ (s : Shared) (u : Value), BindsTo s fd ⟨[u], []⟩ [(x, u)])
    (hsp : ∀ H : Hp, Only H → SqL K H a (ns.map V.int) → sp [.ref a] H (fun v _ => v = .bl true) fun _ _ _ => False)
    (hCX : ∀ H e s', CX [] H s₁ (fun _ _ _ => False) e s' → False) :
    codeAny (model P w) callerA (.call (.ref fa) ⟨[.ref a], []⟩) (fun r s' => r = .ok (.ret (.bool true)) ∧ OldK s₁.heap s'.heap ∧ s'.os = s₁.os ∧ AllBare s'.gens) s₁ := by
  have rv := vals_ints hi
  have lenV := hi.length
  -- from an abstract heap in which nothing but the script may be tracked
  have core : ∀ H : Hp, Only H → SqL K H a (ns.map V.int) → HOk P w H s₁.heap → (∀ b, H b ≠ none → b = a) → (H a ≠ none → K.lookup a = none) →
      codeAny (model P w) callerA (.call (.ref fa) ⟨[.ref a], []⟩) (fun r s' => r = .ok (.ret (.bool true)) ∧ OldK s₁.heap s'.heap ∧ s'.os = s₁.os ∧ AllBare s'.gens) s₁ := by
    intro H hO hS hok hA hK
    have base_of : ∀ {b : Addr} {o : Obj}, s₁.heap.get? b = some o → H b = none → (hidT s₁.heap H).get? b = some o := fun e n => hidT_get e n
    have noA : ∀ {b : Addr} {o : Obj} {es : Array DictEntry} {ep : Nat}, s₁.heap.get? b = some o → o.data = .dict es ep → H b = none := fun {b o es ep} e d => by
      cases q : H b with
      | none => rfl
      | some u =>
        have e' : b = a := hA b (by rw [q]; simp)
        subst e'
        rw [ha] at e; cases e
        have d' : Data.seq vs.toArray _ = Data.dict es ep := d
        cases d'
    have nsK : ∀ {b : Addr} {m : Str → Option Value}, s₁.heap.Ns b m → (hidT s₁.heap H).Ns b m := fun {b m} ⟨o, es, ep, e, d, r⟩ => ⟨o, es, ep, base_of e (noA e d), d, r⟩
    have hKb : K.In (hidT s₁.heap H) := fun b o e => base_of (KX b o e) (by
      cases q : H b with
      | none => rfl
      | some u =>
        have e' : b = a := hA b (by rw [q]; simp)
        subst e'
        rw [hK (by rw [q]; simp)] at e; cases e)
    have hM : Mod K mg (hidT s₁.heap H) := ⟨hKb, nsK hns, ⟨mb, nsK hb, hbb⟩, let ⟨mc, h1, h2⟩ := hlim; ⟨mc, nsK h1, h2⟩⟩
    have e0 : Env0 P w K mg (hidT s₁.heap H) callerA [] s₁ H := ⟨rfl, hM, fun b o e => of_hidT e, Nat.le_of_eq (hidT_size _ _), trivial, fun b hb => absurd (show b ∈ ([] : List Addr) from hb) (by simp), hok, .of_eq hg⟩
    refine codeAny_mono ((F _ hKb (nsK hns)).run callerA [] s₁ H ⟨[.ref a], []⟩ [.ref a] [.ref a] _ _ hr e0 (hbind s₁ (.ref a)) (.cons rfl .nil) (hsp H hO hS)) fun r s' h => ?_
    cases r with
    | error e => exact (hCX H e s' h).elim
    | ok fl =>
      cases fl with
      | next => exact False.elim h
      | brk => exact False.elim h
      | cont => exact False.elim h
      | ret u =>
        obtain ⟨v, H', os, bare, un, hok', r', q⟩ := h
        have q' : v = .bl true := q
        subst q'
        obtain rfl : u = Value.bool true := r'
        refine ⟨rfl, OldK.of_keep fun b o e => ?_, os, bare.1⟩
        cases q : H b with
        | none => exact un.keep b o e q (by intro z; exact absurd (show b ∈ ([] : List Addr) from z) (by simp)) (by simp)
        | some u =>
          rcases hO b with z | ⟨ob, xs, z⟩
          · rw [q] at z; cases z
          · have z2 := un.frzs b ob _ z
            obtain ⟨e1, _⟩ := hok b _ z
            obtain ⟨e2, _⟩ := hok' b _ z2
            rw [e] at e1; cases e1
            exact e2
  cases hk : K.lookup a with
  | some o =>
    -- the script is one of the module's own objects
    have e := KX a o hk
    rw [ha] at e
    cases e
    refine core (fun _ => none) (fun _ => .inl rfl) (.inr ⟨_, vs.toArray, _, hk, rfl, rfl, rfl, by rw [List.size_toArray, lenV]; exact hl, by simpa using rv⟩) (fun b u z => by have z' : (none : Option HO) = some u := z; cases z') (fun b z => absurd rfl z) fun z => absurd rfl z
  | none =>
    refine core (fun b => if b = a then some (.frz { cls := .type "list", data := .seq vs.toArray } (.lst (ns.map V.int))) else none) (fun b => ?_) (.inl (.inr ⟨{ cls := .type "list", data := .seq vs.toArray }, if_pos rfl⟩)) (fun b u z => ?_) (fun b z => ?_) fun _ => hk
    · by_cases hb : b = a
      · exact .inr ⟨_, _, if_pos hb⟩
      · exact .inl (if_neg hb)
    · by_cases hb : b = a
      · have z' := (if_pos hb).symm.trans z
        cases z'
        subst hb
        exact ⟨ha, by rw [List.length_map]; exact hl, vs, _, rv, ha⟩
      · have z' := (if_neg hb).symm.trans z
        cases z'
    · by_cases hb : b = a
      · exact hb
      · exact absurd (if_neg hb) z
end L2

namespace L2
open PySem PySem.Spec PyProof.Rows

abbrev KOf {K : PySem.W.Frag} {h : Heap} (_ : K.In h) : PySem.W.Frag := K

/-- the goal that k_head leaves (case hc), from the law's promise. F gives the function object fd (K's own) once, then the promise over every base -/
theorem walk_of {l : PySem.W.OpenLaw} {n k : Nat} {q : Program} {loose : List Str} {XP : (Str → Option Value) → Heap → Prop} {YP : World → Heap → Prop} {d : DefRec} {K : Params → PySem.W.Frag} {CX : World → CXT} {sp : World → Sp} {x : Str}
    (hn : l.most = some n) (hn2 : n ≤ sizeLine) (hdf : d.params.defaults = []) (hr : Room k callerA)
    (hY : ∀ (w : World) (h : Heap), YP w h → (K w.params).In h)
    (F : ∀ (w : World) (mg : Str → Option Value) (fa : Addr) (h : Heap), (K w.params).In h → h.Ns mainGlobals mg → mg d.name = some (.ref fa) →
      ∃ fd : FuncData, (∀ (s : Shared) (u : Value), BindsTo s fd ⟨[u], []⟩ [(x, u)]) ∧
        ∀ base : Heap, (K w.params).In base → base.Ns mainGlobals mg → FnOk l.prog w (K w.params) mg base (CX w) k fa fd [x] (sp w))
    (hsp : ∀ (w : World) (H : Hp) (a : Addr) (ns : List Int), ns.length ≤ n → Only H → SqL (K w.params) H a (ns.map V.int) → sp w [.ref a] H (fun v _ => v = .bl true) fun _ _ _ => False)
    (hCX : ∀ (w : World) (H : Hp) (s : Shared) (e : Value) (s' : Shared), CX w [] H s (fun _ _ _ => False) e s' → False) :
    PySem.W.WalkO q loose XP YP l.row.toRowW d [] (fun f vs => PySem.call f vs) := by
  refine Att.attach_call hn hdf fun w s₀ s₁ mg mb fa o pm cd doc a vs ns G Y ho hd hcd hmg hobj hints hlen hg => ?_
  have KX := hY w _ Y
  obtain ⟨fd, hb, hF⟩ := F w mg fa _ KX G.T.g hmg
  exact law_call KX G.T.g G.T.b G.T.builtins G.T.nolimit hg hobj hints (Nat.le_trans hlen hn2) hr hF hb (fun H hO hS => hsp w H a ns hlen hO hS) fun H e s' => hCX w H s₁ e s'
/-- the same where the promise hangs on the written part alone: (sp := My.sp_law), no hole under a binder -/
theorem walk_ofK {l : PySem.W.OpenLaw} {n k : Nat} {q : Program} {loose : List Str} {XP : (Str → Option Value) → Heap → Prop} {YP : World → Heap → Prop} {d : DefRec} {K : Params → PySem.W.Frag} {CX : CXT} {sp : PySem.W.Frag → Sp} {x : Str}
    (hn : l.most = some n) (hn2 : n ≤ sizeLine) (hdf : d.params.defaults = []) (hr : Room k callerA)
    (hY : ∀ (w : World) (h : Heap), YP w h → (K w.params).In h)
    (F : ∀ (w : World) (mg : Str → Option Value) (fa : Addr) (h : Heap), (K w.params).In h → h.Ns mainGlobals mg → mg d.name = some (.ref fa) →
      ∃ fd : FuncData, (∀ (s : Shared) (u : Value), BindsTo s fd ⟨[u], []⟩ [(x, u)]) ∧
        ∀ base : Heap, (K w.params).In base → base.Ns mainGlobals mg → FnOk l.prog w (K w.params) mg base CX k fa fd [x] (sp (K w.params)))
    (hsp : ∀ (K : PySem.W.Frag) (H : Hp) (a : Addr) (ns : List Int), ns.length ≤ n → Only H → SqL K H a (ns.map V.int) → sp K [.ref a] H (fun v _ => v = .bl true) fun _ _ _ => False)
    (hCX : ∀ (H : Hp) (s : Shared) (e : Value) (s' : Shared), CX [] H s (fun _ _ _ => False) e s' → False) :
    PySem.W.WalkO q loose XP YP l.row.toRowW d [] (fun f vs => PySem.call f vs) :=
  walk_of (K := K) (CX := fun _ => CX) (sp := fun w => sp (K w.params)) hn hn2 hdf hr hY F (fun w H a ns h1 h2 h3 => hsp (K w.params) H a ns h1 h2 h3) fun _ H s e s' => hCX H s e s'
end L2



/-! SHORT WORDS over the layer: a def of the text, its body, what a loop and a test want. -/
namespace L2
open PySem PySem.Spec PyProof.Rows

/-! ### the text by places -/
/-- the j-th statement of a class's body -/
def inClass (s : Stmt) (j : Nat) : Stmt := match s with
  | .ClassDef _ _ _ body _ _ _ _ _ _ _ => body.getD j (.Pass ⟨0, 0, 0, 0⟩)
  | _ => .Pass ⟨0, 0, 0, 0⟩
def defArgs (s : Stmt) : Arguments := match s with
  | .FunctionDef _ a _ _ _ _ _ _ _ _ => a
  | _ => { posonlyargs := [], args := [], vararg := none, kwonlyargs := [], kw_defaults := [], kwarg := none, defaults := [] }
def defBody (s : Stmt) : List Stmt := match s with
  | .FunctionDef _ _ b _ _ _ _ _ _ _ => b
  | _ => []
def defScope (s : Stmt) : Scope := match s with
  | .FunctionDef _ _ _ _ _ _ sc _ _ _ => sc
  | _ => { kind := .function, names := [], isGenerator := false, isCoroutine := false }

/-! ### no exception leaves a def -/
abbrev CX0 : CXT := fun _ _ _ _ _ _ => False
abbrev E0 : XK := fun _ _ _ => False
theorem pass0 {X : Cx} : Passes CX0 X E0 := fun _ _ _ _ _ _ _ h => h.elim

/-! ### a def (or method) of the text as it stands behind the top -/
structure Fun (K : PySem.W.Frag) (x qual : Str) (st : Stmt) (f : Addr) (fd : FuncData) : Prop where
  ex : ∃ (oc : Value) (od : Option Addr) (kV doc pm : Value) (an : Option Addr) (cdv ct : Value) (osl : Array (Option Value)),
    fd = PySem.W.fnOf x qual (defArgs st) (defBody st) (defScope st) .none kV doc pm an cdv ct ∧ K.lookup f = some ⟨oc, od, .func fd, osl⟩ ∧ PySem.W.codeIn K cdv qual = true
  kp : PySem.W.keepIn K (.ref f) = true
section
variable {P : Program} {w : World} {K : PySem.W.Frag} {mg : Str → Option Value} {base : Heap}
/-- THE RULE for a def: its body as a term of rules, and the reading of that term -/
theorem Fun.ok {x qual : Str} {st : Stmt} {f : Addr} {fd : FuncData} {N ps : List Str} {k : Nat} {sp : Sp} (F : Fun K x qual st f fd) (S : FnScope N ps (defScope st)) (len : ∀ vs H Q E, sp vs H Q E → vs.length = ps.length)
    (hbody : ∀ (cdv : Value) (A : Around) (outer : List Env) (s : Shared) (H : Hp) (vs : List V) (Q : VK) (E : XK), Room k (A.deeper (envOfC qual (defScope st) s.heap.objs.size f cdv)) → sp vs H Q E →
      ∃ t, PSs (cxOf CX0 P w K mg base N qual (defScope st) f cdv A outer s H E).nox (defBody st) t ∧ t { nx := fun _ H' => Q .non H', rt := Q } (start N vs) H) : FnOk P w K mg base CX0 (k + 1) f fd ps sp := by
  obtain ⟨oc, od, kV, doc, pm, an, cdv, ct, osl, rfl, lk, hcd⟩ := F.ex
  refine fn_of lk hcd S len fun A outer s H vs Q E hr hsp => ?_
  obtain ⟨t, h, q⟩ := hbody cdv A outer s H vs Q E hr hsp
  exact ⟨t, h.nox, q⟩
/-- how its arguments bind (no defaults): h is «fun _ _ _ _ _ _ us hl => match us, hl with | [_, _], _ => rfl», one _ a parameter -/
theorem Fun.binds {x qual : Str} {st : Stmt} {f : Addr} {fd : FuncData} {ps : List Str} (F : Fun K x qual st f fd)
    (h : ∀ (kV doc pm : Value) (an : Option Addr) (cdv ct : Value) (us : List Value), us.length = ps.length → bindArgs (PySem.W.fnOf x qual (defArgs st) (defBody st) (defScope st) .none kV doc pm an cdv ct) ⟨us, []⟩ = pure (ps.zip us)) : Binds K fd ps [] := by
  obtain ⟨oc, od, kV, doc, pm, an, cdv, ct, osl, rfl, lk, hcd⟩ := F.ex
  exact .all (h kV doc pm an cdv ct)
theorem fun_mk {x qual : Str} {st : Stmt} {f : Addr} {oc : Value} {od an : Option Addr} {osl : Array (Option Value)} {kV doc pm cdv ct : Value} (l : K.lookup f = some ⟨oc, od, .func (PySem.W.fnOf x qual (defArgs st) (defBody st) (defScope st) .none kV doc pm an cdv ct), osl⟩)
    (c : PySem.W.codeIn K cdv qual = true) (k : PySem.W.keepIn K (.ref f) = true) : Fun K x qual st f (PySem.W.fnOf x qual (defArgs st) (defBody st) (defScope st) .none kV doc pm an cdv ct) := ⟨⟨oc, od, kV, doc, pm, an, cdv, ct, osl, rfl, l, c⟩, k⟩
end
theorem hu_of {A : Around} {k : Nat} (hr : Room k A) : A.units + 1 < cLine := Nat.lt_of_le_of_lt (Nat.add_le_add_left (by decide : 1 ≤ 64) _) hr.units
theorem small1000 {n : Nat} (h : n ≤ 1000) : n < sizeLine := Nat.lt_of_le_of_lt h (by decide)

/-! ### expressions in short: the name that stands in the i-th slot -/
section
variable {X : Cx}
theorem pv (i : Nat) {x : Str} {pos : Pos} (hN : X.N[i]? = some x := by rfl) (hv : Vis X.env.scope x := by first | exact Or.inl rfl | exact Or.inr (Or.inl rfl) | exact Or.inr (Or.inr rfl)) (hd : (x == ("__debug__" : Str)) = false := by decide)
    (hcd : (x == ("__classdict__" : Str)) = false := by decide) : PE X (.Name x pos) (tVar i) := pe_var hN hv hd hcd
end

/-! ### tests -/
theorem iteF {A B : Prop} (h : B) : if false = true then A else B := by
  rw [if_neg Bool.false_ne_true]
  exact h
theorem iteT {A B : Prop} (h : A) : if true = true then A else B := by
  rw [if_pos rfl]
  exact h
theorem ite2 {c A B : Prop} [Decidable c] (h1 : c → A) (h2 : ¬ c → B) : if c then A else B := by
  by_cases h : c
  · rw [if_pos h]
    exact h1 h
  · rw [if_neg h]
    exact h2 h
theorem iteNS {c A B : Prop} [Decidable c] (hc : c) (h : B) : if (!decide c) = true then A else B := by
  rw [decide_eq_true hc]
  exact iteF h

/-! ### heaps -/
/-- all that was tracked is as it was -/
def Same (H H' : Hp) : Prop := ∀ b o, H b = some o → H' b = some o
theorem Same.refl (H : Hp) : Same H H := fun _ _ h => h
theorem Same.trans {H H1 H2 : Hp} (a : Same H H1) (b : Same H1 H2) : Same H H2 := fun c o h => b c o (a c o h)
theorem Same.free {H H' : Hp} (e : Same H H') {l : Addr} (h : H' l = Option.none) : H l = Option.none := by
  cases q : H l with
  | none => rfl
  | some o =>
    rw [e l o q] at h
    cases h
theorem Same.seq {K : PySem.W.Frag} {H H' : Hp} {a : Addr} {xs : List V} (e : Same H H') (h : SqL K H a xs) : SqL K H' a xs := by
  rcases h with (h | ⟨o, h⟩) | h
  · exact .inl (.inl (e _ _ h))
  · exact .inl (.inr ⟨o, e _ _ h⟩)
  · exact .inr h

end L2
end

section
set_option Elab.async false
set_option linter.all false
set_option maxRecDepth 100000
namespace L2
open PySem PySem.Spec PyProof.Rows

/-! ### comprehensions: their scope, their cells -/
theorem forIn_yield_fold {α β : Type} {f : α → β → Sem (ForInStep β)} (g : β → α → β) : ∀ {l : List α} (c : β), (∀ x ∈ l, ∀ c, f x c = pure (.yield (g c x))) → forIn l c f = pure (l.foldl g c)
  | [], _, _ => rfl
  | x :: l, c, h => by
    rw [List.forIn_cons, h x List.mem_cons_self, pure_bind]
    exact forIn_yield_fold g (g c x) fun y hy => h y (List.mem_cons_of_mem _ hy)
def clOf (env : Env) (names : List (Str × NameKind)) : List (Str × Addr) :=
  names.foldl (fun cs y => if y.2 == .free then (y.1, (env.cells.lookup y.1).getD 0) :: cs else cs) []
theorem closure_of {scope : Scope} {env : Env} (h : ∀ y ∈ scope.names, y.2 = .free → ∃ c, env.cells.lookup y.1 = some c) : closureFor scope env = pure (clOf env scope.names) := by
  simp only [closureFor]
  rw [forIn_yield_fold (fun cs y => if y.2 == .free then (y.1, (env.cells.lookup y.1).getD 0) :: cs else cs) [] (fun x hx c => by
    obtain ⟨n, kind⟩ := x
    cases e : (kind == NameKind.free) with
    | false => simp only [e, Bool.false_eq_true, if_false]
    | true =>
      obtain ⟨a, ha⟩ := h (n, kind) hx (by simpa using e)
      have ha' : env.cells.lookup n = some a := ha
      simp only [e, if_true, cellOf, ha', Option.getD_some]
      rfl)]
  rfl
theorem clOf_inv {env : Env} (P : List (Str × Addr) → Prop) : ∀ (names : List (Str × NameKind)) (cs : List (Str × Addr)), P cs → (∀ y ∈ names, ∀ cs, P cs → P (if y.2 == .free then (y.1, (env.cells.lookup y.1).getD 0) :: cs else cs)) →
    P (names.foldl (fun cs y => if y.2 == .free then (y.1, (env.cells.lookup y.1).getD 0) :: cs else cs) cs)
  | [], _, h, _ => h
  | y :: r, cs, h, k => by
    rw [List.foldl_cons]
    exact clOf_inv P r _ (k y List.mem_cons_self cs h) fun z hz => k z (List.mem_cons_of_mem _ hz)
theorem clOf_sub {env : Env} {names : List (Str × NameKind)} (h : ∀ y ∈ names, y.2 = .free → ∃ c, env.cells.lookup y.1 = some c) {n : Str} {c : Addr} (e : (clOf env names).lookup n = some c) : env.cells.lookup n = some c := by
  have q : ∀ n c, (clOf env names).lookup n = some c → env.cells.lookup n = some c := clOf_inv (fun cs => ∀ n c, cs.lookup n = some c → env.cells.lookup n = some c) names [] (fun _ _ z => by simp at z) fun y hy cs ih n c z => by
    cases e : (y.2 == NameKind.free) with
    | false => rw [e] at z; exact ih n c z
    | true =>
      rw [e, if_pos rfl] at z
      obtain ⟨a, ha⟩ := h y hy (by simpa using e)
      rw [ha, Option.getD_some] at z
      rw [List.lookup_cons] at z
      cases e2 : (n == y.1) with
      | false => rw [e2] at z; exact ih n c z
      | true =>
        rw [e2] at z
        have e3 : n = y.1 := by simpa using e2
        rw [e3, ha]
        exact z
  exact q n c e
theorem clOf_has {env : Env} {names : List (Str × NameKind)} {n : Str} (h : (n, NameKind.free) ∈ names) : ∃ c, (clOf env names).lookup n = some c := by
  have gen : ∀ (names : List (Str × NameKind)) (cs : List (Str × Addr)), ((n, NameKind.free) ∈ names ∨ ∃ c, cs.lookup n = some c) → ∃ c, (names.foldl (fun cs y => if y.2 == .free then (y.1, (env.cells.lookup y.1).getD 0) :: cs else cs) cs).lookup n = some c := by
    intro names
    induction names with
    | nil => intro cs z; exact z.elim (fun z => by simp at z) id
    | cons y r ih =>
      intro cs z
      rw [List.foldl_cons]
      refine ih _ ?_
      rcases z with z | ⟨c, z⟩
      · rcases List.mem_cons.mp z with z | z
        · subst z
          exact .inr ⟨(env.cells.lookup n).getD 0, by simp⟩
        · exact .inl z
      · refine .inr ?_
        split
        · rw [List.lookup_cons]
          cases n == y.1 with
          | false => exact ⟨c, z⟩
          | true => exact ⟨_, rfl⟩
        · exact ⟨c, z⟩
  exact gen names [] (.inl h)
theorem lookup_relabel {env : Env} {x : Str} : ∀ {names : List (Str × NameKind)},
    (names.map fun (n, k) => if (k == NameKind.free && env.scope.kind == .function && env.kindOf n == some .cell) then (n, NameKind.cell) else (n, k)).lookup x =
      (names.lookup x).map fun k => if (k == NameKind.free && env.scope.kind == .function && env.kindOf x == some .cell) then NameKind.cell else k
  | [] => rfl
  | (n, k) :: r => by
    have ih := @lookup_relabel env x r
    show List.lookup x ((if (k == NameKind.free && env.scope.kind == .function && env.kindOf n == some .cell) = true then (n, NameKind.cell) else (n, k)) :: _) = _
    cases hx : x == n with
    | true =>
      have e : x = n := by simpa using hx
      subst e
      by_cases hc : (k == NameKind.free && env.scope.kind == .function && env.kindOf x == some .cell) = true
      · rw [if_pos hc]; simp only [List.lookup_cons, beq_self_eq_true, Option.map_some]; rw [if_pos hc]
      · rw [if_neg hc]; simp only [List.lookup_cons, beq_self_eq_true, Option.map_some]; rw [if_neg hc]
    | false =>
      by_cases hc : (k == NameKind.free && env.scope.kind == .function && env.kindOf n == some .cell) = true
      · rw [if_pos hc]; simp only [List.lookup_cons, hx]; exact ih
      · rw [if_neg hc]; simp only [List.lookup_cons, hx]; exact ih
structure CompScope (env : Env) (scope : Scope) : Prop where
  kind : scope.kind = .function
  cell : ∀ y ∈ scope.names, y.2 ≠ .cell
  loc : ∀ y ∈ scope.names, y.2 = .local → scope.names.lookup y.1 = some .local
  free : ∀ y ∈ scope.names, y.2 = .free → env.scope.names.lookup y.1 = some .cell ∨ env.scope.names.lookup y.1 = some .free

/-- the block of a comprehension within X -/
abbrev compCx (X : Cx) (scope : Scope) (Nc : List Str) (C : Addr) (s₂ : Shared) (H₂ : Hp) (ex : List Addr) : Cx where
  prog := X.prog
  w := X.w
  K := X.K
  mg := X.mg
  base := X.base
  A := X.A
  N := Nc
  s₀ := s₂
  H₀ := H₂
  env := compEnvC scope (clOf X.env scope.names) C X.env
  outer := X.stack
  stack := X.stack
  ex := ex
  fn := fun _ => false
  calm := true
  pn := []
  xe := fun _ _ => False

section
variable {X : Cx}
/-- the names' values in the block: its own k names, then some of the def's -/
def compSt (k : Nat) (js : List Nat) (σ : St) : St := List.replicate k none ++ js.map fun j => (σ[j]?).getD none
theorem comp_get {k : Nat} {js : List Nat} {σ : St} {i : Nat} {v : V} (h : (compSt k js σ)[i]? = some (some v)) : ∃ t j, i = k + t ∧ js[t]? = some j ∧ σ[j]? = some (some v) := by
  unfold compSt at h
  by_cases hi : i < k
  · rw [List.getElem?_append_left (by simpa using hi), List.getElem?_replicate, if_pos hi] at h
    cases h
  · rw [List.getElem?_append_right (by simpa using hi), List.length_replicate, List.getElem?_map] at h
    cases e : js[i - k]? with
    | none => rw [e] at h; cases h
    | some j =>
      rw [e] at h
      have h' : (σ[j]?).getD none = some v := Option.some.inj h
      refine ⟨i - k, j, by omega, e, ?_⟩
      cases e2 : σ[j]? with
      | none => rw [e2] at h'; cases h'
      | some o => rw [e2] at h'; exact congrArg some h'
theorem compSt_len {k : Nat} {js : List Nat} {σ : St} : (compSt k js σ).length = k + js.length := by
  unfold compSt
  rw [List.length_append, List.length_replicate, List.length_map]

theorem inv_comp {pins : List (Addr × Obj)} {σ : St} {H : Hp} {s s4 : Shared} {scope : Scope} {Nc : List Str} {k : Nat} {js : List Nat} {C : Addr} {fp : List Addr} (I : Inv X pins σ H s) (hc : X.calm = true) (S : CompScope X.env scope)
    (hjs : (Nc.drop k).map some = js.map (X.N[·]?)) (hfr : ∀ x ∈ Nc.drop k, scope.names.lookup x = some .free) (hk : k ≤ Nc.length)
    (hfp : ∀ b ∈ fp, FpOk X pins H b) (hlt : ∀ b ∈ fp, b < s.heap.objs.size) (hC : s.heap.objs.size ≤ C) (hn : s4.heap.Ns C fun _ => none) (hkeep : ∀ b o, s.heap.get? b = some o → s4.heap.get? b = some o)
    (ho : s4.os = s.os) (hg : s4.gens = s.gens) : Inv (compCx X scope Nc C s H fp) [] (compSt k js σ) H s4 := by
  have fr : ∀ y ∈ scope.names, y.2 = .free → ∃ c, X.env.cells.lookup y.1 = some c := fun y hy e => I.ok.has y.1 (S.free y hy e)
  have kinds : ∀ x, (relabel scope X.env).names.lookup x = some .cell ∨ (relabel scope X.env).names.lookup x = some .free → (x, NameKind.free) ∈ scope.names := fun x hx => by
    have q : (relabel scope X.env).names.lookup x = (scope.names.lookup x).map fun k => if (k == NameKind.free && X.env.scope.kind == .function && X.env.kindOf x == some .cell) then NameKind.cell else k := lookup_relabel
    cases e : scope.names.lookup x with
    | none => rw [q, e] at hx; rcases hx with z | z <;> cases z
    | some kd =>
      have mem := PySem.mem_of_lookup e
      cases kd with
      | free => exact mem
      | cell => exact absurd rfl (S.cell _ mem)
      | _ => rw [q, e] at hx; rcases hx with z | z <;> cases z
  have lenJ : js.length = Nc.length - k := by
    have := congrArg List.length hjs
    simpa using this.symm
  refine ⟨⟨I.ok.mod, S.kind, I.ok.glob, I.ok.blt, hC, fun x y c h1 h2 => I.ok.inj x y c (clOf_sub fr h1) (clOf_sub fr h2), fun x hx => clOf_has (kinds x hx), fun x c z => (by cases z), fun _ => I.ok.hd hc, I.ok.frames, .inl rfl, fun b hb => ⟨?_, fun x c e => ?_⟩, I.bs, Nat.le_trans I.ok.bsz I.sz, fun b o e hb => ?_, fun b hb z => ?_, I.stack, I.stkFree⟩,
    ho, ?_, Un.kept hkeep, ⟨_, hn, fun i x v e1 e2 e3 => ?_⟩, fun x c e => ?_, I.hok.fresh hC, fun x c e => I.freeC x c (clOf_sub fr e), fun p hp => absurd (show p ∈ ([] : List (Addr × Obj)) from hp) (by simp), I.hok.kept hkeep, ?_⟩
  · exact Nat.ne_of_lt (Nat.lt_of_lt_of_le (hlt b hb) hC)
  · exact (hfp b hb).2.2.2.2.1 x c (clOf_sub fr e)
  · rcases (hfp b hb).2.2.2.1 with z | z
    · exact I.ok.noex b o e z
    · exact absurd (Nat.lt_of_lt_of_le (Heap.lt_size e) (Nat.le_trans I.ok.bsz z)) (Nat.lt_irrefl _)
  · rcases List.mem_cons.mp (I.stkSub b z) with z | z
    · exact (hfp b hb).2.1 z
    · exact (hfp b hb).2.2.1 z
  · rw [hg]; exact ⟨I.bare.1, Nat.le_refl _⟩
  · obtain ⟨t, j, rfl, hj, hv⟩ := comp_get e2
    have ex : X.N[j]? = some x := by
      have q := congrArg (fun l => l[t]?) hjs
      simp only [List.getElem?_map, List.getElem?_drop, hj, Option.map_some] at q
      have e1' : Nc[k + t]? = some x := e1
      rw [e1'] at q
      exact (Option.some.inj q).symm
    have hx : scope.names.lookup x = some .free := hfr x (by
      have : (Nc.drop k)[t]? = some x := by rw [List.getElem?_drop]; exact e1
      exact List.mem_of_getElem? this)
    have kx := S.free (x, .free) (PySem.mem_of_lookup hx) rfl
    obtain ⟨m, _, hl⟩ := I.loc
    obtain ⟨u, r, l⟩ := hl j x v ex hv (.inr kx)
    obtain ⟨c', hc'⟩ := clOf_has (env := X.env) (PySem.mem_of_lookup hx)
    have q : (relabel scope X.env).names.lookup x = (scope.names.lookup x).map fun k => if (k == NameKind.free && X.env.scope.kind == .function && X.env.kindOf x == some .cell) then NameKind.cell else k := lookup_relabel
    refine ⟨u, r, .inr ⟨?_, c', hc', ?_⟩⟩
    · show (relabel scope X.env).names.lookup x = some .cell ∨ (relabel scope X.env).names.lookup x = some .free
      rw [q, hx, Option.map_some]
      split
      · exact .inl rfl
      · exact .inr rfl
    · rcases l with ⟨k1, _⟩ | ⟨_, c, hcc, z⟩
      · have k1' : X.env.scope.names.lookup x = some .local := k1
        have kx' : X.env.scope.names.lookup x = some .cell ∨ X.env.scope.names.lookup x = some .free := kx
        rw [k1'] at kx'
        rcases kx' with z | z <;> cases z
      · have e : c = c' := by
          have := clOf_sub fr hc'
          rw [hcc] at this
          exact Option.some.inj this
        subst e
        exact z.keeps hkeep
  · obtain ⟨v, z⟩ := I.cell x c (clOf_sub fr e)
    exact ⟨v, z.keeps hkeep⟩
  · rw [compSt_len]
    show _ = Nc.length
    omega

/-- the tests of a clause -/
def PTs (X : Cx) (ifs : List Expr) (t : TT) : Prop :=
  ∀ (pins : List (Addr × Obj)) (s : Shared) (σ : St) (H : Hp) (Q : Bool → Hp → Prop), Inv X pins σ H s → t σ H Q →
    wpAny (model X.prog X.w) X.A (forIn ifs true fun c r => if r = true then do let ok ← isTrue c X.env (eval c X.env); pure (ForInStep.yield ok) else pure (ForInStep.yield r)) (TP X pins σ Q) X.xe s
def tYes : TT := fun _ H Q => Q true H
theorem pts_nil : PTs X [] tYes := fun _ _ _ H _ I h => wpAny_tests_nil ⟨H, I, h⟩
theorem pts_one {c : Expr} {t : TT} (h : PT X c t) : PTs X [c] t := fun pins s σ H Q I q => wpAny_tests_one (h pins s σ H Q I q)

/-- a target that stores in the first k slots alone -/
def GOwn (k : Nat) (g : TG) : Prop := ∀ x σ H Q, k ≤ σ.length → g x σ H Q → g x σ H fun σ2 H2 => Q σ2 H2 ∧ σ2.length = σ.length ∧ ∀ j, k ≤ j → σ2[j]? = σ[j]?
def GsOwn (k : Nat) (g : TGs) : Prop := ∀ x σ H Q, k ≤ σ.length → g x σ H Q → g x σ H fun σ2 H2 => Q σ2 H2 ∧ σ2.length = σ.length ∧ ∀ j, k ≤ j → σ2[j]? = σ[j]?
theorem gown_name {i k : Nat} (h : i < k) : GOwn k (gName i) := fun x σ H Q _ q => ⟨q, by simp, fun j hj => List.getElem?_set_ne (by omega)⟩
theorem gsown_nil {k : Nat} : GsOwn k gNil := fun x σ H Q _ ⟨e, q⟩ => ⟨e, q, rfl, fun _ _ => rfl⟩
def TGmono (g : TG) : Prop := ∀ x σ H Q Q', (∀ σ2 H2, Q σ2 H2 → Q' σ2 H2) → g x σ H Q → g x σ H Q'
theorem gsown_cons {i k : Nat} {gs : TGs} (h1 : i < k) (h2 : GsOwn k gs) : GsOwn k (gCons (gName i) gs) := by
  rintro x σ H Q hl ⟨v, r, rfl, q⟩
  refine ⟨v, r, rfl, ?_⟩
  show gs r (σ.set i (some v)) H _
  have q' := h2 r (σ.set i (some v)) H Q (by simpa using hl) q
  have e : (fun (σ2 : St) (H2 : Hp) => Q σ2 H2 ∧ σ2.length = (σ.set i (some v)).length ∧ ∀ j, k ≤ j → σ2[j]? = (σ.set i (some v))[j]?) = fun σ2 H2 => Q σ2 H2 ∧ σ2.length = σ.length ∧ ∀ j, k ≤ j → σ2[j]? = σ[j]? := by
    funext σ2 H2
    rw [List.length_set]
    refine congrArg (Q σ2 H2 ∧ ·) (congrArg (σ2.length = σ.length ∧ ·) ?_)
    refine forall_congr fun j => ?_
    refine propext ⟨fun z hj => ?_, fun z hj => ?_⟩
    · rw [z hj, List.getElem?_set_ne (by omega)]
    · rw [z hj, List.getElem?_set_ne (by omega)]
  rw [e] at q'
  exact q'
theorem gown_tup {K : PySem.W.Frag} {n k : Nat} {gs : TGs} (h : GsOwn k gs) : GOwn k (gTup K n gs) := by
  rintro x σ H Q hl ⟨a, xs, rfl, hq, hn, q⟩
  exact ⟨a, xs, rfl, hq, hn, h xs σ H Q hl q⟩

/-- W i m xs H: at turn i (m a measure) the list so far is xs -/
def LComp (J : It) (g : TG) (tt : TT) (te : TE) (σc : St) (Q : VK) (H1 : Hp) : Prop := ∃ W : Nat → Nat → List V → Hp → Prop, (∃ m, W 0 m [] H1) ∧ ∀ i m xs H, W i m xs H →
  (J.stop i H ∧ ∀ p, H p = none → Q (.ref p) (upd H p (.lst xs))) ∨
  (J.go i H ∧ ∀ x H', J.yld i H x H' → g x σc H' fun σ2 H2 => tt σ2 H2 fun b H3 => if b = true then te σ2 H3 fun v H4 => xs.length < sizeLine ∧ ∃ m', m' < m ∧ W (i + 1) m' (xs ++ [v]) H4 else ∃ m', m' < m ∧ W (i + 1) m' xs H3)
def tLComp (k : Nat) (js : List Nat) (wi : TI) (g : TG) (tt : TT) (te : TE) : TE := fun σ H Q => wi σ H fun J H1 => LComp J g tt te (compSt k js σ) Q H1
end
end L2
end

section
set_option Elab.async false
set_option linter.all false
set_option maxRecDepth 100000
namespace L2
open PySem PySem.Spec PyProof.Rows
section
variable {X : Cx}
theorem compLoop_any {prog : Program} {w : World} {A : Around} {R : Result → Shared → Prop} {s : Shared} {elt target iter : Expr} {ifs : List Expr} {scope : Scope} {pos : Pos} {it acc : Value} {env : Env} (I : Nat → Shared → Prop)
    (turn : ∀ n s, I n s → wpAny (model prog w) A (pyNext it) (fun r s₁ => match r with
      | none => R (.ok .next) s₁
      | some v => wpAny (model prog w) A (letOwnedTupleGo target it v) (fun _ s₁' => wpAny (model prog w) A (assign target env v) (fun _ s₂ =>
          wpAny (model prog w) A (forIn ifs true fun c r => if r = true then do let ok ← isTrue c env (eval c env); pure (ForInStep.yield ok) else pure (ForInStep.yield r)) (fun ok s₃ =>
            if ok = true then wpAny (model prog w) A (eval elt env) (fun x s₄ =>
              wpAny (model prog w) A (call (.builtin "list.append") [acc, x]) (fun _ s₅ => ∃ m, m < n ∧ I m s₅) (fun _ _ => False) s₄) (fun _ _ => False) s₃
            else ∃ m, m < n ∧ I m s₃) (fun _ _ => False) s₂) (fun _ _ => False) s₁') (fun _ _ => False) s₁) (fun _ _ => False) s)
    (n : Nat) (h : I n s) :
    codeAny (model prog w) A (.compLoop (.ListComp elt [⟨target, iter, ifs, 0⟩] scope pos) 0 it acc env) R s := by
  refine codeAny_loop rfl I (fun n s hI => ?_) n h
  show wpAny _ A ((compTurn (.ListComp elt [⟨target, iter, ifs, 0⟩] scope pos) 0 it acc env).onRaise (fun x => do noteFrame x env; theTreesLotGoes x)) _ _ s
  refine wpAny_noted ?_
  rw [compTurn_list]
  refine wpAny_bind (wpAny_standAt (wpAny_bind (wpAny_mono (turn n s hI) (fun r s₁ h₁ => ?_) fun _ _ h' => h'.elim)))
  cases r with
  | none => exact wpAny_pure h₁
  | some v =>
    refine wpAny_bind (wpAny_mono h₁ (fun _ s₁' h₁' => ?_) fun _ _ h' => h'.elim)
    refine wpAny_bind (wpAny_mono h₁' (fun _ s₂ h₂ => wpAny_bind (wpAny_mono h₂ (fun ok s₃ h₃ => ?_) fun _ _ h' => h'.elim)) fun _ _ h' => h'.elim)
    cases ok with
    | false => exact wpAny_pure ⟨rfl, h₃⟩
    | true =>
      exact wpAny_bind (wpAny_bind (wpAny_mono h₃ (fun x s₄ h₄ => wpAny_bind (wpAny_mono h₄ (fun _ s₅ h₅ => wpAny_pure (wpAny_pure ⟨rfl, h₅⟩)) fun _ _ h' => h'.elim)) fun _ _ h' => h'.elim))

theorem comp_core {elt tg iter : Expr} {ifs : List Expr} {scope : Scope} {pos : Pos} {Nc : List Str} {k : Nat} {js : List Nat} {wi : TI} {g : TG} {tt : TT} {te : TE} (hc : X.calm = true) (S : CompScope X.env scope)
    (hjs : (Nc.drop k).map some = js.map (X.N[·]?)) (hfr : ∀ x ∈ Nc.drop k, scope.names.lookup x = some .free) (hk : k ≤ Nc.length) (hi : PI X tg iter wi)
    (hg : ∀ C s H ex, PG (compCx X scope Nc C s H ex) tg g) (gk : GOwn k g) (ht : ∀ C s H ex, PTs (compCx X scope Nc C s H ex) ifs tt) (he : ∀ C s H ex, PE (compCx X scope Nc C s H ex) elt te)
    {pins : List (Addr × Obj)} {s : Shared} {σ : St} {H : Hp} {Q : VK} (I : Inv X pins σ H s) (h : tLComp k js wi g tt te σ H Q) :
    wpAny (model X.prog X.w) X.A (eval iter X.env) (fun x s₁ => wpAny (model X.prog X.w) X.A (pyIter x) (fun itv s₂ => wpAny (model X.prog X.w) X.A (newList []) (fun acc s₃ =>
      wpAny (model X.prog X.w) X.A (newFunctionEnv scope X.env.globals (clOf X.env scope.names) [] X.env.qual none .none (some X.env)) (fun cenv s₄ =>
        codeAny (model X.prog X.w) X.A (.compStart (.ListComp elt [⟨tg, iter, ifs, 0⟩] scope pos) 0 itv acc { cenv with scope := relabel scope X.env })
          (fun r s' => ∃ fl D H' m, r = .ok fl ∧ acc = .ref D ∧ Inv X pins σ H' s' ∧ s'.heap.Ns cenv.locals m ∧ FpOk X pins H' cenv.locals ∧ Q (.ref D) H') s₄) X.xe s₃) X.xe s₂) X.xe s₁) X.xe s := by
  refine thn (hi pins s σ H _ I h) fun v s1 h1 => thn h1 fun itv s2 h2 => ?_
  obtain ⟨it, fp, tn, J, H2, e, I2, T, st2, f2, W, ⟨m0, w0⟩, turn⟩ := h2
  subst e
  refine wpAny_newObj_type (wpAny_newFunctionEnv S.cell (by intro y hy; simp at hy) (fun h₁ hns₁ hsb₁ => ?_) S.kind)
  dsimp only at hns₁ hsb₁ ⊢
  generalize hH3 : s2.heap.push { cls := .type "list", dict := none, data := .seq ([] : List Value).toArray } = H3 at hns₁ hsb₁ ⊢
  have hC : H3.objs.size = s2.heap.objs.size + 1 := by rw [← hH3, Heap.size_push]
  generalize eC : H3.objs.size = C at hns₁ hsb₁ hC ⊢
  generalize eD : s2.heap.objs.size = D at hC ⊢
  have hDC : D ≠ C := by omega
  have hle : D ≤ C := by omega
  have hlt' : D < C := by omega
  have hltD : ∀ b o, s2.heap.get? b = some o → b < D := fun b o e => by rw [← eD]; exact Heap.lt_size e
  have keep : ∀ b o, s2.heap.get? b = some o → h₁.get? b = some o := fun b o e => hsb₁.extBut b o (Nat.ne_of_lt (Nat.lt_trans (hltD b o e) hlt')) (Heap.get?_push_of_some _ (hH3 ▸ Heap.get?_push_of_some _ e))
  have hD1 : ∃ nn, h₁.get? D = some { cls := .type "list", data := .seq (([] : List Value).toArray) nn } :=
    ⟨_, hsb₁.extBut _ _ hDC (Heap.get?_push_of_some _ (hH3 ▸ eD ▸ Heap.get?_push_size _ rfl))⟩
  have ltf : ∀ b ∈ fp, b < s2.heap.objs.size := fun b hb => by
    obtain ⟨o, e, _⟩ := T.obj 0 _ st2 b hb
    exact Heap.lt_size e
  have I4 : Inv (compCx X scope Nc C s2 H2 fp) [] (compSt k js σ) H2 { s2 with heap := h₁, toks := s2.toks + ([] : List (Str × Value)).length } :=
    inv_comp (s4 := { s2 with heap := h₁, toks := s2.toks + ([] : List (Str × Value)).length }) I2 hc S hjs hfr hk f2 ltf (by omega) hns₁ keep rfl rfl
  have frz : ∀ y ∈ scope.names, y.2 = .free → ∃ c, X.env.cells.lookup y.1 = some c := fun y hy e => I2.ok.has y.1 (S.free y hy e)
  -- D is apart from all else
  have Dcell : ∀ x c, (clOf X.env scope.names).lookup x = some c → c ≠ D := fun x c e z => by
    obtain ⟨v, q⟩ := I2.cell x c (clOf_sub frz e)
    have l := q.lt
    rw [z, eD] at l
    exact Nat.lt_irrefl _ l
  have Dstk : D ∉ frs X.stack := fun z => by
    rcases List.mem_cons.mp (I2.stkSub D z) with z | z
    · have l := I2.lt
      rw [← z, eD] at l
      exact Nat.lt_irrefl _ l
    · exact I2.nofs (Nat.le_of_eq eD) z
  have Dfp : ∀ b ∈ fp, D ≠ b := fun b hb z => by have l := ltf b hb; rw [← z, eD] at l; exact Nat.lt_irrefl _ l
  have fpok : ∀ {H' : Hp} {o : Obj}, (∀ b ∈ fp, H' b = none) → ∀ b ∈ fp, FpOk (compCx X scope Nc C s2 H2 fp) [(D, o)] H' b := fun {H' o} hn b hb => by
    refine ⟨hn b hb, ?_, ?_, .inl hb, fun x c e => (f2 b hb).2.2.2.2.1 x c (clOf_sub frz e), fun p hp => ?_⟩
    · have l := ltf b hb
      rw [eD] at l
      exact Nat.ne_of_lt (Nat.lt_trans l hlt')
    · intro z
      rcases List.mem_cons.mp (I2.stkSub b z) with z | z
      · exact (f2 b hb).2.1 z
      · exact (f2 b hb).2.2.1 z
    · have e : p = (D, o) := by simpa using hp
      subst e
      exact Dfp b hb
  have loop : codeAny (model X.prog X.w) X.A (.compLoop (.ListComp elt [⟨tg, iter, ifs, 0⟩] scope pos) 0 (.ref it) (.ref D) (compEnvC scope (clOf X.env scope.names) C X.env))
      (fun r s' => ∃ fl D' H' m, r = .ok fl ∧ Value.ref D = .ref D' ∧ Inv X pins σ H' s' ∧ s'.heap.Ns C m ∧ FpOk X pins H' C ∧ Q (.ref D') H') { s2 with heap := h₁, toks := s2.toks + ([] : List (Str × Value)).length } := by
    refine compLoop_any (fun n s' => ∃ (i : Nat) (xs : List V) (H' : Hp) (its : List Value) (nn : Nat), Inv (compCx X scope Nc C s2 H2 fp) [] (compSt k js σ) H' s' ∧ tn i s'.heap ∧ (∀ b ∈ fp, H' b = none) ∧ H' D = none ∧
      s'.heap.get? D = some { cls := .type "list", data := .seq its.toArray nn } ∧ Vals xs its ∧ xs.length ≤ sizeLine ∧ W i n xs H') ?_ m0 ?_
    · rintro n s3 ⟨i, xs, H3', its, nn, I3, st3, fr3, fD3, oD3, rv, hz, w3⟩
      have I3' : Inv (compCx X scope Nc C s2 H2 fp) [(D, { cls := .type "list", data := .seq its.toArray nn })] (compSt k js σ) H3' s3 := I3.pins_of fun p hp => by
        have e : p = (D, { cls := .type "list", data := .seq its.toArray nn }) := by simpa using hp
        subst e
        refine ⟨oD3, fD3, hDC, Dstk, fun v z => ?_⟩
        cases z
      rcases turn i n xs H3' w3 with ⟨stop, qn⟩ | ⟨go, step⟩
      · refine thn (T.done (compCx X scope Nc C s2 H2 fp) rfl rfl rfl rfl i _ s3 (compSt k js σ) H3' _ I3' (fpok fr3) st3 stop) fun r s4 ⟨hr, I5⟩ => ?_
        subst hr
        obtain ⟨oD5, fD5, _⟩ := I5.pin (D, { cls := .type "list", data := .seq its.toArray nn }) (by simp)
        obtain ⟨mC, nC, _⟩ := I5.loc
        have hu : Un (frs X.stack) fp H2 H3' s2.heap s4.heap := I5.base
        have neD : ∀ b o, H3' b = some o → b ≠ D := fun b o e => ne_of_none e fD3
        have neDh : ∀ b o, s2.heap.get? b = some o → b ≠ D := fun b o e => Nat.ne_of_lt (hltD b o e)
        have hok' : HOk X.prog X.w (upd H3' D (.lst xs)) s4.heap := fun b u e => by
          by_cases hb : b = D
          · subst hb
            rw [upd_same] at e
            cases e
            exact ⟨hz, its, nn, rv, oD5⟩
          · rw [upd_ne hb] at e
            exact (I5.hok b u e).stay (fun c v _ q => q) (fun c q => by rw [upd_ne (neD c _ q)]; exact q) fun c ys q => by rw [upd_ne (neD c _ q)]; exact q
        have hu' : Un (frs X.stack) fp H2 (upd H3' D (.lst xs)) s2.heap s4.heap := ⟨hu.keep, hu.slot, fun b o e n hx => by rw [upd_ne (neDh b o e)]; exact hu.free b o e n hx, hu.there,
          fun b ys e => by rw [upd_ne (neD b _ (hu.tups b ys e))]; exact hu.tups b ys e, fun b o u e => by rw [upd_ne (neD b _ (hu.frzs b o u e))]; exact hu.frzs b o u e,
          fun b ps e => by obtain ⟨more, q⟩ := hu.tbls b ps e; exact ⟨more, by rw [upd_ne (neD b _ q)]; exact q⟩⟩
        have IX : Inv X pins σ (upd H3' D (.lst xs)) s4 := I2.call' I5.os hu' hok' I5.bare fun b hb => ⟨(f2 b hb).2.2.2.1, (f2 b hb).2.1, (f2 b hb).2.2.2.2.1, (f2 b hb).2.2.2.2.2⟩
        refine ⟨_, D, _, mC, rfl, rfl, IX, nC, I2.fpOk (by omega) ?_, qn D fD3⟩
        rw [upd_ne (Ne.symm hDC)]
        exact I5.free
      · refine thn (T.item (compCx X scope Nc C s2 H2 fp) rfl rfl rfl rfl i _ s3 (compSt k js σ) H3' _ I3' (fpok fr3) st3 go) fun r s4 ⟨u, hr, h4⟩ => ?_
        subst hr
        refine thn h4 fun _ s5 ⟨x, H5, I5, r5, y5, st5, fr5⟩ => ?_
        have I5' := I5.pinned (fpok fr5) (T.obj _ _ st5)
        have lenS : k ≤ (compSt k js σ).length := by rw [compSt_len]; omega
        refine thn (hg C s2 H2 fp _ s5 (compSt k js σ) H5 x u _ I5' r5 (gk _ _ _ _ lenS (step x H5 y5))) fun _ s6 ⟨σ6, H6, I6, q6, l6, a6⟩ => ?_
        have weak6 : ∀ {H' : Hp} {s' : Shared} {ps : List (Addr × Obj)}, Inv (compCx X scope Nc C s2 H2 fp) ps σ6 H' s' → Inv (compCx X scope Nc C s2 H2 fp) ps (compSt k js σ) H' s' := fun {H' s' ps} I' => I'.weak l6.symm fun j v e => by
          obtain ⟨t, j', rfl, _, _⟩ := comp_get e
          rw [a6 _ (Nat.le_add_right _ _)]
          exact e
        refine thn (ht C s2 H2 fp _ s6 σ6 H6 _ I6 q6) fun b s7 ⟨H7, I7, q7⟩ => ?_
        have pinD : ∀ {H' : Hp} {s' : Shared}, Inv (compCx X scope Nc C s2 H2 fp) ([(D, { cls := .type "list", data := .seq its.toArray nn })] ++ pinsAt fp s5.heap) σ6 H' s' → s'.heap.get? D = some { cls := .type "list", data := .seq its.toArray nn } ∧ H' D = none := fun {H' s'} I' => by
          obtain ⟨e1, e2, _⟩ := I'.pin (D, { cls := .type "list", data := .seq its.toArray nn }) (by simp)
          exact ⟨e1, e2⟩
        have pinF : ∀ {H' : Hp} {s' : Shared}, Inv (compCx X scope Nc C s2 H2 fp) ([(D, { cls := .type "list", data := .seq its.toArray nn })] ++ pinsAt fp s5.heap) σ6 H' s' → (∀ b ∈ fp, ∀ o, s5.heap.get? b = some o → s'.heap.get? b = some o) ∧ ∀ b ∈ fp, H' b = none := fun {H' s'} I' => by
          refine ⟨fun b hb o e => (I'.pin (b, o) (List.mem_append_right _ (List.mem_append_right _ (mem_pinsAt hb e)))).1, fun b hb => ?_⟩
          obtain ⟨o, e, d⟩ := T.obj _ _ st5 b hb
          exact (I'.pin (b, o) (List.mem_append_right _ (List.mem_append_right _ (mem_pinsAt hb e)))).2.1
        cases b with
        | false =>
          obtain ⟨m', hm, w7⟩ := q7
          obtain ⟨d1, d2⟩ := pinD I7
          obtain ⟨p1, p2⟩ := pinF I7
          refine ⟨m', hm, i + 1, xs, H7, its, nn, weak6 (I7.pins_of fun p hp => absurd (show p ∈ ([] : List (Addr × Obj)) from hp) (by simp)), T.keep _ _ _ st5 p1, p2, d2, d1, rv, hz, w7⟩
        | true =>
          refine thn (he C s2 H2 fp _ s7 σ6 H7 _ I7 q7) fun y s8 ⟨vv, H8, I8, r8, hz8, m', hm, w8⟩ => ?_
          obtain ⟨d1, d2⟩ := pinD I8
          obtain ⟨p1, p2⟩ := pinF I8
          refine wpAny_list_append_plain (items := its.toArray) ⟨nn, d1⟩ (fun h' ⟨nn', hp'⟩ hsb => ?_) (by have := rv.length; rw [List.size_toArray]; omega)
          have I8' : Inv (compCx X scope Nc C s2 H2 fp) [] (compSt k js σ) H8 s8 := weak6 (I8.pins_of fun p hp => absurd (show p ∈ ([] : List (Addr × Obj)) from hp) (by simp))
          have I9 : Inv (compCx X scope Nc C s2 H2 fp) [] (compSt k js σ) H8 { s8 with heap := h' } := I8'.turned (it := D) (t' := s8.toks) (fun b o hb e => (hsb.2 b hb).trans e) d2 hDC (.inr (Nat.le_of_eq eD)) (fun x c e => Dcell x c e) fun p hp => absurd (show p ∈ ([] : List (Addr × Obj)) from hp) (by simp)
          refine ⟨m', hm, i + 1, xs ++ [vv], H8, its ++ [y], nn', I9, T.keep _ _ _ st5 (fun b hb o e => (hsb.2 b (Ne.symm (Dfp b hb))).trans (p1 b hb o e)), p2, d2, ?_, rv.append (.cons r8 .nil), ?_, w8⟩
          · rw [← List.push_toArray]
            exact hp'
          · rw [List.length_append, List.length_singleton]
            omega
    · obtain ⟨nn, e⟩ := hD1
      exact ⟨0, [], H2, [], nn, I4, T.keep _ _ _ st2 (fun b _ o e => keep b o e), fun b hb => (f2 b hb).1, I2.hok.fresh (Nat.le_of_eq eD), e, .nil, Nat.zero_le _, w0⟩
  exact codeAny_compStart_list loop (wpAny_mono (T.self _ 0 _ _ (fun _ _ => False) (T.keep _ _ _ st2 fun b _ o e => keep b o e) loop) (fun _ _ q => q) fun _ _ z => z.elim)

/-- [elt for tg in iter if ..] -/
theorem pe_lcomp {elt tg iter : Expr} {ifs : List Expr} {scope : Scope} {pos : Pos} {Nc : List Str} {k : Nat} {js : List Nat} {wi : TI} {g : TG} {tt : TT} {te : TE} (hc : X.calm = true) (S : CompScope X.env scope)
    (hjs : (Nc.drop k).map some = js.map (X.N[·]?)) (hfr : ∀ x ∈ Nc.drop k, scope.names.lookup x = some .free) (hk : k ≤ Nc.length) (hi : PI X tg iter wi)
    (hg : ∀ C s H ex, PG (compCx X scope Nc C s H ex) tg g) (gk : GOwn k g) (ht : ∀ C s H ex, PTs (compCx X scope Nc C s H ex) ifs tt) (he : ∀ C s H ex, PE (compCx X scope Nc C s H ex) elt te)
    (hs : ∀ x, foldedSetIterable iter X.env x = pure x := by intro _; rfl) : PE X (.ListComp elt [⟨tg, iter, ifs, 0⟩] scope pos) (tLComp k js wi g tt te) := by
  intro pins s σ H Q I h
  rw [eval_ListComp]
  refine wpAny_comprehension_free (use := none) rfl hs (closure_of fun y hy e => I.ok.has y.1 (S.free y hy e)) S.kind S.loc (thn (comp_core hc S hjs hfr hk hi hg gk ht he I h) fun x s1 h1 => thn h1 fun itv s2 h2 => thn h2 fun acc s3 h3 => thn h3 fun cenv s4 h4 => codeAny_mono h4 fun r s' hr => ?_)
  obtain ⟨fl, D, H', m, rfl, rfl, I', nC, fC, q⟩ := hr
  refine ⟨m, nC, fun h' sb => ⟨.ref D, H', I'.turned (it := cenv.locals) (t' := s'.toks) (fun b o hb e => (sb.2 b hb).trans e) fC.1 fC.2.1 fC.2.2.2.1 fC.2.2.2.2.1 fC.2.2.2.2.2, rfl, q⟩⟩

/-- x = [elt for tg in iter if ..] -/
theorem ps_setC {elt tg iter : Expr} {ifs : List Expr} {scope : Scope} {cpos pos pos' : Pos} {Nc : List Str} {k : Nat} {js : List Nat} {wi : TI} {g : TG} {tt : TT} {te : TE} {i : Nat} {x : Str} (hN : X.N.Nodup) (hxi : X.N[i]? = some x) (hx : Loc X.env.scope x) (hc : X.calm = true) (S : CompScope X.env scope)
    (hjs : (Nc.drop k).map some = js.map (X.N[·]?)) (hfr : ∀ x ∈ Nc.drop k, scope.names.lookup x = some .free) (hk : k ≤ Nc.length) (hi : PI X tg iter wi)
    (hg : ∀ C s H ex, PG (compCx X scope Nc C s H ex) tg g) (gk : GOwn k g) (ht : ∀ C s H ex, PTs (compCx X scope Nc C s H ex) ifs tt) (he : ∀ C s H ex, PE (compCx X scope Nc C s H ex) elt te)
    (hs : ∀ x, foldedSetIterable iter X.env x = pure x := by intro _; rfl) (hsw : swapsWith (.ListComp elt [⟨tg, iter, ifs, 0⟩] scope cpos) (some (.Name x pos')) pos.line X.env = pure true := by rfl)
    (hf : X.fn x = true ∨ X.env.scope.names.lookup x = some .local := by first | exact .inl rfl | exact .inr rfl | assumption) :
    PS X (.Assign [.Name x pos'] (.ListComp elt [⟨tg, iter, ifs, 0⟩] scope cpos) pos) (tAsg (tLComp k js wi g tt te) (gName i)) := by
  intro pins s σ H D I h
  rw [exec_Assign_Name_used _ _ _ _ hsw]
  refine wpAny_bind (wpAny_standAt (wpAny_bind ?_))
  show wpAny _ X.A (do let _ ← comprehension (.ListComp elt [⟨tg, iter, ifs, 0⟩] scope cpos) scope X.env _ (newList []) false (eval iter X.env) (some (assign (.Name x pos') X.env))) _ _ s
  refine wpAny_bind (wpAny_mono (wpAny_comprehension_free (use := some (assign (.Name x pos') X.env)) (Q := fun _ s' => SP X pins D .next s') rfl hs (closure_of fun y hy e => I.ok.has y.1 (S.free y hy e)) S.kind S.loc
    (thn (comp_core hc S hjs hfr hk hi hg gk ht he I h) fun xv s1 h1 => thn h1 fun itv s2 h2 => thn h2 fun acc s3 h3 => thn h3 fun cenv s4 h4 => codeAny_mono h4 fun r s' hr => ?_)) (fun _ s' hq => wpAny_pure (wpAny_pure hq)) fun _ _ e => e)
  obtain ⟨fl, Dl, H', m, rfl, rfl, I', nC, fC, q⟩ := hr
  show wpAny _ X.A (assign (.Name x pos') X.env (.ref Dl)) _ _ _
  refine wpAny_assign_Name (store_ok2 (v := .ref Dl) I' hN hxi hx rfl (fun s'' I'' ⟨a, sa, ha⟩ => ?_) hf)
  have na : cenv.locals ≠ a := by
    rcases ha with rfl | ha
    · exact fC.2.1
    · exact fun z => fC.2.2.2.2.1 x a ha z.symm
  refine ⟨m, nC.sameBut sa na, fun h' sb => ⟨_, H', I''.turned (it := cenv.locals) (t' := s''.toks) (fun b o hb e => (sb.2 b hb).trans e) fC.1 fC.2.1 fC.2.2.2.1 fC.2.2.2.2.1 fC.2.2.2.2.2, q⟩⟩
end
end L2
end

section
set_option Elab.async false
set_option linter.all false
set_option maxRecDepth 100000
namespace L2
open PySem PySem.Spec PyProof.Rows

/-! ### generator expressions that all() walks -/
abbrev genCx (X : Cx) (scope : Scope) (Nc : List Str) (C : Addr) (code : Value) (e : Expr) (it : Addr) (s₂ : Shared) (H₂ : Hp) (ex : List Addr) : Cx where
  prog := X.prog
  w := X.w
  K := X.K
  mg := X.mg
  base := X.base
  A := (X.A.in1.in1).over (.compLoop e 0 (.ref it) .none (genEnv scope (clOf X.env scope.names) C code builtinsNs X.env)) []
  N := Nc
  s₀ := s₂
  H₀ := H₂
  env := genEnv scope (clOf X.env scope.names) C code builtinsNs X.env
  outer := X.stack
  stack := genEnv scope (clOf X.env scope.names) C code builtinsNs X.env :: X.stack
  ex := ex
  fn := fun _ => false
  calm := true
  pn := []
  xe := fun _ _ => False
section
variable {X : Cx}
theorem Inv.setGens {pins : List (Addr × Obj)} {σ : St} {H : Hp} {s : Shared} {g' : Array GenState} (I : Inv X pins σ H s) (hg : GOk s.gens g') : Inv X pins σ H { s with gens := g' } :=
  ⟨I.ok, I.os, ⟨hg.1, Nat.le_trans I.bare.2 hg.2⟩, I.base, I.loc, I.cell, I.free, I.freeC, I.pin, I.hok, I.len⟩
theorem gok_set {gens : Array GenState} {g : Nat} {x : GenState} (h : AllBare gens) (hx : x.bare = true) : GOk gens (gens.setIfInBounds g x) := by
  refine ⟨fun y hy => ?_, by simp⟩
  rcases Array.mem_or_eq_of_mem_setIfInBounds hy with z | z
  · exact h y z
  · rw [z]; exact hx
theorem genRoom {k : Nat} {A : Around} (r : Room (k + 1) A) {elt : Expr} {gens : List Comprehension} {scope : Scope} {pos : Pos} {it acc : Value} {env : Env} : Room k ((A.in1.in1).over (.compLoop (.GeneratorExp elt gens scope pos) 0 it acc env) []) :=
  ⟨r.hd, by have := r.dp; show A.depth + 0 + 1 + 3 * k + 5 < _; omega, by have := r.un; show A.units + 1 + 1 + 0 + 3 + 16 * k + 200 < _; omega⟩
theorem genFrames {A : Around} {l : List Env} (h : A.frames = some l) {elt : Expr} {gens : List Comprehension} {scope : Scope} {pos : Pos} {it acc : Value} {env : Env} :
    ((A.in1.in1).over (.compLoop (.GeneratorExp elt gens scope pos) 0 it acc env) []).frames = some (env :: l) := by
  show pushEnvs [env] (pushEnvs [] A.frames) = _
  rw [h]
  rfl

structure GenScope (env : Env) (scope : Scope) : Prop where
  kind : scope.kind = .function
  co : scope.isCoroutine = false
  cell : ∀ y ∈ scope.names, y.2 ≠ .cell
  zero : scope.names.lookup (".0" : Str) = some .local
  free : ∀ y ∈ scope.names, y.2 = .free → env.scope.names.lookup y.1 = some .cell ∨ env.scope.names.lookup y.1 = some .free

theorem inv_gen {pins : List (Addr × Obj)} {σ : St} {H : Hp} {s s4 : Shared} {scope : Scope} {Nc : List Str} {k : Nat} {js : List Nat} {C it : Addr} {code : Value} {elt : Expr} {gens : List Comprehension} {pos : Pos} {fp : List Addr} {m0 : Str → Option Value} (I : Inv X pins σ H s) (hc : X.calm = true) (S : GenScope X.env scope)
    (hjs : (Nc.drop k).map some = js.map (X.N[·]?)) (hfr : ∀ x ∈ Nc.drop k, scope.names.lookup x = some .free) (hk : k ≤ Nc.length)
    (hfp : ∀ b ∈ fp, FpOk X pins H b) (hlt : ∀ b ∈ fp, b < s.heap.objs.size) (hC : s.heap.objs.size ≤ C) (hn : s4.heap.Ns C m0) (hkeep : ∀ b o, s.heap.get? b = some o → s4.heap.get? b = some o)
    (ho : s4.os = s.os) (hg : GOk s.gens s4.gens) : Inv (genCx X scope Nc C code (.GeneratorExp elt gens scope pos) it s H fp) [] (compSt k js σ) H s4 := by
  have fr : ∀ y ∈ scope.names, y.2 = .free → ∃ c, X.env.cells.lookup y.1 = some c := fun y hy e => I.ok.has y.1 (S.free y hy e)
  have kinds : ∀ x, scope.names.lookup x = some .cell ∨ scope.names.lookup x = some .free → (x, NameKind.free) ∈ scope.names := fun x hx => by
    rcases hx with e | e
    · exact absurd rfl (S.cell _ (PySem.mem_of_lookup e))
    · exact PySem.mem_of_lookup e
  have lenJ : js.length = Nc.length - k := by
    have := congrArg List.length hjs
    simpa using this.symm
  refine ⟨⟨I.ok.mod, S.kind, I.ok.glob, rfl, hC, fun x y c h1 h2 => I.ok.inj x y c (clOf_sub fr h1) (clOf_sub fr h2), fun x hx => clOf_has (kinds x hx), fun x c z => (by cases z), fun _ => I.ok.hd hc, genFrames I.ok.frames, .inr ⟨rfl, rfl⟩, fun b hb => ⟨?_, fun x c e => ?_⟩, I.bs, Nat.le_trans I.ok.bsz I.sz, fun b o e hb => ?_, fun b hb z => ?_, I.stack, I.stkFree⟩,
    ho, hg, Un.kept hkeep, ⟨_, hn, fun i x v e1 e2 e3 => ?_⟩, fun x c e => ?_, I.hok.fresh hC, fun x c e => I.freeC x c (clOf_sub fr e), fun p hp => absurd (show p ∈ ([] : List (Addr × Obj)) from hp) (by simp), I.hok.kept hkeep, ?_⟩
  · exact Nat.ne_of_lt (Nat.lt_of_lt_of_le (hlt b hb) hC)
  · exact (hfp b hb).2.2.2.2.1 x c (clOf_sub fr e)
  · rcases (hfp b hb).2.2.2.1 with z | z
    · exact I.ok.noex b o e z
    · exact absurd (Nat.lt_of_lt_of_le (Heap.lt_size e) (Nat.le_trans I.ok.bsz z)) (Nat.lt_irrefl _)
  · rcases List.mem_cons.mp (I.stkSub b z) with z | z
    · exact (hfp b hb).2.1 z
    · exact (hfp b hb).2.2.1 z
  · obtain ⟨t, j, rfl, hj, hv⟩ := comp_get e2
    have ex : X.N[j]? = some x := by
      have q := congrArg (fun l => l[t]?) hjs
      simp only [List.getElem?_map, List.getElem?_drop, hj, Option.map_some] at q
      have e1' : Nc[k + t]? = some x := e1
      rw [e1'] at q
      exact (Option.some.inj q).symm
    have hx : scope.names.lookup x = some .free := hfr x (by
      have : (Nc.drop k)[t]? = some x := by rw [List.getElem?_drop]; exact e1
      exact List.mem_of_getElem? this)
    have kx := S.free (x, .free) (PySem.mem_of_lookup hx) rfl
    obtain ⟨m, _, hl⟩ := I.loc
    obtain ⟨u, r, l⟩ := hl j x v ex hv (.inr kx)
    obtain ⟨c', hc'⟩ := clOf_has (env := X.env) (PySem.mem_of_lookup hx)
    refine ⟨u, r, .inr ⟨.inr hx, c', hc', ?_⟩⟩
    rcases l with ⟨k1, _⟩ | ⟨_, c, hcc, z⟩
    · have k1' : X.env.scope.names.lookup x = some .local := k1
      have kx' : X.env.scope.names.lookup x = some .cell ∨ X.env.scope.names.lookup x = some .free := kx
      rw [k1'] at kx'
      rcases kx' with z | z <;> cases z
    · have e : c = c' := by
        have := clOf_sub fr hc'
        rw [hcc] at this
        exact Option.some.inj this
      subst e
      exact z.keeps hkeep
  · obtain ⟨v, z⟩ := I.cell x c (clOf_sub fr e)
    exact ⟨v, z.keeps hkeep⟩
  · rw [compSt_len]
    show _ = Nc.length
    omega

/-- a table of code objects, as the text's own defs have it -/
def TabAt (H : Hp) (P : Addr) (ps : Array Value) : Prop := H P = some (.tbl ps) ∧ TriplesOk ps.toList
theorem Inv.table {pins : List (Addr × Obj)} {σ : St} {H : Hp} {s : Shared} {P : Addr} {ps more : Array Value} {h' : Heap} {t' : Nat} (I : Inv X pins σ H s) (hP : H P = some (.tbl ps)) (hx : Heap.ExtBut P s.heap h') (hp : h'.get? P = some { cls := .none, data := .fields (ps ++ more) }) :
    Inv X pins σ (upd H P (.tbl (ps ++ more))) { s with heap := h', toks := t' } := by
  have ne : ∀ b o, H b = some o → (∀ q, o ≠ .tbl q) → b ≠ P := fun b o e n z => by
    subst z
    rw [hP] at e
    exact n ps (Option.some.inj e).symm
  have ne0 : ∀ b, H b = none → b ≠ P := fun b n z => by subst z; rw [hP] at n; cases n
  refine I.un ⟨fun b o e n _ _ => hx b o (ne0 b n) e, fun b o e n _ _ => ⟨o.slots, hx b o (ne0 b n) e⟩, fun b o e n _ => by rw [upd_ne (ne0 b n)]; exact n, fun b o e _ => ?_, fun b xs e => by rw [upd_ne (ne b _ e (by intro q z; cases z))]; exact e,
    fun b o u e => by rw [upd_ne (ne b _ e (by intro q z; cases z))]; exact e, fun b qs e => ?_⟩ fun b u e => ?_
  · by_cases hb : b = P
    · subst hb; exact ⟨_, hp⟩
    · exact ⟨o, hx b o hb e⟩
  · by_cases hb : b = P
    · subst hb
      rw [hP] at e; cases e
      exact ⟨more, upd_same⟩
    · exact ⟨#[], by rw [upd_ne hb, e]; simp⟩
  · by_cases hb : b = P
    · subst hb
      rw [upd_same] at e; cases e
      exact hp
    · rw [upd_ne hb] at e
      refine (I.hok b u e).stay (fun c v hc q => hx c v ?_ q) (fun c q => by rw [upd_ne (ne c _ q (by intro q z; cases z))]; exact q) fun c ys q => by rw [upd_ne (ne c _ q (by intro q z; cases z))]; exact q
      rcases hc with z | z
      · rw [z]; exact hb
      · exact ne c _ z (by intro q z; cases z)

/-- the code object of the generator expression: found, or made and laid in the table -/
theorem gen_code {pins : List (Addr × Obj)} {σ : St} {H : Hp} {s : Shared} {E : Value → Shared → Prop} {env : Env} {c P : Addr} {ps : Array Value} {pos : Pos} {qualname : Str} {scope : Scope} {Q : Value → Shared → Prop} (I : Inv X pins σ H s) (hc : env.code = .ref c) (hd : PySem.W.CodeHd X.base c P) (hP : TabAt H P ps)
    (hQ : ∀ code s' more, Inv X pins σ (upd H P (.tbl (ps ++ more))) s' → TriplesOk (ps ++ more).toList → s'.gens = s.gens → s'.os = s.os → s.heap.objs.size ≤ s'.heap.objs.size → Heap.ExtBut P s.heap s'.heap → Q code s') : wpAny (model X.prog X.w) X.A (genexprCode env pos qualname scope) Q E s := by
  have hd' : PySem.W.CodeHd s.heap c P := hd.keeps fun b o e => (I.bs b o e).1
  have hop : s.heap.get? P = some (PySem.W.tabObj ps) := I.hok P _ hP.1
  have hcode := hd'.code hop hP.2
  have htab := hd'.tab hop
  cases hnf : codeAmong pos ps.toList with
  | none =>
    refine wpAny_genexprCodeX hc hcode htab hnf fun c' h' tk hx h1 h2 hc3 _ ht3 _ => ?_
    refine hQ _ { s with heap := h', toks := tk } _ (I.table hP.1 hx ht3.2) ?_ rfl rfl (Nat.le_trans h1 (Nat.le_of_lt h2)) hx
    obtain ⟨_, _, _, _, _, _, _, _, _, _, _, _, _, _, _, _, _, _, _, tr, _⟩ := hc3
    exact tr
  | some cv =>
    obtain ⟨o, vs, file, tf, flags, tg, inF, text, tt, op, ho, hdd, h11, h2, h7, h9, h10, hop', hpd, htr, hne⟩ := id hcode
    unfold genexprCode codeAt
    rw [hc, if_neg (show ¬ ((Value.ref c == Value.none) = true) from Bool.false_ne_true)]
    refine wpAny_bind (wpAny_fieldsOf ho hdd ?_)
    rw [h11]
    refine wpAny_bind (wpAny_fieldsOf hop' hpd ?_)
    rw [hnf]
    refine wpAny_pure (hQ cv s #[] ?_ (by simpa using hP.2) rfl rfl (Nat.le_refl _) (Heap.ExtBut.refl _ _))
    have e : upd H P (.tbl (ps ++ #[])) = H := by
      funext b
      by_cases hb : b = P
      · subst hb; rw [upd_same, hP.1]; simp
      · rw [upd_ne hb]
    rw [e]
    exact I
end
end L2
end

section
set_option Elab.async false
set_option linter.all false
set_option maxRecDepth 100000
namespace L2
open PySem PySem.Spec PyProof.Rows

/-- what a generator hands out and how it ends; Fin c: all() may end with c -/
def genR (Fin : Bool → Shared → Prop) : GenEnd := fun _ _ r s₁ => r = .ok .next ∧ Fin true s₁
def genY (Ok : Shared → Prop) (Fin : Bool → Shared → Prop) : Protocol := fun _ _ v s₁ kap => ∃ c, v = .bool c ∧ Ok s₁ ∧ (c = false → Fin false s₁) ∧ (c = true → ∀ gq, GOk s₁.gens gq → kap (.send .none) { s₁ with gens := gq })

section
variable {Xg : Cx} {A : Around} {elt tg iter : Expr} {ifs : List Expr} {scope : Scope} {pos : Pos} {it : Addr} {J : It} {fp : List Addr} {tn : Nat → Heap → Prop} {g : TG} {tt : TT} {te : TE} {k : Nat} {σg : St} {pa : List (Addr × Obj)}
theorem seg_turn (hA : Xg.A = A.over (.compLoop (.GeneratorExp elt [⟨tg, iter, ifs, 0⟩] scope pos) 0 (.ref it) .none Xg.env) []) (hxe : Xg.xe = fun _ _ => False) (hco : Xg.env.scope.isCoroutine = false) (hc : Xg.calm = true)
    (hg : PG Xg tg g) (gk : GOwn k g) (ht : PTs Xg ifs tt) (he : PE Xg elt te) (T : Turn Xg.prog Xg.w Xg.K tg J fp it tn) (hk : k ≤ σg.length) (hown : ∀ (j : Nat) (v : V), σg[j]? = some (some v) → k ≤ j)
    (fpok : ∀ H' : Hp, (∀ b ∈ fp, H' b = none) → ∀ b ∈ fp, FpOk Xg pa H' b) (W : Nat → Nat → Hp → Prop) (Qt : Bool → Hp → Prop)
    (turn : ∀ i m H, W i m H → (J.stop i H ∧ Qt true H) ∨ (J.go i H ∧ ∀ x H', J.yld i H x H' → g x σg H' fun σ2 H2 => tt σ2 H2 fun b H3 => if b = true then te σ2 H3 fun v H4 => ∃ c, v = .bl c ∧ if c = true then ∃ m', m' < m ∧ W (i + 1) m' H4 else Qt false H4 else ∃ m', m' < m ∧ W (i + 1) m' H3)) :
    ∀ (m n : Nat), m < n → ∀ (i : Nat) (H : Hp) (s s₀ : Shared), W i m H → Inv Xg pa σg H s → tn i s.heap → (∀ b ∈ fp, H b = none) →
      Seg (model Xg.prog Xg.w) A (genR fun c s' => ∃ H', Inv Xg pa σg H' s' ∧ Qt c H') (genY (fun s' => ∃ H', Inv Xg pa σg H' s') fun c s' => ∃ H', Inv Xg pa σg H' s' ∧ Qt c H') n s₀
        (.compLoop (.GeneratorExp elt [⟨tg, iter, ifs, 0⟩] scope pos) 0 (.ref it) .none Xg.env) ((model Xg.prog Xg.w).den (.compLoop (.GeneratorExp elt [⟨tg, iter, ifs, 0⟩] scope pos) 0 (.ref it) .none Xg.env)) [] s := by
  intro m
  induction m using Nat.strongRecOn with
  | _ m ih =>
    intro n hmn i H s s₀ w I st hfr
    show Seg _ A _ _ _ s₀ _ ((compTurn (.GeneratorExp elt [⟨tg, iter, ifs, 0⟩] scope pos) 0 (.ref it) .none Xg.env).onRaise (leaving Xg.env)) [] s
    rw [compTurn_gen, Sem.onRaise_eq_wrap]
    refine seg_bind_wrap (wpAny_standAt ?_)
    rcases turn i m H w with ⟨stop, q⟩ | ⟨go, step⟩
    · have d := T.done Xg rfl rfl rfl hc i pa s σg H (fun _ _ => False) I (fpok H hfr) st stop
      rw [hA] at d
      refine seg_bind_wrap (wpAny_mono d (fun r s4 ⟨hr, I5⟩ => ?_) fun _ _ z => z.elim)
      subst hr
      exact seg_end (.ok .next) ⟨rfl, H, I5, q⟩
    · have d := T.item Xg rfl rfl rfl hc i pa s σg H (fun _ _ => False) I (fpok H hfr) st go
      rw [hA] at d
      refine seg_bind_wrap (wpAny_mono d (fun r s4 ⟨u, hr, h4⟩ => ?_) fun _ _ z => z.elim)
      subst hr
      refine seg_bind_wrap (wpAny_mono h4 (fun _ s5 ⟨x, H5, I5, r5, y5, st5, fr5⟩ => ?_) fun _ _ z => z.elim)
      have I5' := I5.pinned (fpok H5 fr5) (T.obj _ _ st5)
      have d2 := hg _ s5 σg H5 x u _ I5' r5 (gk _ _ _ _ hk (step x H5 y5))
      rw [hA, hxe] at d2
      refine seg_bind_wrap (wpAny_mono d2 (fun _ s6 ⟨σ6, H6, I6, q6, l6, a6⟩ => ?_) fun _ _ z => z.elim)
      have back : ∀ {H' : Hp} {s' : Shared}, Inv Xg (pa ++ pinsAt fp s5.heap) σ6 H' s' → Inv Xg pa σg H' s' ∧ tn (i + 1) s'.heap ∧ ∀ b ∈ fp, H' b = none := fun {H' s'} I' => by
        refine ⟨I'.unpinned.weak l6.symm fun j v e => by rw [a6 j (hown j v e)]; exact e, T.keep _ _ _ st5 fun b hb o e => (I'.pin (b, o) (List.mem_append_right _ (List.mem_append_right _ (mem_pinsAt hb e)))).1, fun b hb => ?_⟩
        obtain ⟨o, e, d⟩ := T.obj _ _ st5 b hb
        exact (I'.pin (b, o) (List.mem_append_right _ (List.mem_append_right _ (mem_pinsAt hb e)))).2.1
      have d3 := ht _ s6 σ6 H6 _ I6 q6
      rw [hA, hxe] at d3
      refine seg_bind_wrap (wpAny_mono d3 (fun ok s7 ⟨H7, I7, q7⟩ => ?_) fun _ _ z => z.elim)
      cases ok with
      | false =>
        obtain ⟨m', hm, w7⟩ := q7
        obtain ⟨J1, J2, J3⟩ := back I7
        simp only [Bool.false_eq_true, if_false]
        exact seg_again rfl (ih m' hm n (by omega) (i + 1) H7 s7 s₀ w7 J1 J2 J3)
      | true =>
        simp only [if_true]
        have hy : ∀ v, yieldOut Xg.env v = yieldValue v := fun v => by simp only [yieldOut, hco, Bool.false_eq_true, if_false]
        simp only [hy]
        rw [Sem.bind_eq_wrap', Sem.bind_eq_wrap', Sem.wrap_wrap, Sem.wrap_wrap]
        have d4 := he _ s7 σ6 H7 _ I7 q7
        rw [hA, hxe] at d4
        refine seg_wrap (wpAny_mono d4 (fun y s8 ⟨v, H8, I8, r8, c, e8, q8⟩ => ?_) fun _ _ z => z.elim)
        subst e8
        obtain rfl : y = Value.bool c := r8
        obtain ⟨J1, J2, J3⟩ := back I8
        obtain ⟨n', rfl⟩ : ∃ n', n = n' + 1 := ⟨n - 1, by omega⟩
        refine seg_at (seg_yield rfl rfl rfl ⟨c, rfl, ⟨H8, J1⟩, fun hc0 => ?_, fun hc1 gq hgq => ?_⟩)
        · subst hc0
          exact ⟨H8, J1, q8⟩
        · subst hc1
          obtain ⟨m', hm, w8⟩ := q8
          exact seg_again rfl (ih m' hm n' (by omega) (i + 1) H8 _ _ w8 (J1.setGens hgq) J2 J3)
end

section
variable {prog : Program} {w : World} {A : Around} {a : Addr} {gi : Nat}
theorem all_loop {Ok : Shared → Prop} {Fin : Bool → Shared → Prop} (hh : A.handled = none) (hroom : A.depth < recursionLimit) (hok : ∀ s, Ok s → s.heap.NoLimit ∧ s.heap.IsGen a gi ∧ gi < s.gens.size ∧ AllBare s.gens)
    (hokg : ∀ s gq, Ok s → GOk s.gens gq → Ok { s with gens := gq })
    (hfin : ∀ c s h' gq, Fin c s → GOk s.gens gq → (∀ b o, s.heap.get? b = some o → h'.get? b = some o) → Fin c { s with heap := h', gens := gq }) (hfo : ∀ c s, Fin c s → AllBare s.gens) :
    ∀ (n : Nat) (s : Shared) (gs : GenState), Ok s → s.gens[gi]? = some gs → gs.Goes (model prog w) A.in1.in1 (genR Fin) (genY Ok Fin) n (.send .none) (s.setGen gi .running) →
      codeAny (model prog w) A (.builtin "all.loop" ⟨[.ref a], []⟩) (fun r s' => ∃ c, r = .ok (.ret (.bool c)) ∧ Fin c s') s := by
  intro n
  induction n with
  | zero =>
    intro s gs ok hgs hgo
    obtain ⟨hl, hg, _, hb⟩ := hok s ok
    refine codeAny_builtin F.entry_all_loop ?_
    rw [Around.under_plainId F.plain_all_loop _]
    show wpAny _ A.in1 (pyNext (.ref a) >>= _) _ _ s
    refine wpAny_bind (wpAny_pyNext_genexpQ (A := A.in1) (P := fun _ _ s₁ => Fin true s₁) hh hl hroom hg hgs hgo (fun v s₁ gs' hbr hv => ?_) (fun s₁ hp h' hk => ?_))
    · obtain ⟨c, rfl, ok1, f0, f1⟩ := hv
      cases c with
      | true => exact (f1 rfl s₁.gens ⟨(hok _ ok1).2.2.2, Nat.le_refl _⟩).elim
      | false =>
        refine wpAny_bind (wpAny_holding (wpAny_truthy_bool (wpAny_bind (wpAny_letGo ?_))))
        simp only [Bool.false_eq_true, if_false]
        exact wpAny_bind (wpAny_rule (wpAny_pure ⟨false, rfl, hfin false s₁ s₁.heap _ (f0 rfl) (gok_set (hok _ ok1).2.2.2 hbr) fun _ _ e => e⟩))
    · exact wpAny_bind (wpAny_rule (wpAny_pure ⟨true, rfl, hfin true s₁ h' _ hp (gok_set (hfo _ _ hp) rfl) hk⟩))
  | succ n ih =>
    intro s gs ok hgs hgo
    obtain ⟨hl, hg, _, hb⟩ := hok s ok
    refine codeAny_builtin F.entry_all_loop ?_
    rw [Around.under_plainId F.plain_all_loop _]
    show wpAny _ A.in1 (pyNext (.ref a) >>= _) _ _ s
    refine wpAny_bind (wpAny_pyNext_genexpQ (A := A.in1) (P := fun _ _ s₁ => Fin true s₁) hh hl hroom hg hgs hgo (fun v s₁ gs' hbr hv => ?_) (fun s₁ hp h' hk => ?_))
    · obtain ⟨c, rfl, ok1, f0, f1⟩ := hv
      cases c with
      | true =>
        refine wpAny_bind (wpAny_holding (wpAny_truthy_bool (wpAny_bind (wpAny_letGo ?_))))
        simp only [if_true]
        have g1 : GOk s₁.gens (s₁.gens.setIfInBounds gi gs') := gok_set (hok _ ok1).2.2.2 hbr
        have g2 : (s₁.gens.setIfInBounds gi gs')[gi]? = some gs' := by
          have := (hok _ ok1).2.2.1
          simp [this]
        refine wpAny_pure ⟨plainId_quiet F.plain_all_loop _, ih _ gs' (hokg s₁ _ ok1 g1) g2 ?_⟩
        exact f1 rfl _ (show GOk s₁.gens ((s₁.gens.setIfInBounds gi gs').setIfInBounds gi .running) from ⟨(gok_set g1.1 rfl).1, Nat.le_trans g1.2 (gok_set g1.1 rfl).2⟩)
      | false =>
        refine wpAny_bind (wpAny_holding (wpAny_truthy_bool (wpAny_bind (wpAny_letGo ?_))))
        simp only [Bool.false_eq_true, if_false]
        exact wpAny_bind (wpAny_rule (wpAny_pure ⟨false, rfl, hfin false s₁ s₁.heap _ (f0 rfl) (gok_set (hok _ ok1).2.2.2 hbr) fun _ _ e => e⟩))
    · exact wpAny_bind (wpAny_rule (wpAny_pure ⟨true, rfl, hfin true s₁ h' _ hp (gok_set (hfo _ _ hp) rfl) hk⟩))
end

/-- the module of the built-in names, as a generator expression asks for it -/
def BltMod (mg : Str → Option Value) (base : Heap) : Prop := ∃ bm ob, mg "__builtins__" = some (.ref bm) ∧ bm ≠ builtinsNs ∧ base.get? bm = some ob ∧ ob.cls = .type "module" ∧ ob.dict = some builtinsNs ∧ ob.data = .plain

section
variable {X : Cx}
/-- W i m H: at turn i (m a measure) -/
def AllG (J : It) (g : TG) (tt : TT) (te : TE) (σc : St) (Q : VK) (H1 : Hp) : Prop := ∃ W : Nat → Nat → Hp → Prop, (∃ m, W 0 m H1) ∧ ∀ i m H, W i m H →
  (J.stop i H ∧ Q (.bl true) H) ∨
  (J.go i H ∧ ∀ x H', J.yld i H x H' → g x σc H' fun σ2 H2 => tt σ2 H2 fun b H3 => if b = true then te σ2 H3 fun v H4 => ∃ c, v = .bl c ∧ if c = true then ∃ m', m' < m ∧ W (i + 1) m' H4 else Q (.bl false) H4 else ∃ m', m' < m ∧ W (i + 1) m' H3)
def tAllGen (P : Addr) (k : Nat) (js : List Nat) (wi : TI) (g : TG) (tt : TT) (te : TE) : TE := fun σ H Q => wi σ H fun J H1 => (∃ ps, TabAt H1 P ps) ∧ ∀ ps', TabAt (upd H1 P (.tbl ps')) P ps' → AllG J g tt te (compSt k js σ) Q (upd H1 P (.tbl ps'))

theorem pe_allgen {elt tg iter : Expr} {ifs : List Expr} {scope : Scope} {p pos gpos : Pos} {Nc : List Str} {kk k : Nat} {js : List Nat} {wi : TI} {g : TG} {tt : TT} {te : TE} {c P : Addr} (hr : Room kk X.A) (hc : X.calm = true) (hcode : X.env.code = .ref c) (hd : PySem.W.CodeHd X.base c P) (hbm : BltMod X.mg X.base)
    (hgl : Gl X "all") (hm : X.mg "all" = none) (S : GenScope X.env scope)
    (hjs : (Nc.drop k).map some = js.map (X.N[·]?)) (hfr : ∀ x ∈ Nc.drop k, scope.names.lookup x = some .free) (hk : k ≤ Nc.length) (hi : PI X tg iter wi)
    (hg : ∀ C code it s H ex, PG (genCx X scope Nc C code (.GeneratorExp elt [⟨tg, iter, ifs, 0⟩] scope gpos) it s H ex) tg g) (gk : GOwn k g) (ht : ∀ C code it s H ex, PTs (genCx X scope Nc C code (.GeneratorExp elt [⟨tg, iter, ifs, 0⟩] scope gpos) it s H ex) ifs tt)
    (he : ∀ C code it s H ex, PE (genCx X scope Nc C code (.GeneratorExp elt [⟨tg, iter, ifs, 0⟩] scope gpos) it s H ex) elt te)
    (hs : ∀ x, genFold iter X.env x = pure x := by intro _; rfl) :
    PE X (.Call (.Name "all" p) [.GeneratorExp elt [⟨tg, iter, ifs, 0⟩] scope gpos] [] pos) (tAllGen P k js wi g tt te) := by
  intro pins s σ H Q I h
  refine wpAny_Call_Name_kw (ld_blt I hgl hm boot_all ?_ (by decide) (by decide))
  refine PyProof.Rows.callWith_builtin1 (Q := EP X pins σ Q) (Calls.spliced_cons (wpAny_GeneratorExp_make S.co (closure_of fun y hy e => I.ok.has y.1 (S.free y hy e)) S.cell S.zero S.kind hr.depth ?_ hs)) rfl rfl
  refine thn (hi pins s σ H _ I h) fun v s1 h1 => thn h1 fun itv s2 h2 => ?_
  obtain ⟨it, fp, tn, J, H2, e, I2, T, st2, f2, ⟨ps, tb⟩, rest⟩ := h2
  subst e
  refine ⟨I2.nolimit, gen_code I2 hcode hd tb fun code s3 more I3 tr g3 o3 z3 x3 => ?_⟩
  obtain ⟨bm, ob, b1, b2, b3, b4, b5, b6⟩ := hbm
  refine wpAny_builtinsFor (globals := X.env.globals) (by rw [I3.ok.glob]; exact I3.mod.glob.keeps I3.bk) b1 b2 (I3.bk _ _ b3) b4 b5 b6 ?_
  intro h4 hn4 hs4
  obtain ⟨W, ⟨m0, w0⟩, turn⟩ := rest (ps ++ more) ⟨upd_same, tr⟩
  -- what is apart
  have neP : ∀ b ∈ fp, b ≠ P := fun b hb z => by
    have := (f2 b hb).1
    rw [z, tb.1] at this
    cases this
  have f3 : ∀ b ∈ fp, FpOk X pins (upd H2 P (.tbl (ps ++ more))) b := fun b hb => ⟨by rw [upd_ne (neP b hb)]; exact (f2 b hb).1, (f2 b hb).2⟩
  have st3 : tn 0 s3.heap := T.keep _ _ _ st2 fun b hb o e => x3 b o (neP b hb) e
  have lt3 : ∀ b ∈ fp, b < s3.heap.objs.size := fun b hb => by
    obtain ⟨o, e, _⟩ := T.obj 0 _ st3 b hb
    exact Heap.lt_size e
  have keep4 : ∀ b o, s3.heap.get? b = some o → h4.get? b = some o := fun b o e => hs4.extBut b o (Nat.ne_of_lt (Heap.lt_size e)) (Heap.get?_push_of_some _ e)
  have sz4 : h4.objs.size = s3.heap.objs.size + 1 := by rw [hs4.1, Heap.size_push]
  generalize eG : s3.gens.push (.fresh (.compStart (.GeneratorExp elt [⟨tg, iter, ifs, 0⟩] scope gpos) 0 (.ref it) .none (genEnv scope (clOf X.env scope.names) s3.heap.objs.size code builtinsNs X.env))) = gens5
  have gok5 : GOk s3.gens gens5 := by
    rw [← eG]
    exact ⟨I3.bare.1.push rfl, by simp⟩
  have I3' : Inv X pins σ (upd H2 P (.tbl (ps ++ more))) { s3 with gens := gens5 } := I3.setGens gok5
  generalize eO : ({ cls := .type "generator", data := .fields #[.int s3.gens.size 0, .str "<genexpr>" (s3.toks + 1), .str (X.env.qual ++ "<genexpr>") (s3.toks + 1 + 1)] } : Obj) = gobj
  have keep5 : ∀ b o, h4.get? b = some o → (h4.push gobj).get? b = some o := fun b o e => Heap.get?_push_of_some _ e
  have I5 : Inv (genCx X scope Nc s3.heap.objs.size code (.GeneratorExp elt [⟨tg, iter, ifs, 0⟩] scope gpos) it { s3 with gens := gens5 } (upd H2 P (.tbl (ps ++ more))) fp) [] (compSt k js σ) (upd H2 P (.tbl (ps ++ more)))
      { s3 with gens := gens5, toks := s3.toks + 1 + 1 + 1, heap := h4.push gobj } :=
    inv_gen (s := { s3 with gens := gens5 }) (s4 := { s3 with gens := gens5, toks := s3.toks + 1 + 1 + 1, heap := h4.push gobj }) I3' hc S hjs hfr hk f3 lt3 (Nat.le_refl _) (hn4.push _) (fun b o e => keep5 b o (keep4 b o e)) rfl ⟨gok5.1, Nat.le_refl _⟩
  -- the generator's object is pinned
  have aC : h4.objs.size ≠ s3.heap.objs.size := by omega
  have aS : s3.heap.objs.size ≤ h4.objs.size := by omega
  have aF : h4.objs.size ∉ frs X.stack := fun z => by
    rcases List.mem_cons.mp (I3.stkSub _ z) with z | z
    · have l := I3.lt
      rw [← z] at l
      exact absurd (Nat.lt_of_lt_of_le l aS) (Nat.lt_irrefl _)
    · exact I3.nofs aS z
  have aH : (upd H2 P (.tbl (ps ++ more))) h4.objs.size = none := I3.hok.fresh aS
  have I6 : Inv (genCx X scope Nc s3.heap.objs.size code (.GeneratorExp elt [⟨tg, iter, ifs, 0⟩] scope gpos) it { s3 with gens := gens5 } (upd H2 P (.tbl (ps ++ more))) fp) [(h4.objs.size, gobj)] (compSt k js σ) (upd H2 P (.tbl (ps ++ more)))
      { s3 with gens := gens5, toks := s3.toks + 1 + 1 + 1, heap := h4.push gobj } := I5.pins_of fun q hq => by
    have e : q = (h4.objs.size, gobj) := by simpa using hq
    subst e
    refine ⟨Heap.get?_push_size _ (by rw [← eO]; rfl), aH, aC, aF, fun v z => ?_⟩
    rw [← eO] at z
    cases z
  have afp : ∀ b ∈ fp, h4.objs.size ≠ b := fun b hb z => by have := lt3 b hb; rw [← z] at this; exact absurd (Nat.lt_of_lt_of_le this aS) (Nat.lt_irrefl _)
  have frz : ∀ y ∈ scope.names, y.2 = .free → ∃ c, X.env.cells.lookup y.1 = some c := fun y hy e => I2.ok.has y.1 (S.free y hy e)
  have fpok : ∀ H' : Hp, (∀ b ∈ fp, H' b = none) → ∀ b ∈ fp, FpOk (genCx X scope Nc s3.heap.objs.size code (.GeneratorExp elt [⟨tg, iter, ifs, 0⟩] scope gpos) it { s3 with gens := gens5 } (upd H2 P (.tbl (ps ++ more))) fp) [(h4.objs.size, gobj)] H' b := fun H' hn b hb => by
    refine ⟨hn b hb, Nat.ne_of_lt (lt3 b hb), fun z => ?_, .inl hb, fun x c e => (f2 b hb).2.2.2.2.1 x c (clOf_sub frz e), fun q hq => ?_⟩
    · rcases List.mem_cons.mp (I2.stkSub b z) with z | z
      · exact (f2 b hb).2.1 z
      · exact (f2 b hb).2.2.1 z
    · have e : q = (h4.objs.size, gobj) := by simpa using hq
      subst e
      exact afp b hb
  have lenS : k ≤ (compSt k js σ).length := by rw [compSt_len]; omega
  have own : ∀ (j : Nat) (v : V), (compSt k js σ)[j]? = some (some v) → k ≤ j := fun j v e => by
    obtain ⟨t, j', rfl, _⟩ := comp_get e
    omega
  have seg := seg_turn (Xg := genCx X scope Nc s3.heap.objs.size code (.GeneratorExp elt [⟨tg, iter, ifs, 0⟩] scope gpos) it { s3 with gens := gens5 } (upd H2 P (.tbl (ps ++ more))) fp) (A := X.A.in1.in1) rfl rfl S.co rfl (hg _ _ _ _ _ _) gk (ht _ _ _ _ _ _) (he _ _ _ _ _ _) T lenS own fpok W (fun c H' => Q (.bl c) H') turn
  have hh : X.A.handled = none := I.ok.hd hc
  -- the end
  refine Calls.spliced_nil (call_function_tree F.kind_all F.plain_all F.entry_all (F.args_all1 _) ?_)
  unfold Builtin.«all»
  refine wpAny_bind (m := oneArg "all" _) (wpAny_pure ?_)
  have hIsGen : (h4.push gobj).IsGen h4.objs.size s3.gens.size := ⟨gobj, _, _, Heap.get?_push_size _ (by rw [← eO]; rfl), by rw [← eO], by rw [← eO], by rw [← eO]⟩
  refine wpAny_bind (wpAny_pyIter_gen hIsGen ?_)
  refine wpAny_pure ⟨plainId_quiet F.plain_all_loop _, ?_⟩
  have g5lt : s3.gens.size < gens5.size := by rw [← eG]; simp
  refine codeAny_mono (all_loop (gi := s3.gens.size) (Ok := fun s' => ∃ H', Inv (genCx X scope Nc s3.heap.objs.size code (.GeneratorExp elt [⟨tg, iter, ifs, 0⟩] scope gpos) it { s3 with gens := gens5 } (upd H2 P (.tbl (ps ++ more))) fp) [(h4.objs.size, gobj)] (compSt k js σ) H' s')
    (Fin := fun c s' => ∃ H', Inv (genCx X scope Nc s3.heap.objs.size code (.GeneratorExp elt [⟨tg, iter, ifs, 0⟩] scope gpos) it { s3 with gens := gens5 } (upd H2 P (.tbl (ps ++ more))) fp) [(h4.objs.size, gobj)] (compSt k js σ) H' s' ∧ Q (.bl c) H') hh hr.depth ?_ ?_ ?_ ?_ (m0 + 1) _
      (.fresh (.compStart (.GeneratorExp elt [⟨tg, iter, ifs, 0⟩] scope gpos) 0 (.ref it) .none (genEnv scope (clOf X.env scope.names) s3.heap.objs.size code builtinsNs X.env))) ⟨_, I6⟩ ?_ ⟨rfl, ?_⟩) ?_
  · rintro s' ⟨H', I'⟩
    obtain ⟨p1, _⟩ := I'.pin (h4.objs.size, gobj) (by simp)
    exact ⟨I'.nolimit, ⟨gobj, _, _, p1, by rw [← eO], by rw [← eO], by rw [← eO]⟩, Nat.lt_of_lt_of_le g5lt I'.bare.2, I'.bare.1⟩
  · rintro s' gq ⟨H', I'⟩ hq
    exact ⟨H', I'.setGens hq⟩
  · rintro c' s' h' gq ⟨H', I', q'⟩ hq hk'
    exact ⟨H', (I'.kept (t' := s'.toks) hk').setGens hq, q'⟩
  · rintro c' s' ⟨H', I', _⟩
    exact I'.bare.1
  · rw [← eG]
    exact Array.getElem?_push_size ..
  · -- its start
    have gset : GOk gens5 (gens5.setIfInBounds s3.gens.size .running) := gok_set gok5.1 rfl
    have I7 := I6.setGens (g' := gens5.setIfInBounds s3.gens.size .running) gset
    have loop := seg m0 (m0 + 1) (Nat.lt_succ_self _) 0 (upd H2 P (.tbl (ps ++ more))) _ ({ s3 with gens := gens5, toks := s3.toks + 1 + 1 + 1, heap := h4.push gobj }.setGen s3.gens.size .running) w0 I7 (T.keep _ _ _ st3 fun b _ o e => keep5 b o (keep4 b o e)) fun b hb => (f3 b hb).1
    show Seg _ X.A.in1.in1 _ _ _ _ _ ((compStart (.GeneratorExp elt [⟨tg, iter, ifs, 0⟩] scope gpos) 0 (.ref it) .none (genEnv scope (clOf X.env scope.names) s3.heap.objs.size code builtinsNs X.env)).onRaise (leaving _)) [] _
    unfold compStart
    rw [Sem.onRaise_eq_wrap]
    show Seg _ X.A.in1.in1 _ _ _ _ _ ((ask >>= _).wrap _ _ _ _) [] _
    refine seg_bind_wrap (wpAny_askSetting ?_)
    have self : ∀ (A' : Around) (Q' : Value → Shared → Prop) (E' : Value → Shared → Prop) (s' : Shared), tn 0 s'.heap → Q' (.ref it) s' → wpAny (model X.prog X.w) A' (pyIter (.ref it)) Q' E' s' := fun A' Q' E' s' st q => T.self A' 0 s' Q' E' st q
    split
    · exact seg_again rfl loop
    · first
        | exact seg_bind_wrap (wpAny_rule (seg_bind_wrap (wpAny_standAt (seg_bind_wrap (self _ _ _ _ (T.keep _ _ _ st3 fun b _ o e => keep5 b o (keep4 b o e)) (seg_again rfl loop))))))
        | (refine seg_bind_wrap (wpAny_rule ?_); show Seg _ X.A.in1.in1 _ _ _ _ _ ((standAt iter.pos >>= _).wrap _ _ _ _) [] _; exact seg_bind_wrap (wpAny_standAt (seg_bind_wrap (self _ _ _ _ (T.keep _ _ _ st3 fun b _ o e => keep5 b o (keep4 b o e)) (seg_again rfl loop)))))
  · rintro r s' ⟨c', rfl, H', I', q'⟩
    have hu : Un (frs X.stack) fp (upd H2 P (.tbl (ps ++ more))) H' s3.heap s'.heap := I'.base
    exact ⟨.bl c', H', I3'.call' I'.os hu I'.hok I'.bare fun b hb => ⟨(f3 b hb).2.2.2.1, (f3 b hb).2.1, (f3 b hb).2.2.2.2.1, (f3 b hb).2.2.2.2.2⟩, rfl, q'⟩
end
end L2
end

section
set_option Elab.async false
set_option linter.all false
set_option maxRecDepth 100000
namespace L2
open PySem PySem.Spec PyProof.Rows

/-! ### deep data in the abstract heap; no part of it at an address of ex -/
mutual
def IsD (ex : List Addr) (H : Hp) : PyData → V → Prop
  | .none, v => v = .non
  | .bool b, v => v = .bl b
  | .int i, v => v = .int i
  | .str x, v => v = .str x
  | .tuple ds, v => ∃ a vs, v = .ref a ∧ a ∉ ex ∧ H a = some (.tup vs) ∧ IsDs ex H ds vs
  | .list ds, v => ∃ a vs, v = .ref a ∧ a ∉ ex ∧ H a = some (.lst vs) ∧ IsDs ex H ds vs
  | .dict _, _ => False
def IsDs (ex : List Addr) (H : Hp) : List PyData → List V → Prop
  | [], vs => vs = []
  | d :: ds, vs => ∃ v r, vs = v :: r ∧ IsD ex H d v ∧ IsDs ex H ds r
end

/-- H' has all of H but what stands at ex; tables may have grown -/
structure Ext (ex : List Addr) (H H' : Hp) : Prop where
  old : ∀ b o, b ∉ ex → H b = some o → (∀ ps, o ≠ .tbl ps) → H' b = some o
  tab : ∀ b ps, b ∉ ex → H b = some (.tbl ps) → ∃ ps', H' b = some (.tbl ps') ∧ (TriplesOk ps.toList → TriplesOk ps'.toList)
theorem Ext.refl {ex : List Addr} {H : Hp} : Ext ex H H := ⟨fun _ _ _ h _ => h, fun _ ps _ h => ⟨ps, h, id⟩⟩
theorem Ext.trans {ex : List Addr} {H H1 H2 : Hp} (a : Ext ex H H1) (b : Ext ex H1 H2) : Ext ex H H2 :=
  ⟨fun c o hc h n => b.old c o hc (a.old c o hc h n) n, fun c ps hc h => by
    obtain ⟨p1, h1, t1⟩ := a.tab c ps hc h
    obtain ⟨p2, h2, t2⟩ := b.tab c p1 hc h1
    exact ⟨p2, h2, fun z => t2 (t1 z)⟩⟩
theorem Ext.mono {ex ex' : List Addr} {H H' : Hp} (a : Ext ex H H') (h : ∀ b ∈ ex, b ∈ ex') : Ext ex' H H' := ⟨fun c o hc => a.old c o fun z => hc (h c z), fun c ps hc => a.tab c ps fun z => hc (h c z)⟩
theorem Ext.free {ex : List Addr} {H H' : Hp} (a : Ext ex H H') {l : Addr} (hx : l ∉ ex) (h : H' l = none) : H l = none := by
  cases q : H l with
  | none => rfl
  | some o =>
    cases o with
    | tbl ps =>
      obtain ⟨p', h', _⟩ := a.tab l ps hx q
      rw [h] at h'; cases h'
    | _ => rw [a.old l _ hx q (by intro ps z; cases z)] at h; cases h
theorem Ext.new {ex : List Addr} {H : Hp} {p : Addr} (h : H p = none) (o : HO) : Ext ex H (upd H p o) :=
  ⟨fun b u _ q _ => by rw [upd_ne (ne_of_none q h)]; exact q, fun b ps _ q => ⟨ps, by rw [upd_ne (ne_of_none q h)]; exact q, id⟩⟩
theorem Ext.put {ex : List Addr} {H : Hp} {p : Addr} (h : p ∈ ex) (o : HO) : Ext ex H (upd H p o) :=
  ⟨fun b u hb q _ => by rw [upd_ne (fun z : b = p => hb (z ▸ h))]; exact q, fun b ps hb q => ⟨ps, by rw [upd_ne (fun z : b = p => hb (z ▸ h))]; exact q, id⟩⟩
theorem Ext.tbl {ex : List Addr} {H : Hp} {p : Addr} {ps ps' : Array Value} (h : H p = some (.tbl ps)) (t : TriplesOk ps'.toList) : Ext ex H (upd H p (.tbl ps')) := by
  refine ⟨fun b u _ q n => ?_, fun b qs _ q => ?_⟩
  · rw [upd_ne]
    · exact q
    · rintro rfl
      rw [h] at q
      exact n ps (Option.some.inj q).symm
  · by_cases hb : b = p
    · subst hb
      exact ⟨ps', upd_same, fun _ => t⟩
    · exact ⟨qs, by rw [upd_ne hb]; exact q, id⟩
theorem Ext.lst {ex : List Addr} {H H' : Hp} (a : Ext ex H H') {p : Addr} {xs : List V} (hp : p ∉ ex) (h : H p = some (.lst xs)) : H' p = some (.lst xs) := a.old p _ hp h (by intro ps z; cases z)
theorem Ext.tup {ex : List Addr} {H H' : Hp} (a : Ext ex H H') {p : Addr} {xs : List V} (hp : p ∉ ex) (h : H p = some (.tup xs)) : H' p = some (.tup xs) := a.old p _ hp h (by intro ps z; cases z)
theorem Ext.sql {K : PySem.W.Frag} {ex : List Addr} {H H' : Hp} (a : Ext ex H H') {p : Addr} {xs : List V} (hp : p ∉ ex) (h : SqL K H p xs) : SqL K H' p xs := by
  rcases h with (h | ⟨o, h⟩) | h
  · exact .inl (.inl (a.lst hp h))
  · exact .inl (.inr ⟨o, a.old p _ hp h (by intro ps z; cases z)⟩)
  · exact .inr h

/-- the tables at ts -/
def Tb (ts : List Addr) (H : Hp) : Prop := ∀ P ∈ ts, ∃ ps, TabAt H P ps
theorem Ext.tb {ex ts : List Addr} {H H' : Hp} (a : Ext ex H H') (h : Tb ts H) (hx : ∀ P ∈ ts, P ∉ ex) : Tb ts H' := fun P hP => by
  obtain ⟨ps, h1, h2⟩ := h P hP
  obtain ⟨ps', q1, q2⟩ := a.tab P ps (hx P hP) h1
  exact ⟨ps', q1, q2 h2⟩

mutual
theorem IsD.ext {ex : List Addr} {H H' : Hp} (e : Ext ex H H') : ∀ {d : PyData} {v : V}, IsD ex H d v → IsD ex H' d v
  | .none, _, h => h
  | .bool _, _, h => h
  | .int _, _, h => h
  | .str _, _, h => h
  | .tuple ds, v, h => by
    obtain ⟨a, vs, h1, h2, h3, h4⟩ := h
    exact ⟨a, vs, h1, h2, e.tup h2 h3, IsDs.ext e h4⟩
  | .list ds, v, h => by
    obtain ⟨a, vs, h1, h2, h3, h4⟩ := h
    exact ⟨a, vs, h1, h2, e.lst h2 h3, IsDs.ext e h4⟩
  | .dict _, _, h => h.elim
theorem IsDs.ext {ex : List Addr} {H H' : Hp} (e : Ext ex H H') : ∀ {ds : List PyData} {vs : List V}, IsDs ex H ds vs → IsDs ex H' ds vs
  | [], _, h => h
  | d :: ds, vs, h => by
    obtain ⟨v, r, h1, h2, h3⟩ := h
    exact ⟨v, r, h1, IsD.ext e h2, IsDs.ext e h3⟩
end
mutual
theorem IsD.less {ex ex' : List Addr} {H : Hp} (e : ∀ b ∈ ex', b ∈ ex) : ∀ {d : PyData} {v : V}, IsD ex H d v → IsD ex' H d v
  | .none, _, h => h
  | .bool _, _, h => h
  | .int _, _, h => h
  | .str _, _, h => h
  | .tuple ds, v, h => by
    obtain ⟨a, vs, h1, h2, h3, h4⟩ := h
    exact ⟨a, vs, h1, fun z => h2 (e a z), h3, IsDs.less e h4⟩
  | .list ds, v, h => by
    obtain ⟨a, vs, h1, h2, h3, h4⟩ := h
    exact ⟨a, vs, h1, fun z => h2 (e a z), h3, IsDs.less e h4⟩
  | .dict _, _, h => h.elim
theorem IsDs.less {ex ex' : List Addr} {H : Hp} (e : ∀ b ∈ ex', b ∈ ex) : ∀ {ds : List PyData} {vs : List V}, IsDs ex H ds vs → IsDs ex' H ds vs
  | [], _, h => h
  | d :: ds, vs, h => by
    obtain ⟨v, r, h1, h2, h3⟩ := h
    exact ⟨v, r, h1, IsD.less e h2, IsDs.less e h3⟩
end
theorem IsDs.get {ex : List Addr} {H : Hp} : ∀ {ds : List PyData} {vs : List V} {i : Nat} {d : PyData}, IsDs ex H ds vs → ds[i]? = some d → ∃ v, vs[i]? = some v ∧ IsD ex H d v
  | [], _, _, _, _, e => by simp at e
  | d :: ds, vs, 0, d', h, e => by
    obtain ⟨v, r, rfl, h2, h3⟩ := h
    simp at e
    subst e
    exact ⟨v, rfl, h2⟩
  | d :: ds, vs, i + 1, d', h, e => by
    obtain ⟨v, r, rfl, h2, h3⟩ := h
    obtain ⟨w, h4, h5⟩ := IsDs.get (i := i) h3 (by simpa using e)
    exact ⟨w, by simpa using h4, h5⟩
theorem IsDs.length {ex : List Addr} {H : Hp} : ∀ {ds : List PyData} {vs : List V}, IsDs ex H ds vs → vs.length = ds.length
  | [], _, h => by cases h; rfl
  | d :: ds, vs, h => by
    obtain ⟨v, r, rfl, h2, h3⟩ := h
    simp [IsDs.length h3]
theorem IsDs.append {ex : List Addr} {H : Hp} : ∀ {ds es : List PyData} {vs ws : List V}, IsDs ex H ds vs → IsDs ex H es ws → IsDs ex H (ds ++ es) (vs ++ ws)
  | [], _, _, _, h, h' => by cases h; exact h'
  | d :: ds, es, vs, ws, h, h' => by
    obtain ⟨v, r, rfl, h2, h3⟩ := h
    exact ⟨v, r ++ ws, rfl, h2, IsDs.append h3 h'⟩
theorem IsDs.take {ex : List Addr} {H : Hp} : ∀ {ds : List PyData} {vs : List V} (n : Nat), IsDs ex H ds vs → IsDs ex H (ds.take n) (vs.take n)
  | [], _, n, h => by cases h; simp [IsDs]
  | d :: ds, vs, 0, h => by simp [IsDs]
  | d :: ds, vs, n + 1, h => by
    obtain ⟨v, r, rfl, h2, h3⟩ := h
    exact ⟨v, r.take n, rfl, h2, IsDs.take n h3⟩
theorem IsDs.drop {ex : List Addr} {H : Hp} : ∀ {ds : List PyData} {vs : List V} (n : Nat), IsDs ex H ds vs → IsDs ex H (ds.drop n) (vs.drop n)
  | [], _, n, h => by cases h; simp [IsDs]
  | d :: ds, vs, 0, h => h
  | d :: ds, vs, n + 1, h => by
    obtain ⟨v, r, rfl, h2, h3⟩ := h
    exact IsDs.drop n h3
theorem IsDs.strs {ex : List Addr} {H : Hp} : ∀ (xs : List Str), IsDs ex H (xs.map .str) (xs.map .str)
  | [] => rfl
  | x :: xs => ⟨_, _, rfl, rfl, IsDs.strs xs⟩
theorem IsDs.strs_of {ex : List Addr} {H : Hp} : ∀ {xs : List Str} {vs : List V}, IsDs ex H (xs.map .str) vs → vs = xs.map .str
  | [], _, h => h
  | x :: xs, vs, h => by
    obtain ⟨v, r, rfl, h2, h3⟩ := h
    rw [IsDs.strs_of h3, show v = V.str x from h2]
    rfl
theorem IsDs.ints_of {ex : List Addr} {H : Hp} : ∀ {xs : List Int} {vs : List V}, IsDs ex H (xs.map .int) vs → vs = xs.map .int
  | [], _, h => h
  | x :: xs, vs, h => by
    obtain ⟨v, r, rfl, h2, h3⟩ := h
    rw [IsDs.ints_of h3, show v = V.int x from h2]
    rfl
theorem IsDs.ints {ex : List Addr} {H : Hp} : ∀ (xs : List Int), IsDs ex H (xs.map .int) (xs.map .int)
  | [] => rfl
  | x :: xs => ⟨_, _, rfl, rfl, IsDs.ints xs⟩

section
variable {X : Cx} {pins : List (Addr × Obj)} {σ : St} {H : Hp} {s : Shared} {ex : List Addr}
mutual
theorem IsD.reads (I : Inv X pins σ H s) : ∀ {d : PyData} {v : V} {u : Value}, IsD ex H d v → RelV v u → ∃ as, Reads s.heap u d as
  | .none, _, _, h, r => by cases h; cases r; exact ⟨_, .none⟩
  | .bool b, _, _, h, r => by cases h; cases r; exact ⟨_, .bool b⟩
  | .int i, _, _, h, r => by cases h; obtain ⟨t, rfl⟩ := r; exact ⟨_, .int i t⟩
  | .str x, _, _, h, r => by cases h; obtain ⟨t, rfl⟩ := r; exact ⟨_, .str x t⟩
  | .tuple ds, v, u, h, r => by
    obtain ⟨a, vs, rfl, _, h3, h4⟩ := h
    cases r
    obtain ⟨_, its, rv, ob, e1, e2, n, e3⟩ : vs.length ≤ sizeLine ∧ ∃ its : List Value, Vals vs its ∧ IsTup s.heap a its.toArray := I.hok a _ h3
    obtain ⟨as, q⟩ := IsDs.reads I h4 rv
    exact ⟨as, reads_tuple_at e1 e2 e3 (by simpa using q)⟩
  | .list ds, v, u, h, r => by
    obtain ⟨a, vs, rfl, _, h3, h4⟩ := h
    cases r
    obtain ⟨_, its, n, rv, e1⟩ : vs.length ≤ sizeLine ∧ ∃ (its : List Value) (n : Nat), Vals vs its ∧ s.heap.get? a = some { cls := .type "list", data := .seq its.toArray n } := I.hok a _ h3
    obtain ⟨as, q⟩ := IsDs.reads I h4 rv
    exact ⟨_, reads_list_at e1 rfl rfl (by simpa using q)⟩
  | .dict _, _, _, h, _ => h.elim
theorem IsDs.reads (I : Inv X pins σ H s) : ∀ {ds : List PyData} {vs : List V} {us : List Value}, IsDs ex H ds vs → Vals vs us → ∃ as, ReadsAll s.heap us ds as
  | [], _, _, h, r => by cases h; cases r; exact ⟨_, .nil⟩
  | d :: ds, vs, us, h, r => by
    obtain ⟨v, rs, rfl, h2, h3⟩ := h
    cases r with
    | cons r1 r2 =>
      obtain ⟨as, q1⟩ := IsD.reads I h2 r1
      obtain ⟨bs, q2⟩ := IsDs.reads I h3 r2
      exact ⟨_, .cons q1 q2⟩
end
end

/-! ### rules over data -/
section
variable {X : Cx}
open SeqAt (shaped)
def rEqD : R2 := fun x y H Q => ∃ dx dy, IsD [] H dx x ∧ IsD [] H dy y ∧ shaped dx = true ∧ shaped dy = true ∧ Q (.bl (PyData.eqv dx dy)) H
def rNeD : R2 := fun x y H Q => ∃ dx dy, IsD [] H dx x ∧ IsD [] H dy y ∧ shaped dx = true ∧ shaped dy = true ∧ Q (.bl (!PyData.eqv dx dy)) H
theorem op_eqD (hu : X.A.units + 64 < cLine) : OpR X (compareOp .Eq) rEqD := by
  intro pins s σ H x y v u Q I rx ry h
  obtain ⟨dx, dy, h1, h2, s1, s2, q⟩ := h
  obtain ⟨as, r1⟩ := h1.reads I rx
  obtain ⟨bs, r2⟩ := h2.reads I ry
  exact eq_dataH r1 r2 s1 s2 hu ⟨.bl _, H, I, rfl, q⟩
theorem op_neD (hu : X.A.units + 64 < cLine) : OpR X (compareOp .NotEq) rNeD := by
  intro pins s σ H x y v u Q I rx ry h
  obtain ⟨dx, dy, h1, h2, s1, s2, q⟩ := h
  obtain ⟨as, r1⟩ := h1.reads I rx
  obtain ⟨bs, r2⟩ := h2.reads I ry
  exact ne_dataH r1 r2 s1 s2 hu ⟨.bl _, H, I, rfl, q⟩
theorem op_isB : OpR X (compareOp .Is) (fun x y H Q => ∃ b c, x = .bl b ∧ y = .bl c ∧ Q (.bl (b == c)) H) := by
  intro pins s σ H x y v u Q I rx ry h
  obtain ⟨b, c, rfl, rfl, q⟩ := h
  cases rx
  cases ry
  exact is_bool ⟨.bl _, H, I, rfl, q⟩
theorem op_isnotB : OpR X (compareOp .IsNot) (fun x y H Q => ∃ b c, x = .bl b ∧ y = .bl c ∧ Q (.bl (b != c)) H) := by
  intro pins s σ H x y v u Q I rx ry h
  obtain ⟨b, c, rfl, rfl, q⟩ := h
  cases rx
  cases ry
  exact isnot_bool ⟨.bl _, H, I, rfl, q⟩

/-- isinstance(x, T), T a built-in type -/
def rIsi (K : PySem.W.Frag) : List V → Hp → VK → Prop := fun vs H Q => ∃ x T t b, vs = [x, .ty T] ∧ TyOf K H x t ∧ PySem.W.kitOne K t (.type T) = some b ∧ Q (.bl b) H
theorem call_isi : CallR X (.builtin "isinstance") (rIsi X.K) := by
  intro pins s σ H xs us Q I r h
  obtain ⟨x, T, t, b, rfl, ty, e, q⟩ := h
  obtain ⟨u1, u2, rfl, r1, r2⟩ := r.two
  cases r2
  exact isinst_ok I r1 ty e fun tk => ⟨.bl b, H, I.tok tk, rfl, q⟩

/-- a text's slice -/
def rSlS : V → Option Int → Option Int → Hp → VK → Prop := fun x lo hi H Q => ∃ z, x = .str z ∧ z.length ≤ sizeLine ∧ Q (.str (Txt.slice z lo hi)) H
theorem sl_str : SlR X rSlS := by
  intro pins s σ H x v vl vu lo hi sl Q I rx hs pl pu h
  obtain ⟨z, rfl, hz, q⟩ := h
  obtain ⟨t, rfl⟩ := rx
  have fin : ∀ t' k, EP X pins σ Q (.str (Txt.slice z lo hi) t') { s with toks := k } := fun t' k => ⟨.str _, H, I.tok k, ⟨_, rfl⟩, q⟩
  cases pl with
  | none =>
    cases pu with
    | none => exact ⟨"str", _, F.slot_str_getitem.lookup, typeIs_str _ _ _, wpAny_getItem_str_slice (l := none) (u := none) (st := none) hs rfl (post_val_or_str ⟨Nat.le_trans (Txt.slice_le z _ _) hz, fin⟩)⟩
    | int j t' => exact ⟨"str", _, F.slot_str_getitem.lookup, typeIs_str _ _ _, wpAny_getItem_str_slice (l := none) (u := some (j, t')) (st := none) hs rfl (post_val_or_str ⟨Nat.le_trans (Txt.slice_le z _ _) hz, fin⟩)⟩
  | int i t'' =>
    cases pu with
    | none => exact ⟨"str", _, F.slot_str_getitem.lookup, typeIs_str _ _ _, wpAny_getItem_str_slice (l := some (i, t'')) (u := none) (st := none) hs rfl (post_val_or_str ⟨Nat.le_trans (Txt.slice_le z _ _) hz, fin⟩)⟩
    | int j t' => exact ⟨"str", _, F.slot_str_getitem.lookup, typeIs_str _ _ _, wpAny_getItem_str_slice (l := some (i, t'')) (u := some (j, t')) (st := none) hs rfl (post_val_or_str ⟨Nat.le_trans (Txt.slice_le z _ _) hz, fin⟩)⟩

theorem strs_of : ∀ {ys : List Str} {us : List Value}, Vals (ys.map V.str) us → StrsAre us ys
  | [], _, .nil => .nil
  | y :: ys, _, .cons ⟨t, e⟩ r => by subst e; exact .cons y t (strs_of r)
/-- sep.join(list of texts) -/
def rJoin (K : PySem.W.Frag) : V → List V → Hp → VK → Prop := fun x vs H Q => ∃ z a ys, x = .str z ∧ vs = [.ref a] ∧ SqL K H a (ys.map V.str) ∧ (ys.map (·.length)).sum + ys.length * z.length ≤ 16777216 ∧ Q (.str (Txt.join z ys)) H
theorem mt_join : MtR X "str.join" (rJoin X.K) := by
  intro pins s σ H x vs v us Q I rx rv h
  obtain ⟨z, a, ys, rfl, rfl, hq, hl, q⟩ := h
  obtain ⟨t, rfl⟩ := rx
  obtain ⟨u, rfl, ru⟩ := rv.one
  cases ru
  obtain ⟨its, r, pl, _⟩ := I.list hq
  exact join_list pl.isList (by simpa using strs_of r) hl fun t' k => ⟨.str _, H, I.tok k, ⟨_, rfl⟩, q⟩
end
end L2
end

section
set_option Elab.async false
set_option linter.all false
set_option maxRecDepth 100000
namespace L2
open PySem PySem.Spec PyProof.Rows

/-- tracked are the script (known to the object) and tables of code objects alone -/
def OnlyT (tabs : List Addr) (H : Hp) : Prop := (∀ b, H b = none ∨ (∃ o xs, H b = some (.frz o (.lst xs))) ∨ (b ∈ tabs ∧ H b = some (.tbl #[]))) ∧ ∀ b ∈ tabs, H b = some (.tbl #[])

theorem law_callT {P : Program} {w : World} {K : PySem.W.Frag} {mg mb : Str → Option Value} {CX : CXT} {k : Nat} {fa a : Addr} {fd : FuncData} {x : Str} {sp : Sp} {s₁ : Shared} {vs : List Value} {ns : List Int} {tabs : List Addr}
    (KX : K.In s₁.heap) (hns : s₁.heap.Ns mainGlobals mg) (hb : s₁.heap.Ns builtinsNs mb) (hbb : ∀ x : Str, x ≠ "__name__" → mb x = bootBuiltins x) (hlim : s₁.heap.NoLimit) (hg : s₁.gens = #[]) (hbm : BltMod mg s₁.heap)
    (htab : ∀ p ∈ tabs, s₁.heap.get? p = some (PySem.W.tabObj #[]) ∧ isCodeTable s₁.heap p ∧ K.lookup p = none)
    (ha : s₁.heap.get? a = some { cls := .type "list", data := .seq vs.toArray }) (hi : IntsAre vs ns) (hl : ns.length ≤ sizeLine) (hr : Room k callerA)
    (F : ∀ base : Heap, K.In base → base.Ns mainGlobals mg → BltMod mg base → FnOk P w K mg base CX k fa fd [x] sp) (hbind : ∀ (s : Shared) (u : Value), BindsTo s fd ⟨[u], []⟩ [(x, u)])
    (hsp : ∀ H : Hp, OnlyT tabs H → SqL K H a (ns.map V.int) → sp [.ref a] H (fun v _ => v = .bl true) fun _ _ _ => False)
    (hCX : ∀ H e s', CX [] H s₁ (fun _ _ _ => False) e s' → False) :
    codeAny (model P w) callerA (.call (.ref fa) ⟨[.ref a], []⟩) (fun r s' => r = .ok (.ret (.bool true)) ∧ OldK s₁.heap s'.heap ∧ s'.os = s₁.os ∧ AllBare s'.gens) s₁ := by
  have rv := vals_ints hi
  have lenV := hi.length
  have anT : a ∉ tabs := fun z => by
    have e := (htab a z).1
    rw [ha] at e
    cases e
  have core : ∀ H : Hp, OnlyT tabs H → SqL K H a (ns.map V.int) → HOk P w H s₁.heap → (∀ b, H b ≠ none → b = a ∨ b ∈ tabs) → (H a ≠ none → K.lookup a = none) →
      codeAny (model P w) callerA (.call (.ref fa) ⟨[.ref a], []⟩) (fun r s' => r = .ok (.ret (.bool true)) ∧ OldK s₁.heap s'.heap ∧ s'.os = s₁.os ∧ AllBare s'.gens) s₁ := by
    intro H hO hS hok hA hK
    have base_of : ∀ {b : Addr} {o : Obj}, s₁.heap.get? b = some o → H b = none → (hidT s₁.heap H).get? b = some o := fun e n => hidT_get e n
    -- what is no list and no table isn't tracked
    have noT : ∀ {b : Addr} {o : Obj}, s₁.heap.get? b = some o → (∀ (vs : Array Value) n, o.data ≠ .seq vs n) → (∀ vs : Array Value, o.data ≠ .fields vs) → H b = none := fun {b o} e d1 d2 => by
      cases q : H b with
      | none => rfl
      | some u =>
        rcases hA b (by rw [q]; simp) with e' | e'
        · subst e'
          rw [ha] at e; cases e
          exact absurd rfl (d1 _ _)
        · rw [(htab b e').1] at e; cases e
          exact absurd rfl (d2 _)
    have nsK : ∀ {b : Addr} {m : Str → Option Value}, s₁.heap.Ns b m → (hidT s₁.heap H).Ns b m := fun {b m} ⟨o, es, ep, e, d, r⟩ => ⟨o, es, ep, base_of e (noT e (by intro _ _ z; rw [d] at z; cases z) (by intro _ z; rw [d] at z; cases z)), d, r⟩
    have hKb : K.In (hidT s₁.heap H) := fun b o e => base_of (KX b o e) (by
      cases q : H b with
      | none => rfl
      | some u =>
        rcases hA b (by rw [q]; simp) with e' | e'
        · subst e'
          rw [hK (by rw [q]; simp)] at e; cases e
        · rw [(htab b e').2.2] at e; cases e)
    have hM : Mod K mg (hidT s₁.heap H) := ⟨hKb, nsK hns, ⟨mb, nsK hb, hbb⟩, let ⟨mc, h1, h2⟩ := hlim; ⟨mc, nsK h1, h2⟩⟩
    have hB : BltMod mg (hidT s₁.heap H) := by
      obtain ⟨bm, ob, b1, b2, b3, b4, b5, b6⟩ := hbm
      exact ⟨bm, ob, b1, b2, base_of b3 (noT b3 (by intro _ _ z; rw [b6] at z; cases z) (by intro _ z; rw [b6] at z; cases z)), b4, b5, b6⟩
    have e0 : Env0 P w K mg (hidT s₁.heap H) callerA [] s₁ H := ⟨rfl, hM, fun b o e => of_hidT e, Nat.le_of_eq (hidT_size _ _), trivial, fun b hb => absurd (show b ∈ ([] : List Addr) from hb) (by simp), hok, .of_eq hg⟩
    refine codeAny_mono ((F _ hKb (nsK hns) hB).run callerA [] s₁ H ⟨[.ref a], []⟩ [.ref a] [.ref a] _ _ hr e0 (hbind s₁ (.ref a)) (.cons rfl .nil) (hsp H hO hS)) fun r s' h => ?_
    cases r with
    | error e => exact (hCX H e s' h).elim
    | ok fl =>
      cases fl with
      | next => exact False.elim h
      | brk => exact False.elim h
      | cont => exact False.elim h
      | ret u =>
        obtain ⟨v, H', os, bare, un, hok', r', q⟩ := h
        have q' : v = .bl true := q
        subst q'
        obtain rfl : u = Value.bool true := r'
        have no : ∀ b : Addr, b ∉ frs [] := fun b z => absurd (show b ∈ ([] : List Addr) from z) (by simp)
        refine ⟨rfl, ⟨fun b o e => ?_, fun b o e => un.there b o e (by simp)⟩, os, bare.1⟩
        rcases hO.1 b with z | ⟨ob, xs, z⟩ | ⟨zt, z⟩
        · exact .inl (un.keep b o e z (no b) (by simp))
        · have z2 := un.frzs b ob _ z
          obtain ⟨e1, _⟩ := hok b _ z
          obtain ⟨e2, _⟩ := hok' b _ z2
          rw [e] at e1; cases e1
          exact .inl e2
        · obtain ⟨more, z2⟩ := un.tbls b _ z
          have e2 : s'.heap.get? b = some { cls := .none, data := .fields (#[] ++ more) } := hok' b _ z2
          have e1 := (htab b zt).1
          rw [e] at e1; cases e1
          exact .inr (.inl ⟨(htab b zt).2.1, rfl, #[], more, rfl, e2⟩)
  have tabOk : ∀ b ∈ tabs, s₁.heap.get? b = some { cls := .none, data := .fields #[] } := fun b hb => (htab b hb).1
  cases hk : K.lookup a with
  | some o =>
    have e := KX a o hk
    rw [ha] at e
    cases e
    refine core (fun b => if b ∈ tabs then some (.tbl #[]) else none) ⟨fun b => ?_, fun b hb => if_pos hb⟩ (.inr ⟨_, vs.toArray, _, hk, rfl, rfl, rfl, by rw [List.size_toArray, lenV]; exact hl, by simpa using rv⟩) (fun b u z => ?_) (fun b z => ?_) (fun z => absurd (if_neg anT) z)
    · by_cases hb : b ∈ tabs
      · exact .inr (.inr ⟨hb, if_pos hb⟩)
      · exact .inl (if_neg hb)
    · by_cases hb : b ∈ tabs
      · have z' := (if_pos hb).symm.trans z
        cases z'
        exact tabOk b hb
      · have z' := (if_neg hb).symm.trans z
        cases z'
    · by_cases hb : b ∈ tabs
      · exact .inr hb
      · exact absurd (if_neg hb) z
  | none =>
    refine core (fun b => if b = a then some (.frz { cls := .type "list", data := .seq vs.toArray } (.lst (ns.map V.int))) else if b ∈ tabs then some (.tbl #[]) else none) ⟨fun b => ?_, fun b hb => ?_⟩ (.inl (.inr ⟨{ cls := .type "list", data := .seq vs.toArray }, if_pos rfl⟩)) (fun b u z => ?_) (fun b z => ?_) fun _ => hk
    · by_cases hb : b = a
      · exact .inr (.inl ⟨_, _, if_pos hb⟩)
      · by_cases hb' : b ∈ tabs
        · exact .inr (.inr ⟨hb', (if_neg hb).trans (if_pos hb')⟩)
        · exact .inl ((if_neg hb).trans (if_neg hb'))
    · have hne : b ≠ a := fun z => anT (z ▸ hb)
      exact (if_neg hne).trans (if_pos hb)
    · by_cases hb : b = a
      · have z' := (if_pos hb).symm.trans z
        cases z'
        subst hb
        exact ⟨ha, by rw [List.length_map]; exact hl, vs, _, rv, ha⟩
      · have z1 : (if b ∈ tabs then some (HO.tbl #[]) else none) = some u := (if_neg hb).symm.trans z
        by_cases hb' : b ∈ tabs
        · have z' := (if_pos hb').symm.trans z1
          cases z'
          exact tabOk b hb'
        · have z' := (if_neg hb').symm.trans z1
          cases z'
    · by_cases hb : b = a
      · exact .inl hb
      · by_cases hb' : b ∈ tabs
        · exact .inr hb'
        · exact absurd ((if_neg hb).trans (if_neg hb')) z

/-- gn: the names of the defs whose tables may grow -/
def tabsOf (K : PySem.W.Frag) (gn : List Str) : List Addr := gn.filterMap fun x => (PySem.W.tabIn K x).map (·.2)
theorem walk_ofT {l : PySem.W.OpenLaw} {n k : Nat} {q : Program} {loose : List Str} {XP : (Str → Option Value) → Heap → Prop} {YP : World → Heap → Prop} {d : DefRec} {K : Params → PySem.W.Frag} {CX : World → CXT} {sp : World → Sp} {x : Str} (gn : List Str)
    (hn : l.most = some n) (hn2 : n ≤ sizeLine) (hdf : d.params.defaults = []) (hr : Room k callerA)
    (hY : ∀ (w : World) (h : Heap), YP w h → (K w.params).In h)
    (hgn : ∀ y ∈ gn, ((recsOf q).find? (fun e => e.name == y)).isSome = true)
    (hT : ∀ (w : World) (h : Heap), (K w.params).In h → ∀ y ∈ gn, ∀ c P, PySem.W.tabIn (K w.params) y = some (c, P) → (K w.params).lookup P = none)
    (F : ∀ (w : World) (mg : Str → Option Value) (fa : Addr) (h : Heap), (K w.params).In h → h.Ns mainGlobals mg → mg d.name = some (.ref fa) →
      ∃ fd : FuncData, (∀ (s : Shared) (u : Value), BindsTo s fd ⟨[u], []⟩ [(x, u)]) ∧
        ∀ base : Heap, (K w.params).In base → base.Ns mainGlobals mg → BltMod mg base → FnOk l.prog w (K w.params) mg base (CX w) k fa fd [x] (sp w))
    (hsp : ∀ (w : World) (H : Hp) (a : Addr) (ns : List Int), ns.length ≤ n → OnlyT (tabsOf (K w.params) gn) H → SqL (K w.params) H a (ns.map V.int) → sp w [.ref a] H (fun v _ => v = .bl true) fun _ _ _ => False)
    (hCX : ∀ (w : World) (H : Hp) (s : Shared) (e : Value) (s' : Shared), CX w [] H s (fun _ _ _ => False) e s' → False) :
    PySem.W.WalkO q loose XP YP l.row.toRowW d [] (fun f vs => PySem.call f vs) := by
  refine Att.attach_call hn hdf fun w s₀ s₁ mg mb fa o pm cd doc a vs ns G Y ho hd hcd hmg hobj hints hlen hg => ?_
  have KX := hY w _ Y
  obtain ⟨fd, hb, hF⟩ := F w mg fa _ KX G.T.g hmg
  refine law_callT (tabs := tabsOf (K w.params) gn) KX G.T.g G.T.b G.T.builtins G.T.nolimit hg G.T.bmain (fun p hp => ?_) hobj hints (Nat.le_trans hlen hn2) hr hF hb (fun H hO hS => hsp w H a ns hlen hO hS) fun H e s' => hCX w H s₁ e s'
  obtain ⟨y, hy, e⟩ := List.mem_filterMap.mp hp
  cases et : PySem.W.tabIn (K w.params) y with
  | none => rw [et] at e; cases e
  | some cP =>
    obtain ⟨c, P⟩ := cP
    rw [et] at e
    have e' : P = p := Option.some.inj e
    subst e'
    obtain ⟨d', hd'⟩ := Option.isSome_iff_exists.mp (hgn y hy)
    obtain ⟨t1, t2⟩ := PySem.W.tab_of G.T KX hd' et
    exact ⟨t2, (t1.tab t2).isCodeTable, hT w _ KX y hy c P et⟩
end L2
end

section
set_option Elab.async false
set_option linter.all false
set_option maxRecDepth 100000
namespace L2
open PySem PySem.Spec PyProof.Rows

/-! ### the signs of a text -/
def Its (z : Str) : It := ⟨fun i _ => i < z.cps.size, fun i H x H' => H' = H ∧ ∃ c, z.cps[i]? = some c ∧ x = .str ⟨#[c]⟩, fun i _ => i = z.cps.size⟩
theorem turn_str {P : Program} {w : World} {K : PySem.W.Frag} {tg : Expr} (it : Addr) (z : Str) (t : Tok) (ty : String)
    (hty : ["enumerate", "zip", "dict_itemiterator", "dict_reverseitemiterator", "odict_iterator", "itertools.zip_longest", "itertools.pairwise"].contains ty = false)
    (W : ∀ A : Around, A.handled = none → Walks P w A it [it] [it] z.cps.size (SignAt z) (fun i h => h.IsStrIter it ty z t i))
    (self : ∀ (A : Around) (i : Nat) (s : Shared) (Q : Value → Shared → Prop) (E : Value → Shared → Prop), s.heap.IsStrIter it ty z t i → Q (.ref it) s → wpAny (model P w) A (pyIter (.ref it)) Q E s) :
    Turn P w K tg (Its z) [it] it (fun i h => h.IsStrIter it ty z t i) where
  mem := by simp
  obj := fun i h st b hb => by
    have e : b = it := by simpa using hb
    subst e
    obtain ⟨o, e, c, d⟩ := st
    exact ⟨o, e, fun v z => by rw [d] at z; cases z⟩
  keep := fun i h h' st k => let ⟨o, ho, r⟩ := st; ⟨o, k it (by simp) o ho, r⟩
  item := by
    intro X hP hw hK hc i pins s σ H E I hf st hg
    subst hP hw hK
    obtain ⟨f0, f1, f2, f3, f4, f5⟩ := hf it (by simp)
    refine (W X.A (I.ok.hd hc)).item i s _ _ hg st fun v h' tk hv st' kk => ?_
    obtain ⟨c, u, hc', rfl⟩ := hv
    have I1 : Inv X pins σ H { s with heap := h', toks := tk } := I.turned (fun b o hb e => kk b o (by simpa using hb) e) f0 f1 f3 f4 f5
    obtain ⟨o, e, oc, d⟩ := id st'
    exact ⟨_, rfl, go_of (s := { s with heap := h', toks := tk }) e oc d hty ⟨.str ⟨#[c]⟩, H, I1, ⟨_, rfl⟩, ⟨rfl, c, hc', rfl⟩, st', fun b hb => (hf b hb).1⟩⟩
  done := by
    intro X hP hw hK hc i pins s σ H E I hf st hg
    subst hP hw hK
    obtain ⟨f0, f1, f2, f3, f4, f5⟩ := hf it (by simp)
    obtain rfl : i = z.cps.size := hg
    exact (W X.A (I.ok.hd hc)).done s _ _ st fun h' tk kk => ⟨rfl, I.turned (fun b o hb e => kk b o (by simpa using hb) e) f0 f1 f3 f4 f5⟩
  self := fun A i s Q E st h => self A i s Q E st h
section
variable {X : Cx} {tg : Expr}
def iStr (tl : TE) : TI := fun σ H R => tl σ H fun x H1 => ∃ z, x = .str z ∧ R (Its z) H1
theorem pi_str {l : Expr} {tl : TE} (hl : PE X l tl) : PI X tg l (iStr tl) := by
  intro pins s σ H R I h
  refine thn (hl pins s σ H _ I h) fun v s1 ⟨x, H1, I1, r1, q1⟩ => ?_
  obtain ⟨z, e, q⟩ := q1
  subst e
  obtain ⟨t, rfl⟩ := r1
  have fin : ∀ (ty : String) (T : Turn X.prog X.w X.K tg (Its z) [s1.heap.objs.size] s1.heap.objs.size (fun i h => h.IsStrIter s1.heap.objs.size ty z t i)),
      PIE X pins σ tg R (.ref s1.heap.objs.size) { s1 with heap := s1.heap.push { cls := .type ty, data := .fields #[.str z t, .int 0 0] } } := fun ty T => by
    refine ⟨s1.heap.objs.size, [s1.heap.objs.size], _, _, H1, rfl, I1.kept (t' := s1.toks) fun b o e => Heap.get?_push_of_some _ e, T, ⟨_, Heap.get?_push_size _ rfl, rfl, rfl⟩, fun b hb => ?_, q⟩
    have e : b = s1.heap.objs.size := by simpa using hb
    subst e
    exact I1.fpOk (Nat.le_refl _) (I1.hok.fresh (Nat.le_refl _))
  cases ha : z.cps.all (· < 128)
  · exact wpAny_pyIter_wide ha (fin _ (turn_str _ z t _ (by decide) (fun A hA => Walks.strWide hA _ z t) fun A i s Q E st h => wpAny_pyIter_striter_wide st h))
  · exact wpAny_pyIter_ascii ha (fin _ (turn_str _ z t _ (by decide) (fun A hA => Walks.strAscii hA _ z t) fun A i s Q E st h => wpAny_pyIter_striter_ascii st h))

/-- all(a list of bools) -/
theorem bools_get {bs : List Bool} {its : List Value} (r : Vals (bs.map V.bl) its) {i : Nat} {v : Value} (h : its[i]? = some v) : ∃ b, bs[i]? = some b ∧ v = .bool b := by
  have hi : i < its.length := (List.getElem?_eq_some_iff.mp h).1
  have hl := r.length
  rw [List.length_map] at hl
  have hb : i < bs.length := by omega
  obtain ⟨u, hu, ru⟩ := r.get (i := i) (x := .bl bs[i]) (by simp [hb])
  rw [h] at hu
  cases hu
  exact ⟨bs[i], by simp [hb], ru⟩
theorem all_range_id (bs : List Bool) : (List.range bs.length).all (fun i => (bs[i]?).getD true) = bs.all id := by
  rw [Bool.eq_iff_iff, List.all_eq_true, List.all_eq_true]
  constructor
  · intro h b hb
    obtain ⟨j, hj, rfl⟩ := List.getElem_of_mem hb
    simpa [List.getElem?_eq_getElem hj] using h j (List.mem_range.mpr hj)
  · intro h j hj
    have hj' := List.mem_range.mp hj
    have := h _ (List.getElem_mem hj')
    simpa [List.getElem?_eq_getElem hj'] using this
theorem call_all_list (hc : X.calm = true) : CallR X (.builtin "all") (fun xs H Q => ∃ (a : Addr) (bs : List Bool), xs = [.ref a] ∧ SqL X.K H a (bs.map V.bl) ∧ Q (.bl (bs.all id)) H) := by
  intro pins s σ H xs us Q I r h
  obtain ⟨a, bs, rfl, hq, q⟩ := h
  obtain ⟨u, rfl, ru⟩ := r.one
  cases ru
  obtain ⟨its, rv, pl, hz⟩ := I.list hq
  have hl := rv.length
  rw [List.length_map] at hl
  have hlt : a < s.heap.objs.size := by obtain ⟨_, e, _⟩ := pl.isList; exact Heap.lt_size e
  refine call_all_walk (wpAny_pyIter_list pl.isList ⟨s.heap.objs.size, [s.heap.objs.size, a], [s.heap.objs.size], its.toArray.size, _, _, fun i => (bs[i]?).getD true, rfl, Walks.list (A := X.A.in1) (show X.A.in1.handled = none from I.ok.hd hc) s.heap.objs.size a (Nat.ne_of_lt hlt) its.toArray, ⟨⟨_, Heap.get?_push_size _ rfl, rfl, rfl⟩, pl.isList.push _⟩, ?_, ?_⟩)
  · intro i v s' Q' E' hv hQ
    have hv' : its[i]? = some v := by simpa using hv
    obtain ⟨b, hb, rfl⟩ := bools_get rv hv'
    have hQ' : Q' ((bs[i]?).getD true) s' := hQ
    rw [hb] at hQ'
    exact wpAny_truthy_bool hQ'
  · intro h' tk hk
    have e : its.toArray.size = bs.length := by rw [List.size_toArray]; omega
    rw [e, all_range_id]
    refine ⟨.bl _, H, I.kept fun b o e => hk b o (fun z => ?_) (Heap.get?_push_of_some _ e), rfl, q⟩
    have z' : b = s.heap.objs.size := by simpa using z
    subst z'
    exact absurd (Heap.lt_size e) (Nat.lt_irrefl _)
end

/-! ### the forms one uses of comprehensions and generator expressions -/
structure Yields (J : It) (ok : Hp → Prop) (ys : List V) : Prop where
  go : ∀ i H, ok H → i < ys.length → J.go i H
  stop : ∀ H, ok H → J.stop ys.length H
  yld : ∀ i H x H', ok H → i < ys.length → J.yld i H x H' → H' = H ∧ ys[i]? = some x
theorem yields_range {lo : Int} {n : Nat} : Yields (Itr lo n) (fun _ => True) ((List.range n).map fun i => V.int (lo + (i : Nat))) where
  go := fun i H _ hi => by show i < n; simpa using hi
  stop := fun H _ => by show n ≤ _; simp
  yld := fun i H x H' _ hi ⟨e, y⟩ => ⟨e, by
    have hi' : i < n := by simpa using hi
    subst y
    simp [hi']⟩
theorem yields_list {K : PySem.W.Frag} {a : Addr} {ys : List V} : Yields (Itl K a) (fun H => SqL K H a ys) ys where
  go := fun i H h hi => ⟨ys, ys[i], h, by simp [hi]⟩
  stop := fun H h => ⟨ys, h, Nat.le_refl _⟩
  yld := fun i H x H' h hi ⟨e, y⟩ => ⟨e, y ys h⟩
theorem yields_tup {K : PySem.W.Frag} {a : Addr} {ys : List V} : Yields (Itt K a) (fun H => SqT K H a ys) ys where
  go := fun i H h hi => ⟨ys, ys[i], h, by simp [hi]⟩
  stop := fun H h => ⟨ys, h, Nat.le_refl _⟩
  yld := fun i H x H' h hi ⟨e, y⟩ => ⟨e, y ys h⟩
def sgV (z : Str) : List V := z.cps.toList.map fun c => V.str ⟨#[c]⟩
theorem yields_str {z : Str} : Yields (Its z) (fun _ => True) (sgV z) where
  go := fun i H _ hi => by show i < z.cps.size; simpa [sgV] using hi
  stop := fun H _ => by show _ = z.cps.size; simp [sgV]
  yld := fun i H x H' _ hi ⟨e, c, hc, y⟩ => ⟨e, by
    subst y
    have hc' : z.cps.toList[i]? = some c := by simpa using hc
    simp only [sgV, List.getElem?_map, hc', Option.map_some]⟩
/-- the next turn -/
def Nx (n i : Nat) (p : Prop) : Prop := ∃ m', m' < n - i ∧ m' = n - (i + 1) ∧ i + 1 ≤ n ∧ p
theorem nx {n i : Nat} {p : Prop} (h : i < n) (q : p) : Nx n i p := ⟨n - (i + 1), by omega, rfl, h, q⟩
theorem lcomp_by {J : It} {ok : Hp → Prop} {ys : List V} {g : TG} {tt : TT} {te : TE} {σc : St} {H : Hp} {Q : VK} (Y : Yields J ok ys) (Pv : Nat → List V → Hp → Prop) (h0 : Pv 0 [] H) (hok : ∀ i xs H, Pv i xs H → ok H)
    (step : ∀ i x xs H, ys[i]? = some x → i < ys.length → Pv i xs H → g x σc H fun σ2 H2 => tt σ2 H2 fun b H3 => if b = true then te σ2 H3 fun v H4 => xs.length < sizeLine ∧ Nx ys.length i (Pv (i + 1) (xs ++ [v]) H4) else Nx ys.length i (Pv (i + 1) xs H3))
    (fin : ∀ xs H, Pv ys.length xs H → ∀ p, H p = none → Q (.ref p) (upd H p (.lst xs))) :
    LComp J g tt te σc Q H := by
  refine ⟨fun i m xs H => m = ys.length - i ∧ i ≤ ys.length ∧ Pv i xs H, ⟨ys.length, by simp, Nat.zero_le _, h0⟩, ?_⟩
  rintro i m xs H ⟨rfl, hi, p⟩
  have o := hok i xs H p
  by_cases hlt : i < ys.length
  · refine .inr ⟨Y.go i H o hlt, fun x H' y => ?_⟩
    obtain ⟨e, hx⟩ := Y.yld i H x H' o hlt y
    subst e
    exact step i x xs _ hx hlt p
  · have e : i = ys.length := by omega
    subst e
    exact .inl ⟨Y.stop H o, fin xs H p⟩
theorem allgen_by {J : It} {ok : Hp → Prop} {ys : List V} {g : TG} {tt : TT} {te : TE} {σc : St} {H : Hp} {Q : VK} (Y : Yields J ok ys) (Pv : Nat → Hp → Prop) (h0 : Pv 0 H) (hok : ∀ i H, Pv i H → ok H)
    (step : ∀ i x H, ys[i]? = some x → i < ys.length → Pv i H → g x σc H fun σ2 H2 => tt σ2 H2 fun b H3 => if b = true then te σ2 H3 fun v H4 => ∃ c, v = .bl c ∧ if c = true then Nx ys.length i (Pv (i + 1) H4) else Q (.bl false) H4 else Nx ys.length i (Pv (i + 1) H3))
    (fin : ∀ H, Pv ys.length H → Q (.bl true) H) :
    AllG J g tt te σc Q H := by
  refine ⟨fun i m H => m = ys.length - i ∧ i ≤ ys.length ∧ Pv i H, ⟨ys.length, by simp, Nat.zero_le _, h0⟩, ?_⟩
  rintro i m H ⟨rfl, hi, p⟩
  have o := hok i H p
  by_cases hlt : i < ys.length
  · refine .inr ⟨Y.go i H o hlt, fun x H' y => ?_⟩
    obtain ⟨e, hx⟩ := Y.yld i H x H' o hlt y
    subst e
    exact step i x _ hx hlt p
  · have e : i = ys.length := by omega
    subst e
    exact .inl ⟨Y.stop H o, fin H p⟩
/-- .. without tests -/
theorem lcomp_by0 {J : It} {ok : Hp → Prop} {ys : List V} {g : TG} {te : TE} {σc : St} {H : Hp} {Q : VK} (Y : Yields J ok ys) (Pv : Nat → List V → Hp → Prop) (h0 : Pv 0 [] H) (hok : ∀ i xs H, Pv i xs H → ok H)
    (step : ∀ i x xs H, ys[i]? = some x → i < ys.length → Pv i xs H → g x σc H fun σ2 H2 => te σ2 H2 fun v H4 => xs.length < sizeLine ∧ Nx ys.length i (Pv (i + 1) (xs ++ [v]) H4))
    (fin : ∀ xs H, Pv ys.length xs H → ∀ p, H p = none → Q (.ref p) (upd H p (.lst xs))) : LComp J g tYes te σc Q H := by
  refine lcomp_by Y Pv h0 hok (fun i x xs H hx hi p => ?_) fin
  have e : (fun (σ2 : St) (H2 : Hp) => tYes σ2 H2 fun b H3 => if b = true then te σ2 H3 fun v H4 => xs.length < sizeLine ∧ Nx ys.length i (Pv (i + 1) (xs ++ [v]) H4) else Nx ys.length i (Pv (i + 1) xs H3)) =
      fun σ2 H2 => te σ2 H2 fun v H4 => xs.length < sizeLine ∧ Nx ys.length i (Pv (i + 1) (xs ++ [v]) H4) := by
    funext σ2 H2
    unfold tYes
    dsimp only
    rw [if_pos rfl]
  rw [e]
  exact step i x xs H hx hi p
theorem allgen_by0 {J : It} {ok : Hp → Prop} {ys : List V} {g : TG} {te : TE} {σc : St} {H : Hp} {Q : VK} (Y : Yields J ok ys) (Pv : Nat → Hp → Prop) (h0 : Pv 0 H) (hok : ∀ i H, Pv i H → ok H)
    (step : ∀ i x H, ys[i]? = some x → i < ys.length → Pv i H → g x σc H fun σ2 H2 => te σ2 H2 fun v H4 => ∃ c, v = .bl c ∧ if c = true then Nx ys.length i (Pv (i + 1) H4) else Q (.bl false) H4)
    (fin : ∀ H, Pv ys.length H → Q (.bl true) H) : AllG J g tYes te σc Q H := by
  refine allgen_by Y Pv h0 hok (fun i x H hx hi p => ?_) fin
  have e : (fun (σ2 : St) (H2 : Hp) => tYes σ2 H2 fun b H3 => if b = true then te σ2 H3 fun v H4 => ∃ c, v = .bl c ∧ if c = true then Nx ys.length i (Pv (i + 1) H4) else Q (.bl false) H4 else Nx ys.length i (Pv (i + 1) H3)) =
      fun σ2 H2 => te σ2 H2 fun v H4 => ∃ c, v = .bl c ∧ if c = true then Nx ys.length i (Pv (i + 1) H4) else Q (.bl false) H4 := by
    funext σ2 H2
    unfold tYes
    dsimp only
    rw [if_pos rfl]
  rw [e]
  exact step i x H hx hi p
/-- a def whose code object is known -/
structure FunC (K : PySem.W.Frag) (x qual : Str) (st : Stmt) (f : Addr) (fd : FuncData) (c : Addr) : Prop where
  ex : ∃ (oc : Value) (od : Option Addr) (kV doc pm : Value) (an : Option Addr) (ct : Value) (osl : Array (Option Value)),
    fd = PySem.W.fnOf x qual (defArgs st) (defBody st) (defScope st) .none kV doc pm an (.ref c) ct ∧ K.lookup f = some ⟨oc, od, .func fd, osl⟩ ∧ PySem.W.codeIn K (.ref c) qual = true
  kp : PySem.W.keepIn K (.ref f) = true
section
variable {P : Program} {w : World} {K : PySem.W.Frag} {mg : Str → Option Value} {base : Heap}
theorem FunC.fn {x qual : Str} {st : Stmt} {f : Addr} {fd : FuncData} {c : Addr} (F : FunC K x qual st f fd c) : Fun K x qual st f fd := by
  obtain ⟨oc, od, kV, doc, pm, an, ct, osl, h⟩ := F.ex
  exact ⟨⟨oc, od, kV, doc, pm, an, .ref c, ct, osl, h⟩, F.kp⟩
theorem FunC.ok {x qual : Str} {st : Stmt} {f : Addr} {fd : FuncData} {c : Addr} {N ps : List Str} {k : Nat} {sp : Sp} (F : FunC K x qual st f fd c) (S : FnScope N ps (defScope st)) (len : ∀ vs H Q E, sp vs H Q E → vs.length = ps.length)
    (hbody : ∀ (A : Around) (outer : List Env) (s : Shared) (H : Hp) (vs : List V) (Q : VK) (E : XK), Room k (A.deeper (envOfC qual (defScope st) s.heap.objs.size f (.ref c))) → sp vs H Q E →
      ∃ t, PSs (cxOf CX0 P w K mg base N qual (defScope st) f (.ref c) A outer s H E).nox (defBody st) t ∧ t { nx := fun _ H' => Q .non H', rt := Q } (start N vs) H) : FnOk P w K mg base CX0 (k + 1) f fd ps sp := by
  obtain ⟨oc, od, kV, doc, pm, an, ct, osl, rfl, lk, hcd⟩ := F.ex
  refine fn_of lk hcd S len fun A outer s H vs Q E hr hsp => ?_
  obtain ⟨t, h, q⟩ := hbody A outer s H vs Q E hr hsp
  exact ⟨t, h.nox, q⟩
end
end L2
end

section
set_option Elab.async false
set_option linter.all false
set_option maxRecDepth 100000
namespace L2
open PySem PySem.Spec PyProof.Rows
/-- a def of the text that may be called by its name -/
def CallOk (P : Program) (w : World) (K : PySem.W.Frag) (mg : Str → Option Value) (base : Heap) (x : Str) (k : Nat) (ps : List Str) (sp : Sp) : Prop :=
  ∃ f fd, FnOk P w K mg base CX0 k f fd ps sp ∧ mg x = some (.ref f) ∧ PySem.W.keepIn K (.ref f) = true ∧ Binds K fd ps []
section
variable {X : Cx} {x : Str} {k j : Nat} {ps : List Str} {sp : Sp} {e : Expr} {es : List Expr} {p pos : Pos} {t : TA}
theorem pe_cl (C : CallOk X.prog X.w X.K X.mg X.base x k ps sp) (hr : Room j X.A) (ha : PA X (e :: es) t) (hg : Gl X x := by rfl) (hj : k ≤ j := by decide) (hdb : (x == ("__debug__" : Str)) = false := by decide)
    (he : starEach (e :: es) X.env = (false, eval e X.env) :: starEach es X.env := by rfl) (hpl : (backTo pos (starEach es X.env)).any (·.1) = false := by rfl) :
    PE X (.Call (.Name x p) (e :: es) [] pos) (tCall sp [] E0 t) := by
  obtain ⟨f, fd, F, hm, hk, hb⟩ := C
  exact pe_call F (hr.mono hj) hg hm hk hb .nil pass0 ha hdb he hpl
theorem pe_cl0 (C : CallOk X.prog X.w X.K X.mg X.base x k ps sp) (hr : Room j X.A) (hg : Gl X x := by rfl) (hj : k ≤ j := by decide) (hdb : (x == ("__debug__" : Str)) = false := by decide) :
    PE X (.Call (.Name x p) [] [] pos) (tCall sp [] E0 tNil) := by
  obtain ⟨f, fd, F, hm, hk, hb⟩ := C
  exact pe_call0 F (hr.mono hj) hg hm hk hb .nil pass0 hdb
theorem pe_gl {v : V} (h : ∃ u, X.mg x = some u ∧ RelV v u) (hg : Gl X x := by rfl) (hd : (x == ("__debug__" : Str)) = false := by decide) : PE X (.Name x pos) (tC v) := by
  obtain ⟨u, hm, r⟩ := h
  exact pe_glob hg hm r hd
end
/-- no starred expression -/
def plainE : Expr → Bool
  | .Starred _ _ => false
  | _ => true
theorem star_cons : ∀ (e : Expr) (rest : List Expr) (env : Env), plainE e = true → starEach (e :: rest) env = (false, eval e env) :: starEach rest env := by
  intro e rest env h
  cases e <;> first | rfl | (cases h)
theorem pa_c {X : Cx} {e : Expr} {es : List Expr} {te : TE} {t : TA} (ha : PE X e te) (hr : PA X es t) (h : plainE e = true := by rfl) : PA X (e :: es) (tCons te t) := pa_cons ha hr (star_cons e es X.env h)
theorem ixAt {N : List Str} {x : Str} (n : Nat) (h : N[n]? = some x := by rfl) : N[n]? = some x := h
theorem compN {N : List Str} (Nc : List Str) (k : Nat) (js : List Nat) (h : (Nc.drop k).map some = js.map (N[·]?) := by rfl) : (Nc.drop k).map some = js.map (N[·]?) := h
theorem boot_tstr : bootBuiltins ("str" : Str) = some (.type "str") := by decide +kernel
theorem boot_tint : bootBuiltins ("int" : Str) = some (.type "int") := by decide +kernel
theorem boot_tbool : bootBuiltins ("bool" : Str) = some (.type "bool") := by decide +kernel
theorem boot_ttuple : bootBuiltins ("tuple" : Str) = some (.type "tuple") := by decide +kernel
theorem boot_tlist : bootBuiltins ("list" : Str) = some (.type "list") := by decide +kernel
theorem boot_isi : bootBuiltins ("isinstance" : Str) = some (.builtin "isinstance") := by decide +kernel
theorem boot_bmin : bootBuiltins ("min" : Str) = some (.builtin "min") := by decide +kernel
theorem boot_ball : bootBuiltins ("all" : Str) = some (.builtin "all") := by decide +kernel
theorem kit_same {K : PySem.W.Frag} (T : String) : PySem.W.kitOne K (.type T) (.type T) = some true := by
  unfold PySem.W.kitOne
  rw [if_pos (by simp)]
/-- the type of data -/
def tyD : PyData → String
  | .none => "NoneType"
  | .bool _ => "bool"
  | .int _ => "int"
  | .str _ => "str"
  | .tuple _ => "tuple"
  | .list _ => "list"
  | .dict _ => "dict"
theorem IsD.ty {K : PySem.W.Frag} {ex : List Addr} {H : Hp} : ∀ {d : PyData} {v : V}, IsD ex H d v → TyOf K H v (.type (tyD d))
  | .none, _, h => by cases h; exact .non
  | .bool b, _, h => by cases h; exact .bl b
  | .int i, _, h => by cases h; exact .int i
  | .str x, _, h => by cases h; exact .str x
  | .tuple ds, _, h => by obtain ⟨a, vs, rfl, _, h3, _⟩ := h; exact .tup h3
  | .list ds, _, h => by obtain ⟨a, vs, rfl, _, h3, _⟩ := h; exact .lst h3
  | .dict _, _, h => h.elim
/-- isinstance over data -/
def isiD (T : String) : PyData → Bool
  | .bool _ => T == "bool" || T == "int"
  | d => tyD d == T
theorem kit_str {K : PySem.W.Frag} : ∀ d : PyData, PySem.W.kitOne K (.type (tyD d)) (.type "str") = some (isiD "str" d)
  | .none => rfl | .bool _ => rfl | .int _ => rfl | .str _ => rfl | .tuple _ => rfl | .list _ => rfl | .dict _ => rfl
theorem kit_int {K : PySem.W.Frag} : ∀ d : PyData, PySem.W.kitOne K (.type (tyD d)) (.type "int") = some (isiD "int" d)
  | .none => rfl | .bool _ => rfl | .int _ => rfl | .str _ => rfl | .tuple _ => rfl | .list _ => rfl | .dict _ => rfl
theorem kit_bool {K : PySem.W.Frag} : ∀ d : PyData, PySem.W.kitOne K (.type (tyD d)) (.type "bool") = some (isiD "bool" d)
  | .none => rfl | .bool _ => rfl | .int _ => rfl | .str _ => rfl | .tuple _ => rfl | .list _ => rfl | .dict _ => rfl
theorem kit_tuple {K : PySem.W.Frag} : ∀ d : PyData, PySem.W.kitOne K (.type (tyD d)) (.type "tuple") = some (isiD "tuple" d)
  | .none => rfl | .bool _ => rfl | .int _ => rfl | .str _ => rfl | .tuple _ => rfl | .list _ => rfl | .dict _ => rfl
theorem kit_list {K : PySem.W.Frag} : ∀ d : PyData, PySem.W.kitOne K (.type (tyD d)) (.type "list") = some (isiD "list" d)
  | .none => rfl | .bool _ => rfl | .int _ => rfl | .str _ => rfl | .tuple _ => rfl | .list _ => rfl | .dict _ => rfl
end L2
end

section
set_option Elab.async false
set_option linter.all false
set_option maxRecDepth 100000
namespace L2
open PySem PySem.Spec PyProof.Rows
/-! ### len({text for .. in ..}) -/
theorem snoc_ind {P : List Str → Prop} (h0 : P []) (hs : ∀ l y, P l → P (l ++ [y])) (l : List Str) : P l := by
  have q : ∀ r : List Str, P r.reverse := fun r => by
    induction r with
    | nil => exact h0
    | cons a r ih => rw [List.reverse_cons]; exact hs _ _ ih
  have := q l.reverse
  rwa [List.reverse_reverse] at this
/-- how many unlike ones -/
def dfold (ks : List Str) : List Str := ks.foldl (fun acc k => if k ∈ acc then acc else acc ++ [k]) []
def dcount (ks : List Str) : Nat := (dfold ks).length
theorem dfold_snoc (ks : List Str) (z : Str) : dfold (ks ++ [z]) = if z ∈ dfold ks then dfold ks else dfold ks ++ [z] := by
  unfold dfold
  rw [List.foldl_append]
  rfl
theorem dfold_mem {z : Str} : ∀ ks : List Str, z ∈ dfold ks ↔ z ∈ ks := by
  refine snoc_ind Iff.rfl fun ks y ih => ?_
  · rw [dfold_snoc]
    split
    · rename_i h
      rw [ih, List.mem_append, List.mem_singleton]
      constructor
      · exact .inl
      · rintro (h' | rfl)
        · exact h'
        · exact ih.mp h
    · rw [List.mem_append, List.mem_append, ih]
theorem dcount_snoc (ks : List Str) (z : Str) : dcount (ks ++ [z]) = if z ∈ ks then dcount ks else dcount ks + 1 := by
  unfold dcount
  rw [dfold_snoc]
  by_cases h : z ∈ ks
  · rw [if_pos ((dfold_mem ks).mpr h), if_pos h]
  · rw [if_neg (fun q => h ((dfold_mem ks).mp q)), if_neg h, List.length_append, List.length_singleton]
theorem dcount_le : ∀ ks : List Str, dcount ks ≤ ks.length := by
  refine snoc_ind (Nat.le_refl _) fun ks y ih => ?_
  · rw [dcount_snoc, List.length_append, List.length_singleton]
    split <;> omega
theorem dcount_nodup : ∀ ks : List Str, dcount ks = ks.length ↔ ks.Nodup := by
  refine snoc_ind ⟨fun _ => List.nodup_nil, fun _ => rfl⟩ fun ks y ih => ?_
  · have hl := dcount_le ks
    rw [dcount_snoc, List.length_append, List.length_singleton, List.nodup_append]
    split
    · rename_i h
      constructor
      · intro e; omega
      · intro e; exact absurd rfl (e.2.2 y h y (by simp))
    · rename_i h
      constructor
      · intro e
        refine ⟨ih.mp (by omega), by simp, fun a ha b hb => ?_⟩
        simp only [List.mem_singleton] at hb
        subst hb
        rintro rfl
        exact h ha
      · intro e
        have := ih.mpr e.1
        omega
theorem strKind_is {prog : Program} {w : World} (z : Str) (t : Tok) : (strKind prog w).is z (.str z t) = true := by
  show (Value.str z t).isStr z = true
  simp [Value.isStr]
theorem set_at {prog : Program} {w : World} {h h' : Heap} {D : Addr} {S : Str → Bool} {n : Nat} (x : h.SetOf (strKind prog w) D S n) (k : ∀ o, h.get? D = some o → h'.get? D = some o) : h'.SetOf (strKind prog w) D S n := by
  obtain ⟨o, es, ep, t, e, r⟩ := x
  exact ⟨o, es, ep, t, k o e, r⟩
section
variable {X : Cx}
/-- W i m ks H: at turn i (m a measure) the texts so far are ks -/
def LSet (J : It) (g : TG) (te : TE) (σc : St) (Q : VK) (H1 : Hp) : Prop := ∃ W : Nat → Nat → List Str → Hp → Prop, (∃ m, W 0 m [] H1) ∧ ∀ i m ks H, W i m ks H →
  (J.stop i H ∧ Q (.int (dcount ks : Nat)) H) ∨
  (J.go i H ∧ ∀ x H', J.yld i H x H' → g x σc H' fun σ2 H2 => te σ2 H2 fun v H4 => ∃ z, v = .str z ∧ ks.length < 1000 ∧ ∃ m', m' < m ∧ W (i + 1) m' (ks ++ [z]) H4)
def tLenSet (k : Nat) (js : List Nat) (wi : TI) (g : TG) (te : TE) : TE := fun σ H Q => wi σ H fun J H1 => LSet J g te (compSt k js σ) Q H1
theorem compTurn_set (elt target iter : Expr) (scope : Scope) (pos : Pos) (it acc : Value) (env : Env) :
    compTurn (.SetComp elt [⟨target, iter, [], 0⟩] scope pos) 0 it acc env = (standAt iter.pos >>= fun _ => pyNext it >>= fun r => match r with
      | none => pure (.done .next)
      | some v => letOwnedTupleGo target it v >>= fun _ => assign target env v >>= fun _ =>
        (eval elt env >>= fun x => standAt elt.pos >>= fun _ => call (.builtin "set.add") [acc, x] >>= fun _ => pure ()) >>= fun _ =>
          again (.compLoop (.SetComp elt [⟨target, iter, [], 0⟩] scope pos) 0 it acc env)) := by rfl
theorem compLoopS_any {prog : Program} {w : World} {A : Around} {R : Result → Shared → Prop} {s : Shared} {elt target iter : Expr} {scope : Scope} {pos : Pos} {it acc : Value} {env : Env} (I : Nat → Shared → Prop)
    (turn : ∀ n s, I n s → wpAny (model prog w) A (pyNext it) (fun r s₁ => match r with
      | none => R (.ok .next) s₁
      | some v => wpAny (model prog w) A (letOwnedTupleGo target it v) (fun _ s₁' => wpAny (model prog w) A (assign target env v) (fun _ s₂ =>
          wpAny (model prog w) A (eval elt env) (fun x s₄ =>
              wpAny (model prog w) A (call (.builtin "set.add") [acc, x]) (fun _ s₅ => ∃ m, m < n ∧ I m s₅) (fun _ _ => False) s₄) (fun _ _ => False) s₂) (fun _ _ => False) s₁') (fun _ _ => False) s₁) (fun _ _ => False) s)
    (n : Nat) (h : I n s) :
    codeAny (model prog w) A (.compLoop (.SetComp elt [⟨target, iter, [], 0⟩] scope pos) 0 it acc env) R s := by
  refine codeAny_loop rfl I (fun n s hI => ?_) n h
  show wpAny _ A ((compTurn (.SetComp elt [⟨target, iter, [], 0⟩] scope pos) 0 it acc env).onRaise (fun x => do noteFrame x env; theTreesLotGoes x)) _ _ s
  refine wpAny_noted ?_
  rw [compTurn_set]
  refine wpAny_bind (wpAny_standAt (wpAny_bind (wpAny_mono (turn n s hI) (fun r s₁ h₁ => ?_) fun _ _ h' => h'.elim)))
  cases r with
  | none => exact wpAny_pure h₁
  | some v =>
    refine wpAny_bind (wpAny_mono h₁ (fun _ s₁' h₁' => ?_) fun _ _ h' => h'.elim)
    refine wpAny_bind (wpAny_mono h₁' (fun _ s₂ h₂ => ?_) fun _ _ h' => h'.elim)
    exact wpAny_bind (wpAny_bind (wpAny_mono h₂ (fun x s₄ h₄ => wpAny_bind (wpAny_standAt (wpAny_bind (wpAny_mono h₄ (fun _ s₅ h₅ => wpAny_pure (wpAny_pure ⟨rfl, h₅⟩)) fun _ _ h' => h'.elim)))) fun _ _ h' => h'.elim))
theorem codeAny_compStart_set {prog : Program} {w : World} {A : Around} {R : Result → Shared → Prop} {s : Shared} {elt target iter : Expr} {rest : List Comprehension} {scope : Scope} {pos : Pos} {it acc : Value} {env : Env}
    (h0 : codeAny (model prog w) A (.compLoop (.SetComp elt (⟨target, iter, [], 0⟩ :: rest) scope pos) 0 it acc env) R s)
    (h : wpAny (model prog w) A (pyIter it) (fun it' s' => codeAny (model prog w) A (.compLoop (.SetComp elt (⟨target, iter, [], 0⟩ :: rest) scope pos) 0 it' acc env) R s')
      (notedBy (model prog w) A env fun x s' => R (.error x) s') s) :
    codeAny (model prog w) A (.compStart (.SetComp elt (⟨target, iter, [], 0⟩ :: rest) scope pos) 0 it acc env) R s := by
  refine codeAny_of_tree ?_
  show wpAny _ _ ((compStart (.SetComp elt (⟨target, iter, [], 0⟩ :: rest) scope pos) 0 it acc env).onRaise (fun x => do noteFrame x env; standAt theWindowsPlace)) _ _ s
  refine wpAny_notedAt ?_
  unfold compStart
  show wpAny _ _ (ask >>= _) _ _ s
  refine wpAny_bind (wpAny_askSetting (wpAny_ite ?_))
  split
  · first
      | exact wpAny_bind (wpAny_pure (wpAny_pure (And.intro rfl h0)))
      | exact wpAny_pure (And.intro rfl h0)
  · first
      | exact wpAny_bind (wpAny_rule (wpAny_bind (wpAny_standAt (wpAny_bind (wpAny_mono h (fun it' s' h' => wpAny_pure (And.intro rfl h')) fun _ _ x => x)))))
      | (refine wpAny_bind (wpAny_rule ?_); show wpAny _ _ (standAt iter.pos >>= _) _ _ s; exact wpAny_bind (wpAny_standAt (wpAny_bind (wpAny_mono h (fun it' s' h' => wpAny_pure (And.intro rfl h')) fun _ _ x => x))))
theorem comp_coreS {elt tg iter : Expr} {scope : Scope} {pos : Pos} {Nc : List Str} {k : Nat} {js : List Nat} {wi : TI} {g : TG} {te : TE} (hc : X.calm = true) (S : CompScope X.env scope)
    (hjs : (Nc.drop k).map some = js.map (X.N[·]?)) (hfr : ∀ x ∈ Nc.drop k, scope.names.lookup x = some .free) (hk : k ≤ Nc.length) (hi : PI X tg iter wi)
    (hg : ∀ C s H ex, PG (compCx X scope Nc C s H ex) tg g) (gk : GOwn k g) (he : ∀ C s H ex, PE (compCx X scope Nc C s H ex) elt te)
    {pins : List (Addr × Obj)} {s : Shared} {σ : St} {H : Hp} {Q : VK} (I : Inv X pins σ H s) (h : tLenSet k js wi g te σ H Q) :
    wpAny (model X.prog X.w) X.A (eval iter X.env) (fun x s₁ => wpAny (model X.prog X.w) X.A (pyIter x) (fun itv s₂ => wpAny (model X.prog X.w) X.A (newSet (.type "set")) (fun acc s₃ =>
      wpAny (model X.prog X.w) X.A (newFunctionEnv scope X.env.globals (clOf X.env scope.names) [] X.env.qual none .none (some X.env)) (fun cenv s₄ =>
        codeAny (model X.prog X.w) X.A (.compStart (.SetComp elt [⟨tg, iter, [], 0⟩] scope pos) 0 itv acc { cenv with scope := relabel scope X.env })
          (fun r s' => ∃ fl D H' m n S, r = .ok fl ∧ acc = .ref D ∧ Inv X pins σ H' s' ∧ s'.heap.Ns cenv.locals m ∧ FpOk X pins H' cenv.locals ∧ D ≠ cenv.locals ∧ s'.heap.SetOf (strKind X.prog X.w) D S n ∧ Q (.int (n : Nat)) H') s₄) X.xe s₃) X.xe s₂) X.xe s₁) X.xe s := by
  refine thn (hi pins s σ H _ I h) fun v s1 h1 => thn h1 fun itv s2 h2 => ?_
  obtain ⟨it, fp, tn, J, H2, e, I2, T, st2, f2, W, ⟨m0, w0⟩, turn⟩ := h2
  subst e
  refine wpAny_newSet_of (knd := strKind X.prog X.w) fun led hSet => wpAny_newFunctionEnv S.cell (by intro y hy; simp at hy) (fun h₁ hns₁ hsb₁ => ?_) S.kind
  dsimp only at hns₁ hsb₁ ⊢
  generalize hH3 : s2.heap.push { cls := .type "set", dict := none, data := .set #[] 0 (.fresh 0 0 led) } = H3 at hns₁ hsb₁ hSet ⊢
  have hC : H3.objs.size = s2.heap.objs.size + 1 := by rw [← hH3, Heap.size_push]
  generalize eC : H3.objs.size = C at hns₁ hsb₁ hC ⊢
  generalize eD : s2.heap.objs.size = D at hC hSet ⊢
  have hDC : D ≠ C := by omega
  have hle : D ≤ C := by omega
  have hlt' : D < C := by omega
  have hltD : ∀ b o, s2.heap.get? b = some o → b < D := fun b o e => by rw [← eD]; exact Heap.lt_size e
  have keep : ∀ b o, s2.heap.get? b = some o → h₁.get? b = some o := fun b o e => hsb₁.extBut b o (Nat.ne_of_lt (Nat.lt_trans (hltD b o e) hlt')) (Heap.get?_push_of_some _ (hH3 ▸ Heap.get?_push_of_some _ e))
  have hD1 : h₁.SetOf (strKind X.prog X.w) D (fun _ => false) 0 := set_at hSet fun o e => hsb₁.extBut _ _ hDC (Heap.get?_push_of_some _ (hH3 ▸ e))
  have ltf : ∀ b ∈ fp, b < s2.heap.objs.size := fun b hb => by
    obtain ⟨o, e, _⟩ := T.obj 0 _ st2 b hb
    exact Heap.lt_size e
  have I4 : Inv (compCx X scope Nc C s2 H2 fp) [] (compSt k js σ) H2 { s2 with heap := h₁, toks := s2.toks + ([] : List (Str × Value)).length } :=
    inv_comp (s4 := { s2 with heap := h₁, toks := s2.toks + ([] : List (Str × Value)).length }) I2 hc S hjs hfr hk f2 ltf (by omega) hns₁ keep rfl rfl
  have frz : ∀ y ∈ scope.names, y.2 = .free → ∃ c, X.env.cells.lookup y.1 = some c := fun y hy e => I2.ok.has y.1 (S.free y hy e)
  -- D is apart from all else
  have Dcell : ∀ x c, (clOf X.env scope.names).lookup x = some c → c ≠ D := fun x c e z => by
    obtain ⟨v, q⟩ := I2.cell x c (clOf_sub frz e)
    have l := q.lt
    rw [z, eD] at l
    exact Nat.lt_irrefl _ l
  have Dstk : D ∉ frs X.stack := fun z => by
    rcases List.mem_cons.mp (I2.stkSub D z) with z | z
    · have l := I2.lt
      rw [← z, eD] at l
      exact Nat.lt_irrefl _ l
    · exact I2.nofs (Nat.le_of_eq eD) z
  have Dfp : ∀ b ∈ fp, D ≠ b := fun b hb z => by have l := ltf b hb; rw [← z, eD] at l; exact Nat.lt_irrefl _ l
  have fpok : ∀ {H' : Hp} {o : Obj}, (∀ b ∈ fp, H' b = none) → ∀ b ∈ fp, FpOk (compCx X scope Nc C s2 H2 fp) [(D, o)] H' b := fun {H' o} hn b hb => by
    refine ⟨hn b hb, ?_, ?_, .inl hb, fun x c e => (f2 b hb).2.2.2.2.1 x c (clOf_sub frz e), fun p hp => ?_⟩
    · have l := ltf b hb
      rw [eD] at l
      exact Nat.ne_of_lt (Nat.lt_trans l hlt')
    · intro z
      rcases List.mem_cons.mp (I2.stkSub b z) with z | z
      · exact (f2 b hb).2.1 z
      · exact (f2 b hb).2.2.1 z
    · have e : p = (D, o) := by simpa using hp
      subst e
      exact Dfp b hb
  have loop : codeAny (model X.prog X.w) X.A (.compLoop (.SetComp elt [⟨tg, iter, [], 0⟩] scope pos) 0 (.ref it) (.ref D) (compEnvC scope (clOf X.env scope.names) C X.env))
      (fun r s' => ∃ fl D' H' m n S, r = .ok fl ∧ Value.ref D = .ref D' ∧ Inv X pins σ H' s' ∧ s'.heap.Ns C m ∧ FpOk X pins H' C ∧ D' ≠ C ∧ s'.heap.SetOf (strKind X.prog X.w) D' S n ∧ Q (.int (n : Nat)) H') { s2 with heap := h₁, toks := s2.toks + ([] : List (Str × Value)).length } := by
    refine compLoopS_any (fun n s' => ∃ (i : Nat) (ks : List Str) (H' : Hp) (o : Obj), Inv (compCx X scope Nc C s2 H2 fp) [] (compSt k js σ) H' s' ∧ tn i s'.heap ∧ (∀ b ∈ fp, H' b = none) ∧ H' D = none ∧
      s'.heap.get? D = some o ∧ (∀ v, o.data ≠ .cell v) ∧ s'.heap.SetOf (strKind X.prog X.w) D (fun k => decide (k ∈ ks)) (dcount ks) ∧ ks.length ≤ 1000 ∧ W i n ks H') ?_ m0 ?_
    · rintro n s3 ⟨i, ks, H3', o, I3, st3, fr3, fD3, oD3, dD3, set3, hz, w3⟩
      have I3' : Inv (compCx X scope Nc C s2 H2 fp) [(D, o)] (compSt k js σ) H3' s3 := I3.pins_of fun p hp => by
        have e : p = (D, o) := by simpa using hp
        subst e
        exact ⟨oD3, fD3, hDC, Dstk, dD3⟩
      rcases turn i n ks H3' w3 with ⟨stop, qn⟩ | ⟨go, step⟩
      · refine thn (T.done (compCx X scope Nc C s2 H2 fp) rfl rfl rfl rfl i _ s3 (compSt k js σ) H3' _ I3' (fpok fr3) st3 stop) fun r s4 ⟨hr, I5⟩ => ?_
        subst hr
        obtain ⟨oD5, fD5, _⟩ := I5.pin (D, o) (by simp)
        obtain ⟨mC, nC, _⟩ := I5.loc
        have hu : Un (frs X.stack) fp H2 H3' s2.heap s4.heap := I5.base
        have IX : Inv X pins σ H3' s4 := I2.call' I5.os hu I5.hok I5.bare fun b hb => ⟨(f2 b hb).2.2.2.1, (f2 b hb).2.1, (f2 b hb).2.2.2.2.1, (f2 b hb).2.2.2.2.2⟩
        exact ⟨_, D, _, mC, _, _, rfl, rfl, IX, nC, I2.fpOk (by omega) I5.free, hDC, set_at set3 (fun o' e => by rw [oD3] at e; cases e; exact oD5), qn⟩
      · refine thn (T.item (compCx X scope Nc C s2 H2 fp) rfl rfl rfl rfl i _ s3 (compSt k js σ) H3' _ I3' (fpok fr3) st3 go) fun r s4 ⟨u, hr, h4⟩ => ?_
        subst hr
        refine thn h4 fun _ s5 ⟨x, H5, I5, r5, y5, st5, fr5⟩ => ?_
        have I5' := I5.pinned (fpok fr5) (T.obj _ _ st5)
        have lenS : k ≤ (compSt k js σ).length := by rw [compSt_len]; omega
        refine thn (hg C s2 H2 fp _ s5 (compSt k js σ) H5 x u _ I5' r5 (gk _ _ _ _ lenS (step x H5 y5))) fun _ s6 ⟨σ6, H6, I6, q6, l6, a6⟩ => ?_
        have weak6 : ∀ {H' : Hp} {s' : Shared} {ps : List (Addr × Obj)}, Inv (compCx X scope Nc C s2 H2 fp) ps σ6 H' s' → Inv (compCx X scope Nc C s2 H2 fp) ps (compSt k js σ) H' s' := fun {H' s' ps} I' => I'.weak l6.symm fun j v e => by
          obtain ⟨t, j', rfl, _, _⟩ := comp_get e
          rw [a6 _ (Nat.le_add_right _ _)]
          exact e
        have pinD : ∀ {H' : Hp} {s' : Shared}, Inv (compCx X scope Nc C s2 H2 fp) ([(D, o)] ++ pinsAt fp s5.heap) σ6 H' s' → s'.heap.get? D = some o ∧ H' D = none := fun {H' s'} I' => by
          obtain ⟨e1, e2, _⟩ := I'.pin (D, o) (by simp)
          exact ⟨e1, e2⟩
        have pinF : ∀ {H' : Hp} {s' : Shared}, Inv (compCx X scope Nc C s2 H2 fp) ([(D, o)] ++ pinsAt fp s5.heap) σ6 H' s' → (∀ b ∈ fp, ∀ o, s5.heap.get? b = some o → s'.heap.get? b = some o) ∧ ∀ b ∈ fp, H' b = none := fun {H' s'} I' => by
          refine ⟨fun b hb o e => (I'.pin (b, o) (List.mem_append_right _ (List.mem_append_right _ (mem_pinsAt hb e)))).1, fun b hb => ?_⟩
          obtain ⟨o, e, d⟩ := T.obj _ _ st5 b hb
          exact (I'.pin (b, o) (List.mem_append_right _ (List.mem_append_right _ (mem_pinsAt hb e)))).2.1
        refine thn (he C s2 H2 fp _ s6 σ6 H6 _ I6 q6) fun y s8 ⟨vv, H8, I8, r8, zz, ezz, hz8, m', hm, w8⟩ => ?_
        subst ezz
        obtain ⟨tz, rfl⟩ := r8
        obtain ⟨d1, d2⟩ := pinD I8
        obtain ⟨p1, p2⟩ := pinF I8
        have set8 : s8.heap.SetOf (strKind X.prog X.w) D (fun k => decide (k ∈ ks)) (dcount ks) := set_at set3 fun o' e => by rw [oD3] at e; cases e; exact d1
        refine call_set_add (k := zz) (strKind_is zz tz) rfl set8 (by have := dcount_le ks; have : (1002 : Nat) < scanBound := (by decide); omega) fun h' hsb hS' => ?_
        have I8' : Inv (compCx X scope Nc C s2 H2 fp) [] (compSt k js σ) H8 s8 := weak6 (I8.pins_of fun p hp => absurd (show p ∈ ([] : List (Addr × Obj)) from hp) (by simp))
        have I9 : Inv (compCx X scope Nc C s2 H2 fp) [] (compSt k js σ) H8 { s8 with heap := h', toks := s8.toks + 1 } := I8'.turned (it := D) (t' := s8.toks + 1) (fun b o hb e => (hsb.2 b hb).trans e) d2 hDC (.inr (Nat.le_of_eq eD)) (fun x c e => Dcell x c e) fun p hp => absurd (show p ∈ ([] : List (Addr × Obj)) from hp) (by simp)
        obtain ⟨o', es', ep', t', eo, ex', ed, r'⟩ := id hS'
        refine ⟨m', hm, i + 1, ks ++ [zz], H8, o', I9, T.keep _ _ _ st5 (fun b hb o e => (hsb.2 b (Ne.symm (Dfp b hb))).trans (p1 b hb o e)), p2, d2, eo, (fun v z => by rw [ed] at z; cases z), ?_, ?_, w8⟩
        · have e1 : (fun k' => (decide (k' ∈ ks)) || decide (k' = zz)) = fun k' => decide (k' ∈ ks ++ [zz]) := by
            funext k'
            simp
          have e2 : (if decide (zz ∈ ks) = true then dcount ks else dcount ks + 1) = dcount (ks ++ [zz]) := by
            rw [dcount_snoc]
            simp
          rw [e1, e2] at hS'
          exact hS'
        · rw [List.length_append, List.length_singleton]
          omega
    · obtain ⟨o', es', ep', t', eo, ex', ed, r'⟩ := id hD1
      refine ⟨0, [], H2, o', I4, T.keep _ _ _ st2 (fun b _ o e => keep b o e), fun b hb => (f2 b hb).1, I2.hok.fresh (Nat.le_of_eq eD), eo, (fun v z => by rw [ed] at z; cases z), ?_, Nat.zero_le _, w0⟩
      exact hD1
  exact codeAny_compStart_set loop (wpAny_mono (T.self _ 0 _ _ (fun _ _ => False) (T.keep _ _ _ st2 fun b _ o e => keep b o e) loop) (fun _ _ q => q) fun _ _ z => z.elim)

theorem pe_lenset {elt tg iter : Expr} {scope : Scope} {p pos cpos : Pos} {Nc : List Str} {k : Nat} {js : List Nat} {wi : TI} {g : TG} {te : TE} (hgl : Gl X "len") (hm : X.mg "len" = none) (hc : X.calm = true) (S : CompScope X.env scope)
    (hjs : (Nc.drop k).map some = js.map (X.N[·]?)) (hfr : ∀ x ∈ Nc.drop k, scope.names.lookup x = some .free) (hk : k ≤ Nc.length) (hi : PI X tg iter wi)
    (hg : ∀ C s H ex, PG (compCx X scope Nc C s H ex) tg g) (gk : GOwn k g) (he : ∀ C s H ex, PE (compCx X scope Nc C s H ex) elt te)
    (hs : ∀ x, foldedSetIterable iter X.env x = pure x := by intro _; rfl) : PE X (.Call (.Name "len" p) [.SetComp elt [⟨tg, iter, [], 0⟩] scope pos] [] cpos) (tLenSet k js wi g te) := by
  intro pins s σ H Q I h
  refine wpAny_Call_Name_kw (ld_blt I hgl hm PySem.boot_len ?_ (by decide) (by decide))
  refine PyProof.Rows.callWith_builtin1 (Q := EP X pins σ Q) (Calls.spliced_cons ?_) rfl rfl
  show wpAny _ X.A (comprehension (.SetComp elt [⟨tg, iter, [], 0⟩] scope pos) scope X.env (firstIterPos [⟨tg, iter, [], 0⟩] pos) (newSet (.type "set")) false (eval iter X.env)) _ _ s
  refine wpAny_comprehension_free (use := none) rfl hs (closure_of fun y hy e => I.ok.has y.1 (S.free y hy e)) S.kind S.loc (thn (comp_coreS hc S hjs hfr hk hi hg gk he I h) fun x s1 h1 => thn h1 fun itv s2 h2 => thn h2 fun acc s3 h3 => thn h3 fun cenv s4 h4 => codeAny_mono h4 fun r s' hr => ?_)
  obtain ⟨fl, D, H', m, n, S', rfl, rfl, I', nC, fC, nDC, hS', q⟩ := hr
  refine ⟨m, nC, fun h' sb => Calls.spliced_nil ?_⟩
  have I2 : Inv X pins σ H' { s' with heap := h' } := I'.turned (it := cenv.locals) (t' := s'.toks) (fun b o hb e => (sb.2 b hb).trans e) fC.1 fC.2.1 fC.2.2.2.1 fC.2.2.2.2.1 fC.2.2.2.2.2
  obtain ⟨o, es, ep, t, e1, e2, e3, _, _, e6, e7, e8⟩ := set_at hS' (h' := h') fun o e => (sb.2 D nDC).trans e
  have b1 : scanBound ≤ 2 ^ 62 := by decide
  refine call_len_set (s := { s' with heap := h' }) e1 e2 e3 e7 (by omega) ?_
  rw [e8]
  exact ⟨.int n, H', I2.tok _, ⟨_, rfl⟩, q⟩
end
/-- the form one uses -/
theorem lset_by {J : It} {ok : Hp → Prop} {ys : List V} {g : TG} {te : TE} {σc : St} {H : Hp} {Q : VK} (Y : Yields J ok ys) (Pv : Nat → List Str → Hp → Prop) (h0 : Pv 0 [] H) (hok : ∀ i xs H, Pv i xs H → ok H)
    (step : ∀ i x xs H, ys[i]? = some x → i < ys.length → Pv i xs H → g x σc H fun σ2 H2 => te σ2 H2 fun v H4 => ∃ z, v = .str z ∧ xs.length < 1000 ∧ Nx ys.length i (Pv (i + 1) (xs ++ [z]) H4))
    (fin : ∀ xs H, Pv ys.length xs H → Q (.int (dcount xs : Nat)) H) : LSet J g te σc Q H := by
  refine ⟨fun i m xs H => m = ys.length - i ∧ i ≤ ys.length ∧ Pv i xs H, ⟨ys.length, by simp, Nat.zero_le _, h0⟩, ?_⟩
  rintro i m xs H ⟨rfl, hi, p⟩
  have o := hok i xs H p
  by_cases hlt : i < ys.length
  · refine .inr ⟨Y.go i H o hlt, fun x H' y => ?_⟩
    obtain ⟨e, hx⟩ := Y.yld i H x H' o hlt y
    subst e
    exact step i x xs _ hx hlt p
  · have e : i = ys.length := by omega
    subst e
    exact .inl ⟨Y.stop H o, fin xs H p⟩
end L2
end

section
set_option Elab.async false
set_option linter.all false
set_option maxRecDepth 100000
namespace L2
open PySem PySem.Spec PyProof.Rows HT
/-! ### steps over plain data: a supply of digits at p, addresses that no datum touches, tables -/
structure Zn where
  ex : List Addr
  p : Addr
  ts : List Addr
/-- the ground: the supply is a list of one number, what is kept apart stands, the tables are sound -/
structure Cz (z : Zn) (H : Hp) : Prop where
  mem : z.p ∈ z.ex
  al : ∀ b ∈ z.ex, ∃ xs, H b = some (.lst xs)
  held : ∃ n : Int, H z.p = some (.lst [.int n])
  tb : Tb z.ts H
/-- a step: at most the supply is another one -/
structure Stp (z : Zn) (H H' : Hp) : Prop where
  ext : Ext [z.p] H H'
  cz : Cz z H'
theorem Cz.out {z : Zn} {H : Hp} (c : Cz z H) {P : Addr} (h : P ∈ z.ts) : P ∉ z.ex := fun hm => by
  obtain ⟨ps, h1, _⟩ := c.tb P h
  obtain ⟨xs, h2⟩ := c.al P hm
  rw [h1] at h2
  cases h2
theorem Cz.ext {z : Zn} {H H' : Hp} (c : Cz z H) (e : Ext [] H H') : Cz z H' :=
  ⟨c.mem, fun b hb => let ⟨xs, h⟩ := c.al b hb; ⟨xs, e.lst (by simp) h⟩, let ⟨n, h⟩ := c.held; ⟨n, e.lst (by simp) h⟩, e.tb c.tb (by simp)⟩
theorem Cz.extp {z : Zn} {H H' : Hp} (c : Cz z H) (e : Ext [z.p] H H') (h : ∃ n : Int, H' z.p = some (.lst [.int n])) : Cz z H' :=
  ⟨c.mem, fun b hb => by
    by_cases q : b = z.p
    · subst q
      obtain ⟨n, h⟩ := h
      exact ⟨_, h⟩
    · obtain ⟨xs, h⟩ := c.al b hb
      exact ⟨xs, e.lst (by simpa using q) h⟩, h, e.tb c.tb fun P hP q => c.out hP (by rw [List.mem_singleton.mp q]; exact c.mem)⟩
theorem Stp.refl {z : Zn} {H : Hp} (c : Cz z H) : Stp z H H := ⟨Ext.refl, c⟩
theorem Stp.trans {z : Zn} {H H1 H2 : Hp} (a : Stp z H H1) (b : Stp z H1 H2) : Stp z H H2 := ⟨a.ext.trans b.ext, b.cz⟩
theorem Stp.of {z : Zn} {H H' : Hp} (c : Cz z H) (e : Ext [] H H') : Stp z H H' := ⟨e.mono (by simp), c.ext e⟩
theorem Stp.ex {z : Zn} {H H' : Hp} (s : Stp z H H') : Ext z.ex H H' := s.ext.mono fun b hb => by rw [List.mem_singleton.mp hb]; exact s.cz.mem
theorem IsD.stp {z : Zn} {H H' : Hp} {d : PyData} {v : V} (h : IsD z.ex H d v) (s : Stp z H H') : IsD z.ex H' d v := IsD.ext s.ex h
theorem IsDs.stp {z : Zn} {H H' : Hp} {d : List PyData} {v : List V} (h : IsDs z.ex H d v) (s : Stp z H H') : IsDs z.ex H' d v := IsDs.ext s.ex h
theorem Cz.free {z : Zn} {H : Hp} (c : Cz z H) {q : Addr} (h : H q = none) : q ∉ z.ex := fun hm => by
  obtain ⟨xs, h2⟩ := c.al q hm
  rw [h] at h2
  cases h2
/-- a new datum comes -/
def NewD (z : Zn) (Q : VK) (d : PyData) (H : Hp) : Prop := ∀ v H', Stp z H H' → IsD z.ex H' d v → Q v H'
theorem NewD.tup {z : Zn} {Q : VK} {ds : List PyData} {xs : List V} {H : Hp} (k : NewD z Q (.tuple ds) H) (c : Cz z H) (h : IsDs z.ex H ds xs) {q : Addr} (hq : H q = none) : Q (.ref q) (upd H q (.tup xs)) :=
  have e : Ext [] H (upd H q (.tup xs)) := Ext.new hq _
  k _ _ (Stp.of c e) ⟨q, xs, rfl, c.free hq, upd_same, IsDs.ext (e.mono (by simp)) h⟩
theorem NewD.lst {z : Zn} {Q : VK} {ds : List PyData} {xs : List V} {H : Hp} (k : NewD z Q (.list ds) H) (c : Cz z H) (h : IsDs z.ex H ds xs) {q : Addr} (hq : H q = none) : Q (.ref q) (upd H q (.lst xs)) :=
  have e : Ext [] H (upd H q (.lst xs)) := Ext.new hq _
  k _ _ (Stp.of c e) ⟨q, xs, rfl, c.free hq, upd_same, IsDs.ext (e.mono (by simp)) h⟩
theorem NewD.same {z : Zn} {Q : VK} {d : PyData} {v : V} {H : Hp} (k : NewD z Q d H) (c : Cz z H) (h : IsD z.ex H d v) : Q v H := k v H (Stp.refl c) h
theorem size1000 : 1000 ≤ sizeLine := Nat.le_of_lt (small1000 (Nat.le_refl _))
section
variable {X : Cx} {es : List Expr} {t : TA} {pos : Pos}
def tTupD (t : TA) : TE := fun σ H Q => t σ H fun xs H1 => ∃ (z : Zn) (ds : List PyData), IsDs z.ex H1 ds xs ∧ ds.length ≤ 1000 ∧ Cz z H1 ∧ NewD z Q (.tuple ds) H1
def tLstD (t : TA) : TE := fun σ H Q => t σ H fun xs H1 => ∃ (z : Zn) (ds : List PyData), IsDs z.ex H1 ds xs ∧ ds.length ≤ 1000 ∧ Cz z H1 ∧ NewD z Q (.list ds) H1
theorem pe_tupD {x1} (h : PA X es t) : PE X (.Tuple es x1 pos) (tTupD t) := by
  intro pins s σ H Q I hq
  refine wpAny_Tuple_spliced (thn (h pos pins s σ H _ I hq) fun us s1 hz => ?_)
  obtain ⟨xs, H1, I1, r, z, ds, hd, hl, c, k⟩ := hz
  have hxs : xs.length ≤ sizeLine := by rw [hd.length]; exact Nat.le_trans hl size1000
  refine ⟨by rw [← r.length]; exact hxs, ?_⟩
  have hf : H1 s1.heap.objs.size = none := I1.hok.fresh (Nat.le_refl _)
  exact ⟨.ref s1.heap.objs.size, upd H1 s1.heap.objs.size (.tup xs), I1.laid (t' := s1.toks) (fun b u e => Heap.get?_push_of_some _ e) (Nat.le_refl _) ⟨hxs, us, r, ⟨_, Heap.get?_push_size _ rfl, rfl, _, rfl⟩⟩, rfl, k.tup c hd hf⟩
theorem pe_lstD (h : PA X es t) : PE X (.List es pos) (tLstD t) := by
  intro pins s σ H Q I hq
  refine wpAny_List_spliced (thn (h pos pins s σ H _ I hq) fun us s1 hz => ?_)
  obtain ⟨xs, H1, I1, r, z, ds, hd, hl, c, k⟩ := hz
  have hxs : xs.length ≤ sizeLine := by rw [hd.length]; exact Nat.le_trans hl size1000
  refine ⟨by rw [← r.length]; exact hxs, ?_⟩
  have hf : H1 s1.heap.objs.size = none := I1.hok.fresh (Nat.le_refl _)
  exact ⟨.ref s1.heap.objs.size, upd H1 s1.heap.objs.size (.lst xs), I1.laid (t' := s1.toks) (fun b u e => Heap.get?_push_of_some _ e) (Nat.le_refl _) ⟨hxs, us, 0, r, Heap.get?_push_size _ rfl⟩, rfl, k.lst c hd hf⟩
/-- tuples, one behind the other -/
theorem cat_tup0 {prog : Program} {w : World} {A : Around} {E : Value → Shared → Prop} {s : Shared} {t b : Addr} {ws : List Value} {Q : Value → Shared → Prop} (ht : IsTup s.heap t #[]) (hb : IsTup s.heap b ws.toArray) (h1 : Q (.ref b) s) : wpAny (model prog w) A (binaryOp .Add (.ref t) (.ref b)) Q E s := by
  obtain ⟨⟨cls, dd, data, sl⟩, ho, hc, n, hd⟩ := id ht
  obtain ⟨⟨cls2, dd2, data2, sl2⟩, ho2, hc2, n2, hd2⟩ := id hb
  simp only at hc hd hc2 hd2
  subst hc hd hc2 hd2
  exact concat_meets ⟨_, ho, rfl⟩ ⟨_, ho2, rfl⟩ noFill_tuple_add seq_tuple_add PySem.F.slot_tuple_add PySem.F.entry_tuple_add (PySem.F.args_tuple_add_2 _ _)
    (tuple_addW0 t b #[] ws.toArray n n2 dd dd2 sl sl2 rfl) ⟨ho, ho2, h1⟩
def rCatTD : R2 := fun x y H Q => ∃ (z : Zn) (ds es : List PyData), IsD z.ex H (.tuple ds) x ∧ IsD z.ex H (.tuple es) y ∧ ds.length + es.length ≤ 1000 ∧ Cz z H ∧ NewD z Q (.tuple (ds ++ es)) H
theorem op_catTD : OpR X (binaryOp .Add) rCatTD := by
  intro pins s σ H x y v u Q I rx ry h
  obtain ⟨z, ds, es, ⟨a, xs, rfl, na, ha, hd⟩, ⟨b, ys, rfl, nb, hb, he⟩, hl, c, k⟩ := h
  have l1 := hd.length
  have l2 := he.length
  have hz : xs.length + ys.length ≤ sizeLine := by have := size1000; omega
  by_cases hx : xs = []
  · subst hx
    have e0 : ds = [] := List.length_eq_zero_iff.mp l1.symm
    subst e0
    cases rx
    cases ry
    obtain ⟨its, r1, p1, _⟩ := I.tuple (SqT.of (K := X.K) ha)
    obtain ⟨its2, r2, p2, _⟩ := I.tuple (SqT.of (K := X.K) hb)
    cases r1
    exact cat_tup0 p1 p2 ⟨.ref b, H, I, rfl, k.same c ⟨b, ys, rfl, nb, hb, he⟩⟩
  · refine op_catT pins s σ H (.ref a) (.ref b) v u Q I rx ry ⟨a, b, xs, ys, rfl, rfl, SqT.of ha, SqT.of hb, hx, hz, fun e => ?_, fun _ q hq => k.tup c (IsDs.append hd he) hq⟩
    have e0 : es = [] := by
      rw [e] at l2
      exact List.length_eq_zero_iff.mp l2.symm
    rw [e0, List.append_nil] at k
    exact k.same c ⟨a, xs, rfl, na, ha, hd⟩
def rCatLD : R2 := fun x y H Q => ∃ (z : Zn) (ds es : List PyData), IsD z.ex H (.list ds) x ∧ IsD z.ex H (.list es) y ∧ ds.length + es.length ≤ 1000 ∧ Cz z H ∧ NewD z Q (.list (ds ++ es)) H
theorem op_catLD : OpR X (binaryOp .Add) rCatLD := by
  intro pins s σ H x y v u Q I rx ry h
  obtain ⟨z, ds, es, ⟨a, xs, rfl, na, ha, hd⟩, ⟨b, ys, rfl, nb, hb, he⟩, hl, c, k⟩ := h
  have l1 := hd.length
  have l2 := he.length
  have := size1000
  exact op_cat pins s σ H (.ref a) (.ref b) v u Q I rx ry ⟨a, b, xs, ys, rfl, rfl, ha, hb, by omega, fun q hq => k.lst c (IsDs.append hd he) hq⟩
/-- slices -/
def cutD (ds : List PyData) (lo hi : Option Int) : List PyData := (ds.drop (HT.sIx ds.length 0 lo)).take (HT.sIx ds.length ds.length hi - HT.sIx ds.length 0 lo)
theorem IsDs.cut {ex : List Addr} {H : Hp} {ds : List PyData} {xs : List V} (lo hi : Option Int) (h : IsDs ex H ds xs) : IsDs ex H (cutD ds lo hi) (cutV xs lo hi) := by
  unfold cutD cutV
  rw [h.length]
  exact IsDs.take _ (IsDs.drop _ h)
theorem getItem_tuple_whole {prog : Program} {w : World} {A : Around} {E : Value → Shared → Prop} {s : Shared} {t sl : Addr} {items : Array Value} {vl vu : Value} {lo hi : Option Int} {Q : Value → Shared → Prop} (ht : IsTup s.heap t items) (hs : s.heap.IsSliceOf sl vl vu .none) (pl : IsPart vl lo) (pu : IsPart vu hi)
    (hw : sIx items.size 0 lo = 0 ∧ sIx items.size items.size hi = items.size) (h : Q (.ref t) s) : wpAny (model prog w) A (getItem (.ref t) (.ref sl)) Q E s := by
  obtain ⟨os, hos, hcs, hds⟩ := id hs
  have hTs : s.TypeIs (.ref sl) "slice" := ⟨os, hos, hcs⟩
  unfold getItem
  try with_reducible refine wpAny_holding ?_
  first | refine wpAny_bind (wpAny_pure ?_) | skip
  refine wpAny_bind (wpAny_sequenceKey ht.typeIs (by decide) ?_)
  refine wpAny_bind (wpAny_callSpecial?_slot (name := Str.ofString "__getitem__") ht.typeIs PyProof.Rows.slot_tuple_getitem
    (wpAny_call_entry PyProof.Rows.slot_tuple_getitem ht.typeIs entry_tuple_getitem ?_ (args_tuple_getitem _ _)))
  show wpAny _ _ (Builtin.Tuple.tupleItemsOf (.ref t) >>= _) _ _ s
  refine wpAny_bind (tupleItemsOf_ ht ?_)
  refine wpAny_bind (wpAny_typeOf hTs ?_)
  rw [if_pos (by decide)]
  refine wpAny_bind (sliceApplied_gen hs pl pu ?_)
  have hyes : (((sIx items.size 0 lo : Nat) : Int) == 0 && (1 : Int) == 1 && (sIx items.size items.size hi - sIx items.size 0 lo) == items.size) = true := by
    rw [hw.1, hw.2]
    simp
  show wpAny _ _ (if (((sIx items.size 0 lo : Nat) : Int) == 0 && (1 : Int) == 1 && (sIx items.size items.size hi - sIx items.size 0 lo) == items.size) = true then _ else _) _ _ s
  rw [if_pos hyes]
  refine wpAny_bind (wpAny_bind (wpAny_typeOf ht.typeIs (wpAny_pure ?_)))
  rw [if_pos (by decide)]
  exact wpAny_bind (wpAny_rule (wpAny_pure ⟨_, rfl, wpAny_pure h⟩))
def rSlTD : V → Option Int → Option Int → Hp → VK → Prop := fun x lo hi H Q => ∃ (z : Zn) (ds : List PyData), IsD z.ex H (.tuple ds) x ∧ Cz z H ∧ NewD z Q (.tuple (cutD ds lo hi)) H
theorem sl_tupD : SlR X rSlTD := by
  intro pins s σ H x v vl vu lo hi sl Q I rx hs pl pu h
  obtain ⟨z, ds, ⟨a, xs, rfl, na, ha, hd⟩, c, k⟩ := h
  by_cases hw : HT.sIx xs.length 0 lo = 0 ∧ HT.sIx xs.length xs.length hi = xs.length
  · cases rx
    obtain ⟨its, r, ht, hz⟩ := I.tuple (SqT.of (K := X.K) ha)
    have hlen : its.toArray.size = xs.length := by rw [List.size_toArray]; exact r.length.symm
    refine ⟨"tuple", _, PyProof.Rows.slot_tuple_getitem.lookup, ht.typeIs, ?_⟩
    refine getItem_tuple_whole ht hs pl pu (by rw [hlen]; exact hw) ⟨.ref a, H, I, rfl, ?_⟩
    have e0 : cutD ds lo hi = ds := by
      unfold cutD
      rw [← hd.length, hw.1, hw.2, List.drop_zero, Nat.sub_zero, hd.length, List.take_length]
    rw [e0] at k
    exact k.same c ⟨a, xs, rfl, na, ha, hd⟩
  · exact sl_tup pins s σ H (.ref a) v vl vu lo hi sl Q I rx hs pl pu ⟨a, xs, rfl, SqT.of ha, hw, fun q hq => k.tup c (IsDs.cut lo hi hd) hq⟩
def rSlLD : V → Option Int → Option Int → Hp → VK → Prop := fun x lo hi H Q => ∃ (z : Zn) (ds : List PyData), IsD z.ex H (.list ds) x ∧ Cz z H ∧ NewD z Q (.list (cutD ds lo hi)) H
theorem sl_listD : SlR X rSlLD := by
  intro pins s σ H x v vl vu lo hi sl Q I rx hs pl pu h
  obtain ⟨z, ds, ⟨a, xs, rfl, na, ha, hd⟩, c, k⟩ := h
  exact sl_list pins s σ H (.ref a) v vl vu lo hi sl Q I rx hs pl pu ⟨a, xs, rfl, SqL.of ha, fun q hq => k.lst c (IsDs.cut lo hi hd) hq⟩
/-- list(..), tuple(..) of a datum -/
theorem call_listD : CallR X (.type "list") (fun xs H Q => ∃ (z : Zn) (x : V) (ds : List PyData), xs = [x] ∧ (IsD z.ex H (.tuple ds) x ∨ IsD z.ex H (.list ds) x) ∧ Cz z H ∧ NewD z Q (.list ds) H) := by
  intro pins s σ H xs us Q I r h
  obtain ⟨z, x, ds, rfl, hd, c, k⟩ := h
  rcases hd with ⟨a, ys, rfl, na, ha, hd⟩ | ⟨a, ys, rfl, na, ha, hd⟩
  · exact call_list_of pins s σ H [.ref a] us Q I r ⟨a, ys, rfl, .inr (SqT.of ha), fun l hl => k.lst c hd hl⟩
  · exact call_list_of pins s σ H [.ref a] us Q I r ⟨a, ys, rfl, .inl (SqL.of ha), fun l hl => k.lst c hd hl⟩
theorem call_tupleD : CallR X (.type "tuple") (fun xs H Q => ∃ (z : Zn) (x : V) (ds : List PyData), xs = [x] ∧ IsD z.ex H (.list ds) x ∧ Cz z H ∧ NewD z Q (.tuple ds) H) := by
  intro pins s σ H xs us Q I r h
  obtain ⟨z, x, ds, rfl, ⟨a, ys, rfl, na, ha, hd⟩, c, k⟩ := h
  exact call_tuple_of pins s σ H [.ref a] us Q I r ⟨a, ys, rfl, .inl ⟨SqL.of ha, fun l hl => k.tup c hd hl⟩⟩
/-- one of a datum's items -/
theorem atI_pos {α : Type} {xs : List α} {i : Int} {v : α} (h0 : 0 ≤ i) (h : xs[i.toNat]? = some v) : atI xs i = some v := by
  have := atI_nat h
  rw [show ((i.toNat : Nat) : Int) = i by omega] at this
  exact this
theorem IxR.mono {r r' : R2} (h : IxR X r) (k : ∀ x y H Q, r' x y H Q → r x y H Q) : IxR X r' := by
  intro a1 a2 a3 a4 a5 a6 a7 a8 a9 a10 a11 a12 a13 a14 q
  exact h a1 a2 a3 a4 a5 a6 a7 a8 a9 a10 a11 a12 a13 a14 (k _ _ _ _ q)
def rIxD : R2 := fun x y H Q => ∃ (z : Zn) (ds : List PyData) (i : Int) (d : PyData), (IsD z.ex H (.tuple ds) x ∨ IsD z.ex H (.list ds) x) ∧ y = .int i ∧ 0 ≤ i ∧ ds[i.toNat]? = some d ∧ ∀ v, IsD z.ex H d v → Q v H
theorem ix_D : IxR X rIxD := by
  have h1 : IxR X (fun x y H Q => rIxL X.K x y H Q ∨ rIxT X.K x y H Q) := ix_list.or ix_tup
  refine IxR.mono h1 fun x y H Q h => ?_
  obtain ⟨z, ds, i, d, hd, rfl, h0, hg, q⟩ := h
  rcases hd with ⟨a, xs, rfl, na, ha, hd⟩ | ⟨a, xs, rfl, na, ha, hd⟩
  · obtain ⟨v, hv, dv⟩ := hd.get hg
    exact .inr ⟨a, xs, i, v, rfl, rfl, SqT.of ha, atI_pos h0 hv, q v dv⟩
  · obtain ⟨v, hv, dv⟩ := hd.get hg
    exact .inl ⟨a, xs, i, v, rfl, rfl, SqL.of ha, atI_pos h0 hv, q v dv⟩
/-- how many items it has -/
theorem call_lenD : CallR X (.builtin "len") (fun xs H Q => ∃ (z : Zn) (x : V) (ds : List PyData), xs = [x] ∧ (IsD z.ex H (.tuple ds) x ∨ IsD z.ex H (.list ds) x) ∧ Q (.int ds.length) H) := by
  intro pins s σ H xs us Q I r h
  obtain ⟨z, x, ds, rfl, hd, q⟩ := h
  rcases hd with ⟨a, ys, rfl, na, ha, hd⟩ | ⟨a, ys, rfl, na, ha, hd⟩
  · exact call_len_seq pins s σ H [.ref a] us Q I r ⟨a, ys, rfl, .inr (SqT.of ha), by rw [hd.length]; exact q⟩
  · exact call_len_seq pins s σ H [.ref a] us Q I r ⟨a, ys, rfl, .inl (SqL.of ha), by rw [hd.length]; exact q⟩
end
/-! ### a list of one's own beside -/
mutual
theorem IsD.more {ex : List Addr} {H : Hp} {l : Addr} (h0 : H l = none) : ∀ {d : PyData} {v : V}, IsD ex H d v → IsD (l :: ex) H d v
  | .none, _, h => h
  | .bool _, _, h => h
  | .int _, _, h => h
  | .str _, _, h => h
  | .tuple ds, v, h => by
    obtain ⟨a, vs, h1, h2, h3, h4⟩ := h
    refine ⟨a, vs, h1, fun z => ?_, h3, IsDs.more h0 h4⟩
    rcases List.mem_cons.mp z with rfl | z
    · rw [h0] at h3; cases h3
    · exact h2 z
  | .list ds, v, h => by
    obtain ⟨a, vs, h1, h2, h3, h4⟩ := h
    refine ⟨a, vs, h1, fun z => ?_, h3, IsDs.more h0 h4⟩
    rcases List.mem_cons.mp z with rfl | z
    · rw [h0] at h3; cases h3
    · exact h2 z
  | .dict _, _, h => h.elim
theorem IsDs.more {ex : List Addr} {H : Hp} {l : Addr} (h0 : H l = none) : ∀ {ds : List PyData} {vs : List V}, IsDs ex H ds vs → IsDs (l :: ex) H ds vs
  | [], _, h => h
  | d :: ds, vs, h => by
    obtain ⟨v, r, h1, h2, h3⟩ := h
    exact ⟨v, r, h1, IsD.more h0 h2, IsDs.more h0 h3⟩
end
def Zn.with (z : Zn) (l : Addr) : Zn := ⟨l :: z.ex, z.p, z.ts⟩
/-- a step with changes of the list l, too -/
structure Stl (z : Zn) (l : Addr) (H H' : Hp) : Prop where
  ext : Ext [l, z.p] H H'
  cz : Cz (z.with l) H'
theorem Cz.with {z : Zn} {H : Hp} {l : Addr} {xs : List V} (c : Cz z H) (h0 : H l = none) : Cz (z.with l) (upd H l (.lst xs)) := by
  have c' := c.ext (Ext.new h0 (.lst xs))
  refine ⟨List.mem_cons_of_mem _ c.mem, fun b hb => ?_, c'.held, c'.tb⟩
  rcases List.mem_cons.mp hb with rfl | hb
  · exact ⟨xs, upd_same⟩
  · exact c'.al b hb
theorem Cz.less {z : Zn} {H : Hp} {l : Addr} (c : Cz (z.with l) H) (hp : z.p ∈ z.ex) : Cz z H := ⟨hp, fun b hb => c.al b (List.mem_cons_of_mem _ hb), c.held, c.tb⟩
/-- back: the list was new -/
theorem Stl.back {z : Zn} {l : Addr} {H H' : Hp} (s : Stl z l H H') (h0 : H l = none) (hp : z.p ∈ z.ex) : Stp z H H' := by
  refine ⟨⟨fun b o hb h n => s.ext.old b o (fun q => ?_) h n, fun b ps hb h => s.ext.tab b ps (fun q => ?_) h⟩, s.cz.less hp⟩
  all_goals
    rcases List.mem_cons.mp q with rfl | q
    · rw [h0] at h; cases h
    · exact hb q
theorem Stl.new {z : Zn} {H : Hp} {l : Addr} {xs : List V} (c : Cz z H) (h0 : H l = none) : Stl z l H (upd H l (.lst xs)) := ⟨Ext.new h0 _, c.with h0⟩
theorem Stl.stp {z : Zn} {l : Addr} {H H1 H2 : Hp} (a : Stl z l H H1) (b : Stp (z.with l) H1 H2) : Stl z l H H2 := ⟨a.ext.trans (b.ext.mono fun q hq => List.mem_cons_of_mem _ hq), b.cz⟩
/-- the list l is another one -/
theorem Stl.put {z : Zn} {l : Addr} {H H1 : Hp} {xs : List V} (a : Stl z l H H1) (hne : l ≠ z.p) : Stl z l H (upd H1 l (.lst xs)) := by
  have e : Ext [l, z.p] H1 (upd H1 l (.lst xs)) := Ext.put (by simp) _
  have c := a.cz
  refine ⟨a.ext.trans e, c.mem, fun b hb => ?_, ?_, (Ext.put (ex := [l]) (by simp) _).tb c.tb fun P hP q => c.out hP (by rw [List.mem_singleton.mp q]; exact List.mem_cons_self)⟩
  · by_cases q : b = l
    · subst q
      exact ⟨xs, upd_same⟩
    · obtain ⟨ys, h⟩ := c.al b hb
      exact ⟨ys, by rw [upd_ne q]; exact h⟩
  · obtain ⟨n, h⟩ := c.held
    exact ⟨n, by rw [upd_ne (show (z.with l).p ≠ l from fun q => hne q.symm)]; exact h⟩
theorem Stl.ex {z : Zn} {l : Addr} {H H' : Hp} (s : Stl z l H H') : Ext (z.with l).ex H H' := s.ext.mono fun b hb => by
  rcases List.mem_cons.mp hb with rfl | hb
  · exact List.mem_cons_self
  · rw [List.mem_singleton.mp hb]; exact s.cz.mem
theorem IsD.stl {z : Zn} {l : Addr} {H H' : Hp} {d : PyData} {v : V} (h : IsD (z.with l).ex H d v) (s : Stl z l H H') : IsD (z.with l).ex H' d v := IsD.ext s.ex h
theorem IsDs.stl {z : Zn} {l : Addr} {H H' : Hp} {d : List PyData} {v : List V} (h : IsDs (z.with l).ex H d v) (s : Stl z l H H') : IsDs (z.with l).ex H' d v := IsDs.ext s.ex h
theorem put_ext {l : Addr} {H : Hp} {ex : List Addr} {o : HO} (h : l ∈ ex) {ds : List PyData} {vs : List V} (hd : IsDs ex H ds vs) : IsDs ex (upd H l o) ds vs := IsDs.ext (Ext.put h _) hd
end L2
end

section
set_option Elab.async false
set_option linter.all false
set_option maxRecDepth 100000
namespace L2
open PySem PySem.Spec PyProof.Rows
/-! ### texts as lists of signs -/
def tx (l : List Nat) : Str := ⟨l.toArray⟩
theorem tx_len (l : List Nat) : (tx l).length = l.length := by show l.toArray.size = _; simp
theorem tx_append (a b : List Nat) : tx a ++ tx b = tx (a ++ b) := by
  show (⟨a.toArray ++ b.toArray⟩ : Str) = ⟨(a ++ b).toArray⟩
  simp
theorem tx_inj {a b : List Nat} (h : tx a = tx b) : a = b := by
  have h2 : a.toArray = b.toArray := congrArg Str.cps h
  simpa using h2
theorem tx_slice_to {l : List Nat} {i : Int} (h0 : 0 ≤ i) (h1 : i ≤ l.length) : Txt.slice (tx l) none (some i) = tx (l.take i.toNat) := by
  have h := eq_of_beq (slice_closes_to (x := tx l) (j := i) ⟨h0, by simpa [tx] using h1⟩)
  rw [h]
  simp [tx]
theorem tx_slice_from {l : List Nat} {i : Int} (h0 : 0 ≤ i) (h1 : i ≤ l.length) : Txt.slice (tx l) (some i) none = tx (l.drop i.toNat) := by
  have h := eq_of_beq (slice_closes_from (x := tx l) (i := i) ⟨h0, by simpa [tx] using h1⟩)
  rw [h]
  have e : ((tx l).cps.toList.drop i.toNat).take (((tx l).cps.toList.length : Int) - i).toNat = l.drop i.toNat := by
    rw [List.take_of_length_le]
    · simp [tx]
    · simp [tx]
      omega
  rw [e]
  rfl
theorem tx_join : ∀ l : List Nat, Txt.join ("" : Str) (l.map fun c => tx [c]) = tx l := by
  intro l
  rw [show Txt.join ("" : Str) (l.map fun c => tx [c]) = Str.join ("" : Str) (l.map fun c => tx [c]) from PySem.StrLaws.glued_eq_join _ _]
  induction l with
  | nil => rfl
  | cons c l ih =>
    cases l with
    | nil => rfl
    | cons d r =>
      have e0 : ("" : Str) = tx [] := by decide +kernel
      show tx [c] ++ ("" : Str) ++ Str.join ("" : Str) ((d :: r).map fun c => tx [c]) = _
      rw [ih, e0, tx_append, tx_append]
      rfl
theorem map_len1 (l : List Nat) : ((l.map fun c => tx [c]).map (·.length)).sum = l.length := by
  induction l with
  | nil => rfl
  | cons c l ih =>
    rw [List.map_cons, List.map_cons, List.sum_cons, ih, tx_len]
    simp
    omega
theorem cut_to {ds : List PyData} {i : Int} (h : 0 ≤ i) : cutD ds none (some i) = ds.take i.toNat := by
  unfold cutD
  show (ds.drop 0).take ((if i < 0 then _ else min i.toNat ds.length) - 0) = _
  rw [if_neg (by omega), List.drop_zero, Nat.sub_zero]
  by_cases q : i.toNat ≤ ds.length
  · rw [Nat.min_eq_left q]
  · rw [Nat.min_eq_right (by omega), List.take_length, List.take_of_length_le (by omega)]
theorem cut_from {ds : List PyData} {i : Int} (h : 0 ≤ i) : cutD ds (some i) none = ds.drop i.toNat := by
  unfold cutD
  show (ds.drop (if i < 0 then _ else min i.toNat ds.length)).take (ds.length - (if i < 0 then _ else min i.toNat ds.length)) = _
  rw [if_neg (by omega)]
  by_cases q : i.toNat ≤ ds.length
  · rw [Nat.min_eq_left q, List.take_of_length_le (by rw [List.length_drop]; omega)]
  · rw [Nat.min_eq_right (by omega), Nat.sub_self, List.take_zero, List.drop_eq_nil_of_le (by omega)]
end L2
end

section
set_option Elab.async false
set_option linter.all false
set_option maxRecDepth 100000
namespace L2
open PySem PySem.Spec PyProof.Rows
/-! ### texts with fields -/
/-- how a value is written -/
def fmtV : V → Option Str
  | .str x => if x.length ≤ 1000 then some x else none
  | .int i => if i.natAbs.log2 < 1920 then some (toString i : String) else none
  | _ => none
def tFmt (te : TE) : TE := fun σ H Q => te σ H fun v H1 => ∃ x, fmtV v = some x ∧ Q (.str x) H1
abbrev TJ := St → Hp → Str → (Str → Hp → Prop) → Prop
def tJ0 : TJ := fun _ H acc Q => acc.length ≤ sizeLine ∧ Q acc H
def tJ1 (te : TE) (r : TJ) : TJ := fun σ H acc Q => te σ H fun v H1 => ∃ y, v = .str y ∧ (acc ++ y).length ≤ sizeLine ∧ r σ H1 (acc ++ y) Q
def PJ (X : Cx) (vs : List Expr) (t : TJ) : Prop := ∀ (pins : List (Addr × Obj)) (s : Shared) (σ : St) (H : Hp) (acc : Str) (Q : Str → Hp → Prop), Inv X pins σ H s → t σ H acc Q →
  Joins (model X.prog X.w) X.A X.xe (evalEach vs X.env) acc (fun out s₁ => out.length ≤ sizeLine ∧ ∃ H', Inv X pins σ H' s₁ ∧ Q out H') s
section
variable {X : Cx} {e v₁ v₂ : Expr} {es rest : List Expr} {te : TE} {r : TJ} {pos : Pos}
theorem pj_nil : PJ X [] tJ0 := fun pins s σ H acc Q I h => ⟨h.1, H, I, h.2⟩
theorem pj_cons (he : PE X e te) (hr : PJ X es r) (h : evalEach (e :: es) X.env = eval e X.env :: evalEach es X.env := by rfl) : PJ X (e :: es) (tJ1 te r) := fun pins s σ H acc Q I q => by
  rw [h]
  refine thn (he pins s σ H _ I q) fun u s1 ⟨v, H1, I1, rv, y, ev, hl, q1⟩ => ?_
  subst ev
  obtain ⟨tk, rfl⟩ : ∃ tk, u = Value.str y tk := rv
  exact ⟨y, tk, rfl, hl, hr pins s1 σ H1 _ Q I1 q1⟩
def tJoin (r : TJ) : TE := fun σ H Q => r σ H Str.empty fun x H1 => Q (.str x) H1
theorem joins_mono {M : Model} {A : Around} {E : Value → Shared → Prop} {Q Q' : Str → Shared → Prop} (hq : ∀ out s, Q out s → Q' out s) : ∀ (l : List (Sem Value)) (acc : Str) (s : Shared), Joins M A E l acc Q s → Joins M A E l acc Q' s
  | [], acc, s, h => hq _ _ h
  | _ :: l, acc, s, h => thn h fun v s1 ⟨y, tk, ev, hl, z1⟩ => ⟨y, tk, ev, hl, joins_mono hq l _ _ z1⟩
theorem pe_join (h : PJ X (v₁ :: v₂ :: rest) r) : PE X (.JoinedStr (v₁ :: v₂ :: rest) pos) (tJoin r) := fun pins s σ H Q I q =>
  wpAny_JoinedStr (joins_mono (fun out s1 ⟨hl, H', I', q'⟩ => ⟨hl, V.str out, H', I'.tok _, ⟨_, rfl⟩, q'⟩) _ _ _ (h pins s σ H Str.empty _ I q))
theorem pe_fmt (he : PE X e te) : PE X (.FormattedValue e (-1) none pos) (tFmt te) := fun pins s σ H Q I q => by
  refine wpAny_FormattedValue_plain (thn (he pins s σ H _ I q) fun u s1 ⟨v, H1, I1, rv, x, ev, q1⟩ => ?_)
  cases v with
  | str y =>
    obtain ⟨tk, rfl⟩ : ∃ tk, u = Value.str y tk := rv
    have ev : (if y.length ≤ 1000 then some y else none) = some x := ev
    split at ev
    · rename_i hl
      cases ev
      refine wpAny_formatField_str ⟨V.str _, H1, I1, ⟨_, rfl⟩, q1⟩ ⟨V.str _, H1, I1.tok _, ⟨_, rfl⟩, q1⟩ (Nat.le_of_lt (small1000 hl))
    · cases ev
  | int i =>
    obtain ⟨tk, rfl⟩ : ∃ tk, u = Value.int i tk := rv
    have ev : (if i.natAbs.log2 < 1920 then some (Str.ofString (toString i)) else none) = some x := ev
    split at ev
    · rename_i hl
      cases ev
      exact wpAny_formatField_int hl ⟨V.str _, H1, I1.tok _, ⟨_, rfl⟩, q1⟩
    · cases ev
  | _ => cases ev
end
end L2
end

section
set_option Elab.async false
set_option linter.all false
set_option maxRecDepth 100000
namespace L2
open PySem PySem.Spec PyProof.Rows
open AutoSeq1 (wpAny_loadPart')
/-! ### enumerate -/
theorem boot_enum : bootBuiltins ("enumerate" : Str) = some (.type "enumerate") := by decide +kernel
/-- iterator's records have turned, a new tuple has come -/
theorem Inv.turnedNew {X : Cx} {pins : List (Addr × Obj)} {σ : St} {H : Hp} {s : Shared} {h' : Heap} {t' : Nat} {fp : List Addr} {T : Addr} {xs : List V} {its : List Value} (I : Inv X pins σ H s) (hf : ∀ b ∈ fp, FpOk X pins H b) (k : ∀ b o, b ∉ fp → s.heap.get? b = some o → h'.get? b = some o)
    (hx : ∀ b ∈ fp, ∃ o, h'.get? b = some o) (hT : s.heap.objs.size ≤ T) (ht : IsTup h' T its.toArray) (r : Vals xs its) (hl : xs.length ≤ sizeLine) : Inv X pins σ (upd H T (.tup xs)) { s with heap := h', toks := t' } := by
  have fr : H T = none := I.hok.fresh hT
  have nT : ∀ {b o}, s.heap.get? b = some o → b ≠ T := fun z y => absurd (Heap.lt_size z) (Nat.not_lt.mpr (y ▸ hT))
  have kH : ∀ b u, H b = some u → upd H T (.tup xs) b = some u := fun b u z => by rw [upd_ne (fun y => by rw [y, fr] at z; cases z)]; exact z
  have nf : ∀ b u, H b = some u → b ∉ fp := fun b u z y => by rw [(hf b y).1] at z; cases z
  refine I.step (g' := s.gens) (d' := s.drawn) (ch := fp) (fun b hb => ⟨(hf b hb).2.2.2.1, (hf b hb).2.1, (hf b hb).2.2.2.2.1, (hf b hb).2.2.2.2.2⟩) (fun b o _ _ hb z _ => k b o hb z) (fun b o _ _ hb z _ => ⟨o.slots, k b o hb z⟩) (fun b o _ z n => by rw [upd_ne (nT z)]; exact n)
    (fun b o hb z => ⟨o, k b o hb z⟩) (fun b ys z => kH b _ z) (fun b o u z => kH b _ z) (fun b ps z => ⟨#[], by rw [kH b _ z]; simp⟩) (fun m hn => ?_) (fun b u z => ?_) ⟨I.bare.1, Nat.le_refl _⟩
  · obtain ⟨o, es, ep, ho, rr⟩ := hn
    exact ⟨o, es, ep, k _ o (fun y => (hf _ y).2.1 rfl) ho, rr⟩
  · by_cases hb : b = T
    · subst hb
      rw [upd_same] at z
      cases z
      exact ⟨hl, its, r, ht⟩
    · rw [upd_ne hb] at z
      refine (I.hok b u z).stay (fun c v hc y => k c v (fun x => ?_) y) (fun c y => kH c _ y) (fun c ys y => kH c _ y)
      rcases hc with e | e
      · rw [e] at x; exact nf b u z x
      · exact nf c _ e x
/-! ### .. over a tuple -/
section
variable {prog : Program} {w : World} {A : Around} {E : Value → Shared → Prop} {s : Shared}
theorem nextOf_titem {it l : Addr} {i : Nat} {items : Array Value} {x : Value} {Q : Value → Shared → Prop} (hit : s.heap.IsTupleIter it l i) (hl : s.heap.IsTuple l items) (hx : items[i]? = some x)
    (hQ : ∀ h', h'.IsTupleIter it l (i + 1) → Heap.SameBut it s.heap h' → Q x { s with heap := h' }) : wpAny (model prog w) A (Builtin.SmallTypes.nextOf (.ref it)) Q E s := by
  obtain ⟨o, ho, hc, hd⟩ := id hit
  obtain ⟨ol, hol, _, nl, hdl⟩ := hl
  unfold Builtin.SmallTypes.nextOf
  refine wpAny_bind (wpAny_callSpecial?_slot (name := Str.ofString "__next__") hit.typeIs F.slot_tuple_iterator_next (wpAny_call_entry F.slot_tuple_iterator_next hit.typeIs F.entry_tuple_iterator_next ?_ (F.args_tuple_iterator_next_1 _)))
  show wpAny _ _ (field (.ref it) 0 >>= _) _ _ s
  refine wpAny_bind (wpAny_field ho hd (x := .ref l) rfl ?_)
  show wpAny _ _ (if (Value.ref l == Value.none) = true then _ else _) _ _ s
  rw [if_neg (by simp)]
  show wpAny _ _ (field (.ref it) 1 >>= _) _ _ s
  refine wpAny_bind (wpAny_field ho hd (x := .int i 0) rfl ?_)
  show wpAny _ _ (seqItems? (.ref l) >>= _) _ _ s
  refine wpAny_bind (wpAny_seqItems hol hdl ?_)
  simp only [Int.toNat_natCast, hx]
  refine wpAny_bind (wpAny_setField ho hd (by simp) (wpAny_pure ⟨x, rfl, wpAny_pure (hQ _ ⟨_, Heap.get?_update_self _ ho (Obj.isFreed_of_fields (Obj.data_mapFields hd _)), (Obj.cls_mapFields ..).trans hc, ?_⟩ (Heap.SameBut.update ..))⟩))
  rw [Obj.data_mapFields hd]; simp [rawInt]
theorem nextOf_tend {it l : Addr} {i : Nat} {items : Array Value} {Q : Value → Shared → Prop} (hh : A.handled = none) (hit : s.heap.IsTupleIter it l i) (hl : s.heap.IsTuple l items) (hx : items[i]? = none)
    (hE : ∀ h' e, Heap.ExtBut it s.heap h' → (∃ o, h'.get? e = some o ∧ o.cls = .type "StopIteration") → E (.ref e) { s with heap := h' }) : wpAny (model prog w) A (Builtin.SmallTypes.nextOf (.ref it)) Q E s := by
  obtain ⟨o, ho, hc, hd⟩ := id hit
  obtain ⟨ol, hol, _, nl, hdl⟩ := hl
  unfold Builtin.SmallTypes.nextOf
  refine wpAny_bind (wpAny_callSpecial?_slot (name := Str.ofString "__next__") hit.typeIs F.slot_tuple_iterator_next (wpAny_call_entry F.slot_tuple_iterator_next hit.typeIs F.entry_tuple_iterator_next ?_ (F.args_tuple_iterator_next_1 _)))
  show wpAny _ _ (field (.ref it) 0 >>= _) _ _ s
  refine wpAny_bind (wpAny_field ho hd (x := .ref l) rfl ?_)
  show wpAny _ _ (if (Value.ref l == Value.none) = true then _ else _) _ _ s
  rw [if_neg (by simp)]
  show wpAny _ _ (field (.ref it) 1 >>= _) _ _ s
  refine wpAny_bind (wpAny_field ho hd (x := .int i 0) rfl ?_)
  show wpAny _ _ (seqItems? (.ref l) >>= _) _ _ s
  refine wpAny_bind (wpAny_seqItems hol hdl ?_)
  simp only [Int.toNat_natCast, hx]
  refine wpAny_bind (wpAny_rule (wpAny_bind (wpAny_setField ho hd (by simp) ?_)))
  show wpAny _ _ (newExc (.type "StopIteration") [] >>= _) _ _ _
  refine wpAny_bind ?_
  simp only [newExc, newTuple]
  refine wpAny_bind (wpAny_newObj_type (wpAny_bind (m := firstArgMember _ _) (wpAny_of_eq (a := Value.none) (by first | rfl | (simp only [firstArgMember]; rfl)) (wpAny_newObj_type ?_ (by size_fits)))) (by size_fits))
  simp only [raiseNew]
  refine wpAny_bind (wpAny_handled ?_)
  rw [show A.in1.handled = none from hh]
  exact wpAny_bind (wpAny_pure (wpAny_throw (hE _ _ (((Heap.SameBut.update ..).extBut.push _).push _) ⟨_, Heap.get?_push_size _ rfl, rfl⟩)))
end
theorem _root_.PySem.Draws.tuple {prog : Program} {w : World} {A : Around} (hh : A.handled = none) (it l : Addr) (hne : l ≠ it) (items : Array Value) :
    Draws prog w A it [it, l] items.size (fun i v => items[i]? = some v) (fun i h => h.IsTupleIter it l i ∧ h.IsTuple l items) where
  live := fun _ _ st => let ⟨o, ho, _⟩ := st.1; ⟨o, ho⟩
  frame := fun _ _ _ st hk => ⟨st.1.at fun o e => hk it (by simp) o e, st.2.at fun o e => hk l (by simp) o e⟩
  item := fun i s Q E hi st hQ => nextOf_titem st.1 st.2 (x := items[i]) (by simp [hi]) fun h' hit' hs' => hQ _ h' s.toks (by simp [hi]) ⟨hit', st.2.extBut hs'.extBut hne⟩ hs'
  done := fun s Q E st hE => nextOf_tend hh st.1 st.2 (by simp) hE
section
variable {prog : Program} {w : World} {A : Around} {E : Value → Shared → Prop} {s : Shared}
theorem enum_endT {e it l : Addr} {i : Nat} {items : Array Value} {old : Value} {Q : Option Value → Shared → Prop} (hh : A.handled = none) (he : IsEnum s.heap e it i old) (hit : s.heap.IsTupleIter it l i) (hl : s.heap.IsTuple l items) (hx : items[i]? = none)
    (hQ : ∀ h', Heap.ExtBut it s.heap h' → Q none { s with heap := h' }) : wpAny (model prog w) A (pyNext (.ref e)) Q E s := by
  have hT : s.TypeIs (.ref e) "enumerate" := ⟨_, he, rfl⟩
  unfold pyNext
  refine wpAny_bind (wpAny_attempt (wpAny_callSpecial?_slot (name := Str.ofString "__next__") hT F.slot_enumerate_next (wpAny_call_entry F.slot_enumerate_next hT F.entry_enumerate_next ?_ (F.args_enumerate_next_1 _))))
  show wpAny _ _ (field (.ref e) 2 >>= _) _ _ _
  refine wpAny_bind (wpAny_field he rfl (x := .ref it) rfl (wpAny_bind (nextOf_tend hh hit hl hx fun h' x eb ⟨o, ho, hc⟩ => ?_)))
  exact wpAny_bind (wpAny_isInstance (T := "StopIteration") (b := true) ⟨o, ho, hc⟩ isSubtype_stop (wpAny_pure (hQ _ eb)))
theorem new_enumT (l : Addr) (items : Array Value) (o : Obj) (hc : o.cls = .type "tuple") (n : Nat) (hd : o.data = .seq items n) :
    Meets (Builtin.«enumerate.__new__» ⟨[.type "enumerate", .ref l], []⟩) (fun _ R s => s.heap.get? l = some o ∧ R (.ok (.ret (.ref (s.heap.push { cls := .type "tuple_iterator", data := .fields #[.ref l, .int 0 0] }).objs.size)))
      { s with heap := (s.heap.push { cls := .type "tuple_iterator", data := .fields #[.ref l, .int 0 0] }).push { cls := .type "enumerate", data := .fields #[.none, .bool false, .ref s.heap.objs.size, rawInt 0, .none, .none] } }) := by
  obtain ⟨c, dct, dt, sl⟩ := o
  replace hc : c = .type "tuple" := hc
  replace hd : dt = .seq items n := hd
  subst hc hd
  exact .of_wp fun prog w A R s h => by
    obtain ⟨hp, g, d, tk, os⟩ := s; obtain ⟨hl, h⟩ := h
    have hsub := sub_enumerate
    have hL : Heap.IsTuple (Shared.heap ⟨hp, g, d, tk, os⟩) l items := ⟨_, hl, rfl, n, rfl⟩
    wp_walk using wpAny_loadPart' hl
    refine wpAny_stack_any fun st => wpAny_pure ?_
    split
    · rename_i c _ _ _ _ _
      cases (c == Value.type "enumerate") <;> (wp_walk using wpAny_loadPart' hl, wpAny_pyIter_tuple hL; exact ⟨_, rfl, h⟩)
    · wp_walk using wpAny_loadPart' hl, wpAny_pyIter_tuple hL; exact ⟨_, rfl, h⟩
theorem call_enumT {l : Addr} {items : Array Value} {Q : Value → Shared → Prop} (hL : s.heap.IsTuple l items)
    (h : ∀ h', IsEnum h' (s.heap.objs.size + 1) s.heap.objs.size 0 .none → h'.IsTupleIter s.heap.objs.size l 0 → (∀ b o, s.heap.get? b = some o → h'.get? b = some o) → Q (.ref (s.heap.objs.size + 1)) { s with heap := h' }) :
    wpAny (model prog w) A (call (.type "enumerate") [.ref l]) Q E s := by
  obtain ⟨o, hl, hc, n, hd⟩ := hL
  refine callType_new F.called_enumerate (by decide) (F.typeCall_enumerate_1 _) (F.newCall_enumerate_1 _) (fun obj => F.args_object_init_2 obj _) F.entry_enumerate_new (new_enumT l items o hc n hd) ⟨hl, ?_⟩
  have hz : (s.heap.push { cls := .type "tuple_iterator", data := .fields #[.ref l, .int 0 0] }).objs.size = s.heap.objs.size + 1 := Heap.size_push ..
  show _ ∧ _
  rw [hz]
  have he : IsEnum ((s.heap.push { cls := .type "tuple_iterator", data := .fields #[.ref l, .int 0 0] }).push { cls := .type "enumerate", data := .fields #[.none, .bool false, .ref s.heap.objs.size, rawInt 0, .none, .none] }) (s.heap.objs.size + 1) s.heap.objs.size 0 .none :=
    Heap.get?_push_at hz.symm rfl
  exact ⟨⟨_, he, rfl⟩, h _ he ⟨_, Heap.get?_push_of_some _ (Heap.get?_push_size _ rfl), rfl, rfl⟩ fun b o x => Heap.get?_push_of_some _ (Heap.get?_push_of_some _ x)⟩
end
def IteT (K : PySem.W.Frag) (a : Addr) : It :=
  ⟨fun i H => ∃ xs x, SqT K H a xs ∧ xs[i]? = some x, fun i H v H' => ∃ T x, v = .ref T ∧ H T = none ∧ H' = upd H T (.tup [.int i, x]) ∧ ∀ xs, SqT K H a xs → xs[i]? = some x, fun i H => ∃ xs, SqT K H a xs ∧ xs.length ≤ i⟩
theorem turn_enumT {P : Program} {w : World} {K : PySem.W.Frag} {elts : List Expr} {k} {pos : Pos} (a e it : Addr) (hne : e ≠ it) : Turn P w K (.Tuple elts k pos) (IteT K a) [e, it] e (fun i h => (∃ old, IsEnum h e it i old) ∧ h.IsTupleIter it a i) where
  mem := by simp
  obj := fun i h st b hb => by
    obtain ⟨⟨old, he⟩, o, ho, hc, hd⟩ := st
    rcases List.mem_cons.mp hb with rfl | hb
    · exact ⟨_, he, fun v z => by cases z⟩
    · rw [show b = it by simpa using hb]
      exact ⟨o, ho, fun v z => by rw [hd] at z; cases z⟩
  keep := fun i h h' st kk => by
    obtain ⟨⟨old, he⟩, hit⟩ := st
    exact ⟨⟨old, kk e (by simp) _ he⟩, hit.at fun o z => kk it (by simp) o z⟩
  item := by
    intro X hP hw hK hc i pins s σ H E I hf st hg
    subst hP hw hK
    obtain ⟨xs, x, hq, hx⟩ := hg
    obtain ⟨its, rv, p, hz⟩ := I.tuple hq
    obtain ⟨u, hu, ru⟩ := rv.get hx
    obtain ⟨⟨old, he⟩, hit⟩ := st
    have ht : s.heap.IsTuple a its.toArray := p
    have hi : i < its.toArray.size := by rw [List.size_toArray]; exact (List.getElem?_eq_some_iff.mp hu).1
    have nai : a ≠ it := fun z => by
      obtain ⟨o1, q1, c1, _⟩ := ht
      obtain ⟨o2, q2, c2, _⟩ := hit
      rw [z, q2] at q1; cases q1; rw [c2] at c1; exact absurd c1 (by decide)
    have nae : e ≠ a := fun z => by
      obtain ⟨o1, q1, c1, _⟩ := ht
      rw [← z, he] at q1; cases q1; exact absurd (show Value.type "enumerate" = .type "tuple" from c1) (by decide)
    have D := Draws.tuple (prog := X.prog) (w := X.w) (A := X.A.in1) (I.ok.hd hc) it a nai its.toArray
    refine wpAny_pyNext_enum_itemD D he ⟨hit, ht⟩ hi hne (by simp [hne, nae]) fun v h' tk hv ho hst hT hsz hk => ?_
    have hv' : its[i]? = some v := by simpa using hv
    rw [hu] at hv'
    cases hv'
    refine ⟨_, rfl, wpAny_letOwnedTupleGo_enum (s := { s with heap := h', toks := tk + 1 }) ho fun h2 he2 sb => ?_⟩
    have helt : e < s.heap.objs.size := Heap.lt_size he
    have hilt : it < s.heap.objs.size := by obtain ⟨_, z, _⟩ := hit; exact Heap.lt_size z
    have nT : s.heap.objs.size ≠ e := Nat.ne_of_gt helt
    have hit2 : h2.IsTupleIter it a (i + 1) := hst.1.at fun o z => (sb.2 it (Ne.symm hne)).trans z
    obtain ⟨o2, q2, _⟩ := id hit2
    have J : Inv X pins σ (upd H s.heap.objs.size (.tup [.int i, x])) { s with heap := h2, toks := tk + 1 } := by
      refine I.turnedNew (fp := [e, it]) (its := [.int i tk, u]) hf (fun b o hb z => (sb.2 b (fun y => hb (by simp [y]))).trans (hk b o (fun y => hb (by simp [y])) (fun y => hb (by simp [y])) z)) (fun b hb => ?_) (Nat.le_refl _) ⟨_, (sb.2 _ nT).trans hT, rfl, 0, rfl⟩ (.cons ⟨tk, rfl⟩ (.cons ru .nil)) (by show 2 ≤ sizeLine; decide)
      rcases List.mem_cons.mp hb with rfl | hb
      · exact ⟨_, he2⟩
      · rw [show b = it by simpa using hb]; exact ⟨_, q2⟩
    refine ⟨.ref s.heap.objs.size, upd H s.heap.objs.size (.tup [.int i, x]), J, rfl, ⟨_, x, rfl, I.hok.fresh (Nat.le_refl _), rfl, fun ys hy => by rw [I.tuple_inj hy hq]; exact hx⟩, ⟨⟨_, by simpa using he2⟩, hit2⟩, fun b hb => ?_⟩
    · have : b < s.heap.objs.size := by
        rcases List.mem_cons.mp hb with rfl | hb
        · exact helt
        · rw [show b = it by simpa using hb]; exact hilt
      rw [upd_ne (Nat.ne_of_lt this)]
      exact (hf b hb).1
  done := by
    intro X hP hw hK hc i pins s σ H E I hf st hg
    subst hP hw hK
    obtain ⟨xs, hq, hx⟩ := hg
    obtain ⟨its, rv, p, hz⟩ := I.tuple hq
    obtain ⟨⟨old, he⟩, hit⟩ := st
    have ht : s.heap.IsTuple a its.toArray := p
    have hl := rv.length
    obtain ⟨f0, f1, f2, f3, f4, f5⟩ := hf it (by simp)
    exact enum_endT (I.ok.hd hc) he hit ht (by simp; omega) fun h' eb => ⟨rfl, I.turned (t' := s.toks) (fun b o hb z => eb b o hb z) f0 f1 f3 f4 f5⟩
  self := fun _ _ _ _ _ st h => by
    obtain ⟨⟨old, he⟩, _⟩ := st
    exact wpAny_pyIter_enum he h
section
variable {X : Cx} {elts : List Expr} {k : Nat} {tpos : Pos}
def iEnT (K : PySem.W.Frag) (ta : TA) : TI := fun σ H R => ta σ H fun vs H1 => ∃ a, vs = [.ref a] ∧ (∃ xs, SqT K H1 a xs) ∧ R (IteT K a) H1
theorem pi_enumT {l : Expr} {ta : TA} {p pos : Pos} (hg : Gl X "enumerate") (hm : X.mg "enumerate" = none) (ha : PA X [l] ta) (hs : starEach [l] X.env = [(false, eval l X.env)] := by rfl) : PI X (.Tuple elts k tpos) (.Call (.Name "enumerate" p) [l] [] pos) (iEnT X.K ta) := by
  intro pins s σ H R I h
  refine Call_ (ld_blt I hg hm boot_enum (PyProof.Rows.callWith_type1 (thn (ha pos pins s σ H _ I h) fun us s1 ⟨vs, H1, I1, r1, q1⟩ => ?_) hs rfl))
  obtain ⟨a, e, ⟨xs, hq⟩, q⟩ := q1
  subst e
  cases r1 with
  | cons r rr =>
    cases rr
    cases r
    obtain ⟨its, rv, pp, hz⟩ := I1.tuple hq
    refine call_enumT (s := s1) (show s1.heap.IsTuple a its.toArray from pp) fun h' he hit kp => wpAny_pyIter_enum (s := { s1 with heap := h' }) he ?_
    refine ⟨s1.heap.objs.size + 1, [s1.heap.objs.size + 1, s1.heap.objs.size], _, _, H1, rfl, I1.kept (t' := s1.toks) kp, turn_enumT a _ _ (by simp), ⟨⟨_, he⟩, hit⟩, fun b hb => ?_, q⟩
    have : s1.heap.objs.size ≤ b := by
      rcases List.mem_cons.mp hb with rfl | hb
      · exact Nat.le_succ _
      · rw [show b = s1.heap.objs.size by simpa using hb]; exact Nat.le_refl _
    exact I1.fpOk this (I1.hok.fresh this)
end
/-! ### .. over a list -/
section
variable {prog : Program} {w : World} {A : Around} {E : Value → Shared → Prop} {s : Shared}
theorem enum_endL {e it l : Addr} {i : Nat} {items : Array Value} {old : Value} {Q : Option Value → Shared → Prop} (hh : A.handled = none) (he : IsEnum s.heap e it i old) (hit : s.heap.IsListIter it l i) (hl : s.heap.IsList l items) (hx : items[i]? = none)
    (hQ : ∀ h', Heap.ExtBut it s.heap h' → Q none { s with heap := h' }) : wpAny (model prog w) A (pyNext (.ref e)) Q E s := wpAny_pyNext_enum_end hh he hit hl hx hQ
theorem new_enumL (l : Addr) (items : Array Value) (o : Obj) (hc : o.cls = .type "list") (n : Nat) (hd : o.data = .seq items n) :
    Meets (Builtin.«enumerate.__new__» ⟨[.type "enumerate", .ref l], []⟩) (fun _ R s => s.heap.get? l = some o ∧ R (.ok (.ret (.ref (s.heap.push { cls := .type "list_iterator", data := .fields #[.ref l, .int 0 0] }).objs.size)))
      { s with heap := (s.heap.push { cls := .type "list_iterator", data := .fields #[.ref l, .int 0 0] }).push { cls := .type "enumerate", data := .fields #[.none, .bool false, .ref s.heap.objs.size, rawInt 0, .none, .none] } }) := by
  obtain ⟨c, dct, dt, sl⟩ := o
  replace hc : c = .type "list" := hc
  replace hd : dt = .seq items n := hd
  subst hc hd
  exact .of_wp fun prog w A R s h => by
    obtain ⟨hp, g, d, tk, os⟩ := s; obtain ⟨hl, h⟩ := h
    have hsub := sub_enumerate
    have hL : Heap.IsList (Shared.heap ⟨hp, g, d, tk, os⟩) l items := ⟨_, hl, rfl, n, rfl⟩
    wp_walk using wpAny_loadPart' hl
    refine wpAny_stack_any fun st => wpAny_pure ?_
    split
    · rename_i c _ _ _ _ _
      cases (c == Value.type "enumerate") <;> (wp_walk using wpAny_loadPart' hl, wpAny_pyIter_list hL; exact ⟨_, rfl, h⟩)
    · wp_walk using wpAny_loadPart' hl, wpAny_pyIter_list hL; exact ⟨_, rfl, h⟩
theorem call_enumL {l : Addr} {items : Array Value} {Q : Value → Shared → Prop} (hL : s.heap.IsList l items)
    (h : ∀ h', IsEnum h' (s.heap.objs.size + 1) s.heap.objs.size 0 .none → h'.IsListIter s.heap.objs.size l 0 → (∀ b o, s.heap.get? b = some o → h'.get? b = some o) → Q (.ref (s.heap.objs.size + 1)) { s with heap := h' }) :
    wpAny (model prog w) A (call (.type "enumerate") [.ref l]) Q E s := by
  obtain ⟨o, hl, hc, n, hd⟩ := hL
  refine callType_new F.called_enumerate (by decide) (F.typeCall_enumerate_1 _) (F.newCall_enumerate_1 _) (fun obj => F.args_object_init_2 obj _) F.entry_enumerate_new (new_enumL l items o hc n hd) ⟨hl, ?_⟩
  have hz : (s.heap.push { cls := .type "list_iterator", data := .fields #[.ref l, .int 0 0] }).objs.size = s.heap.objs.size + 1 := Heap.size_push ..
  show _ ∧ _
  rw [hz]
  have he : IsEnum ((s.heap.push { cls := .type "list_iterator", data := .fields #[.ref l, .int 0 0] }).push { cls := .type "enumerate", data := .fields #[.none, .bool false, .ref s.heap.objs.size, rawInt 0, .none, .none] }) (s.heap.objs.size + 1) s.heap.objs.size 0 .none :=
    Heap.get?_push_at hz.symm rfl
  exact ⟨⟨_, he, rfl⟩, h _ he ⟨_, Heap.get?_push_of_some _ (Heap.get?_push_size _ rfl), rfl, rfl⟩ fun b o x => Heap.get?_push_of_some _ (Heap.get?_push_of_some _ x)⟩
end
def IteL (K : PySem.W.Frag) (a : Addr) : It :=
  ⟨fun i H => ∃ xs x, SqL K H a xs ∧ xs[i]? = some x, fun i H v H' => ∃ T x, v = .ref T ∧ H T = none ∧ H' = upd H T (.tup [.int i, x]) ∧ ∀ xs, SqL K H a xs → xs[i]? = some x, fun i H => ∃ xs, SqL K H a xs ∧ xs.length ≤ i⟩
theorem turn_enumL {P : Program} {w : World} {K : PySem.W.Frag} {elts : List Expr} {k} {pos : Pos} (a e it : Addr) (hne : e ≠ it) : Turn P w K (.Tuple elts k pos) (IteL K a) [e, it] e (fun i h => (∃ old, IsEnum h e it i old) ∧ h.IsListIter it a i) where
  mem := by simp
  obj := fun i h st b hb => by
    obtain ⟨⟨old, he⟩, o, ho, hc, hd⟩ := st
    rcases List.mem_cons.mp hb with rfl | hb
    · exact ⟨_, he, fun v z => by cases z⟩
    · rw [show b = it by simpa using hb]
      exact ⟨o, ho, fun v z => by rw [hd] at z; cases z⟩
  keep := fun i h h' st kk => by
    obtain ⟨⟨old, he⟩, hit⟩ := st
    exact ⟨⟨old, kk e (by simp) _ he⟩, hit.at fun o z => kk it (by simp) o z⟩
  item := by
    intro X hP hw hK hc i pins s σ H E I hf st hg
    subst hP hw hK
    obtain ⟨xs, x, hq, hx⟩ := hg
    obtain ⟨its, rv, p, hz⟩ := I.list hq
    obtain ⟨u, hu, ru⟩ := rv.get hx
    obtain ⟨⟨old, he⟩, hit⟩ := st
    have ht : s.heap.IsList a its.toArray := p.isList
    have hi : i < its.toArray.size := by rw [List.size_toArray]; exact (List.getElem?_eq_some_iff.mp hu).1
    have nai : a ≠ it := fun z => by
      obtain ⟨o1, q1, c1, _⟩ := ht
      obtain ⟨o2, q2, c2, _⟩ := hit
      rw [z, q2] at q1; cases q1; rw [c2] at c1; exact absurd c1 (by decide)
    have nae : e ≠ a := fun z => by
      obtain ⟨o1, q1, c1, _⟩ := ht
      rw [← z, he] at q1; cases q1; exact absurd (show Value.type "enumerate" = .type "list" from c1) (by decide)
    have D := Draws.list (prog := X.prog) (w := X.w) (A := X.A.in1) (I.ok.hd hc) it a nai its.toArray
    refine wpAny_pyNext_enum_itemD D he ⟨hit, ht⟩ hi hne (by simp [hne, nae]) fun v h' tk hv ho hst hT hsz hk => ?_
    have hv' : its[i]? = some v := by simpa using hv
    rw [hu] at hv'
    cases hv'
    refine ⟨_, rfl, wpAny_letOwnedTupleGo_enum (s := { s with heap := h', toks := tk + 1 }) ho fun h2 he2 sb => ?_⟩
    have helt : e < s.heap.objs.size := Heap.lt_size he
    have hilt : it < s.heap.objs.size := by obtain ⟨_, z, _⟩ := hit; exact Heap.lt_size z
    have nT : s.heap.objs.size ≠ e := Nat.ne_of_gt helt
    have hit2 : h2.IsListIter it a (i + 1) := hst.1.at fun o z => (sb.2 it (Ne.symm hne)).trans z
    obtain ⟨o2, q2, _⟩ := id hit2
    have J : Inv X pins σ (upd H s.heap.objs.size (.tup [.int i, x])) { s with heap := h2, toks := tk + 1 } := by
      refine I.turnedNew (fp := [e, it]) (its := [.int i tk, u]) hf (fun b o hb z => (sb.2 b (fun y => hb (by simp [y]))).trans (hk b o (fun y => hb (by simp [y])) (fun y => hb (by simp [y])) z)) (fun b hb => ?_) (Nat.le_refl _) ⟨_, (sb.2 _ nT).trans hT, rfl, 0, rfl⟩ (.cons ⟨tk, rfl⟩ (.cons ru .nil)) (by show 2 ≤ sizeLine; decide)
      rcases List.mem_cons.mp hb with rfl | hb
      · exact ⟨_, he2⟩
      · rw [show b = it by simpa using hb]; exact ⟨_, q2⟩
    refine ⟨.ref s.heap.objs.size, upd H s.heap.objs.size (.tup [.int i, x]), J, rfl, ⟨_, x, rfl, I.hok.fresh (Nat.le_refl _), rfl, fun ys hy => by rw [I.list_inj hy hq]; exact hx⟩, ⟨⟨_, by simpa using he2⟩, hit2⟩, fun b hb => ?_⟩
    · have : b < s.heap.objs.size := by
        rcases List.mem_cons.mp hb with rfl | hb
        · exact helt
        · rw [show b = it by simpa using hb]; exact hilt
      rw [upd_ne (Nat.ne_of_lt this)]
      exact (hf b hb).1
  done := by
    intro X hP hw hK hc i pins s σ H E I hf st hg
    subst hP hw hK
    obtain ⟨xs, hq, hx⟩ := hg
    obtain ⟨its, rv, p, hz⟩ := I.list hq
    obtain ⟨⟨old, he⟩, hit⟩ := st
    have ht : s.heap.IsList a its.toArray := p.isList
    have hl := rv.length
    obtain ⟨f0, f1, f2, f3, f4, f5⟩ := hf it (by simp)
    exact enum_endL (I.ok.hd hc) he hit ht (by simp; omega) fun h' eb => ⟨rfl, I.turned (t' := s.toks) (fun b o hb z => eb b o hb z) f0 f1 f3 f4 f5⟩
  self := fun _ _ _ _ _ st h => by
    obtain ⟨⟨old, he⟩, _⟩ := st
    exact wpAny_pyIter_enum he h
section
variable {X : Cx} {elts : List Expr} {k : Nat} {tpos : Pos}
def iEnL (K : PySem.W.Frag) (ta : TA) : TI := fun σ H R => ta σ H fun vs H1 => ∃ a, vs = [.ref a] ∧ (∃ xs, SqL K H1 a xs) ∧ R (IteL K a) H1
theorem pi_enumL {l : Expr} {ta : TA} {p pos : Pos} (hg : Gl X "enumerate") (hm : X.mg "enumerate" = none) (ha : PA X [l] ta) (hs : starEach [l] X.env = [(false, eval l X.env)] := by rfl) : PI X (.Tuple elts k tpos) (.Call (.Name "enumerate" p) [l] [] pos) (iEnL X.K ta) := by
  intro pins s σ H R I h
  refine Call_ (ld_blt I hg hm boot_enum (PyProof.Rows.callWith_type1 (thn (ha pos pins s σ H _ I h) fun us s1 ⟨vs, H1, I1, r1, q1⟩ => ?_) hs rfl))
  obtain ⟨a, e, ⟨xs, hq⟩, q⟩ := q1
  subst e
  cases r1 with
  | cons r rr =>
    cases rr
    cases r
    obtain ⟨its, rv, pp, hz⟩ := I1.list hq
    refine call_enumL (s := s1) (show s1.heap.IsList a its.toArray from pp.isList) fun h' he hit kp => wpAny_pyIter_enum (s := { s1 with heap := h' }) he ?_
    refine ⟨s1.heap.objs.size + 1, [s1.heap.objs.size + 1, s1.heap.objs.size], _, _, H1, rfl, I1.kept (t' := s1.toks) kp, turn_enumL a _ _ (by simp), ⟨⟨_, he⟩, hit⟩, fun b hb => ?_, q⟩
    have : s1.heap.objs.size ≤ b := by
      rcases List.mem_cons.mp hb with rfl | hb
      · exact Nat.le_succ _
      · rw [show b = s1.heap.objs.size by simpa using hb]; exact Nat.le_refl _
    exact I1.fpOk this (I1.hok.fresh this)
end
/-- enumerate over a tuple that the body leaves as it is -/
theorem for_enumT {K : PySem.W.Frag} {a : Addr} {xs : List V} {g : TG} {tb : TS} {D : Ends} {σ : St} {H : Hp} (Pv : Nat → St → Hp → Prop) (h0 : Pv 0 σ H) (hl : ∀ i σ H, i ≤ xs.length → Pv i σ H → SqT K H a xs)
    (hs : ∀ i x T σ H, xs[i]? = some x → Pv i σ H → H T = none → g (.ref T) σ (upd H T (.tup [.int i, x])) fun σ2 H2 => tb { D with nx := Pv (i + 1), ct := Pv (i + 1), bk := D.nx } σ2 H2) (hd : ∀ σ H, Pv xs.length σ H → D.nx σ H) :
    ∃ W : Nat → Nat → St → Hp → Prop, (∃ m, W 0 m σ H) ∧ ∀ i m σ H, W i m σ H →
      ((IteT K a).stop i H ∧ D.nx σ H) ∨ ((IteT K a).go i H ∧ ∃ N : St → Hp → Prop, (∀ σ' H', N σ' H' → ∃ m', m' < m ∧ W (i + 1) m' σ' H') ∧ ∀ x H', (IteT K a).yld i H x H' → g x σ H' fun σ2 H2 => tb { D with nx := N, ct := N, bk := D.nx } σ2 H2) := by
  refine ⟨fun i m σ H => m = xs.length - i ∧ i ≤ xs.length ∧ Pv i σ H, ⟨xs.length, by simp, Nat.zero_le _, h0⟩, ?_⟩
  rintro i m σ H ⟨rfl, hi, p⟩
  have q := hl i σ H hi p
  by_cases hlt : i < xs.length
  · refine .inr ⟨⟨xs, xs[i], q, by simp [hlt]⟩, Pv (i + 1), fun σ' H' p' => ⟨xs.length - (i + 1), by omega, rfl, hlt, p'⟩, fun v H' y => ?_⟩
    obtain ⟨T, x, rfl, hT, rfl, y⟩ := y
    exact hs i x T σ H (y xs q) p hT
  · have e : i = xs.length := by omega
    subst e
    exact .inl ⟨⟨xs, q, Nat.le_refl _⟩, hd σ H p⟩
/-- enumerate over a list that the body leaves as it is -/
theorem for_enumL {K : PySem.W.Frag} {a : Addr} {xs : List V} {g : TG} {tb : TS} {D : Ends} {σ : St} {H : Hp} (Pv : Nat → St → Hp → Prop) (h0 : Pv 0 σ H) (hl : ∀ i σ H, i ≤ xs.length → Pv i σ H → SqL K H a xs)
    (hs : ∀ i x T σ H, xs[i]? = some x → Pv i σ H → H T = none → g (.ref T) σ (upd H T (.tup [.int i, x])) fun σ2 H2 => tb { D with nx := Pv (i + 1), ct := Pv (i + 1), bk := D.nx } σ2 H2) (hd : ∀ σ H, Pv xs.length σ H → D.nx σ H) :
    ∃ W : Nat → Nat → St → Hp → Prop, (∃ m, W 0 m σ H) ∧ ∀ i m σ H, W i m σ H →
      ((IteL K a).stop i H ∧ D.nx σ H) ∨ ((IteL K a).go i H ∧ ∃ N : St → Hp → Prop, (∀ σ' H', N σ' H' → ∃ m', m' < m ∧ W (i + 1) m' σ' H') ∧ ∀ x H', (IteL K a).yld i H x H' → g x σ H' fun σ2 H2 => tb { D with nx := N, ct := N, bk := D.nx } σ2 H2) := by
  refine ⟨fun i m σ H => m = xs.length - i ∧ i ≤ xs.length ∧ Pv i σ H, ⟨xs.length, by simp, Nat.zero_le _, h0⟩, ?_⟩
  rintro i m σ H ⟨rfl, hi, p⟩
  have q := hl i σ H hi p
  by_cases hlt : i < xs.length
  · refine .inr ⟨⟨xs, xs[i], q, by simp [hlt]⟩, Pv (i + 1), fun σ' H' p' => ⟨xs.length - (i + 1), by omega, rfl, hlt, p'⟩, fun v H' y => ?_⟩
    obtain ⟨T, x, rfl, hT, rfl, y⟩ := y
    exact hs i x T σ H (y xs q) p hT
  · have e : i = xs.length := by omega
    subst e
    exact .inl ⟨⟨xs, q, Nat.le_refl _⟩, hd σ H p⟩
end L2
end

section
set_option Elab.async false
set_option linter.all false
set_option maxRecDepth 100000
namespace L2
open PySem PySem.Spec PyProof.Rows PySem.Builtin PySem.Builtin.Str
/-! ### texts cut -/
theorem vals_strs : ∀ (l : List (Str × Tok)), Vals ((l.map (·.1)).map V.str) (strValues l)
  | [] => .nil
  | (x, t) :: l => .cons ⟨t, rfl⟩ (vals_strs l)
section
variable {X : Cx}
/-- x.split(sep) -/
def rSplit : V → List V → Hp → VK → Prop := fun x xs H Q => ∃ t sep, x = .str t ∧ xs = [.str sep] ∧ (sep.length == 0) = false ∧ t.length ≤ sizeLine ∧ (Txt.split t sep).length ≤ sizeLine ∧ ∀ p, H p = none → Q (.ref p) (upd H p (.lst ((Txt.split t sep).map V.str)))
theorem mt_split : MtR X "str.split" rSplit := by
  intro pins s σ H x vs v us Q I rx rv h
  obtain ⟨z, sep, rfl, rfl, hy, hz, hn, q⟩ := h
  obtain ⟨t, rfl⟩ := rx
  obtain ⟨w, rfl, u, rfl⟩ := rv.one
  have q1 := q s.heap.objs.size (I.hok.fresh (Nat.le_refl _))
  have new : ∀ (l : List (Str × Tok)) (k : Nat), l.map (·.1) = Txt.split z sep → EP X pins σ Q (.ref s.heap.objs.size) { s with toks := k, heap := s.heap.push { cls := .type "list", data := .seq (strValues l).toArray } } := fun l k e =>
    ⟨.ref s.heap.objs.size, _, I.laid (o := .lst ((Txt.split z sep).map V.str)) (t' := k) (fun b o e => Heap.get?_push_of_some _ e) (Nat.le_refl _) ⟨by rw [List.length_map]; exact hn, strValues l, 0, by rw [← e]; exact vals_strs l, Heap.get?_push_size _ rfl⟩, rfl, q1⟩
  cases h1 : (decide (z.length < sep.length) || decide (strKind z < strKind sep))
  · cases hf : (occurrences z sep 0 z.length (z.length + 1)).isEmpty
    · have e : Txt.split z sep = partsBetween z (occurrences z sep 0 z.length (z.length + 1)) sep.length := (if_neg (ne_true_of_eq_false h1)).trans (if_neg (ne_true_of_eq_false hf))
      refine call_meets F.slot_str_split (typeIs_str _ _ _) F.entry_str_split (F.args_str_split_2 _ _) (meets_str_split_sep z sep t u h1 hy hf hz (by rw [← e]; exact hn)) ?_
      have := new (numbered s.toks (partsBetween z (occurrences z sep 0 z.length (z.length + 1)) sep.length)) (s.toks + (partsBetween z (occurrences z sep 0 z.length (z.length + 1)) sep.length).length) ((numbered_texts _ _).trans e.symm)
      rw [← strsFrom_eq] at this
      first | exact this | (show EP X pins σ Q _ _; exact this)
    · exact call_meets F.slot_str_split (typeIs_str _ _ _) F.entry_str_split (F.args_str_split_2 _ _) (meets_str_split_not_found z sep t u h1 hy hf) (new [(z, t)] s.toks ((if_neg (ne_true_of_eq_false h1)).trans (if_pos hf)).symm)
  · exact call_meets F.slot_str_split (typeIs_str _ _ _) F.entry_str_split (F.args_str_split_2 _ _) (meets_str_split_cannot_occur z sep t u h1) (new [(z, t)] s.toks (if_pos h1).symm)
/-- x.partition(sep) -/
def rPart : V → List V → Hp → VK → Prop := fun x xs H Q => ∃ t sep, x = .str t ∧ xs = [.str sep] ∧ (sep.length == 0) = false ∧ t.length ≤ sizeLine ∧ ∀ p, H p = none → Q (.ref p) (upd H p (.tup [.str (Txt.partition t sep).1, .str (Txt.partition t sep).2.1, .str (Txt.partition t sep).2.2]))
theorem mt_partition : MtR X "str.partition" rPart := by
  intro pins s σ H x vs v us Q I rx rv h
  obtain ⟨z, sep, rfl, rfl, hy, hz, q⟩ := h
  obtain ⟨t, rfl⟩ := rx
  obtain ⟨w, rfl, u, rfl⟩ := rv.one
  have q1 := q s.heap.objs.size (I.hok.fresh (Nat.le_refl _))
  refine call_meets F.slot_str_partition (typeIs_str _ _ _) F.entry_str_partition (F.args_str_partition_2 _ _) (meets_str_partition z sep t u hy hz) ?_
  have new : ∀ (a b c : Str) (ta tb tc : Tok) (k : Nat), (Txt.partition z sep).1 = a → (Txt.partition z sep).2.1 = b → (Txt.partition z sep).2.2 = c →
      EP X pins σ Q (.ref s.heap.objs.size) { s with toks := k, heap := s.heap.push { cls := .type "tuple", data := .seq [.str a ta, .str b tb, .str c tc].toArray } } := fun a b c ta tb tc k ea eb ec =>
    ⟨.ref s.heap.objs.size, _, I.laid (o := .tup [.str (Txt.partition z sep).1, .str (Txt.partition z sep).2.1, .str (Txt.partition z sep).2.2]) (t' := k) (fun b o e => Heap.get?_push_of_some _ e) (Nat.le_refl _) ⟨by show 3 ≤ sizeLine; decide, [.str a ta, .str b tb, .str c tc], by rw [ea, eb, ec]; exact .cons ⟨_, rfl⟩ (.cons ⟨_, rfl⟩ (.cons ⟨_, rfl⟩ .nil)), ⟨_, Heap.get?_push_size _ rfl, rfl, 0, rfl⟩⟩, rfl, q1⟩
  have new' := new
  unfold Txt.partition at new'
  revert new'
  cases occurrences z sep 0 z.length 1 with
  | nil => intro new'; exact new' _ _ _ _ _ _ _ rfl rfl rfl
  | cons i r => intro new'; exact new' _ _ _ _ _ _ _ rfl rfl rfl
/-- int(text of a number) -/
theorem call_int_num : CallR X (.type "int") (fun xs H Q => ∃ n : Int, xs = [.str (Str.ofString (toString n))] ∧ 0 ≤ n ∧ n < 10 ^ 10 ∧ Q (.int n) H) := by
  intro pins s σ H xs us Q I r h
  obtain ⟨n, rfl, h0, h1, q⟩ := h
  obtain ⟨u, rfl, t, rfl⟩ := vals1 r
  exact PySem.W.KIN.call_num h0 h1 ⟨.int n, H, I.tok _, ⟨_, rfl⟩, q⟩
end
end L2
end

section
set_option Elab.async false
set_option linter.all false
set_option maxRecDepth 100000
namespace L2
open PySem PySem.Spec PyProof.Rows
/-! ### zip of two sources -/
structure ZA (z TI TO i j : Addr) (fp gp : List Addr) : Prop where
  nd : [z, TI, TO, i, j].Nodup
  f : ∀ b ∈ fp, b ≠ z ∧ b ≠ TO ∧ b ≠ j ∧ b ≠ TI
  g : ∀ b ∈ gp, b ≠ z ∧ b ≠ TO ∧ b ≠ i ∧ b ≠ TI
theorem boot_zip : bootBuiltins ("zip" : Str) = some (.type "zip") := by decide +kernel
section
variable {prog : Program} {w : World} {A : Around} {E : Value → Shared → Prop} {s : Shared} {z TI TO i j : Addr} {fp gp : List Addr} {n m k : Nat} {P R : Nat → Value → Prop} {St Su : Nat → Heap → Prop} {a b : Value}
theorem zip_turn {Q : Value → Shared → Prop} (Z : ZA z TI TO i j fp gp) (D : Draws prog w A i fp n P St) (G : Draws prog w A j gp m R Su) (hz : IsZip s.heap z TI TO .none) (hI : IsPair s.heap TI (.ref i) (.ref j)) (hO : IsPair s.heap TO a b) (h1 : St k s.heap) (h2 : Su k s.heap) (hk : k < n) (hm : k < m)
    (hQ : ∀ x y h' tk, P k x → R k y → IsZip h' z TI TO (rawInt s.heap.objs.size) → IsPair h' TI (.ref i) (.ref j) → IsPair h' TO x y → St (k + 1) h' → Su (k + 1) h' → IsPair h' s.heap.objs.size x y → (∀ c o, c ∉ [z, TO, i, j] → s.heap.get? c = some o → h'.get? c = some o) → Q (.ref s.heap.objs.size) { s with heap := h', toks := tk }) :
    wpAny (model prog w) A (Builtin.«zip.__next__» ⟨[.ref z], []⟩) (fun fin s' => ∃ v, fin = .done (.ret v) ∧ Q v s') E s := by
  have nd := Z.nd
  simp only [List.nodup_cons, List.mem_cons, List.not_mem_nil, or_false, not_or, List.nodup_nil, and_true, not_false_eq_true] at nd
  obtain ⟨⟨nzI, nzO, nzi, nzj⟩, ⟨nIO, nIi, nIj⟩, ⟨nOi, nOj⟩, nij⟩ := nd
  obtain ⟨hp, g, d, t0, os⟩ := s
  show wpAny _ _ (field (.ref z) 2 >>= _) _ _ _
  refine wpAny_bind (wpAny_field hz rfl (x := .bool false) rfl ?_)
  show wpAny _ _ (field (.ref z) 3 >>= _) _ _ _
  refine wpAny_bind (wpAny_field hz rfl (x := .ref TI) rfl (wpAny_bind (wpAny_seqItems hI rfl ?_)))
  show wpAny _ _ (Builtin.SmallTypes.ownedTupleIsFree (.ref z) >>= _) _ _ _
  refine wpAny_bind ?_
  unfold Builtin.SmallTypes.ownedTupleIsFree
  refine wpAny_bind (wpAny_field hz rfl (x := .none) rfl (wpAny_pure ?_))
  simp only [if_true]
  refine wpAny_bind (wpAny_rule (wpAny_bind (wpAny_field hz rfl (x := .ref TO) rfl (wpAny_bind (wpAny_setField_rec hz (by simp) fun hA zA sA => wpAny_bind ?_)))))
  replace zA : IsZip hA z TI TO .ellipsis := zA
  replace sA : Heap.SameBut z hp hA := sA
  simp only [List.zipIdx_cons, List.zipIdx_nil, List.forIn_cons, List.forIn_nil]
  refine wpAny_bind (wpAny_bind (wpAny_onRaise ?_))
  show wpAny _ _ (Builtin.SmallTypes.nextOf (.ref i) >>= _) _ _ _
  have h1A : St k hA := D.frame _ _ _ h1 fun b hb o q => (sA.2 b (Z.f b hb).1).trans q
  refine wpAny_bind (D.item k _ _ _ hk h1A fun x hB tB px h1B sB => wpAny_pure ?_)
  replace sB : Heap.SameBut i hA hB := sB
  have OB : IsPair hB TO a b := (sB.2 _ nOi).trans ((sA.2 _ (Ne.symm nzO)).trans hO)
  refine wpAny_bind (wpAny_seqItems OB rfl (wpAny_bind (wpAny_updateSeq_pair (s := ⟨hB, g, d, tB, os⟩) OB fun hC OC sC => wpAny_bind (wpAny_letGo (wpAny_pure ?_)))))
  replace OC : IsPair hC TO x b := OC
  replace sC : Heap.SameBut TO hB hC := sC
  refine wpAny_bind (wpAny_bind (wpAny_onRaise ?_))
  show wpAny _ _ (Builtin.SmallTypes.nextOf (.ref j) >>= _) _ _ _
  have h2C : Su k hC := G.frame _ _ _ h2 fun b hb o q => (sC.2 b (Z.g b hb).2.1).trans ((sB.2 b (Z.g b hb).2.2.1).trans ((sA.2 b (Z.g b hb).1).trans q))
  refine wpAny_bind (G.item k _ _ _ hm h2C fun y hD tD py h2D sD => wpAny_pure ?_)
  replace sD : Heap.SameBut j hC hD := sD
  have OD : IsPair hD TO x b := (sD.2 _ nOj).trans OC
  refine wpAny_bind (wpAny_seqItems OD rfl (wpAny_bind (wpAny_updateSeq_pair (s := ⟨hD, g, d, tD, os⟩) OD fun hE OE sE => wpAny_bind (wpAny_letGo (wpAny_pure (wpAny_pure ?_))))))
  replace OE : IsPair hE TO x y := OE
  replace sE : Heap.SameBut TO hD hE := sE
  refine wpAny_bind (wpAny_seqItems OE rfl (wpAny_bind (wpAny_newTuple ?_)))
  have sz : hE.objs.size = hp.objs.size := by rw [sE.1, sD.1, sC.1, sB.1, sA.1]
  have zE : IsZip hE z TI TO .ellipsis := (sE.2 _ nzO).trans ((sD.2 _ nzj).trans ((sC.2 _ nzO).trans ((sB.2 _ nzi).trans zA)))
  have kE : ∀ c o, c ∉ [z, TO, i, j] → hp.get? c = some o → hE.get? c = some o := fun c o hc q => by
    simp only [List.mem_cons, List.not_mem_nil, or_false, not_or] at hc
    exact (sE.2 _ hc.2.1).trans ((sD.2 _ hc.2.2.2).trans ((sC.2 _ hc.2.1).trans ((sB.2 _ hc.2.2.1).trans ((sA.2 _ hc.1).trans q))))
  have zlt : z < hE.objs.size := Heap.lt_size zE
  have up1 : ∀ c o, hE.get? c = some o → (hE.push { cls := .type "tuple", data := .seq #[x, y] }).get? c = some o := fun c o q => Heap.get?_push_of_some _ q
  show wpAny _ _ (Builtin.SmallTypes.ownedTupleHandOut (.ref z) (.ref hE.objs.size) >>= _) _ _ _
  refine wpAny_bind ?_
  unfold Builtin.SmallTypes.ownedTupleHandOut
  refine wpAny_bind (wpAny_setField_rec (up1 _ _ zE) (by simp) fun hF zF sF => ?_)
  replace zF : IsZip hF z TI TO (rawInt hE.objs.size) := zF
  refine wpAny_setField_rec zF (by simp) fun hG zG sG => ?_
  replace zG : IsZip hG z TI TO (rawInt hE.objs.size) := zG
  have up : ∀ c o, c ≠ z → hE.get? c = some o → hG.get? c = some o := fun c o hc q => (sG.2 c hc).trans ((sF.2 c hc).trans (up1 c o q))
  have TG : IsPair hG hE.objs.size x y := (sG.2 _ (Nat.ne_of_gt zlt)).trans ((sF.2 _ (Nat.ne_of_gt zlt)).trans (Heap.get?_push_size _ rfl))
  rw [sz] at zG TG
  refine wpAny_pure ⟨_, rfl, ?_⟩
  show Q (.ref hE.objs.size) _
  rw [sz]
  have st1 : St (k + 1) hG := D.frame _ _ _ h1B fun b hb o q => up b o (Z.f b hb).1 ((sE.2 b (Z.f b hb).2.1).trans ((sD.2 b (Z.f b hb).2.2.1).trans ((sC.2 b (Z.f b hb).2.1).trans q)))
  have st2 : Su (k + 1) hG := G.frame _ _ _ h2D fun b hb o q => up b o (Z.g b hb).1 ((sE.2 b (Z.g b hb).2.1).trans q)
  refine hQ x y hG tD px py zG (up _ _ (Ne.symm nzI) (kE _ _ (by simp [Ne.symm nzI, nIO, nIi, nIj]) hI)) (up _ _ (Ne.symm nzO) OE) st1 st2 TG fun c o hc q => up c o ?_ (kE c o hc q)
  intro h
  rw [h] at hc
  simp at hc
theorem zip_ends {Q : Option Value → Shared → Prop} (Z : ZA z TI TO i j fp gp) (D : Draws prog w A.in1 i fp n P St) (hz : IsZip s.heap z TI TO .none) (hI : IsPair s.heap TI (.ref i) (.ref j)) (h1 : St n s.heap)
    (hQ : ∀ h', (∀ c o, c ∉ [z, TO, i, j] → s.heap.get? c = some o → h'.get? c = some o) → Q none { s with heap := h' }) : wpAny (model prog w) A (pyNext (.ref z)) Q E s := by
  have nd := Z.nd
  simp only [List.nodup_cons, List.mem_cons, List.not_mem_nil, or_false, not_or, List.nodup_nil, and_true, not_false_eq_true] at nd
  obtain ⟨⟨nzI, nzO, nzi, nzj⟩, ⟨nIO, nIi, nIj⟩, ⟨nOi, nOj⟩, nij⟩ := nd
  have hT : s.TypeIs (.ref z) "zip" := ⟨_, hz, rfl⟩
  obtain ⟨hp, g, d, t0, os⟩ := s
  unfold pyNext
  refine wpAny_bind (wpAny_attempt (wpAny_callSpecial?_slot (name := Str.ofString "__next__") hT F.slot_zip_next (wpAny_call_entry F.slot_zip_next hT F.entry_zip_next ?_ (F.args_zip_next_1 _))))
  show wpAny _ _ (field (.ref z) 2 >>= _) _ _ _
  refine wpAny_bind (wpAny_field hz rfl (x := .bool false) rfl ?_)
  show wpAny _ _ (field (.ref z) 3 >>= _) _ _ _
  refine wpAny_bind (wpAny_field hz rfl (x := .ref TI) rfl (wpAny_bind (wpAny_seqItems hI rfl ?_)))
  show wpAny _ _ (Builtin.SmallTypes.ownedTupleIsFree (.ref z) >>= _) _ _ _
  refine wpAny_bind ?_
  unfold Builtin.SmallTypes.ownedTupleIsFree
  refine wpAny_bind (wpAny_field hz rfl (x := .none) rfl (wpAny_pure ?_))
  simp only [if_true]
  refine wpAny_bind (wpAny_rule (wpAny_bind (wpAny_field hz rfl (x := .ref TO) rfl (wpAny_bind (wpAny_setField_rec hz (by simp) fun hA zA sA => wpAny_bind ?_)))))
  replace zA : IsZip hA z TI TO .ellipsis := zA
  replace sA : Heap.SameBut z hp hA := sA
  simp only [List.zipIdx_cons, List.zipIdx_nil, List.forIn_cons, List.forIn_nil]
  refine wpAny_bind (wpAny_bind (wpAny_onRaise ?_))
  show wpAny _ _ (Builtin.SmallTypes.nextOf (.ref i) >>= _) _ _ _
  have h1A : St n hA := D.frame _ _ _ h1 fun b hb o q => (sA.2 b (Z.f b hb).1).trans q
  refine wpAny_bind (D.done ⟨hA, g, d, t0, os⟩ _ _ h1A fun hB e sB ⟨oe, he, hce⟩ => ?_)
  have zB : IsZip hB z TI TO .ellipsis := sB _ _ nzi zA
  have nez : e ≠ z := fun x => by subst x; rw [zB] at he; cases he; simp at hce
  refine wpAny_setField_rec zB (by simp) fun hC _ sC => ?_
  replace sC : Heap.SameBut z hB hC := sC
  refine wpAny_bind (wpAny_isInstance (T := "StopIteration") (b := true) ⟨oe, (sC.2 _ nez).trans he, hce⟩ isSubtype_stop (wpAny_pure (hQ _ fun c o hc q => ?_)))
  simp only [List.mem_cons, List.not_mem_nil, or_false, not_or] at hc
  exact (sC.2 _ hc.1).trans (sB _ _ hc.2.2.1 ((sA.2 _ hc.1).trans q))
theorem pyNext_zip {Q : Option Value → Shared → Prop} (Z : ZA z TI TO i j fp gp) (D : Draws prog w A.in1 i fp n P St) (G : Draws prog w A.in1 j gp m R Su) (hz : IsZip s.heap z TI TO .none) (hI : IsPair s.heap TI (.ref i) (.ref j)) (hO : IsPair s.heap TO a b) (h1 : St k s.heap) (h2 : Su k s.heap) (hk : k < n) (hm : k < m)
    (hQ : ∀ x y h' tk, P k x → R k y → IsZip h' z TI TO (rawInt s.heap.objs.size) → IsPair h' TI (.ref i) (.ref j) → IsPair h' TO x y → St (k + 1) h' → Su (k + 1) h' → IsPair h' s.heap.objs.size x y → (∀ c o, c ∉ [z, TO, i, j] → s.heap.get? c = some o → h'.get? c = some o) → Q (some (.ref s.heap.objs.size)) { s with heap := h', toks := tk }) :
    wpAny (model prog w) A (pyNext (.ref z)) Q E s := by
  have hT : s.TypeIs (.ref z) "zip" := ⟨_, hz, rfl⟩
  unfold pyNext
  exact wpAny_bind (wpAny_attempt (wpAny_callSpecial?_slot (name := Str.ofString "__next__") hT F.slot_zip_next (wpAny_call_entry F.slot_zip_next hT F.entry_zip_next (zip_turn Z D G hz hI hO h1 h2 hk hm fun x y h' tk a1 a2 a3 a4 a5 a6 a7 a8 a9 => wpAny_pure (hQ x y h' tk a1 a2 a3 a4 a5 a6 a7 a8 a9)) (F.args_zip_next_1 _))))
end
end L2
end

section
set_option Elab.async false
set_option linter.all false
set_option maxRecDepth 100000
namespace L2
open PySem PySem.Spec PyProof.Rows
/-- an iterator's own object is none of the program's tuples -/
theorem fp_ne {X : Cx} {pins : List (Addr × Obj)} {σ : St} {H : Hp} {s : Shared} {a b : Addr} {xs : List V} (I : Inv X pins σ H s) (hf : FpOk X pins H b) (hq : SqT X.K H a xs) : a ≠ b := by
  intro e
  subst e
  obtain ⟨f0, _, _, f3, _, _⟩ := hf
  rcases hq with (h | ⟨o, h⟩) | ⟨o, _, _, hk, _⟩
  · rw [f0] at h; cases h
  · rw [f0] at h; cases h
  · have hb := I.ok.mod.kin _ _ hk
    rcases f3 with z | z
    · exact I.ok.noex _ _ hb z
    · exact absurd (Nat.lt_of_lt_of_le (Heap.lt_size (I.ok.bs _ _ hb).1) z) (Nat.lt_irrefl _)
section
variable {prog : Program} {w : World} {A : Around} {E : Value → Shared → Prop} {s : Shared}
abbrev tiO (l : Addr) : Obj := { cls := .type "tuple_iterator", data := .fields #[.ref l, .int 0 0] }
abbrev tpO (x y : Value) : Obj := { cls := .type "tuple", data := .seq #[x, y] }
abbrev zpO (x y : Value) : Obj := { cls := .type "zip", data := .fields #[.none, .bool false, .bool false, x, y] }
abbrev za (h : Heap) (l : Addr) : Heap := h.push (tiO l)
abbrev zb (h : Heap) (l c : Addr) : Heap := (za h l).push (tiO c)
abbrev zc (h : Heap) (l c : Addr) : Heap := (zb h l c).push (tpO (.ref h.objs.size) (.ref (za h l).objs.size))
abbrev zd (h : Heap) (l c : Addr) : Heap := (zc h l c).push (tpO .none .none)
abbrev ze (h : Heap) (l c : Addr) : Heap := (zd h l c).push (zpO (.ref (zb h l c).objs.size) (.ref (zc h l c).objs.size))
theorem new_zipT (l c : Addr) (xs ys : Array Value) : Meets (Builtin.«zip.__new__» ⟨[.type "zip", .ref l, .ref c], []⟩) (fun _ R s => (s.heap.IsTuple l xs ∧ s.heap.IsTuple c ys) ∧ R (.ok (.ret (.ref (zd s.heap l c).objs.size))) { s with heap := ze s.heap l c }) :=
  .of_wp fun prog w A R s h => by
    obtain ⟨hp, g, d, tk, os⟩ := s; obtain ⟨⟨hl1, hl2⟩, h⟩ := h
    have hsub := sub_zip
    have hL1 : Heap.IsTuple (Shared.heap ⟨hp, g, d, tk, os⟩) l xs := hl1
    have hL2 : Heap.IsTuple (Shared.heap ⟨za hp l, g, d, tk, os⟩) c ys := hl2.at fun o e => Heap.get?_push_of_some _ e
    wp_walk using wpAny_pyIter_tuple hL1, wpAny_pyIter_tuple hL2
    exact ⟨_, rfl, h⟩
theorem call_zipT {l c : Addr} {xs ys : Array Value} {Q : Value → Shared → Prop} (h1 : s.heap.IsTuple l xs) (h2 : s.heap.IsTuple c ys)
    (h : ∀ h', IsZip h' (s.heap.objs.size + 4) (s.heap.objs.size + 2) (s.heap.objs.size + 3) .none → IsPair h' (s.heap.objs.size + 2) (.ref s.heap.objs.size) (.ref (s.heap.objs.size + 1)) → IsPair h' (s.heap.objs.size + 3) .none .none →
      h'.IsTupleIter s.heap.objs.size l 0 → h'.IsTupleIter (s.heap.objs.size + 1) c 0 → (∀ b o, s.heap.get? b = some o → h'.get? b = some o) → Q (.ref (s.heap.objs.size + 4)) { s with heap := h' }) : wpAny (model prog w) A (call (.type "zip") [.ref l, .ref c]) Q E s := by
  refine callType_new F.called_zip (by decide) (F.typeCall_zip_2 _ _) (F.newCall_zip_2 _ _) (fun obj => F.args_object_init_3 obj _ _) F.entry_zip_new (new_zipT l c xs ys) ⟨⟨h1, h2⟩, ?_⟩
  have z1 : (za s.heap l).objs.size = s.heap.objs.size + 1 := Heap.size_push ..
  have z2 : (zb s.heap l c).objs.size = s.heap.objs.size + 2 := (Heap.size_push ..).trans (congrArg (· + 1) z1)
  have z3 : (zc s.heap l c).objs.size = s.heap.objs.size + 3 := (Heap.size_push ..).trans (congrArg (· + 1) z2)
  have z4 : (zd s.heap l c).objs.size = s.heap.objs.size + 4 := (Heap.size_push ..).trans (congrArg (· + 1) z3)
  have up : ∀ {hh : Heap} {o o' : Obj} {b : Addr}, hh.get? b = some o → (hh.push o').get? b = some o := fun e => Heap.get?_push_of_some _ e
  have p1 : (ze s.heap l c).get? s.heap.objs.size = some (tiO l) := up (up (up (up (Heap.get?_push_size _ rfl))))
  have p2 : (ze s.heap l c).get? (za s.heap l).objs.size = some (tiO c) := up (up (up (Heap.get?_push_size _ rfl)))
  have p3 : (ze s.heap l c).get? (zb s.heap l c).objs.size = some (tpO (.ref s.heap.objs.size) (.ref (za s.heap l).objs.size)) := up (up (Heap.get?_push_size _ rfl))
  have p4 : (ze s.heap l c).get? (zc s.heap l c).objs.size = some (tpO .none .none) := up (Heap.get?_push_size _ rfl)
  have p5 : (ze s.heap l c).get? (zd s.heap l c).objs.size = some (zpO (.ref (zb s.heap l c).objs.size) (.ref (zc s.heap l c).objs.size)) := Heap.get?_push_size _ rfl
  have pp := fun b o (e : s.heap.get? b = some o) => show (ze s.heap l c).get? b = some o from up (up (up (up (up e))))
  show _ ∧ _
  generalize ze s.heap l c = hh at p1 p2 p3 p4 p5 pp ⊢
  rw [z1] at p2 p3
  rw [z2] at p3 p5
  rw [z3] at p4 p5
  rw [z4] at p5 ⊢
  exact ⟨⟨_, p5, rfl⟩, h _ p5 p3 p4 ⟨_, p1, rfl, rfl⟩ ⟨_, p2, rfl, rfl⟩ pp⟩
end
def Itz (K : PySem.W.Frag) (a c : Addr) : It :=
  ⟨fun k H => ∃ xs ys x y, SqT K H a xs ∧ SqT K H c ys ∧ xs[k]? = some x ∧ ys[k]? = some y,
   fun k H v H' => ∃ T x y, v = .ref T ∧ H T = none ∧ H' = upd H T (.tup [x, y]) ∧ (∀ xs, SqT K H a xs → xs[k]? = some x) ∧ (∀ ys, SqT K H c ys → ys[k]? = some y),
   fun k H => ∃ xs, SqT K H a xs ∧ xs.length = k⟩
theorem turn_zipT {P : Program} {w : World} {K : PySem.W.Frag} {elts : List Expr} {q} {pos : Pos} (a c z TI TO i j : Addr) (nd : [z, TI, TO, i, j].Nodup) :
    Turn P w K (.Tuple elts q pos) (Itz K a c) [z, TI, TO, i, j] z (fun k h => IsZip h z TI TO .none ∧ IsPair h TI (.ref i) (.ref j) ∧ (∃ u v, IsPair h TO u v) ∧ h.IsTupleIter i a k ∧ h.IsTupleIter j c k) where
  mem := by simp
  obj := fun k h st b hb => by
    obtain ⟨h1, h2, ⟨u, v, h3⟩, ⟨o4, h4, _, d4⟩, ⟨o5, h5, _, d5⟩⟩ := st
    simp only [List.mem_cons, List.not_mem_nil, or_false] at hb
    rcases hb with rfl | rfl | rfl | rfl | rfl
    · exact ⟨_, h1, fun v z => by cases z⟩
    · exact ⟨_, h2, fun v z => by cases z⟩
    · exact ⟨_, h3, fun v z => by cases z⟩
    · exact ⟨_, h4, fun v z => by rw [d4] at z; cases z⟩
    · exact ⟨_, h5, fun v z => by rw [d5] at z; cases z⟩
  keep := fun k h h' st kk => by
    obtain ⟨h1, h2, ⟨u, v, h3⟩, h4, h5⟩ := st
    exact ⟨kk _ (by simp) _ h1, kk _ (by simp) _ h2, ⟨u, v, kk _ (by simp) _ h3⟩, h4.at fun o e => kk i (by simp) o e, h5.at fun o e => kk j (by simp) o e⟩
  item := by
    intro X hP hw hK hc k pins s σ H E I hf st hg
    subst hP hw hK
    obtain ⟨xs, ys, x, y, hq1, hq2, hx, hy⟩ := hg
    obtain ⟨h1, h2, ⟨u, v, h3⟩, h4, h5⟩ := st
    obtain ⟨its1, rv1, p1, _⟩ := I.tuple hq1
    obtain ⟨its2, rv2, p2, _⟩ := I.tuple hq2
    obtain ⟨u1, hu1, ru1⟩ := rv1.get hx
    obtain ⟨u2, hu2, ru2⟩ := rv2.get hy
    have na : ∀ b ∈ [z, TI, TO, i, j], a ≠ b := fun b hb => fp_ne I (hf b hb) hq1
    have nc : ∀ b ∈ [z, TI, TO, i, j], c ≠ b := fun b hb => fp_ne I (hf b hb) hq2
    have nd' := nd
    simp only [List.nodup_cons, List.mem_cons, List.not_mem_nil, or_false, not_or, List.nodup_nil, and_true, not_false_eq_true] at nd'
    obtain ⟨⟨nzI, nzO, nzi, nzj⟩, ⟨nIO, nIi, nIj⟩, ⟨nOi, nOj⟩, nij⟩ := nd'
    have Z : ZA z TI TO i j [i, a] [j, c] := ⟨nd, fun b hb => by
      rcases List.mem_cons.mp hb with rfl | hb
      · exact ⟨Ne.symm nzi, Ne.symm nOi, nij, Ne.symm nIi⟩
      · rw [show b = a by simpa using hb]; exact ⟨na z (by simp), na TO (by simp), na j (by simp), na TI (by simp)⟩, fun b hb => by
      rcases List.mem_cons.mp hb with rfl | hb
      · exact ⟨Ne.symm nzj, Ne.symm nOj, Ne.symm nij, Ne.symm nIj⟩
      · rw [show b = c by simpa using hb]; exact ⟨nc z (by simp), nc TO (by simp), nc i (by simp), nc TI (by simp)⟩⟩
    have D1 := Draws.tuple (prog := X.prog) (w := X.w) (A := X.A.in1) (I.ok.hd hc) i a (na i (by simp)) its1.toArray
    have D2 := Draws.tuple (prog := X.prog) (w := X.w) (A := X.A.in1) (I.ok.hd hc) j c (nc j (by simp)) its2.toArray
    refine pyNext_zip Z D1 D2 h1 h2 h3 ⟨h4, p1⟩ ⟨h5, p2⟩ (by rw [List.size_toArray]; exact (List.getElem?_eq_some_iff.mp hu1).1) (by rw [List.size_toArray]; exact (List.getElem?_eq_some_iff.mp hu2).1) fun v1 v2 h' tk e1 e2 a1 a2 a3 a4 a5 a6 a7 => ?_
    have e1' : its1[k]? = some v1 := by simpa using e1
    have e2' : its2[k]? = some v2 := by simpa using e2
    rw [hu1] at e1'
    rw [hu2] at e2'
    cases e1'
    cases e2'
    refine ⟨_, rfl, wpAny_letOwnedTupleGo_zip (s := { s with heap := h', toks := tk }) a1 fun h3' b1 sb => ?_⟩
    replace sb : Heap.SameBut z h' h3' := sb
    have lt : ∀ b ∈ [z, TI, TO, i, j], b < s.heap.objs.size := fun b hb => by
      obtain ⟨_, q4, _⟩ := id h4
      obtain ⟨_, q5, _⟩ := id h5
      simp only [List.mem_cons, List.not_mem_nil, or_false] at hb
      rcases hb with rfl | rfl | rfl | rfl | rfl
      · exact Heap.lt_size h1
      · exact Heap.lt_size h2
      · exact Heap.lt_size h3
      · exact Heap.lt_size q4
      · exact Heap.lt_size q5
    have stn : IsZip h3' z TI TO .none ∧ IsPair h3' TI (.ref i) (.ref j) ∧ (∃ u v, IsPair h3' TO u v) ∧ h3'.IsTupleIter i a (k + 1) ∧ h3'.IsTupleIter j c (k + 1) :=
      ⟨b1, (sb.2 _ (Ne.symm nzI)).trans a2, ⟨_, _, (sb.2 _ (Ne.symm nzO)).trans a3⟩, a4.1.at fun o e => (sb.2 i (Ne.symm nzi)).trans e, a5.1.at fun o e => (sb.2 j (Ne.symm nzj)).trans e⟩
    have J : Inv X pins σ (upd H s.heap.objs.size (.tup [x, y])) { s with heap := h3', toks := tk } := by
      refine I.turnedNew (fp := [z, TI, TO, i, j]) (its := [u1, u2]) hf (fun b o hb q => (sb.2 b (fun e => hb (by simp [e]))).trans (a7 b o (fun e => hb (by simp only [List.mem_cons, List.not_mem_nil, or_false] at e ⊢; rcases e with e | e | e | e <;> simp [e])) q)) (fun b hb => ?_) (Nat.le_refl _) ⟨_, (sb.2 _ (Nat.ne_of_gt (lt z (by simp)))).trans a6, rfl, 0, rfl⟩ (.cons ru1 (.cons ru2 .nil)) (by show 2 ≤ sizeLine; decide)
      obtain ⟨t1, t2, ⟨_, _, t3⟩, ⟨_, t4, _⟩, ⟨_, t5, _⟩⟩ := id stn
      simp only [List.mem_cons, List.not_mem_nil, or_false] at hb
      rcases hb with rfl | rfl | rfl | rfl | rfl
      · exact ⟨_, t1⟩
      · exact ⟨_, t2⟩
      · exact ⟨_, t3⟩
      · exact ⟨_, t4⟩
      · exact ⟨_, t5⟩
    refine ⟨.ref s.heap.objs.size, upd H s.heap.objs.size (.tup [x, y]), J, rfl, ⟨_, x, y, rfl, I.hok.fresh (Nat.le_refl _), rfl, fun zs hz => by rw [I.tuple_inj hz hq1]; exact hx, fun zs hz => by rw [I.tuple_inj hz hq2]; exact hy⟩, stn, fun b hb => ?_⟩
    rw [upd_ne (Nat.ne_of_lt (lt b hb))]
    exact (hf b hb).1
  done := by
    intro X hP hw hK hc k pins s σ H E I hf st hg
    subst hP hw hK
    obtain ⟨xs, hq1, hl⟩ := hg
    obtain ⟨h1, h2, ⟨u, v, h3⟩, h4, h5⟩ := st
    obtain ⟨its1, rv1, p1, _⟩ := I.tuple hq1
    have na : ∀ b ∈ [z, TI, TO, i, j], a ≠ b := fun b hb => fp_ne I (hf b hb) hq1
    have nd' := nd
    simp only [List.nodup_cons, List.mem_cons, List.not_mem_nil, or_false, not_or, List.nodup_nil, and_true, not_false_eq_true] at nd'
    obtain ⟨⟨nzI, nzO, nzi, nzj⟩, ⟨nIO, nIi, nIj⟩, ⟨nOi, nOj⟩, nij⟩ := nd'
    have Z : ZA z TI TO i j [i, a] [] := ⟨nd, fun b hb => by
      rcases List.mem_cons.mp hb with rfl | hb
      · exact ⟨Ne.symm nzi, Ne.symm nOi, nij, Ne.symm nIi⟩
      · rw [show b = a by simpa using hb]; exact ⟨na z (by simp), na TO (by simp), na j (by simp), na TI (by simp)⟩, fun b hb => nomatch hb⟩
    have D1 := Draws.tuple (prog := X.prog) (w := X.w) (A := X.A.in1) (I.ok.hd hc) i a (na i (by simp)) its1.toArray
    have hk : its1.toArray.size = k := by rw [List.size_toArray, ← rv1.length]; exact hl
    refine zip_ends Z D1 h1 h2 ⟨by rw [hk]; exact h4, p1⟩ fun h' kk => ⟨rfl, ?_⟩
    refine I.step (g' := s.gens) (d' := s.drawn) (t' := s.toks) (ch := [z, TO, i, j]) (fun b hb => ?_) (fun b o _ _ hb q _ => kk b o hb q) (fun b o _ _ hb q _ => ⟨o.slots, kk b o hb q⟩) (fun _ _ _ _ n => n) (fun b o hb q => ⟨o, kk b o hb q⟩) (fun _ _ e => e) (fun _ _ _ e => e) (fun b ps e => ⟨#[], by rw [e]; simp⟩) (fun m hn => ?_) (fun b u q => ?_) ⟨I.bare.1, Nat.le_refl _⟩
    · have hb' : b ∈ [z, TI, TO, i, j] := by simp only [List.mem_cons, List.not_mem_nil, or_false] at hb ⊢; rcases hb with e | e | e | e <;> simp [e]
      obtain ⟨f0, f1, f2, f3, f4, f5⟩ := hf b hb'
      exact ⟨f3, f1, f4, f5⟩
    · obtain ⟨o, es, ep, ho, r⟩ := hn
      refine ⟨o, es, ep, kk _ o (fun hb => ?_) ho, r⟩
      have hb' : X.env.locals ∈ [z, TI, TO, i, j] := by simp only [List.mem_cons, List.not_mem_nil, or_false] at hb ⊢; rcases hb with e | e | e | e <;> simp [e]
      exact (hf _ hb').2.1 rfl
    · refine (I.hok b u q).stay (fun c' v' hc' y => kk c' v' (fun hb => ?_) y) (fun _ y => y) fun _ _ y => y
      have hb' : c' ∈ [z, TI, TO, i, j] := by simp only [List.mem_cons, List.not_mem_nil, or_false] at hb ⊢; rcases hb with e | e | e | e <;> simp [e]
      have := (hf _ hb').1
      rcases hc' with e | e
      · rw [e] at this; rw [this] at q; cases q
      · rw [this] at e; cases e
  self := fun _ _ _ _ _ st h => wpAny_pyIter_zip st.1 h
section
variable {X : Cx} {elts : List Expr} {q : Nat} {tpos : Pos}
def iZip (K : PySem.W.Frag) (ta : TA) : TI := fun σ H R => ta σ H fun vs H1 => ∃ a c, vs = [.ref a, .ref c] ∧ (∃ xs, SqT K H1 a xs) ∧ (∃ ys, SqT K H1 c ys) ∧ R (Itz K a c) H1
theorem pi_zip {l m : Expr} {ta : TA} {p pos : Pos} (hg : Gl X "zip") (hm : X.mg "zip" = none) (ha : PA X [l, m] ta) (hs : starEach [l, m] X.env = (false, eval l X.env) :: starEach [m] X.env := by rfl) (hs2 : (backTo pos (starEach [m] X.env)).any (·.1) = false := by rfl) : PI X (.Tuple elts q tpos) (.Call (.Name "zip" p) [l, m] [] pos) (iZip X.K ta) := by
  intro pins s σ H R I h
  refine Call_ (ld_blt I hg hm boot_zip (PyProof.Rows.callWith_type1 (thn (ha pos pins s σ H _ I h) fun us s1 ⟨vs, H1, I1, r1, q1⟩ => ?_) hs hs2))
  obtain ⟨a, c, e, ⟨xs, hq1⟩, ⟨ys, hq2⟩, qq⟩ := q1
  subst e
  cases r1 with
  | cons r rr =>
    cases rr with
    | cons r' rr' =>
      cases rr'
      cases r
      cases r'
      obtain ⟨its1, rv1, p1, _⟩ := I1.tuple hq1
      obtain ⟨its2, rv2, p2, _⟩ := I1.tuple hq2
      refine call_zipT (s := s1) (show s1.heap.IsTuple a its1.toArray from p1) (show s1.heap.IsTuple c its2.toArray from p2) fun h' h1 h2 h3 h4 h5 kp => wpAny_pyIter_zip (s := { s1 with heap := h' }) h1 ?_
      refine ⟨s1.heap.objs.size + 4, [s1.heap.objs.size + 4, s1.heap.objs.size + 2, s1.heap.objs.size + 3, s1.heap.objs.size, s1.heap.objs.size + 1], _, _, H1, rfl, I1.kept (t' := s1.toks) kp, turn_zipT a c _ _ _ _ _ (by simp <;> omega), ⟨h1, h2, ⟨_, _, h3⟩, h4, h5⟩, fun b hb => ?_, qq⟩
      have : s1.heap.objs.size ≤ b := by
        simp only [List.mem_cons, List.not_mem_nil, or_false] at hb
        rcases hb with rfl | rfl | rfl | rfl | rfl <;> omega
      exact I1.fpOk this (I1.hok.fresh this)
end
end L2
end

section
set_option Elab.async false
set_option linter.all false
set_option maxRecDepth 100000
namespace L2
open PySem PySem.Spec PyProof.Rows
/-! ### starred items, not of a truth, index, zip in comprehensions and loops -/
def tStar (K : PySem.W.Frag) (te : TE) (tr : TA) : TA := fun σ H Q => te σ H fun v H1 => ∃ a xs, v = .ref a ∧ (SqL K H1 a xs ∨ SqT K H1 a xs) ∧ tr σ H1 fun ys H2 => Q (xs ++ ys) H2
section
variable {X : Cx} {e : Expr} {es : List Expr} {te : TE} {t : TA} {p pos : Pos}
theorem pa_star (ha : PE X e te) (hr : PA X es t) (hs : starEach (.Starred e p :: es) X.env = (true, eval e X.env) :: starEach es X.env := by rfl) : PA X (.Starred e p :: es) (tStar X.K te t) := by
  intro pos pins s σ H Q I h
  refine PySem.W.items_star (thn (ha pins s σ H _ I h) fun u s1 ⟨x, H1, I1, r1, a, xs, ex, hq, q1⟩ => ?_) hs
  subst ex
  cases r1
  have fin : ∀ (T : String) (o : Obj) (its : List Value) (n : Nat), (T = "list" ∨ T = "tuple") → s1.heap.get? a = some o → o.cls = .type T → o.data = .seq its.toArray n → Vals xs its → xs.length ≤ sizeLine →
      PySem.W.StarOf (model X.prog X.w) X.A X.xe (.ref a) (fun here s₂ => wpAny (model X.prog X.w) X.A (spliced (backTo pos (starEach es X.env))) (fun vs s₃ => ∃ ys H', Inv X pins σ H' s₃ ∧ Vals ys (here ++ vs) ∧ Q ys H') X.xe s₂) s1 := fun T o its n hT ho hc hd rv hz => by
    have hT' : s1.TypeIs (.ref a) T := ⟨o, ho, hc⟩
    have z : wpAny (model X.prog X.w) X.A (collect (.ref a)) (fun here s₂ => wpAny (model X.prog X.w) X.A (spliced (backTo pos (starEach es X.env))) (fun vs s₃ => ∃ ys H', Inv X pins σ H' s₃ ∧ Vals ys (here ++ vs) ∧ Q ys H') X.xe s₂) X.xe s1 := by
      refine wpAny_collect_seq a hT ho hc hd (fun h' hk => ?_) (by rw [List.size_toArray, ← rv.length]; exact hz)
      have I2 : Inv X pins σ H1 { s1 with heap := h' } := I1.kept (t' := s1.toks) hk
      exact thn (hr pos pins { s1 with heap := h' } σ H1 _ I2 q1) fun us s2 ⟨ys, H2, I3, r2, q2⟩ => ⟨xs ++ ys, H2, I3, rv.append r2, q2⟩
    unfold PySem.W.StarOf notIterableAtAll
    rcases hT with rfl | rfl
    · exact wpAny_bind (wpAny_specialOf hT' PySem.F.slot_list_iter.lookup (wpAny_pure ⟨rfl, z⟩))
    · exact wpAny_bind (wpAny_specialOf hT' PySem.F.slot_tuple_iter.lookup (wpAny_pure ⟨rfl, z⟩))
  rcases hq with hq | hq
  · obtain ⟨its, rv, pl, hz⟩ := I1.list hq
    obtain ⟨o, ho, hc, n, hd⟩ := pl.isList
    exact fin "list" o its n (.inl rfl) ho hc hd rv hz
  · obtain ⟨its, rv, ⟨o, ho, hc, n, hd⟩, hz⟩ := I1.tuple hq
    exact fin "tuple" o its n (.inr rfl) ho hc hd rv hz
def tNotT (K : PySem.W.Frag) (ta : TE) : TE := fun σ H Q => ta σ H fun x H1 => ∃ k, TruV K x H1 k ∧ Q (.bl (!k)) H1
theorem pe_notT {a : Expr} {ta : TE} (ha : PE X a ta) : PE X (.UnaryOp .Not a pos) (tNotT X.K ta) := by
  intro pins s σ H Q I h
  refine UnaryOp_ (thn (ha pins s σ H _ I h) fun v s1 ⟨x, H1, I1, r1, q1⟩ => ?_)
  exact not_of (thn (tru_ok pins s1 σ H1 x v (fun k H2 => Q (.bl (!k)) H2) I1 r1 q1) fun k s2 ⟨H2, I2, q2⟩ => ⟨.bl (!k), H2, I2, rfl, q2⟩)
/-- list.index of a text -/
def rIndex (K : PySem.W.Frag) : V → List V → Hp → VK → Prop := fun x vs H Q => ∃ (a : Addr) (ys : List Str) (z : Str), x = .ref a ∧ vs = [.str z] ∧ SqL K H a (ys.map V.str) ∧ z ∈ ys ∧ Q (.int (ys.idxOf z : Nat)) H
theorem eqU_str {ys : List Str} {us : List Value} {z : Str} (r : Vals (ys.map V.str) us) (j : Nat) (h : j < us.length) (h' : j < ys.length) : eqU (.str z) us[j] = (ys[j] == z) := by
  obtain ⟨u, hu, ru⟩ := r.get (i := j) (x := .str ys[j]) (by simp [h'])
  rw [List.getElem?_eq_getElem h] at hu
  cases hu
  rw [eqU_of ru rfl]
  rfl
theorem mt_index : MtR X "list.index" (rIndex X.K) := by
  intro pins s σ H x vs v us Q I rx rv h
  obtain ⟨a, ys, z, rfl, rfl, hq, hz, q⟩ := h
  cases rx
  obtain ⟨u, rfl, ru⟩ := rv.one
  obtain ⟨its, r, pl, hl⟩ := I.list hq
  obtain ⟨⟨cls, dd, data, sl⟩, ho, hc, n, hd⟩ := pl.isList
  simp only at hc hd
  subst hc hd
  have hlen := r.length
  rw [List.length_map] at hlen hl
  have hj : ys.idxOf z < ys.length := List.idxOf_lt_length_iff.mpr hz
  have l63 := line63
  refine call_meets PySem.F.slot_list_index ⟨_, ho, rfl⟩ PySem.F.entry_list_index (PySem.F.args_list_index_2 _ _) (SeqAt.list_indexAt a its.toArray n dd sl u (eqU (.str z)) (ys.idxOf z) (by rw [List.size_toArray]; omega) (by omega) ?_ ?_) ⟨ho, fun y hy => mem_eqAt ru rfl r (by rw [List.all_map]; exact List.all_eq_true.mpr fun _ _ => rfl) y (by simpa using hy), ⟨.int _, H, I.tok _, ⟨_, rfl⟩, q⟩⟩
  · show eqU (.str z) its[ys.idxOf z] = true
    rw [eqU_str r _ (by omega) hj]
    simpa using List.getElem_idxOf hj
  · intro j hjs hlt
    show eqU (.str z) its[j] = false
    rw [eqU_str r _ (by simpa using hjs) (by omega)]
    have := List.not_of_lt_findIdx (p := (· == z)) (xs := ys) hlt
    simpa using this
end
theorem pg_tupK {X : Cx} {K : PySem.W.Frag} {es : List Expr} {k : Nat} {t : TGs} {n : Nat} {pos : Pos} (hK : X.K = K) (hc : X.calm = true) (h : PGs X es t)
    (hn : (assignEach es X.env).length = n := by rfl) (hst : (assignEach es X.env).findIdx? (·.1) = none := by rfl) : PG X (.Tuple es k pos) (gTup K n t) := by
  subst hK
  exact pg_tup hc h hn hst
theorem lcomp_zip {K : PySem.W.Frag} {a c : Addr} {xs ys : List V} {g : TG} {te : TE} {σc : St} {H : Hp} {Q : VK} (hlen : ys.length = xs.length) (Pv : Nat → List V → Hp → Prop) (h0 : Pv 0 [] H) (hok : ∀ i vs H, Pv i vs H → SqT K H a xs ∧ SqT K H c ys)
    (step : ∀ i x y T vs H, xs[i]? = some x → ys[i]? = some y → i < xs.length → Pv i vs H → H T = none → g (.ref T) σc (upd H T (.tup [x, y])) fun σ2 H2 => te σ2 H2 fun v H4 => vs.length < sizeLine ∧ Nx xs.length i (Pv (i + 1) (vs ++ [v]) H4))
    (fin : ∀ vs H, Pv xs.length vs H → ∀ p, H p = none → Q (.ref p) (upd H p (.lst vs))) : LComp (Itz K a c) g tYes te σc Q H := by
  refine ⟨fun i m vs H => m = xs.length - i ∧ i ≤ xs.length ∧ Pv i vs H, ⟨xs.length, by simp, Nat.zero_le _, h0⟩, ?_⟩
  rintro i m vs H ⟨rfl, hi, p⟩
  obtain ⟨o1, o2⟩ := hok i vs H p
  by_cases hlt : i < xs.length
  · have hlt' : i < ys.length := by omega
    refine .inr ⟨⟨xs, ys, xs[i], ys[i], o1, o2, by simp [hlt], by simp [hlt']⟩, fun v H' yy => ?_⟩
    obtain ⟨T, x, y, rfl, hT, rfl, y1, y2⟩ := yy
    have e : (fun (σ2 : St) (H2 : Hp) => tYes σ2 H2 fun b H3 => if b = true then te σ2 H3 fun v H4 => vs.length < sizeLine ∧ ∃ m', m' < xs.length - i ∧ (m' = xs.length - (i + 1) ∧ i + 1 ≤ xs.length ∧ Pv (i + 1) (vs ++ [v]) H4) else ∃ m', m' < xs.length - i ∧ (m' = xs.length - (i + 1) ∧ i + 1 ≤ xs.length ∧ Pv (i + 1) vs H3)) =
        fun σ2 H2 => te σ2 H2 fun v H4 => vs.length < sizeLine ∧ Nx xs.length i (Pv (i + 1) (vs ++ [v]) H4) := by
      funext σ2 H2
      unfold tYes
      dsimp only
      rw [if_pos rfl]
      rfl
    rw [e]
    exact step i x y T vs H (y1 xs o1) (y2 ys o2) hlt p hT
  · have e : i = xs.length := by omega
    subst e
    exact .inl ⟨⟨xs, o1, rfl⟩, fin vs H p⟩
theorem for_zip {K : PySem.W.Frag} {a c : Addr} {xs ys : List V} {g : TG} {tb : TS} {D : Ends} {σ : St} {H : Hp} (hlen : ys.length = xs.length) (Pv : Nat → St → Hp → Prop) (h0 : Pv 0 σ H) (hl : ∀ i σ H, i ≤ xs.length → Pv i σ H → SqT K H a xs ∧ SqT K H c ys)
    (hs : ∀ i x y T σ H, xs[i]? = some x → ys[i]? = some y → Pv i σ H → H T = none → g (.ref T) σ (upd H T (.tup [x, y])) fun σ2 H2 => tb { D with nx := Pv (i + 1), ct := Pv (i + 1), bk := D.nx } σ2 H2) (hd : ∀ σ H, Pv xs.length σ H → D.nx σ H) :
    ∃ W : Nat → Nat → St → Hp → Prop, (∃ m, W 0 m σ H) ∧ ∀ i m σ H, W i m σ H →
      ((Itz K a c).stop i H ∧ D.nx σ H) ∨ ((Itz K a c).go i H ∧ ∃ N : St → Hp → Prop, (∀ σ' H', N σ' H' → ∃ m', m' < m ∧ W (i + 1) m' σ' H') ∧ ∀ x H', (Itz K a c).yld i H x H' → g x σ H' fun σ2 H2 => tb { D with nx := N, ct := N, bk := D.nx } σ2 H2) := by
  refine ⟨fun i m σ H => m = xs.length - i ∧ i ≤ xs.length ∧ Pv i σ H, ⟨xs.length, by simp, Nat.zero_le _, h0⟩, ?_⟩
  rintro i m σ H ⟨rfl, hi, p⟩
  obtain ⟨q1, q2⟩ := hl i σ H hi p
  by_cases hlt : i < xs.length
  · refine .inr ⟨⟨xs, ys, xs[i], ys[i]'(by omega), q1, q2, by simp [hlt], by simp [show i < ys.length by omega]⟩, Pv (i + 1), fun σ' H' p' => ⟨xs.length - (i + 1), by omega, rfl, hlt, p'⟩, fun v H' yy => ?_⟩
    obtain ⟨T, x, y, rfl, hT, rfl, y1, y2⟩ := yy
    exact hs i x y T σ H (y1 xs q1) (y2 ys q2) p hT
  · have e : i = xs.length := by omega
    subst e
    exact .inl ⟨⟨xs, q1, rfl⟩, hd σ H p⟩
end L2
end

section
set_option Elab.async false
set_option linter.all false
set_option maxRecDepth 100000
namespace L2
open PySem PySem.Spec PyProof.Rows
/-! ### texts joined and cut again -/
def jl (c : Nat) : List (List Nat) → List Nat
  | [] => []
  | [a] => a
  | a :: b :: r => a ++ c :: jl c (b :: r)
def sg (x : Str) : List Nat := x.cps.toList
theorem sg_ext {x y : Str} (h : sg x = sg y) : x = y := by
  apply Str.ext'
  exact Array.toList_inj.mp h
theorem sg_app (x y : Str) : sg (x ++ y) = sg x ++ sg y := by
  show (x.cps ++ y.cps).toList = _
  rw [Array.toList_append]
  rfl
theorem sg_len (x : Str) : (sg x).length = x.length := by
  show x.cps.toList.length = x.cps.size
  simp
theorem sg_join (c : Nat) : ∀ ps : List Str, sg (Str.join ⟨#[c]⟩ ps) = jl c (ps.map sg)
  | [] => rfl
  | [a] => rfl
  | a :: b :: r => by
    show sg (a ++ ⟨#[c]⟩ ++ Str.join ⟨#[c]⟩ (b :: r)) = sg a ++ c :: jl c ((b :: r).map sg)
    rw [sg_app, sg_app, sg_join c (b :: r), List.append_assoc]
    rfl
theorem txt_join (y : Str) (ps : List Str) : Txt.join y ps = Str.join y ps := PySem.StrLaws.glued_eq_join _ _
theorem cut_uniq {c : Nat} : ∀ {a b X Y : List Nat}, c ∉ a → c ∉ b → a ++ c :: X = b ++ c :: Y → a = b ∧ X = Y
  | [], [], _, _, _, _, h => ⟨rfl, (List.cons.inj h).2⟩
  | [], d :: b, _, _, _, hb, h => absurd (List.mem_cons.mpr (.inl (List.cons.inj h).1)) hb
  | d :: a, [], _, _, ha, _, h => absurd (List.mem_cons.mpr (.inl (List.cons.inj h).1.symm)) ha
  | d :: a, e :: b, X, Y, ha, hb, h => by
    obtain ⟨h1, h2⟩ := List.cons.inj h
    obtain ⟨h3, h4⟩ := cut_uniq (fun z => ha (List.mem_cons_of_mem _ z)) (fun z => hb (List.mem_cons_of_mem _ z)) h2
    exact ⟨by rw [h1, h3], h4⟩
theorem jl_uniq {c : Nat} : ∀ {as bs : List (List Nat)}, as ≠ [] → bs ≠ [] → (∀ a ∈ as, c ∉ a) → (∀ b ∈ bs, c ∉ b) → jl c as = jl c bs → as = bs
  | [], _, h, _, _, _, _ => absurd rfl h
  | _, [], _, h, _, _, _ => absurd rfl h
  | [a], [b], _, _, _, _, h => by rw [show a = b from h]
  | [a], b :: b' :: s, _, _, ha, _, h => by
    have h' : a = b ++ c :: jl c (b' :: s) := h
    exact absurd (by rw [h']; simp) (ha a (by simp))
  | a :: a' :: r, [b], _, _, _, hb, h => by
    have h' : a ++ c :: jl c (a' :: r) = b := h
    exact absurd (by rw [← h']; simp) (hb b (by simp))
  | a :: a' :: r, b :: b' :: s, _, _, ha, hb, h => by
    have h' : a ++ c :: jl c (a' :: r) = b ++ c :: jl c (b' :: s) := h
    obtain ⟨h1, h2⟩ := cut_uniq (ha a (by simp)) (hb b (by simp)) h'
    have := jl_uniq (as := a' :: r) (bs := b' :: s) (by simp) (by simp) (fun x hx => ha x (List.mem_cons_of_mem _ hx)) (fun x hx => hb x (List.mem_cons_of_mem _ hx)) h2
    rw [h1, this]
theorem map_sg_inj : ∀ {as bs : List Str}, as.map sg = bs.map sg → as = bs
  | [], [], _ => rfl
  | [], _ :: _, h => by cases h
  | _ :: _, [], h => by cases h
  | a :: as, b :: bs, h => by
    obtain ⟨h1, h2⟩ := List.cons.inj h
    rw [sg_ext h1, map_sg_inj h2]
theorem split_ne (x y : Str) : Txt.split x y ≠ [] := fun h => by
  have := split_pos x y
  rw [h] at this
  simp at this
/-- what was joined is cut into the same parts -/
theorem split_join {c : Nat} {ps : List Str} (hne : ps ≠ []) (hf : ∀ p ∈ ps, c ∉ sg p) : Txt.split (Txt.join ⟨#[c]⟩ ps) ⟨#[c]⟩ = ps := by
  rw [txt_join]
  have h1 := PySem.StrLaws.join_split (Str.join ⟨#[c]⟩ ps) ⟨#[c]⟩
  have h2 := PySem.StrLaws.split_free (Str.join ⟨#[c]⟩ ps) c
  have h3 := split_ne (Str.join ⟨#[c]⟩ ps) ⟨#[c]⟩
  generalize Txt.split (Str.join ⟨#[c]⟩ ps) ⟨#[c]⟩ = qs at h1 h2 h3
  have h4 := congrArg sg h1
  rw [sg_join, sg_join] at h4
  refine map_sg_inj (jl_uniq (by simpa using h3) (by simpa using hne) (fun a ha => ?_) (fun a ha => ?_) h4)
  · obtain ⟨p, hp, rfl⟩ := List.mem_map.mp ha
    exact h2 p hp
  · obtain ⟨p, hp, rfl⟩ := List.mem_map.mp ha
    exact hf p hp
theorem jl_free {c d : Nat} (hcd : c ≠ d) : ∀ {as : List (List Nat)}, (∀ a ∈ as, c ∉ a) → c ∉ jl d as
  | [], _ => by simp [jl]
  | [a], h => h a (by simp)
  | a :: b :: r, h => by
    show c ∉ a ++ d :: jl d (b :: r)
    intro z
    rcases List.mem_append.mp z with z | z
    · exact h a (by simp) z
    · rcases List.mem_cons.mp z with z | z
      · exact hcd z
      · exact jl_free hcd (as := b :: r) (fun x hx => h x (List.mem_cons_of_mem _ hx)) z
theorem join_free {c d : Nat} (hcd : c ≠ d) {ps : List Str} (h : ∀ p ∈ ps, c ∉ sg p) : c ∉ sg (Txt.join ⟨#[d]⟩ ps) := by
  rw [txt_join, sg_join]
  refine jl_free hcd fun a ha => ?_
  obtain ⟨p, hp, rfl⟩ := List.mem_map.mp ha
  exact h p hp
/-- how long what is joined is -/
theorem jl_len (c : Nat) : ∀ as : List (List Nat), (jl c as).length + 1 ≤ (as.map (·.length)).sum + as.length + 1
  | [] => by simp [jl]
  | [a] => by simp [jl]
  | a :: b :: r => by
    have ih := jl_len c (b :: r)
    show (a ++ c :: jl c (b :: r)).length + 1 ≤ _
    rw [List.length_append, List.length_cons, List.map_cons, List.sum_cons, List.length_cons]
    omega
theorem sum_le {m : Nat} : ∀ {as : List Nat}, (∀ a ∈ as, a ≤ m) → as.sum ≤ as.length * m
  | [], _ => by simp
  | a :: as, h => by
    have := sum_le (as := as) fun x hx => h x (List.mem_cons_of_mem _ hx)
    have h1 := h a (by simp)
    rw [List.sum_cons, List.length_cons, Nat.add_mul]
    omega
theorem join_len {c m : Nat} {ps : List Str} (h : ∀ p ∈ ps, p.length ≤ m) : (Txt.join ⟨#[c]⟩ ps).length ≤ ps.length * m + ps.length := by
  rw [← sg_len, txt_join, sg_join]
  have h1 := jl_len c (ps.map sg)
  have h2 : ((ps.map sg).map (·.length)).sum ≤ ps.length * m := by
    have := sum_le (m := m) (as := (ps.map sg).map (·.length)) fun a ha => by
      obtain ⟨l, hl, rfl⟩ := List.mem_map.mp ha
      obtain ⟨p, hp, rfl⟩ := List.mem_map.mp hl
      show (sg p).length ≤ m
      rw [sg_len]
      exact h p hp
    simpa using this
  rw [List.length_map] at h1
  omega
theorem join_fits {z : Str} {m : Nat} {ps : List Str} (h : ∀ p ∈ ps, p.length ≤ m) (hz : ps.length * m + ps.length * z.length ≤ 16777216) : (ps.map (·.length)).sum + ps.length * z.length ≤ 16777216 := by
  have := sum_le (m := m) (as := ps.map (·.length)) fun a ha => by
    obtain ⟨p, hp, rfl⟩ := List.mem_map.mp ha
    exact h p hp
  rw [List.length_map] at this
  omega
theorem at_one {x : Str} {c i : Nat} : PySem.StrLaws.At x ⟨#[c]⟩ x.length i ↔ (sg x)[i]? = some c := by
  unfold PySem.StrLaws.At
  rw [PySem.StrLaws.subAt_eq]
  have e1 : (⟨#[c]⟩ : Str).length = 1 := rfl
  have e2 : (⟨#[c]⟩ : Str).cps.toList = [c] := rfl
  rw [e1, e2, beq_iff_eq, ← sg_len]
  show (i + 1 ≤ (sg x).length ∧ ((sg x).drop i).take 1 = [c]) ↔ _
  constructor
  · rintro ⟨h1, h2⟩
    have h3 : (((sg x).drop i).take 1)[0]? = some c := by rw [h2]; rfl
    simpa [List.getElem?_take, List.getElem?_drop] using h3
  · intro h
    have hi := (List.getElem?_eq_some_iff.mp h).1
    refine ⟨hi, ?_⟩
    rw [List.drop_eq_getElem_cons hi]
    have := (List.getElem?_eq_some_iff.mp h).2
    simp [this]
/-- a text at its first sign -/
theorem part_cut {c : Nat} {n f : Str} (hn : c ∉ sg n) : Txt.partition (n ++ ⟨#[c]⟩ ++ f) ⟨#[c]⟩ = (n, ⟨#[c]⟩, f) := by
  have h1 := PySem.StrLaws.partition_sum (n ++ ⟨#[c]⟩ ++ f) ⟨#[c]⟩
  have ex : sg (n ++ ⟨#[c]⟩ ++ f) = sg n ++ c :: sg f := by
    rw [sg_app, sg_app]
    show sg n ++ [c] ++ sg f = _
    simp
  generalize n ++ ⟨#[c]⟩ ++ f = x at h1 ex ⊢
  have h3 : c ∉ sg (Txt.partition x ⟨#[c]⟩).1 ∧ (Txt.partition x ⟨#[c]⟩).2.1 = ⟨#[c]⟩ := by
    unfold Txt.partition
    rcases PySem.StrLaws.occ_head x ⟨#[c]⟩ 1 (Nat.le_refl 1) with ⟨h0, hn'⟩ | ⟨i, r, h0, hi, hn'⟩
    · exact absurd (at_one.mpr (by rw [ex]; simp)) (hn' (sg n).length)
    · rw [h0]
      refine ⟨fun z => ?_, rfl⟩
      have z' : c ∈ ((sg x).drop 0).take (i - 0) := by
        have e := PySem.StrLaws.strSub_toList x 0 i
        show c ∈ ((sg x).drop 0).take (i - 0)
        first | (rw [show (sg x) = x.cps.toList from rfl, ← e]; exact z) | (rw [← e]; exact z)
      rw [List.drop_zero, Nat.sub_zero] at z'
      obtain ⟨k, hk, e⟩ := List.mem_iff_getElem.mp z'
      rw [List.length_take] at hk
      rw [List.getElem_take] at e
      exact hn' k (by omega) (at_one.mpr (by rw [List.getElem?_eq_getElem (by omega), e]))
  generalize hp : Txt.partition x ⟨#[c]⟩ = w at h1 h3 ⊢
  obtain ⟨p, q, r⟩ := w
  have h5 : q = ⟨#[c]⟩ := h3.2
  subst h5
  have h4 := congrArg sg h1
  rw [ex] at h4
  have h6 : sg p ++ c :: sg r = sg n ++ c :: sg f := by
    rw [← h4]
    show _ = sg (p ++ ⟨#[c]⟩ ++ r)
    rw [sg_app, sg_app]
    show _ = sg p ++ [c] ++ sg r
    simp
  have h3' : c ∉ sg p := h3.1
  obtain ⟨h7, h8⟩ := cut_uniq h3' hn h6
  rw [sg_ext h7, sg_ext h8]
theorem jl_all {c : Nat} {P : Nat → Prop} (hc : P c) : ∀ {as : List (List Nat)}, (∀ a ∈ as, ∀ x ∈ a, P x) → ∀ x ∈ jl c as, P x
  | [], _ => by simp [jl]
  | [a], h => h a (by simp)
  | a :: b :: r, h => by
    show ∀ x ∈ a ++ c :: jl c (b :: r), P x
    intro x z
    rcases List.mem_append.mp z with z | z
    · exact h a (by simp) x z
    · rcases List.mem_cons.mp z with z | z
      · rw [z]; exact hc
      · exact jl_all hc (as := b :: r) (fun y hy => h y (List.mem_cons_of_mem _ hy)) x z
theorem join_all {c : Nat} {P : Nat → Prop} (hc : P c) {ps : List Str} (h : ∀ p ∈ ps, ∀ x ∈ sg p, P x) : ∀ x ∈ sg (Txt.join ⟨#[c]⟩ ps), P x := by
  rw [txt_join, sg_join]
  refine jl_all hc fun a ha => ?_
  obtain ⟨p, hp, rfl⟩ := List.mem_map.mp ha
  exact h p hp
end L2
end

section
set_option Elab.async false
set_option linter.all false
set_option maxRecDepth 100000
set_option maxHeartbeats 1000000
namespace K04
open PySem L2 PyProof.Rows
def top (i : Nat) : Stmt := PySem.Challenge.pw_cardlanes_k04_plan_texts.main.body.getD i (.Pass ⟨0, 0, 0, 0⟩)
abbrev s_is_name : Stmt := top 10
abbrev s_are_lanes : Stmt := top 11
abbrev s_are_kinds : Stmt := top 12
abbrev s_is_lane : Stmt := top 13
abbrev s_is_kind : Stmt := top 14
abbrev s_is_way : Stmt := top 15
abbrev s_are_bounds : Stmt := top 16
abbrev s_is_bound : Stmt := top 17
abbrev s_is_whole : Stmt := top 18
abbrev s_is_tuple : Stmt := top 19
abbrev s_unlike : Stmt := top 20
/-! ### what names, bounds, plans are -/
abbrev az : Str := "abcdefghijklmnopqrstuvwxyz"
def inL (x : Str) : Bool := !(Builtin.Str.occurrences az x 0 az.length 1).isEmpty
def sgn (x : Str) : List Str := x.cps.toList.map fun c => ⟨#[c]⟩
def nm (x : Str) : Bool := if ("out" : Str) == x || ("yard" : Str) == x then false else decide ((1 : Int) ≤ (x.length : Int)) && (decide ((x.length : Int) ≤ 8) && (sgn x).all inL)
def nmD : PyData → Bool
  | .str x => nm x
  | _ => false
def wholeD : PyData → Bool
  | .int _ => true
  | _ => false
def boundD : PyData → Bool
  | .int i => decide (1 ≤ i) && decide (i ≤ 99)
  | _ => false
def tupD (d : PyData) (lo hi : Int) : Bool := match d with
  | .tuple ds => decide (lo ≤ (ds.length : Int)) && decide ((ds.length : Int) ≤ hi)
  | _ => false
def laneD : PyData → Bool
  | .tuple [n, b] => nmD n && boundD b
  | _ => false
def wayOk (cnt : Int) : Int → List PyData → Bool
  | _, [] => true
  | a, .int i :: r => (decide (a < i) && decide (i < cnt)) && wayOk cnt i r
  | _, _ :: _ => false
def lenD : PyData → Int
  | .tuple ds => ds.length
  | _ => 0
def wayD (d : PyData) (cnt : Int) : Bool := match d with
  | .tuple ds => tupD d 1 cnt && wayOk cnt (-1) ds
  | _ => false
def boundsD (d : PyData) (many : Int) : Bool := match d with
  | .tuple ds => tupD d many many && ds.all boundD
  | _ => false
def kindD (cnt : Int) : PyData → Bool
  | .tuple [n, wy, bs] => nmD n && (wayD wy cnt && boundsD bs (lenD wy))
  | _ => false
def firstD : PyData → Str
  | .tuple (.str x :: _) => x
  | _ => ""
def unlikeD (ds : List PyData) : Bool := decide ((ds.map firstD).Nodup)
def lanesD (d : PyData) : Bool := match d with
  | .tuple ds => tupD d 1 6 && (ds.all laneD && unlikeD ds)
  | _ => false
def kindsD (d : PyData) (cnt : Int) : Bool := match d with
  | .tuple ds => tupD d 1 6 && (ds.all (kindD cnt) && unlikeD ds)
  | _ => false
def planD : PyData → Bool
  | .tuple [l, k] => lanesD l && kindsD k (lenD l)
  | _ => false
mutual
def smallD : PyData → Bool
  | .str x => decide (x.length ≤ 1000)
  | .tuple ds => smallDs ds
  | .list ds => smallDs ds
  | _ => true
def smallDs : List PyData → Bool
  | [] => true
  | d :: ds => smallD d && smallDs ds
end
theorem smallDs_mem {d : PyData} : ∀ {ds : List PyData}, smallDs ds = true → d ∈ ds → smallD d = true
  | [], _, h => by simp at h
  | e :: ds, h, m => by
    have h' : (smallD e && smallDs ds) = true := h
    rw [Bool.and_eq_true] at h'
    rcases List.mem_cons.mp m with rfl | m
    · exact h'.1
    · exact smallDs_mem h'.2 m
/-! ### promises -/
/-- one datum is asked of -/
def sp1 (ts : List Addr) (f : PyData → Bool) : Sp := fun vs H Q _ => ∃ (d : PyData) (v : V), vs = [v] ∧ IsD [] H d v ∧ smallD d = true ∧ Tb ts H ∧ ∀ H', Ext [] H H' → Q (.bl (f d)) H'
/-- .. and a number -/
def sp2 (ts : List Addr) (f : PyData → Int → Bool) : Sp := fun vs H Q _ => ∃ (d : PyData) (v : V) (n : Int), vs = [v, .int n] ∧ IsD [] H d v ∧ smallD d = true ∧ Tb ts H ∧ ∀ H', Ext [] H H' → Q (.bl (f d n)) H'
def spTup : Sp := fun vs H Q _ => ∃ (d : PyData) (v : V) (lo hi : Int), vs = [v, .int lo, .int hi] ∧ IsD [] H d v ∧ Q (.bl (tupD d lo hi)) H
def spUn : Sp := fun vs H Q _ => ∃ (ds : List PyData) (v : V), vs = [v] ∧ IsD [] H (.tuple ds) v ∧ ds.length ≤ 100 ∧ (∀ d ∈ ds, ∃ x r, d = .tuple (.str x :: r)) ∧ Q (.bl (unlikeD ds)) H
structure Txt (K : PySem.W.Frag) (mg : Str → Option Value) : Prop where
  b_len : mg "len" = none
  b_all : mg "all" = none
  b_isinstance : mg "isinstance" = none
  b_str : mg "str" = none
  b_bool : mg "bool" = none
  b_int : mg "int" = none
  b_tuple : mg "tuple" = none
  b_list : mg "list" = none
  b_range : mg "range" = none
  b_min : mg "min" = none
  g_LETTERS : ∃ u, mg "LETTERS" = some u ∧ RelV (.str az) u
  g_LONGEST_NAME : ∃ u, mg "LONGEST_NAME" = some u ∧ RelV (.int 8) u
  g_GREATEST_BOUND : ∃ u, mg "GREATEST_BOUND" = some u ∧ RelV (.int 99) u
  g_MOST_LANES : ∃ u, mg "MOST_LANES" = some u ∧ RelV (.int 6) u
  g_MOST_KINDS : ∃ u, mg "MOST_KINDS" = some u ∧ RelV (.int 6) u
structure Out (K : PySem.W.Frag) (mg : Str → Option Value) (a : Addr) : Prop where
  g : ∃ u, mg "OUTSIDE" = some u ∧ RelV (.ref a) u
  sq : ∀ H, SqT K H a [.str "out", .str "yard"]
section
variable {P : Program} {w : World} {K : PySem.W.Frag} {mg : Str → Option Value} {base : Heap} {ts : List Addr}
theorem sc_is_whole : FnScope ["thing"] ["thing"] (defScope s_is_whole) := ⟨rfl, rfl, rfl, by decide +kernel, rfl, by decide +kernel, by decide +kernel⟩
theorem ok_whole {f : Addr} {fd : FuncData} (F : Fun K "is_whole" "is_whole" s_is_whole f fd) (T : Txt K mg) : FnOk P w K mg base CX0 1 f fd ["thing"] (sp1 ts wholeD) := by
  refine F.ok sc_is_whole (fun vs H Q E h => ?_) (fun cdv A outer s H vs Q E hr h => ?_)
  · obtain ⟨d, v, rfl, _⟩ := h
    rfl
  obtain ⟨d, v, rfl, hd, _, _, q⟩ := h
  refine' ⟨_, ?hh, ?rr⟩
  case hh => (refine' pss_one ?g1; (case g1 => (refine' ps_ret ?g2; (case g2 => (refine' pe_and ?g3 ?g4; (case g3 => (refine' pe_callB ?g5 ?g6 ?g7 ?g8 ?g9; (case g5 => (exact call_isi)); (case g6 => (exact rfl)); (case g7 => (exact T.b_isinstance)); (case g8 => (exact boot_isi)); (case g9 => (refine' pa_c ?g10 ?g11; (case g10 => (exact (pv 0))); (case g11 => (refine' pa_c ?g12 ?g13; (case g12 => (exact (pe_bltn (v := .ty "int") rfl T.b_int boot_tint rfl))); (case g13 => (exact pa_nil)))))))); (case g4 => (refine' pe_one ?g14; (case g14 => (refine' pe_not ?g15; (case g15 => (refine' pe_callB ?g16 ?g17 ?g18 ?g19 ?g20; (case g16 => (exact call_isi)); (case g17 => (exact rfl)); (case g18 => (exact T.b_isinstance)); (case g19 => (exact boot_isi)); (case g20 => (refine' pa_c ?g21 ?g22; (case g21 => (exact (pv 0))); (case g22 => (refine' pa_c ?g23 ?g24; (case g23 => (exact (pe_bltn (v := .ty "bool") rfl T.b_bool boot_tbool rfl))); (case g24 => (exact pa_nil)))))))))))))))))
  refine ⟨_, rfl, _, _, _, _, rfl, hd.ty, kit_int d, _, rfl, ?_⟩
  have q' := q H Ext.refl
  cases d with
  | none => exact iteF q'
  | str x => exact iteF q'
  | tuple x => exact iteF q'
  | list x => exact iteF q'
  | dict x => exact iteF q'
  | bool b => exact iteT ⟨_, rfl, _, _, _, _, rfl, hd.ty, kit_bool _, _, rfl, q'⟩
  | int i => exact iteT ⟨_, rfl, _, _, _, _, rfl, hd.ty, kit_bool _, _, rfl, q'⟩
theorem sc_is_tuple : FnScope ["thing", "least", "most"] ["thing", "least", "most"] (defScope s_is_tuple) := ⟨rfl, rfl, rfl, by decide +kernel, rfl, by decide +kernel, by decide +kernel⟩
theorem ok_tuple {f : Addr} {fd : FuncData} (F : Fun K "is_tuple" "is_tuple" s_is_tuple f fd) (T : Txt K mg) : FnOk P w K mg base CX0 1 f fd ["thing", "least", "most"] spTup := by
  refine F.ok sc_is_tuple (fun vs H Q E h => ?_) (fun cdv A outer s H vs Q E hr h => ?_)
  · obtain ⟨d, v, lo, hi, rfl, _⟩ := h
    rfl
  obtain ⟨d, v, lo, hi, rfl, hd, q⟩ := h
  refine' ⟨_, ?hh, ?rr⟩
  case hh => (refine' pss_one ?g25; (case g25 => (refine' ps_ret ?g26; (case g26 => (refine' pe_and ?g27 ?g28; (case g27 => (refine' pe_callB ?g29 ?g30 ?g31 ?g32 ?g33; (case g29 => (exact call_isi)); (case g30 => (exact rfl)); (case g31 => (exact T.b_isinstance)); (case g32 => (exact boot_isi)); (case g33 => (refine' pa_c ?g34 ?g35; (case g34 => (exact (pv 0))); (case g35 => (refine' pa_c ?g36 ?g37; (case g36 => (exact (pe_bltn (v := .ty "tuple") rfl T.b_tuple boot_ttuple rfl))); (case g37 => (exact pa_nil)))))))); (case g28 => (refine' pe_one ?g38; (case g38 => (refine' pe_chain ?g39 ?g40 ?g41 ?g42 ?g43; (case g39 => (exact op_le)); (case g40 => (exact op_le)); (case g41 => (exact (pv 1))); (case g42 => (refine' pe_callB ?g44 ?g45 ?g46 ?g47 ?g48; (case g44 => (exact call_len_seq)); (case g45 => (exact rfl)); (case g46 => (exact T.b_len)); (case g47 => (exact PySem.boot_len)); (case g48 => (refine' pa_c ?g49 ?g50; (case g49 => (exact (pv 0))); (case g50 => (exact pa_nil)))))); (case g43 => (exact (pv 2))))))))))))
  refine ⟨_, rfl, _, _, _, _, rfl, hd.ty, kit_tuple d, _, rfl, ?_⟩
  cases d with
  | none => exact iteF q
  | str x => exact iteF q
  | int x => exact iteF q
  | bool x => exact iteF q
  | list x => exact iteF q
  | dict x => exact iteF q
  | tuple ds =>
    refine iteT ?_
    obtain ⟨a, us, rfl, _, ha, hds⟩ := hd
    have el := hds.length
    have q' : ∀ b, tupD (.tuple ds) lo hi = b → Q (.bl b) H := fun b e => by rw [← e]; exact q
    refine ⟨_, rfl, _, rfl, a, _, rfl, .inr (SqT.of ha), _, _, rfl, rfl, _, rfl, ?_⟩
    rw [el]
    refine ite2 (fun c => ?_) (fun c => ?_)
    · refine ⟨_, rfl, _, _, rfl, rfl, ?_⟩
      refine q' _ ?_
      show (decide _ && decide _) = _
      rw [c, Bool.true_and]
    · refine q' _ ?_
      show (decide _ && decide _) = _
      rw [Bool.eq_false_iff.mpr c, Bool.false_and]
theorem sc_is_bound : FnScope ["thing"] ["thing"] (defScope s_is_bound) := ⟨rfl, rfl, rfl, by decide +kernel, rfl, by decide +kernel, by decide +kernel⟩
theorem ok_bound {f : Addr} {fd : FuncData} (F : Fun K "is_bound" "is_bound" s_is_bound f fd) (T : Txt K mg) (C_is_whole : CallOk P w K mg base "is_whole" 1 ["thing"] (sp1 ts wholeD)) : FnOk P w K mg base CX0 2 f fd ["thing"] (sp1 ts boundD) := by
  refine F.ok sc_is_bound (fun vs H Q E h => ?_) (fun cdv A outer s H vs Q E hr h => ?_)
  · obtain ⟨d, v, rfl, _⟩ := h
    rfl
  obtain ⟨d, v, rfl, hd, hs, tb, q⟩ := h
  refine' ⟨_, ?hh, ?rr⟩
  case hh => (refine' pss_one ?g51; (case g51 => (refine' ps_ret ?g52; (case g52 => (refine' pe_and ?g53 ?g54; (case g53 => (refine' pe_cl ?g55 ?g56 ?g57 ?g58 ?g59; (case g55 => (exact C_is_whole)); (case g56 => (exact hr)); (case g57 => (refine' pa_c ?g60 ?g61; (case g60 => (exact (pv 0))); (case g61 => (exact pa_nil)))); (case g58 => (exact rfl)); (case g59 => (decide)))); (case g54 => (refine' pe_one ?g62; (case g62 => (refine' pe_chain ?g63 ?g64 ?g65 ?g66 ?g67; (case g63 => (exact op_le)); (case g64 => (exact op_le)); (case g65 => (exact pe_int)); (case g66 => (exact (pv 0))); (case g67 => (exact (pe_gl T.g_GREATEST_BOUND))))))))))))
  refine ⟨_, rfl, d, v, rfl, hd, hs, tb, fun H1 e1 => ⟨_, rfl, ?_⟩⟩
  have q' : ∀ b, boundD d = b → Q (.bl b) H1 := fun b e => by rw [← e]; exact q H1 e1
  cases d with
  | none => exact iteF (q' _ rfl)
  | str x => exact iteF (q' _ rfl)
  | tuple x => exact iteF (q' _ rfl)
  | list x => exact iteF (q' _ rfl)
  | dict x => exact iteF (q' _ rfl)
  | bool b => exact iteF (q' _ rfl)
  | int i =>
    refine iteT ?_
    obtain rfl : v = .int i := hd
    refine ⟨_, rfl, _, _, rfl, rfl, _, rfl, ?_⟩
    refine ite2 (fun c => ?_) (fun c => ?_)
    · refine ⟨_, _, rfl, rfl, q' _ ?_⟩
      show (decide _ && decide _) = _
      rw [c, Bool.true_and]
    · refine q' _ ?_
      show (decide _ && decide _) = _
      rw [Bool.eq_false_iff.mpr c, Bool.false_and]
theorem sc_is_lane : FnScope ["thing"] ["thing"] (defScope s_is_lane) := ⟨rfl, rfl, rfl, by decide +kernel, rfl, by decide +kernel, by decide +kernel⟩
theorem ok_lane {f : Addr} {fd : FuncData} (F : Fun K "is_lane" "is_lane" s_is_lane f fd) (C_is_tuple : CallOk P w K mg base "is_tuple" 1 ["thing", "least", "most"] spTup) (C_is_name : CallOk P w K mg base "is_name" 2 ["thing"] (sp1 ts nmD)) (C_is_bound : CallOk P w K mg base "is_bound" 2 ["thing"] (sp1 ts boundD)) :
    FnOk P w K mg base CX0 3 f fd ["thing"] (sp1 ts laneD) := by
  refine F.ok sc_is_lane (fun vs H Q E h => ?_) (fun cdv A outer s H vs Q E hr h => ?_)
  · obtain ⟨d, v, rfl, _⟩ := h
    rfl
  obtain ⟨d, v, rfl, hd, hs, tb, q⟩ := h
  refine' ⟨_, ?hh, ?rr⟩
  case hh => (refine' pss_one ?g68; (case g68 => (refine' ps_ret ?g69; (case g69 => (refine' pe_and ?g70 ?g71; (case g70 => (refine' pe_cl ?g72 ?g73 ?g74 ?g75 ?g76; (case g72 => (exact C_is_tuple)); (case g73 => (exact hr)); (case g74 => (refine' pa_c ?g77 ?g78; (case g77 => (exact (pv 0))); (case g78 => (refine' pa_c ?g79 ?g80; (case g79 => (exact pe_int)); (case g80 => (refine' pa_c ?g81 ?g82; (case g81 => (exact pe_int)); (case g82 => (exact pa_nil)))))))); (case g75 => (exact rfl)); (case g76 => (decide)))); (case g71 => (refine' pe_and ?g83 ?g84; (case g83 => (refine' pe_cl ?g85 ?g86 ?g87 ?g88 ?g89; (case g85 => (exact C_is_name)); (case g86 => (exact hr)); (case g87 => (refine' pa_c ?g90 ?g91; (case g90 => (refine' pe_ix ?g92 ?g93 ?g94 ?g95; (case g92 => (exact ix_tup)); (case g93 => (exact (pv 0))); (case g94 => (exact pe_int)); (case g95 => (exact (fun _ _ => rfl))))); (case g91 => (exact pa_nil)))); (case g88 => (exact rfl)); (case g89 => (decide)))); (case g84 => (refine' pe_one ?g96; (case g96 => (refine' pe_cl ?g97 ?g98 ?g99 ?g100 ?g101; (case g97 => (exact C_is_bound)); (case g98 => (exact hr)); (case g99 => (refine' pa_c ?g102 ?g103; (case g102 => (refine' pe_ix ?g104 ?g105 ?g106 ?g107; (case g104 => (exact ix_tup)); (case g105 => (exact (pv 0))); (case g106 => (exact pe_int)); (case g107 => (exact (fun _ _ => rfl))))); (case g103 => (exact pa_nil)))); (case g100 => (exact rfl)); (case g101 => (decide)))))))))))))
  refine ⟨_, rfl, d, v, 2, 2, rfl, hd, _, rfl, ?_⟩
  have q' : ∀ b H1, laneD d = b → Ext [] H H1 → Q (.bl b) H1 := fun b H1 e e1 => by rw [← e]; exact q H1 e1
  refine ite2 (fun c => ?_) (fun c => ?_)
  · obtain ⟨n, b, rfl⟩ : ∃ n b, d = .tuple [n, b] := by
      cases d with
      | tuple ds =>
        have c' : (decide ((2 : Int) ≤ (ds.length : Int)) && decide ((ds.length : Int) ≤ 2)) = true := c
        rw [Bool.and_eq_true, decide_eq_true_eq, decide_eq_true_eq] at c'
        match ds, c' with
        | [n, b], _ => exact ⟨n, b, rfl⟩
        | [], c' => simp at c'
        | [_], c' => simp at c'
        | _ :: _ :: _ :: r, c' => simp at c'; omega
      | _ => cases c
    obtain ⟨a, us, rfl, _, ha, v1, r1, rfl, d1, v2, r2, rfl, d2, rfl⟩ := hd
    have s1 : smallD n = true := smallDs_mem hs (by simp)
    have s2 : smallD b = true := smallDs_mem hs (by simp)
    refine ⟨_, rfl, a, _, _, _, rfl, rfl, SqT.of ha, rfl, n, v1, rfl, d1, s1, tb, fun H1 e1 => ⟨_, rfl, ?_⟩⟩
    refine ite2 (fun c2 => ?_) (fun c2 => ?_)
    · refine ⟨_, rfl, a, _, _, _, rfl, rfl, SqT.of (e1.tup (by simp) ha), rfl, b, v2, rfl, IsD.ext e1 d2, s2, e1.tb tb (by simp), fun H2 e2 => ?_⟩
      refine q' _ H2 ?_ (e1.trans e2)
      show (nmD n && boundD b) = _
      rw [c2, Bool.true_and]
    · refine q' _ H1 ?_ e1
      show (nmD n && boundD b) = _
      rw [Bool.eq_false_iff.mpr c2, Bool.false_and]
  · refine q' _ H ?_ Ext.refl
    cases d with
    | tuple ds =>
      have c' : ¬ (decide ((2 : Int) ≤ (ds.length : Int)) && decide ((ds.length : Int) ≤ 2)) = true := c
      match ds, c' with
      | [n, b], c' => exact absurd rfl c'
      | [], _ => rfl
      | [_], _ => rfl
      | _ :: _ :: _ :: _, _ => rfl
    | _ => rfl
end
end K04
end

section
set_option Elab.async false
set_option linter.all false
set_option maxRecDepth 100000
set_option maxHeartbeats 1000000
namespace K04
open PySem L2 PyProof.Rows
theorem sgV_sgn (x : Str) : sgV x = (sgn x).map V.str := by
  unfold sgV sgn
  rw [List.map_map]
  rfl
theorem sgn_at {x : Str} {i : Nat} {y : V} (h : (sgV x)[i]? = some y) : ∃ s, (sgn x)[i]? = some s ∧ y = .str s := by
  rw [sgV_sgn, List.getElem?_map] at h
  cases e : (sgn x)[i]? with
  | none => rw [e] at h; cases h
  | some s => rw [e] at h; exact ⟨s, rfl, (Option.some.inj h).symm⟩
theorem take_all {α : Type} {xs : List α} {p : α → Bool} {i : Nat} {s : α} (h : xs[i]? = some s) : (xs.take (i + 1)).all p = ((xs.take i).all p && p s) := by
  rw [List.take_add_one, h, List.all_append]
  simp
theorem not_all {α : Type} {xs : List α} {p : α → Bool} {i : Nat} {s : α} (h : xs[i]? = some s) (n : p s = false) : xs.all p = false := by
  rw [← Bool.not_eq_true, List.all_eq_true]
  intro z
  rw [z s (List.mem_of_getElem? h)] at n
  cases n
theorem sgn_len (x : Str) : (sgV x).length = (sgn x).length := by rw [sgV_sgn, List.length_map]
section
variable {P : Program} {w : World} {K : PySem.W.Frag} {mg : Str → Option Value} {base : Heap} {ts : List Addr}
theorem sc_is_name : FnScope ["thing"] ["thing"] (defScope s_is_name) := ⟨rfl, rfl, rfl, by decide +kernel, rfl, by decide +kernel, by decide +kernel⟩
theorem ok_name {f c0 tP a : Addr} {fd : FuncData} (F : FunC K "is_name" "is_name" s_is_name f fd c0) (T : Txt K mg) (O : Out K mg a) (hcd : PySem.W.CodeHd base c0 tP) (hbm : BltMod mg base) (hts : tP ∈ ts) : FnOk P w K mg base CX0 2 f fd ["thing"] (sp1 ts nmD) := by
  refine F.ok sc_is_name (fun vs H Q E h => ?_) (fun A outer s H vs Q E hr h => ?_)
  · obtain ⟨d, v, rfl, _⟩ := h
    rfl
  obtain ⟨d, v, rfl, hd, hz, tb, q⟩ := h
  refine' ⟨_, ?hh, ?rr⟩
  case hh => (refine' pss_cons ?g1 ?g2; (case g1 => (refine' ps_if ?g3 ?g4 ?g5; (case g3 => (refine' PW.pt ?g6; (case g6 => (refine' pw_or ?g7 ?g8; (case g7 => (refine' pt_not ?g9; (case g9 => (refine' pt_val ?g10; (case g10 => (refine' pe_callB ?g11 ?g12 ?g13 ?g14 ?g15; (case g11 => (exact call_isi)); (case g12 => (exact rfl)); (case g13 => (exact T.b_isinstance)); (case g14 => (exact boot_isi)); (case g15 => (refine' pa_c ?g16 ?g17; (case g16 => (exact (pv 0))); (case g17 => (refine' pa_c ?g18 ?g19; (case g18 => (exact (pe_bltn (v := .ty "str") rfl T.b_str boot_tstr rfl))); (case g19 => (exact pa_nil)))))))))))); (case g8 => (refine' pw_or1 ?g20; (case g20 => (refine' pt_cmpR ?g21 ?g22 ?g23 ?g24; (case g21 => (exact op_in_seq)); (case g22 => (exact (pv 0))); (case g23 => (exact (pe_gl O.g))); (case g24 => (with_unfolding_all rfl)))))))))); (case g4 => (refine' pss_one ?g25; (case g25 => (refine' ps_ret ?g26; (case g26 => (exact pe_bl)))))); (case g5 => (exact pss_nil)))); (case g2 => (refine' pss_one ?g27; (case g27 => (refine' ps_ret ?g28; (case g28 => (refine' pe_and ?g29 ?g30; (case g29 => (refine' pe_chain ?g31 ?g32 ?g33 ?g34 ?g35; (case g31 => (exact op_le)); (case g32 => (exact op_le)); (case g33 => (exact pe_int)); (case g34 => (refine' pe_callB ?g36 ?g37 ?g38 ?g39 ?g40; (case g36 => (exact call_len_str)); (case g37 => (exact rfl)); (case g38 => (exact T.b_len)); (case g39 => (exact PySem.boot_len)); (case g40 => (refine' pa_c ?g41 ?g42; (case g41 => (exact (pv 0))); (case g42 => (exact pa_nil)))))); (case g35 => (exact (pe_gl T.g_LONGEST_NAME))))); (case g30 => (refine' pe_one ?g43; (case g43 => (refine' pe_allgen ?g44 ?g45 ?g46 ?g47 ?g48 ?g49 ?g50 ?g51 ?g52 ?g53 ?g54 ?g55 ?g56 ?g57 ?g58 ?g59; (case g44 => (exact hr)); (case g45 => (exact rfl)); (case g46 => (exact rfl)); (case g47 => (exact hcd)); (case g48 => (exact hbm)); (case g49 => (exact rfl)); (case g50 => (exact T.b_all)); (case g51 => (exact ⟨rfl, rfl, by decide +kernel, rfl, (show ∀ y : Str × NameKind, y ∈ _ → y.2 = NameKind.free → (defScope s_is_name).names.lookup y.1 = some .cell ∨ (defScope s_is_name).names.lookup y.1 = some .free from by decide +kernel)⟩)); (case g52 => (exact (compN ["sign"] 1 []))); (case g53 => (decide +kernel)); (case g54 => (decide)); (case g55 => (refine' pi_str ?g60; (case g60 => (exact (pv 0))))); (case g56 => (intro _ _ _ _ _ _; refine' pg_name ?g61 ?g62 ?g63 ?g64; (case g61 => (exact (show (["sign"] : List Str).Nodup from by decide +kernel))); (case g62 => (exact (ixAt 0))); (case g63 => (exact (Or.inl rfl))); (case g64 => (exact (Or.inr rfl))))); (case g57 => (exact (gown_name (by decide)))); (case g58 => (intro _ _ _ _ _ _; exact pts_nil)); (case g59 => (intro _ _ _ _ _ _; refine' pe_cmpR ?g65 ?g66 ?g67 ?g68; (case g65 => (exact op_in_str)); (case g66 => (exact (pv 0))); (case g67 => (exact (pe_gl T.g_LETTERS))); (case g68 => (with_unfolding_all rfl)))))))))))))))
  refine ⟨_, rfl, _, _, _, _, rfl, hd.ty, kit_str d, _, rfl, ?_⟩
  cases d with
  | none => exact iteT (iteT (q H Ext.refl))
  | bool b => exact iteT (iteT (q H Ext.refl))
  | int b => exact iteT (iteT (q H Ext.refl))
  | list b => exact iteT (iteT (q H Ext.refl))
  | tuple b => exact iteT (iteT (q H Ext.refl))
  | dict b => exact iteT (iteT (q H Ext.refl))
  | str x =>
    have q' : ∀ b H', nm x = b → Ext [] H H' → Q (.bl b) H' := fun b H' e h => by
      rw [← e]
      exact q H' h
    obtain rfl : v = .str x := hd
    have hz0 : x.length ≤ 1000 := of_decide_eq_true hz
    have hz1 : x.length ≤ sizeLine := Nat.le_trans hz0 (Nat.le_of_lt (small1000 (Nat.le_refl _)))
    refine iteF ?_
    refine ⟨_, rfl, a, _, rfl, .inr (O.sq H), rfl, rfl, _, rfl, ?_⟩
    refine ite2 (fun c => ?_) (fun c => ?_)
    · have c' : (("out" : Str) == x || ("yard" : Str) == x) = true := by simpa [inV, eqV] using c
      exact q' false H (by unfold nm; rw [if_pos c']) Ext.refl
    · have c' : ¬ (("out" : Str) == x || ("yard" : Str) == x) = true := by simpa [inV, eqV] using c
      have e1 : nm x = (decide ((1 : Int) ≤ (x.length : Int)) && (decide ((x.length : Int) ≤ 8) && (sgn x).all inL)) := by unfold nm; rw [if_neg c']
      refine ⟨_, rfl, _, rfl, hz1, _, _, rfl, rfl, _, rfl, ?_⟩
      refine ite2 (fun c1 => ?_) (fun c1 => ?_)
      · refine ⟨_, _, rfl, rfl, _, rfl, ?_⟩
        refine ite2 (fun c2 => ?_) (fun c2 => ?_)
        · obtain ⟨ps, hps⟩ := tb tP hts
          refine ⟨_, rfl, x, rfl, ⟨ps, hps⟩, fun ps' tb' => allgen_by0 yields_str (fun i H2 => Ext [] H H2 ∧ ((sgn x).take i).all inL = true) ⟨Ext.tbl hps.1 tb'.2, rfl⟩ (fun _ _ _ => trivial) ?_ ?_⟩
          · rintro i y H2 hy hi ⟨e, p⟩
            obtain ⟨s', hs, rfl⟩ := sgn_at hy
            refine ⟨_, rfl, s', az, rfl, rfl, _, rfl, ?_⟩
            refine ite2 (fun c3 => ?_) (fun c3 => ?_)
            · refine nx hi ⟨e, ?_⟩
              rw [take_all hs, p]
              exact c3
            · refine q' false H2 ?_ e
              rw [e1, not_all (p := inL) hs (Bool.eq_false_iff.mpr c3), Bool.and_false, Bool.and_false]
          · rintro H2 ⟨e, p⟩
            refine q' true H2 ?_ e
            rw [sgn_len, List.take_length] at p
            rw [e1, p, c1, c2]
            rfl
        · refine q' false H ?_ Ext.refl
          rw [e1, Bool.eq_false_iff.mpr c2, Bool.false_and, Bool.and_false]
      · refine ⟨_, rfl, iteF ?_⟩
        refine q' false H ?_ Ext.refl
        rw [e1, Bool.eq_false_iff.mpr c1, Bool.false_and]
theorem sc_unlike : FnScope ["tuples"] ["tuples"] (defScope s_unlike) := ⟨rfl, rfl, rfl, by decide +kernel, rfl, by decide +kernel, by decide +kernel⟩
theorem ok_unlike {f : Addr} {fd : FuncData} (F : Fun K "have_unlike_names" "have_unlike_names" s_unlike f fd) (T : Txt K mg) : FnOk P w K mg base CX0 1 f fd ["tuples"] spUn := by
  refine F.ok sc_unlike (fun vs H Q E h => ?_) (fun cdv A outer s H vs Q E hr h => ?_)
  · obtain ⟨ds, v, rfl, _⟩ := h
    rfl
  obtain ⟨ds, v, rfl, hd, hl, hall, q⟩ := h
  refine' ⟨_, ?hh, ?rr⟩
  case hh => (refine' pss_one ?g69; (case g69 => (refine' ps_ret ?g70; (case g70 => (refine' pe_cmpR ?g71 ?g72 ?g73 ?g74; (case g71 => (exact op_eq)); (case g72 => (refine' pe_lenset ?g75 ?g76 ?g77 ?g78 ?g79 ?g80 ?g81 ?g82 ?g83 ?g84 ?g85; (case g75 => (exact rfl)); (case g76 => (exact T.b_len)); (case g77 => (exact rfl)); (case g78 => (exact ⟨rfl, by decide +kernel, by decide +kernel, (show ∀ y : Str × NameKind, y ∈ _ → y.2 = NameKind.free → (defScope s_unlike).names.lookup y.1 = some .cell ∨ (defScope s_unlike).names.lookup y.1 = some .free from by decide +kernel)⟩)); (case g79 => (exact (compN ["each"] 1 []))); (case g80 => (decide +kernel)); (case g81 => (decide)); (case g82 => (refine' pi_tup ?g86; (case g86 => (exact (pv 0))))); (case g83 => (intro _ _ _ _; refine' pg_name ?g87 ?g88 ?g89 ?g90; (case g87 => (exact (show (["each"] : List Str).Nodup from by decide +kernel))); (case g88 => (exact (ixAt 0))); (case g89 => (exact (Or.inl rfl))); (case g90 => (exact (Or.inr rfl))))); (case g84 => (exact (gown_name (by decide)))); (case g85 => (intro _ _ _ _; refine' pe_ix ?g91 ?g92 ?g93 ?g94; (case g91 => (exact (show IxR _ (rIxT K) from ix_tup))); (case g92 => (exact (pv 0))); (case g93 => (exact pe_int)); (case g94 => (exact (fun _ _ => rfl))))))); (case g73 => (refine' pe_callB ?g95 ?g96 ?g97 ?g98 ?g99; (case g95 => (exact call_len_seq)); (case g96 => (exact rfl)); (case g97 => (exact T.b_len)); (case g98 => (exact PySem.boot_len)); (case g99 => (refine' pa_c ?g100 ?g101; (case g100 => (exact (pv 0))); (case g101 => (exact pa_nil)))))); (case g74 => (exact (nomark _))))))))
  obtain ⟨a, us, rfl, _, ha, hds⟩ := hd
  have el := hds.length
  refine ⟨_, rfl, a, rfl, ⟨us, SqT.of ha⟩, lset_by (yields_tup (ys := us)) (fun i ks H2 => H2 = H ∧ ks = (ds.take i).map firstD) ⟨rfl, rfl⟩ (fun _ _ _ h => by rw [h.1]; exact SqT.of ha) ?_ ?_⟩
  · rintro i x ks H2 hx hi ⟨rfl, rfl⟩
    have hi' : i < ds.length := by omega
    obtain ⟨y, hy, hd⟩ := hds.get (i := i) (List.getElem?_eq_getElem hi')
    rw [hx] at hy
    cases hy
    obtain ⟨z, r, er⟩ := hall _ (List.getElem_mem hi')
    have e3 : (ds.take (i + 1)).map firstD = (ds.take i).map firstD ++ [z] := by
      rw [List.take_add_one, List.getElem?_eq_getElem hi', List.map_append, er] <;> rfl
    rw [er] at hd
    obtain ⟨b, ws, rfl, _, hb, v1, r1, rfl, hv1, _⟩ := hd
    obtain rfl : v1 = .str z := hv1
    refine ⟨_, rfl, b, _, _, _, rfl, rfl, SqT.of hb, atI_nat (j := 0) rfl, z, rfl, ?_, nx hi ⟨rfl, e3.symm⟩⟩
    rw [List.length_map, List.length_take]
    omega
  · rintro ks H2 ⟨rfl, rfl⟩
    refine ⟨_, rfl, a, us, rfl, .inr (SqT.of ha), rfl, ?_⟩
    have e : decide (V.int ((dcount ((ds.take us.length).map firstD) : Nat) : Int) = V.int ((us.length : Nat) : Int)) = unlikeD ds := by
      rw [el, List.take_length]
      unfold unlikeD
      have q2 := dcount_nodup (ds.map firstD)
      rw [List.length_map] at q2
      by_cases hn : (ds.map firstD).Nodup
      · rw [decide_eq_true hn, q2.mpr hn]
        exact decide_eq_true rfl
      · rw [decide_eq_false hn]
        refine decide_eq_false fun z => hn (q2.mp ?_)
        injection z with z
        omega
    rw [e]
    exact q
theorem sc_are_bounds : FnScope ["thing", "many"] ["thing", "many"] (defScope s_are_bounds) := ⟨rfl, rfl, rfl, by decide +kernel, rfl, by decide +kernel, by decide +kernel⟩
theorem ok_bounds {f c0 tP : Addr} {fd : FuncData} (F : FunC K "are_bounds" "are_bounds" s_are_bounds f fd c0) (T : Txt K mg) (hcd : PySem.W.CodeHd base c0 tP) (hbm : BltMod mg base) (hts : tP ∈ ts) (C_is_tuple : CallOk P w K mg base "is_tuple" 1 ["thing", "least", "most"] spTup) (C_is_bound : CallOk P w K mg base "is_bound" 2 ["thing"] (sp1 ts boundD)) :
    FnOk P w K mg base CX0 4 f fd ["thing", "many"] (sp2 ts boundsD) := by
  refine F.ok sc_are_bounds (fun vs H Q E h => ?_) (fun A outer s H vs Q E hr h => ?_)
  · obtain ⟨d, v, n, rfl, _⟩ := h
    rfl
  obtain ⟨d, v, n, rfl, hd, hz, tb, q⟩ := h
  refine' ⟨_, ?hh, ?rr⟩
  case hh => (refine' pss_one ?g102; (case g102 => (refine' ps_ret ?g103; (case g103 => (refine' pe_and ?g104 ?g105; (case g104 => (refine' pe_cl ?g106 ?g107 ?g108 ?g109 ?g110; (case g106 => (exact C_is_tuple)); (case g107 => (exact hr)); (case g108 => (refine' pa_c ?g111 ?g112; (case g111 => (exact (pv 0))); (case g112 => (refine' pa_c ?g113 ?g114; (case g113 => (exact (pv 1))); (case g114 => (refine' pa_c ?g115 ?g116; (case g115 => (exact (pv 1))); (case g116 => (exact pa_nil)))))))); (case g109 => (exact rfl)); (case g110 => (decide)))); (case g105 => (refine' pe_one ?g117; (case g117 => (refine' pe_allgen ?g118 ?g119 ?g120 ?g121 ?g122 ?g123 ?g124 ?g125 ?g126 ?g127 ?g128 ?g129 ?g130 ?g131 ?g132 ?g133; (case g118 => (exact hr)); (case g119 => (exact rfl)); (case g120 => (exact rfl)); (case g121 => (exact hcd)); (case g122 => (exact hbm)); (case g123 => (exact rfl)); (case g124 => (exact T.b_all)); (case g125 => (exact ⟨rfl, rfl, by decide +kernel, rfl, (show ∀ y : Str × NameKind, y ∈ _ → y.2 = NameKind.free → (defScope s_are_bounds).names.lookup y.1 = some .cell ∨ (defScope s_are_bounds).names.lookup y.1 = some .free from by decide +kernel)⟩)); (case g126 => (exact (compN ["bound"] 1 []))); (case g127 => (decide +kernel)); (case g128 => (decide)); (case g129 => (refine' pi_tup ?g134; (case g134 => (exact (pv 0))))); (case g130 => (intro _ _ _ _ _ _; refine' pg_name ?g135 ?g136 ?g137 ?g138; (case g135 => (exact (show (["bound"] : List Str).Nodup from by decide +kernel))); (case g136 => (exact (ixAt 0))); (case g137 => (exact (Or.inl rfl))); (case g138 => (exact (Or.inr rfl))))); (case g131 => (exact (gown_name (by decide)))); (case g132 => (intro _ _ _ _ _ _; exact pts_nil)); (case g133 => (intro _ _ _ _ _ _; refine' pe_cl ?g139 ?g140 ?g141 ?g142 ?g143; (case g139 => (exact C_is_bound)); (case g140 => (exact (genRoom hr))); (case g141 => (refine' pa_c ?g144 ?g145; (case g144 => (exact (pv 0))); (case g145 => (exact pa_nil)))); (case g142 => (exact rfl)); (case g143 => (decide)))))))))))))
  refine ⟨_, rfl, _, rfl, _, rfl, d, v, n, n, rfl, hd, _, rfl, ?_⟩
  have q' : ∀ b H1, boundsD d n = b → Ext [] H H1 → Q (.bl b) H1 := fun b H1 e e1 => by rw [← e]; exact q H1 e1
  refine ite2 (fun c => ?_) (fun c => ?_)
  · cases d with
    | tuple ds =>
      obtain ⟨a, us, rfl, _, ha, hds⟩ := hd
      have el := hds.length
      obtain ⟨ps, hps⟩ := tb tP hts
      have e0 : boundsD (.tuple ds) n = ds.all boundD := by
        show (tupD (.tuple ds) n n && ds.all boundD) = _
        rw [c, Bool.true_and]
      refine ⟨_, rfl, a, rfl, ⟨us, SqT.of ha⟩, ⟨ps, hps⟩, fun ps' tb' => allgen_by0 (yields_tup (ys := us)) (fun i H2 => Ext [] H H2 ∧ (ds.take i).all boundD = true) ⟨Ext.tbl hps.1 tb'.2, rfl⟩ (fun _ _ h => SqT.of (h.1.tup (by simp) ha)) ?_ ?_⟩
      · rintro i y H2 hy hi ⟨e, p⟩
        have hi' : i < ds.length := by omega
        obtain ⟨y', hy', hdy⟩ := hds.get (i := i) (List.getElem?_eq_getElem hi')
        rw [hy] at hy'
        cases hy'
        refine ⟨_, rfl, ds[i], y, rfl, IsD.ext e hdy, smallDs_mem hz (List.getElem_mem hi'), e.tb tb (by simp), fun H3 e3 => ⟨_, rfl, ?_⟩⟩
        refine ite2 (fun c3 => ?_) (fun c3 => ?_)
        · refine nx hi ⟨e.trans e3, ?_⟩
          rw [take_all (List.getElem?_eq_getElem hi'), p, c3]
          rfl
        · refine q' false H3 ?_ (e.trans e3)
          rw [e0, not_all (List.getElem?_eq_getElem hi') (Bool.eq_false_iff.mpr c3)]
      · rintro H2 ⟨e, p⟩
        refine q' true H2 ?_ e
        rw [el, List.take_length] at p
        rw [e0, p]
    | _ => cases c
  · refine q' false H ?_ Ext.refl
    cases d with
    | tuple ds =>
      show (tupD (.tuple ds) n n && ds.all boundD) = false
      rw [Bool.eq_false_iff.mpr c, Bool.false_and]
    | _ => rfl
theorem wayOk_snoc {cnt : Int} : ∀ {a : Int} (ds : List PyData) {i : Nat} {d : PyData}, ds[i]? = some d → True → ∀ {l : Int}, (∀ b, wayOk cnt a (ds.take i ++ b) = wayOk cnt l b) → ∀ b, wayOk cnt a (ds.take (i + 1) ++ b) = wayOk cnt l (d :: b) := by
  intro a ds i d h _ l e b
  rw [List.take_add_one, h, List.append_assoc]
  exact e (d :: b)
theorem sc_is_way : FnScope ["thing", "lane_count", "ahead", "number"] ["thing", "lane_count"] (defScope s_is_way) := ⟨rfl, rfl, rfl, by decide +kernel, rfl, by decide +kernel, by decide +kernel⟩
theorem ok_way {f : Addr} {fd : FuncData} (F : Fun K "is_way" "is_way" s_is_way f fd) (T : Txt K mg) (C_is_tuple : CallOk P w K mg base "is_tuple" 1 ["thing", "least", "most"] spTup) (C_is_whole : CallOk P w K mg base "is_whole" 1 ["thing"] (sp1 ts wholeD)) :
    FnOk P w K mg base CX0 2 f fd ["thing", "lane_count"] (sp2 ts wayD) := by
  refine F.ok sc_is_way (fun vs H Q E h => ?_) (fun cdv A outer s H vs Q E hr h => ?_)
  · obtain ⟨d, v, n, rfl, _⟩ := h
    rfl
  obtain ⟨d, v, n, rfl, hd, hz, tb, q⟩ := h
  refine' ⟨_, ?hh, ?rr⟩
  case hh => (refine' pss_cons ?g146 ?g147; (case g146 => (refine' ps_if ?g148 ?g149 ?g150; (case g148 => (refine' pt_not ?g151; (case g151 => (refine' pt_val ?g152; (case g152 => (refine' pe_cl ?g153 ?g154 ?g155 ?g156 ?g157; (case g153 => (exact C_is_tuple)); (case g154 => (exact hr)); (case g155 => (refine' pa_c ?g158 ?g159; (case g158 => (exact (pv 0))); (case g159 => (refine' pa_c ?g160 ?g161; (case g160 => (exact pe_int)); (case g161 => (refine' pa_c ?g162 ?g163; (case g162 => (exact (pv 1))); (case g163 => (exact pa_nil)))))))); (case g156 => (exact rfl)); (case g157 => (decide)))))))); (case g149 => (refine' pss_one ?g164; (case g164 => (refine' ps_ret ?g165; (case g165 => (exact pe_bl)))))); (case g150 => (exact pss_nil)))); (case g147 => (refine' pss_cons ?g166 ?g167; (case g166 => (refine' ps_set ?g168 ?g169 ?g170 ?g171; (case g168 => (exact sc_is_way.nd)); (case g169 => (exact (ixAt 2))); (case g170 => (exact (Or.inl rfl))); (case g171 => (refine' pe_un ?g172 ?g173; (case g172 => (exact un_neg)); (case g173 => (exact pe_int)))))); (case g167 => (refine' pss_cons ?g174 ?g175; (case g174 => (refine' ps_for ?g176 ?g177 ?g178 ?g179 ?g180; (case g176 => (exact PassesOwn.never)); (case g177 => (exact rfl)); (case g178 => (refine' pi_tup ?g181; (case g181 => (exact (pv 0))))); (case g179 => (refine' pg_name ?g182 ?g183 ?g184 ?g185; (case g182 => (exact sc_is_way.nd)); (case g183 => (exact (ixAt 3))); (case g184 => (exact (Or.inl rfl))); (case g185 => (exact (Or.inl rfl))))); (case g180 => (refine' pss_cons ?g186 ?g187; (case g186 => (refine' ps_if ?g188 ?g189 ?g190; (case g188 => (refine' PW.pt ?g191; (case g191 => (refine' pw_or ?g192 ?g193; (case g192 => (refine' pt_not ?g194; (case g194 => (refine' pt_val ?g195; (case g195 => (refine' pe_cl ?g196 ?g197 ?g198 ?g199 ?g200; (case g196 => (exact C_is_whole)); (case g197 => (exact hr)); (case g198 => (refine' pa_c ?g201 ?g202; (case g201 => (exact (pv 3))); (case g202 => (exact pa_nil)))); (case g199 => (exact rfl)); (case g200 => (decide)))))))); (case g193 => (refine' pw_or1 ?g203; (case g203 => (refine' pt_not ?g204; (case g204 => (refine' pt_chain ?g205 ?g206 ?g207 ?g208 ?g209; (case g205 => (exact op_lt)); (case g206 => (exact op_lt)); (case g207 => (exact (pv 2))); (case g208 => (exact (pv 3))); (case g209 => (exact (pv 1))))))))))))); (case g189 => (refine' pss_one ?g210; (case g210 => (refine' ps_ret ?g211; (case g211 => (exact pe_bl)))))); (case g190 => (exact pss_nil)))); (case g187 => (refine' pss_one ?g212; (case g212 => (refine' ps_set ?g213 ?g214 ?g215 ?g216; (case g213 => (exact sc_is_way.nd)); (case g214 => (exact (ixAt 2))); (case g215 => (exact (Or.inl rfl))); (case g216 => (exact (pv 3))))))))))); (case g175 => (refine' pss_one ?g217; (case g217 => (refine' ps_ret ?g218; (case g218 => (exact pe_bl)))))))))))
  refine ⟨_, rfl, _, rfl, d, v, 1, n, rfl, hd, _, rfl, ?_⟩
  have q' : ∀ b H1, wayD d n = b → Ext [] H H1 → Q (.bl b) H1 := fun b H1 e e1 => by rw [← e]; exact q H1 e1
  cases c : tupD d 1 n with
  | false =>
    refine iteT (q' false H ?_ Ext.refl)
    cases d with
    | tuple ds =>
      show (tupD (.tuple ds) 1 n && wayOk n (-1) ds) = false
      rw [c, Bool.false_and]
    | _ => rfl
  | true =>
    refine iteF ?_
    cases d with
    | tuple ds =>
      obtain ⟨a, us, rfl, _, ha, hds⟩ := hd
      have el := hds.length
      have e0 : wayD (.tuple ds) n = wayOk n (-1) ds := by
        show (tupD (.tuple ds) 1 n && wayOk n (-1) ds) = _
        rw [c, Bool.true_and]
      refine ⟨_, rfl, ?_⟩
      refine ⟨_, rfl, a, rfl, ⟨us, SqT.of ha⟩, for_tup (xs := us) (fun i σ H2 => ∃ (l : Int) (nn : Option V), σ = [some (V.ref a), some (V.int n), some (V.int l), nn] ∧ Ext [] H H2 ∧ ∀ b, wayOk n (-1) (ds.take i ++ b) = wayOk n l b) ⟨_, _, rfl, Ext.refl, fun b => rfl⟩ (fun _ _ _ _ ⟨_, _, _, e, _⟩ => SqT.of (e.tup (by simp) ha)) ?_ ?_⟩
      · rintro i y σ H2 hy ⟨l, nn, rfl, e, hw⟩
        have hi : i < us.length := (List.getElem?_eq_some_iff.mp hy).1
        have hi' : i < ds.length := by omega
        obtain ⟨y', hy', hdy⟩ := hds.get (i := i) (List.getElem?_eq_getElem hi')
        rw [hy] at hy'
        cases hy'
        have hd2 : ds = ds.take i ++ ds[i] :: ds.drop (i + 1) := by
          rw [← List.drop_eq_getElem_cons hi', List.take_append_drop]
        have hstop : wayOk n l (ds[i] :: ds.drop (i + 1)) = wayOk n (-1) ds := by
          rw [← hw, ← hd2]
        have hsm := smallDs_mem hz (List.getElem_mem hi')
        have hnext := wayOk_snoc ds (List.getElem?_eq_getElem hi') trivial hw
        generalize ds[i] = dy at hdy hsm hnext hstop
        refine ⟨_, rfl, dy, y, rfl, IsD.ext e hdy, hsm, e.tb tb (by simp), fun H3 e3 => ⟨_, rfl, ?_⟩⟩
        cases dy with
        | int k =>
          refine iteF ?_
          obtain rfl : y = .int k := hdy
          refine ⟨_, rfl, _, rfl, _, _, rfl, rfl, _, rfl, ?_⟩
          have hst : ((decide (l < k) && decide (k < n)) && wayOk n k (ds.drop (i + 1))) = wayOk n (-1) ds := hstop
          refine ite2 (fun c1 => ?_) (fun c1 => ?_)
          · refine ⟨_, rfl, _, _, rfl, rfl, _, rfl, ?_⟩
            cases c2 : decide (k < n) with
            | true =>
              refine iteF ?_
              refine ⟨_, rfl, k, _, rfl, e.trans e3, fun b => ?_⟩
              rw [hnext b]
              show ((decide (l < k) && decide (k < n)) && wayOk n k b) = _
              rw [c1, c2]
              rfl
            | false =>
              refine iteT (q' false H3 ?_ (e.trans e3))
              rw [e0, ← hst, c2, Bool.and_false, Bool.false_and]
          · refine ⟨_, rfl, iteT (q' false H3 ?_ (e.trans e3))⟩
            rw [e0, ← hst, Bool.eq_false_iff.mpr c1, Bool.false_and, Bool.false_and]
        | none => exact iteT (q' false H3 (by rw [e0, ← hstop]; rfl) (e.trans e3))
        | bool k => exact iteT (q' false H3 (by rw [e0, ← hstop]; rfl) (e.trans e3))
        | str k => exact iteT (q' false H3 (by rw [e0, ← hstop]; rfl) (e.trans e3))
        | list k => exact iteT (q' false H3 (by rw [e0, ← hstop]; rfl) (e.trans e3))
        | tuple k => exact iteT (q' false H3 (by rw [e0, ← hstop]; rfl) (e.trans e3))
        | dict k => exact iteT (q' false H3 (by rw [e0, ← hstop]; rfl) (e.trans e3))
      · rintro σ H2 ⟨l, nn, rfl, e, hw⟩
        refine q' true H2 ?_ e
        have := hw []
        rw [el, List.take_length, List.append_nil] at this
        rw [e0, this]
        rfl
    | _ => cases c
end
end K04
end

section
set_option Elab.async false
set_option linter.all false
set_option maxRecDepth 100000
set_option maxHeartbeats 1000000
namespace K04
open PySem L2 PyProof.Rows
theorem lane_str {d : PyData} (h : laneD d = true) : ∃ x r, d = .tuple (.str x :: r) := by
  match d, h with
  | .tuple [n, b], h =>
    have h' : (nmD n && boundD b) = true := h
    rw [Bool.and_eq_true] at h'
    match n, h'.1 with
    | .str x, _ => exact ⟨x, [b], rfl⟩
theorem kind_str {cnt : Int} {d : PyData} (h : kindD cnt d = true) : ∃ x r, d = .tuple (.str x :: r) := by
  match d, h with
  | .tuple [n, w, b], h =>
    have h' : (nmD n && (wayD w cnt && boundsD b (lenD w))) = true := h
    rw [Bool.and_eq_true] at h'
    match n, h'.1 with
    | .str x, _ => exact ⟨x, [w, b], rfl⟩
theorem tup_len {ds : List PyData} {lo hi : Int} (c : tupD (.tuple ds) lo hi = true) : lo ≤ (ds.length : Int) ∧ (ds.length : Int) ≤ hi := by
  have c' : (decide (lo ≤ (ds.length : Int)) && decide ((ds.length : Int) ≤ hi)) = true := c
  rw [Bool.and_eq_true, decide_eq_true_eq, decide_eq_true_eq] at c'
  exact c'
section
variable {P : Program} {w : World} {K : PySem.W.Frag} {mg : Str → Option Value} {base : Heap} {ts : List Addr}
theorem sc_is_kind : FnScope ["thing", "lane_count", "name", "way", "bounds"] ["thing", "lane_count"] (defScope s_is_kind) := ⟨rfl, rfl, rfl, by decide +kernel, rfl, by decide +kernel, by decide +kernel⟩
theorem ok_kind {f : Addr} {fd : FuncData} (F : Fun K "is_kind" "is_kind" s_is_kind f fd) (T : Txt K mg) (C_is_tuple : CallOk P w K mg base "is_tuple" 1 ["thing", "least", "most"] spTup) (C_is_name : CallOk P w K mg base "is_name" 2 ["thing"] (sp1 ts nmD)) (C_is_way : CallOk P w K mg base "is_way" 2 ["thing", "lane_count"] (sp2 ts wayD)) (C_are_bounds : CallOk P w K mg base "are_bounds" 4 ["thing", "many"] (sp2 ts boundsD)) :
    FnOk P w K mg base CX0 5 f fd ["thing", "lane_count"] (sp2 ts fun d n => kindD n d) := by
  refine F.ok sc_is_kind (fun vs H Q E h => ?_) (fun cdv A outer s H vs Q E hr h => ?_)
  · obtain ⟨d, v, n, rfl, _⟩ := h
    rfl
  obtain ⟨d, v, n, rfl, hd, hz, tb, q⟩ := h
  refine' ⟨_, ?hh, ?rr⟩
  case hh => (refine' pss_cons ?g1 ?g2; (case g1 => (refine' ps_if ?g3 ?g4 ?g5; (case g3 => (refine' pt_not ?g6; (case g6 => (refine' pt_val ?g7; (case g7 => (refine' pe_cl ?g8 ?g9 ?g10 ?g11 ?g12; (case g8 => (exact C_is_tuple)); (case g9 => (exact hr)); (case g10 => (refine' pa_c ?g13 ?g14; (case g13 => (exact (pv 0))); (case g14 => (refine' pa_c ?g15 ?g16; (case g15 => (exact pe_int)); (case g16 => (refine' pa_c ?g17 ?g18; (case g17 => (exact pe_int)); (case g18 => (exact pa_nil)))))))); (case g11 => (exact rfl)); (case g12 => (decide)))))))); (case g4 => (refine' pss_one ?g19; (case g19 => (refine' ps_ret ?g20; (case g20 => (exact pe_bl)))))); (case g5 => (exact pss_nil)))); (case g2 => (refine' pss_cons ?g21 ?g22; (case g21 => (refine' ps_asg ?g23 ?g24; (case g23 => (exact (pv 0))); (case g24 => (refine' pg_tup ?g25 ?g26; (case g25 => (exact rfl)); (case g26 => (refine' pgs_cons ?g27 ?g28; (case g27 => (refine' pg_name ?g29 ?g30 ?g31 ?g32; (case g29 => (exact sc_is_kind.nd)); (case g30 => (exact (ixAt 2))); (case g31 => (exact (Or.inl rfl))); (case g32 => (exact (Or.inl rfl))))); (case g28 => (refine' pgs_cons ?g33 ?g34; (case g33 => (refine' pg_name ?g35 ?g36 ?g37 ?g38; (case g35 => (exact sc_is_kind.nd)); (case g36 => (exact (ixAt 3))); (case g37 => (exact (Or.inl rfl))); (case g38 => (exact (Or.inl rfl))))); (case g34 => (refine' pgs_cons ?g39 ?g40; (case g39 => (refine' pg_name ?g41 ?g42 ?g43 ?g44; (case g41 => (exact sc_is_kind.nd)); (case g42 => (exact (ixAt 4))); (case g43 => (exact (Or.inl rfl))); (case g44 => (exact (Or.inl rfl))))); (case g40 => (exact pgs_nil)))))))))))); (case g22 => (refine' pss_one ?g45; (case g45 => (refine' ps_ret ?g46; (case g46 => (refine' pe_and ?g47 ?g48; (case g47 => (refine' pe_cl ?g49 ?g50 ?g51 ?g52 ?g53; (case g49 => (exact C_is_name)); (case g50 => (exact hr)); (case g51 => (refine' pa_c ?g54 ?g55; (case g54 => (exact (pv 2))); (case g55 => (exact pa_nil)))); (case g52 => (exact rfl)); (case g53 => (decide)))); (case g48 => (refine' pe_and ?g56 ?g57; (case g56 => (refine' pe_cl ?g58 ?g59 ?g60 ?g61 ?g62; (case g58 => (exact C_is_way)); (case g59 => (exact hr)); (case g60 => (refine' pa_c ?g63 ?g64; (case g63 => (exact (pv 3))); (case g64 => (refine' pa_c ?g65 ?g66; (case g65 => (exact (pv 1))); (case g66 => (exact pa_nil)))))); (case g61 => (exact rfl)); (case g62 => (decide)))); (case g57 => (refine' pe_one ?g67; (case g67 => (refine' pe_cl ?g68 ?g69 ?g70 ?g71 ?g72; (case g68 => (exact C_are_bounds)); (case g69 => (exact hr)); (case g70 => (refine' pa_c ?g73 ?g74; (case g73 => (exact (pv 4))); (case g74 => (refine' pa_c ?g75 ?g76; (case g75 => (refine' pe_callB ?g77 ?g78 ?g79 ?g80 ?g81; (case g77 => (exact call_len_seq)); (case g78 => (exact rfl)); (case g79 => (exact T.b_len)); (case g80 => (exact PySem.boot_len)); (case g81 => (refine' pa_c ?g82 ?g83; (case g82 => (exact (pv 3))); (case g83 => (exact pa_nil)))))); (case g76 => (exact pa_nil)))))); (case g71 => (exact rfl)); (case g72 => (decide)))))))))))))))))
  refine ⟨_, rfl, d, v, 3, 3, rfl, hd, _, rfl, ?_⟩
  have q' : ∀ b H1, kindD n d = b → Ext [] H H1 → Q (.bl b) H1 := fun b H1 e e1 => by rw [← e]; exact q H1 e1
  cases c : tupD d 3 3 with
  | false =>
    refine iteT (q' false H ?_ Ext.refl)
    cases d with
    | tuple ds =>
      have c' : ¬ (decide ((3 : Int) ≤ (ds.length : Int)) && decide ((ds.length : Int) ≤ 3)) = true := Bool.eq_false_iff.mp c
      match ds, c' with
      | [_, _, _], c' => exact absurd rfl c'
      | [], _ => rfl
      | [_], _ => rfl
      | [_, _], _ => rfl
      | _ :: _ :: _ :: _ :: _, _ => rfl
    | _ => rfl
  | true =>
    refine iteF ?_
    obtain ⟨nm1, wy, bs, rfl⟩ : ∃ n b m, d = .tuple [n, b, m] := by
      cases d with
      | tuple ds =>
        have c' := tup_len c
        match ds, c' with
        | [n, b, m], _ => exact ⟨n, b, m, rfl⟩
        | [], c' => simp at c'
        | [_], c' => simp at c'
        | [_, _], c' => simp at c'
        | _ :: _ :: _ :: _ :: r, c' => simp at c'; omega
      | _ => cases c
    obtain ⟨a, us, rfl, _, ha, v1, r1, rfl, d1, v2, r2, rfl, d2, v3, r3, rfl, d3, rfl⟩ := hd
    have s1 : smallD nm1 = true := smallDs_mem hz (by simp)
    have s2 : smallD wy = true := smallDs_mem hz (by simp)
    have s3 : smallD bs = true := smallDs_mem hz (by simp)
    have ek : kindD n (.tuple [nm1, wy, bs]) = (nmD nm1 && (wayD wy n && boundsD bs (lenD wy))) := rfl
    refine ⟨_, rfl, a, _, rfl, SqT.of ha, rfl, v1, _, rfl, v2, _, rfl, v3, _, rfl, rfl, ?_⟩
    refine ⟨_, rfl, nm1, v1, rfl, d1, s1, tb, fun H1 e1 => ⟨_, rfl, ?_⟩⟩
    refine ite2 (fun c1 => ?_) (fun c1 => ?_)
    · refine ⟨_, rfl, _, rfl, wy, v2, n, rfl, IsD.ext e1 d2, s2, e1.tb tb (by simp), fun H2 e2 => ⟨_, rfl, ?_⟩⟩
      refine ite2 (fun c2 => ?_) (fun c2 => ?_)
      · cases wy with
        | tuple ws =>
          have e12 := e1.trans e2
          obtain ⟨b, xs, rfl, _, hb, hws⟩ := IsD.ext e12 d2
          refine ⟨_, rfl, _, rfl, b, xs, rfl, .inr (SqT.of hb), bs, v3, _, rfl, IsD.ext e12 d3, s3, e12.tb tb (by simp), fun H3 e3 => ?_⟩
          refine q' _ H3 ?_ (e12.trans e3)
          rw [ek, c1, c2, Bool.true_and, Bool.true_and, hws.length]
          rfl
        | _ => cases c2
      · refine q' _ H2 ?_ (e1.trans e2)
        rw [ek, Bool.eq_false_iff.mpr c2, Bool.false_and, Bool.and_false]
    · refine q' _ H1 ?_ e1
      rw [ek, Bool.eq_false_iff.mpr c1, Bool.false_and]
theorem sc_are_lanes : FnScope ["thing"] ["thing"] (defScope s_are_lanes) := ⟨rfl, rfl, rfl, by decide +kernel, rfl, by decide +kernel, by decide +kernel⟩
theorem ok_lanes {f c0 tP : Addr} {fd : FuncData} (F : FunC K "are_lanes" "are_lanes" s_are_lanes f fd c0) (T : Txt K mg) (hcd : PySem.W.CodeHd base c0 tP) (hbm : BltMod mg base) (hts : tP ∈ ts) (C_is_tuple : CallOk P w K mg base "is_tuple" 1 ["thing", "least", "most"] spTup) (C_is_lane : CallOk P w K mg base "is_lane" 3 ["thing"] (sp1 ts laneD)) (C_have_unlike_names : CallOk P w K mg base "have_unlike_names" 1 ["tuples"] spUn) :
    FnOk P w K mg base CX0 5 f fd ["thing"] (sp1 ts lanesD) := by
  refine F.ok sc_are_lanes (fun vs H Q E h => ?_) (fun A outer s H vs Q E hr h => ?_)
  · obtain ⟨d, v, rfl, _⟩ := h
    rfl
  obtain ⟨d, v, rfl, hd, hz, tb, q⟩ := h
  refine' ⟨_, ?hh, ?rr⟩
  case hh => (refine' pss_one ?g84; (case g84 => (refine' ps_ret ?g85; (case g85 => (refine' pe_and ?g86 ?g87; (case g86 => (refine' pe_cl ?g88 ?g89 ?g90 ?g91 ?g92; (case g88 => (exact C_is_tuple)); (case g89 => (exact hr)); (case g90 => (refine' pa_c ?g93 ?g94; (case g93 => (exact (pv 0))); (case g94 => (refine' pa_c ?g95 ?g96; (case g95 => (exact pe_int)); (case g96 => (refine' pa_c ?g97 ?g98; (case g97 => (exact (pe_gl T.g_MOST_LANES))); (case g98 => (exact pa_nil)))))))); (case g91 => (exact rfl)); (case g92 => (decide)))); (case g87 => (refine' pe_and ?g99 ?g100; (case g99 => (refine' pe_allgen ?g101 ?g102 ?g103 ?g104 ?g105 ?g106 ?g107 ?g108 ?g109 ?g110 ?g111 ?g112 ?g113 ?g114 ?g115 ?g116; (case g101 => (exact hr)); (case g102 => (exact rfl)); (case g103 => (exact rfl)); (case g104 => (exact hcd)); (case g105 => (exact hbm)); (case g106 => (exact rfl)); (case g107 => (exact T.b_all)); (case g108 => (exact ⟨rfl, rfl, by decide +kernel, rfl, (show ∀ y : Str × NameKind, y ∈ _ → y.2 = NameKind.free → (defScope s_are_lanes).names.lookup y.1 = some .cell ∨ (defScope s_are_lanes).names.lookup y.1 = some .free from by decide +kernel)⟩)); (case g109 => (exact (compN ["lane"] 1 []))); (case g110 => (decide +kernel)); (case g111 => (decide)); (case g112 => (refine' pi_tup ?g117; (case g117 => (exact (pv 0))))); (case g113 => (intro _ _ _ _ _ _; refine' pg_name ?g118 ?g119 ?g120 ?g121; (case g118 => (exact (show (["lane"] : List Str).Nodup from by decide +kernel))); (case g119 => (exact (ixAt 0))); (case g120 => (exact (Or.inl rfl))); (case g121 => (exact (Or.inr rfl))))); (case g114 => (exact (gown_name (by decide)))); (case g115 => (intro _ _ _ _ _ _; exact pts_nil)); (case g116 => (intro _ _ _ _ _ _; refine' pe_cl ?g122 ?g123 ?g124 ?g125 ?g126; (case g122 => (exact C_is_lane)); (case g123 => (exact (genRoom hr))); (case g124 => (refine' pa_c ?g127 ?g128; (case g127 => (exact (pv 0))); (case g128 => (exact pa_nil)))); (case g125 => (exact rfl)); (case g126 => (decide)))))); (case g100 => (refine' pe_one ?g129; (case g129 => (refine' pe_cl ?g130 ?g131 ?g132 ?g133 ?g134; (case g130 => (exact C_have_unlike_names)); (case g131 => (exact hr)); (case g132 => (refine' pa_c ?g135 ?g136; (case g135 => (exact (pv 0))); (case g136 => (exact pa_nil)))); (case g133 => (exact rfl)); (case g134 => (decide)))))))))))))
  refine ⟨_, rfl, d, v, 1, 6, rfl, hd, _, rfl, ?_⟩
  have q' : ∀ b H1, lanesD d = b → Ext [] H H1 → Q (.bl b) H1 := fun b H1 e e1 => by rw [← e]; exact q H1 e1
  refine ite2 (fun c => ?_) (fun c => ?_)
  · cases d with
    | tuple ds =>
      obtain ⟨a, us, rfl, hne, ha, hds⟩ := hd
      have el := hds.length
      obtain ⟨ps, hps⟩ := tb tP hts
      have e0 : lanesD (.tuple ds) = (ds.all laneD && unlikeD ds) := by
        show (tupD (.tuple ds) 1 6 && _) = _
        rw [c, Bool.true_and]
      refine ⟨_, rfl, a, rfl, ⟨us, SqT.of ha⟩, ⟨ps, hps⟩, fun ps' tb' => allgen_by0 (yields_tup (ys := us)) (fun i H2 => Ext [] H H2 ∧ (ds.take i).all laneD = true) ⟨Ext.tbl hps.1 tb'.2, rfl⟩ (fun _ _ h => SqT.of (h.1.tup (by simp) ha)) ?_ ?_⟩
      · rintro i y H2 hy hi ⟨e, p⟩
        have hi' : i < ds.length := by omega
        obtain ⟨y', hy', hdy⟩ := hds.get (i := i) (List.getElem?_eq_getElem hi')
        rw [hy] at hy'
        cases hy'
        refine ⟨_, rfl, ds[i], y, rfl, IsD.ext e hdy, smallDs_mem hz (List.getElem_mem hi'), e.tb tb (by simp), fun H3 e3 => ⟨_, rfl, ?_⟩⟩
        refine ite2 (fun c3 => ?_) (fun c3 => ?_)
        · refine nx hi ⟨e.trans e3, ?_⟩
          rw [take_all (List.getElem?_eq_getElem hi'), p, c3]
          rfl
        · refine ⟨_, rfl, iteF (q' false H3 ?_ (e.trans e3))⟩
          rw [e0, not_all (List.getElem?_eq_getElem hi') (Bool.eq_false_iff.mpr c3), Bool.false_and]
      · rintro H2 ⟨e, p⟩
        rw [el, List.take_length] at p
        refine ⟨_, rfl, iteT ?_⟩
        have hl := tup_len c
        refine ⟨_, rfl, ds, _, rfl, ⟨a, us, rfl, hne, e.tup (by simp) ha, IsDs.ext e hds⟩, by omega, fun d hd => lane_str (List.all_eq_true.mp p d hd), q' _ H2 ?_ e⟩
        rw [e0, p, Bool.true_and]
    | _ => cases c
  · refine q' false H ?_ Ext.refl
    cases d with
    | tuple ds =>
      show (tupD (.tuple ds) 1 6 && _) = false
      rw [Bool.eq_false_iff.mpr c, Bool.false_and]
    | _ => rfl
theorem sc_are_kinds : FnScope ["thing", "lane_count"] ["thing", "lane_count"] (defScope s_are_kinds) := ⟨rfl, rfl, rfl, by decide +kernel, rfl, by decide +kernel, by decide +kernel⟩
theorem ok_kinds {f c0 tP : Addr} {fd : FuncData} (F : FunC K "are_kinds" "are_kinds" s_are_kinds f fd c0) (T : Txt K mg) (hcd : PySem.W.CodeHd base c0 tP) (hbm : BltMod mg base) (hts : tP ∈ ts) (C_is_tuple : CallOk P w K mg base "is_tuple" 1 ["thing", "least", "most"] spTup) (C_is_kind : CallOk P w K mg base "is_kind" 5 ["thing", "lane_count"] (sp2 ts fun d n => kindD n d)) (C_have_unlike_names : CallOk P w K mg base "have_unlike_names" 1 ["tuples"] spUn) :
    FnOk P w K mg base CX0 7 f fd ["thing", "lane_count"] (sp2 ts kindsD) := by
  refine F.ok sc_are_kinds (fun vs H Q E h => ?_) (fun A outer s H vs Q E hr h => ?_)
  · obtain ⟨d, v, n, rfl, _⟩ := h
    rfl
  obtain ⟨d, v, n, rfl, hd, hz, tb, q⟩ := h
  refine' ⟨_, ?hh, ?rr⟩
  case hh => (refine' pss_cons ?g137 ?g138; (case g137 => (refine' ps_if ?g139 ?g140 ?g141; (case g139 => (refine' pt_not ?g142; (case g142 => (refine' pt_val ?g143; (case g143 => (refine' pe_cl ?g144 ?g145 ?g146 ?g147 ?g148; (case g144 => (exact C_is_tuple)); (case g145 => (exact hr)); (case g146 => (refine' pa_c ?g149 ?g150; (case g149 => (exact (pv 0))); (case g150 => (refine' pa_c ?g151 ?g152; (case g151 => (exact pe_int)); (case g152 => (refine' pa_c ?g153 ?g154; (case g153 => (exact (pe_gl T.g_MOST_KINDS))); (case g154 => (exact pa_nil)))))))); (case g147 => (exact rfl)); (case g148 => (decide)))))))); (case g140 => (refine' pss_one ?g155; (case g155 => (refine' ps_ret ?g156; (case g156 => (exact pe_bl)))))); (case g141 => (exact pss_nil)))); (case g138 => (refine' pss_one ?g157; (case g157 => (refine' ps_ret ?g158; (case g158 => (refine' pe_and ?g159 ?g160; (case g159 => (refine' pe_allgen ?g161 ?g162 ?g163 ?g164 ?g165 ?g166 ?g167 ?g168 ?g169 ?g170 ?g171 ?g172 ?g173 ?g174 ?g175 ?g176; (case g161 => (exact hr)); (case g162 => (exact rfl)); (case g163 => (exact rfl)); (case g164 => (exact hcd)); (case g165 => (exact hbm)); (case g166 => (exact rfl)); (case g167 => (exact T.b_all)); (case g168 => (exact ⟨rfl, rfl, by decide +kernel, rfl, (show ∀ y : Str × NameKind, y ∈ _ → y.2 = NameKind.free → (defScope s_are_kinds).names.lookup y.1 = some .cell ∨ (defScope s_are_kinds).names.lookup y.1 = some .free from by decide +kernel)⟩)); (case g169 => (exact (compN ["kind", "lane_count"] 1 [1]))); (case g170 => (decide +kernel)); (case g171 => (decide)); (case g172 => (refine' pi_tup ?g177; (case g177 => (exact (pv 0))))); (case g173 => (intro _ _ _ _ _ _; refine' pg_name ?g178 ?g179 ?g180 ?g181; (case g178 => (exact (show (["kind", "lane_count"] : List Str).Nodup from by decide +kernel))); (case g179 => (exact (ixAt 0))); (case g180 => (exact (Or.inl rfl))); (case g181 => (exact (Or.inr rfl))))); (case g174 => (exact (gown_name (by decide)))); (case g175 => (intro _ _ _ _ _ _; exact pts_nil)); (case g176 => (intro _ _ _ _ _ _; refine' pe_cl ?g182 ?g183 ?g184 ?g185 ?g186; (case g182 => (exact C_is_kind)); (case g183 => (exact (genRoom hr))); (case g184 => (refine' pa_c ?g187 ?g188; (case g187 => (exact (pv 0))); (case g188 => (refine' pa_c ?g189 ?g190; (case g189 => (exact (pv 1))); (case g190 => (exact pa_nil)))))); (case g185 => (exact rfl)); (case g186 => (decide)))))); (case g160 => (refine' pe_one ?g191; (case g191 => (refine' pe_cl ?g192 ?g193 ?g194 ?g195 ?g196; (case g192 => (exact C_have_unlike_names)); (case g193 => (exact hr)); (case g194 => (refine' pa_c ?g197 ?g198; (case g197 => (exact (pv 0))); (case g198 => (exact pa_nil)))); (case g195 => (exact rfl)); (case g196 => (decide)))))))))))))
  refine ⟨_, rfl, d, v, 1, 6, rfl, hd, _, rfl, ?_⟩
  have q' : ∀ b H1, kindsD d n = b → Ext [] H H1 → Q (.bl b) H1 := fun b H1 e e1 => by rw [← e]; exact q H1 e1
  cases c : tupD d 1 6 with
  | true =>
    refine iteF ?_
    cases d with
    | tuple ds =>
      obtain ⟨a, us, rfl, hne, ha, hds⟩ := hd
      have el := hds.length
      obtain ⟨ps, hps⟩ := tb tP hts
      have e0 : kindsD (.tuple ds) n = (ds.all (kindD n) && unlikeD ds) := by
        show (tupD (.tuple ds) 1 6 && _) = _
        rw [c, Bool.true_and]
      refine ⟨_, rfl, a, rfl, ⟨us, SqT.of ha⟩, ⟨ps, hps⟩, fun ps' tb' => allgen_by0 (yields_tup (ys := us)) (fun i H2 => Ext [] H H2 ∧ (ds.take i).all (kindD n) = true) ⟨Ext.tbl hps.1 tb'.2, rfl⟩ (fun _ _ h => SqT.of (h.1.tup (by simp) ha)) ?_ ?_⟩
      · rintro i y H2 hy hi ⟨e, p⟩
        have hi' : i < ds.length := by omega
        obtain ⟨y', hy', hdy⟩ := hds.get (i := i) (List.getElem?_eq_getElem hi')
        rw [hy] at hy'
        cases hy'
        refine ⟨_, rfl, _, rfl, ds[i], y, n, rfl, IsD.ext e hdy, smallDs_mem hz (List.getElem_mem hi'), e.tb tb (by simp), fun H3 e3 => ⟨_, rfl, ?_⟩⟩
        refine ite2 (fun (c3 : kindD n ds[i] = true) => ?_) (fun (c3 : ¬ kindD n ds[i] = true) => ?_)
        · refine nx hi ⟨e.trans e3, ?_⟩
          rw [take_all (List.getElem?_eq_getElem hi'), p, c3]
          rfl
        · refine ⟨_, rfl, iteF (q' false H3 ?_ (e.trans e3))⟩
          rw [e0, not_all (List.getElem?_eq_getElem hi') (Bool.eq_false_iff.mpr c3), Bool.false_and]
      · rintro H2 ⟨e, p⟩
        rw [el, List.take_length] at p
        refine ⟨_, rfl, iteT ?_⟩
        have hl := tup_len c
        refine ⟨_, rfl, ds, _, rfl, ⟨a, us, rfl, hne, e.tup (by simp) ha, IsDs.ext e hds⟩, by omega, fun d hd => kind_str (List.all_eq_true.mp p d hd), q' _ H2 ?_ e⟩
        rw [e0, p, Bool.true_and]
    | _ => cases c
  | false =>
    refine iteT (q' false H ?_ Ext.refl)
    cases d with
    | tuple ds =>
      show (tupD (.tuple ds) 1 6 && _) = false
      rw [c, Bool.false_and]
    | _ => rfl
end
end K04
end

section
set_option Elab.async false
set_option linter.all false
set_option maxRecDepth 100000
set_option maxHeartbeats 1000000
namespace K04
open PySem L2 PyProof.Rows
/-! ### promises of the drawing defs -/
def spTake : Sp := fun vs H Q _ => ∃ (z : Zn) (m : Int), vs = [.ref z.p, .int m] ∧ Cz z H ∧ 0 < m ∧ m < 1073741824 ∧ ∀ (i : Int) (H' : Hp), 0 ≤ i → i < m → Stp z H H' → Q (.int i) H'
def spDigits (K : PySem.W.Frag) : Sp := fun vs H Q _ => ∃ (a : Addr) (ns : List Int) (k : Int), vs = [.ref a, .int k] ∧ SqL K H a (ns.map V.int) ∧ ns.length ≤ 63 ∧ 0 ≤ k ∧ k ≤ 1000 ∧ ∀ (p : Addr) (n : Int), H p = none → Q (.ref p) (upd H p (.lst [.int n]))
def spBound : Sp := fun vs H Q _ => ∃ z : Zn, vs = [.ref z.p] ∧ Cz z H ∧ ∀ (i : Int) (H' : Hp), 1 ≤ i → i ≤ 99 → Stp z H H' → Q (.int i) H'
def spWords : Sp := fun vs H Q _ => ∃ z : Zn, vs = [.ref z.p, .int 12] ∧ Cz z H ∧ ∀ (ns : List Str) (v : V) (H' : Hp), ns.length = 12 → ns.Nodup → (∀ x ∈ ns, nm x = true) → Stp z H H' → IsD z.ex H' (.list (ns.map .str)) v → Q v H'
theorem line {n : Nat} (h : n ≤ 1000) : n ≤ sizeLine := Nat.le_trans h size1000
theorem atI_in {α : Type} {xs : List α} {i : Int} (h0 : 0 ≤ i) (h1 : i < (xs.length : Int)) : ∃ v, atI xs i = some v ∧ v ∈ xs := by
  have hk : i.toNat < xs.length := by omega
  exact ⟨xs[i.toNat], atI_pos h0 (List.getElem?_eq_getElem hk), List.getElem_mem hk⟩
theorem get_in {α : Type} {xs : List α} {i : Int} (h0 : 0 ≤ i) (h1 : i < (xs.length : Int)) : ∃ v, xs[i.toNat]? = some v ∧ v ∈ xs := by
  have hk : i.toNat < xs.length := by omega
  exact ⟨xs[i.toNat], List.getElem?_eq_getElem hk, List.getElem_mem hk⟩
/-! ### names alike but at one place -/
def azl : List Nat := List.range' 97 26
theorem az_tx : ("abcdefghijklmnopqrstuvwxyz" : Str) = tx azl := by decide +kernel
theorem am_in : ∀ c ∈ (("abcdefghijklm" : Str)).cps.toList, 97 ≤ c ∧ c ≤ 109 := by decide +kernel
theorem az_in : ∀ c ∈ azl, 97 ≤ c ∧ c ≤ 122 := by decide +kernel
theorem az_turned : ∀ k, k < 26 → (azl.drop k ++ azl.take k).Nodup := by decide +kernel
theorem inL_az : ∀ c ∈ azl, inL (tx [c]) = true := by decide +kernel
theorem mem_az {c : Nat} (h : 97 ≤ c ∧ c ≤ 122) : c ∈ azl := by
  unfold azl
  rw [List.mem_range']
  exact ⟨c - 97, by omega, by omega⟩
theorem sgn_tx (l : List Nat) : sgn (tx l) = l.map fun c => tx [c] := by
  unfold sgn tx
  simp
theorem sgV_tx (l : List Nat) : sgV (tx l) = l.map fun c => V.str (tx [c]) := by
  unfold sgV tx
  simp
theorem out_tx : ("out" : Str) = tx [111, 117, 116] := by decide +kernel
theorem yard_tx : ("yard" : Str) = tx [121, 97, 114, 100] := by decide +kernel
theorem name_ok {A B : List Nat} {c : Nat} (hl : A.length + B.length ≤ 7) (ha : ∀ x ∈ A, 97 ≤ x ∧ x ≤ 109) (hb : ∀ x ∈ B, 97 ≤ x ∧ x ≤ 109) (hc : 97 ≤ c ∧ c ≤ 122) : nm (tx (A ++ c :: B)) = true := by
  unfold nm
  have n1 : ¬ tx [111, 117, 116] = tx (A ++ c :: B) := fun h => by
    have h := tx_inj h
    match A, ha, h with
    | [], _, h =>
      injection h with _ h
      have := hb 117 (by rw [← h]; simp)
      omega
    | a :: _, ha, h =>
      injection h with h _
      have := ha a (by simp)
      omega
  have n2 : ¬ tx [121, 97, 114, 100] = tx (A ++ c :: B) := fun h => by
    have h := tx_inj h
    match A, ha, h with
    | [], _, h =>
      injection h with _ h
      have := hb 114 (by rw [← h]; simp)
      omega
    | a :: _, ha, h =>
      injection h with h _
      have := ha a (by simp)
      omega
  rw [out_tx, yard_tx, if_neg (by simp [n1, n2])]
  have e : (tx (A ++ c :: B)).length = A.length + (B.length + 1) := by rw [tx_len, List.length_append, List.length_cons]
  rw [e, decide_eq_true (by omega), decide_eq_true (by omega), Bool.true_and, Bool.true_and, sgn_tx, List.all_eq_true]
  intro s hs
  obtain ⟨x, hx, rfl⟩ := List.mem_map.mp hs
  refine inL_az x (mem_az ?_)
  rcases List.mem_append.mp hx with h | h
  · have := ha x h; omega
  · rcases List.mem_cons.mp h with rfl | h
    · exact hc
    · have := hb x h; omega
def namesOf (A B S : List Nat) : List Str := S.map fun c => tx (A ++ c :: B)
theorem names_nodup {A B S : List Nat} (h : S.Nodup) : (namesOf A B S).Nodup := by
  unfold namesOf List.Nodup
  rw [List.pairwise_map]
  refine List.Pairwise.imp (fun {a b} hne e => hne ?_) h
  have e2 := List.append_cancel_left (tx_inj e)
  injection e2
section
variable {P : Program} {w : World} {K : PySem.W.Frag} {mg : Str → Option Value} {base : Heap}
abbrev s__law_take : Stmt := top 33
theorem sc__law_take : FnScope ["_law_held", "_law_many", "_law_found"] ["_law_held", "_law_many"] (defScope s__law_take) := ⟨rfl, rfl, rfl, by decide +kernel, rfl, by decide +kernel, by decide +kernel⟩
theorem ok_take {f : Addr} {fd : FuncData} (F : Fun K "_law_take" "_law_take" s__law_take f fd) : FnOk P w K mg base CX0 1 f fd ["_law_held", "_law_many"] spTake := by
  refine F.ok sc__law_take (fun vs H Q E h => ?_) (fun cdv A outer s H vs Q E hr h => ?_)
  · obtain ⟨z, m, rfl, _⟩ := h
    rfl
  obtain ⟨z, m, rfl, c, h0, h1, q⟩ := h
  obtain ⟨n, hp⟩ := c.held
  refine' ⟨_, ?hh, ?rr⟩
  case hh => (refine' pss_cons ?g1 ?g2; (case g1 => (refine' ps_set ?g3 ?g4 ?g5 ?g6; (case g3 => (exact sc__law_take.nd)); (case g4 => (exact (ixAt 2))); (case g5 => (exact (Or.inl rfl))); (case g6 => (refine' pe_op ?g7 ?g8 ?g9; (case g7 => (exact op_mod)); (case g8 => (refine' pe_ix ?g10 ?g11 ?g12 ?g13; (case g10 => (exact ix_list)); (case g11 => (exact (pv 0))); (case g12 => (exact pe_int)); (case g13 => (exact (fun _ _ => rfl))))); (case g9 => (exact (pv 1))))))); (case g2 => (refine' pss_cons ?g14 ?g15; (case g14 => (refine' ps_asg ?g16 ?g17; (case g16 => (refine' pe_op ?g18 ?g19 ?g20; (case g18 => (exact op_fdiv)); (case g19 => (refine' pe_ix ?g21 ?g22 ?g23 ?g24; (case g21 => (exact ix_list)); (case g22 => (exact (pv 0))); (case g23 => (exact pe_int)); (case g24 => (exact (fun _ _ => rfl))))); (case g20 => (exact (pv 1))))); (case g17 => (refine' pg_sub ?g25 ?g26 ?g27; (case g25 => (exact (pv 0))); (case g26 => (exact pe_int)); (case g27 => (exact set_list)))))); (case g15 => (refine' pss_one ?g28; (case g28 => (refine' ps_ret ?g29; (case g29 => (exact (pv 2))))))))))
  refine ⟨_, rfl, z.p, _, _, _, rfl, rfl, SqL.of hp, rfl, _, rfl, _, _, rfl, rfl, h0, ?_⟩
  refine ⟨_, rfl, z.p, _, _, _, rfl, rfl, SqL.of hp, rfl, _, rfl, _, _, rfl, rfl, ⟨h0, h1⟩, ?_⟩
  refine ⟨_, rfl, z.p, _, _, _, rfl, rfl, hp, rfl, ?_⟩
  exact ⟨_, rfl, q _ _ (Int.emod_nonneg _ (by omega)) (Int.emod_lt_of_pos _ h0) ⟨Ext.put (by simp) _, c.extp (Ext.put (by simp) _) ⟨_, upd_same⟩⟩⟩
abbrev s__law_digits : Stmt := top 32
theorem sc__law_digits : FnScope ["_law_script", "_law_k", "_law_cell", "_law_total", "_law_number", "_law_turn"] ["_law_script", "_law_k"] (defScope s__law_digits) := ⟨rfl, rfl, rfl, by decide +kernel, rfl, by decide +kernel, by decide +kernel⟩
theorem ok_digits {f : Addr} {fd : FuncData} (F : Fun K "_law_digits" "_law_digits" s__law_digits f fd) (T : Txt K mg) : FnOk P w K mg base CX0 1 f fd ["_law_script", "_law_k"] (spDigits K) := by
  refine F.ok sc__law_digits (fun vs H Q E h => ?_) (fun cdv A outer s H vs Q E hr h => ?_)
  · obtain ⟨a, ns, k, rfl, _⟩ := h
    rfl
  obtain ⟨a, ns, k, rfl, hS, h63, h0, h1, q⟩ := h
  refine' ⟨_, ?hh, ?rr⟩
  case hh => (refine' pss_cons ?g30 ?g31; (case g30 => (refine' ps_set ?g32 ?g33 ?g34 ?g35; (case g32 => (exact sc__law_digits.nd)); (case g33 => (exact (ixAt 2))); (case g34 => (exact (Or.inl rfl))); (case g35 => (refine' pe_ifExp ?g36 ?g37 ?g38; (case g36 => (refine' pt_cmpR ?g39 ?g40 ?g41 ?g42; (case g39 => (exact op_lt)); (case g40 => (exact (pv 1))); (case g41 => (refine' pe_callB ?g43 ?g44 ?g45 ?g46 ?g47; (case g43 => (exact call_len_seq)); (case g44 => (exact rfl)); (case g45 => (exact T.b_len)); (case g46 => (exact PySem.boot_len)); (case g47 => (refine' pa_c ?g48 ?g49; (case g48 => (exact (pv 0))); (case g49 => (exact pa_nil)))))); (case g42 => (exact (nomark _))))); (case g37 => (refine' pe_ix ?g50 ?g51 ?g52 ?g53; (case g50 => (exact ix_list)); (case g51 => (exact (pv 0))); (case g52 => (exact (pv 1))); (case g53 => (exact (fun _ _ => rfl))))); (case g38 => (exact pe_int)))))); (case g31 => (refine' pss_cons ?g54 ?g55; (case g54 => (refine' ps_if ?g56 ?g57 ?g58; (case g56 => (refine' pt_cmpR ?g59 ?g60 ?g61 ?g62; (case g59 => (exact op_ge)); (case g60 => (exact (pv 2))); (case g61 => (refine' pe_op ?g63 ?g64 ?g65; (case g63 => (exact op_pow)); (case g64 => (exact pe_int)); (case g65 => (exact pe_int)))); (case g62 => (exact (nomark _))))); (case g57 => (refine' pss_one ?g66; (case g66 => (refine' ps_ret ?g67; (case g67 => (refine' pe_lst ?g68; (case g68 => (refine' pa_c ?g69 ?g70; (case g69 => (refine' pe_op ?g71 ?g72 ?g73; (case g71 => (exact op_sub)); (case g72 => (exact (pv 2))); (case g73 => (refine' pe_op ?g74 ?g75 ?g76; (case g74 => (exact op_pow)); (case g75 => (exact pe_int)); (case g76 => (exact pe_int)))))); (case g70 => (exact pa_nil)))))))))); (case g58 => (exact pss_nil)))); (case g55 => (refine' pss_cons ?g77 ?g78; (case g77 => (refine' ps_set ?g79 ?g80 ?g81 ?g82; (case g79 => (exact sc__law_digits.nd)); (case g80 => (exact (ixAt 3))); (case g81 => (exact (Or.inl rfl))); (case g82 => (exact pe_int)))); (case g78 => (refine' pss_cons ?g83 ?g84; (case g83 => (refine' ps_set ?g85 ?g86 ?g87 ?g88; (case g85 => (exact sc__law_digits.nd)); (case g86 => (exact (ixAt 4))); (case g87 => (exact (Or.inl rfl))); (case g88 => (refine' pe_op ?g89 ?g90 ?g91; (case g89 => (exact op_mod)); (case g90 => (refine' pe_op ?g92 ?g93 ?g94; (case g92 => (exact op_add)); (case g93 => (refine' pe_op ?g95 ?g96 ?g97; (case g95 => (exact op_add)); (case g96 => (refine' pe_op ?g98 ?g99 ?g100; (case g98 => (exact op_mul)); (case g99 => (exact (pv 2))); (case g100 => (exact pe_int)))); (case g97 => (refine' pe_op ?g101 ?g102 ?g103; (case g101 => (exact op_mul)); (case g102 => (exact pe_int)); (case g103 => (exact (pv 1))))))); (case g94 => (exact pe_int)))); (case g91 => (exact pe_int)))))); (case g84 => (refine' pss_cons ?g104 ?g105; (case g104 => (refine' ps_for ?g106 ?g107 ?g108 ?g109 ?g110; (case g106 => (exact PassesOwn.never)); (case g107 => (exact rfl)); (case g108 => (refine' pi_range1 ?g111 ?g112 ?g113; (case g111 => (exact rfl)); (case g112 => (exact T.b_range)); (case g113 => (refine' pa_c ?g114 ?g115; (case g114 => (exact pe_int)); (case g115 => (exact pa_nil)))))); (case g109 => (refine' pg_name ?g116 ?g117 ?g118 ?g119; (case g116 => (exact sc__law_digits.nd)); (case g117 => (exact (ixAt 5))); (case g118 => (exact (Or.inl rfl))); (case g119 => (exact (Or.inl rfl))))); (case g110 => (refine' pss_cons ?g120 ?g121; (case g120 => (refine' ps_set ?g122 ?g123 ?g124 ?g125; (case g122 => (exact sc__law_digits.nd)); (case g123 => (exact (ixAt 4))); (case g124 => (exact (Or.inl rfl))); (case g125 => (refine' pe_op ?g126 ?g127 ?g128; (case g126 => (exact op_mod)); (case g127 => (refine' pe_op ?g129 ?g130 ?g131; (case g129 => (exact op_add)); (case g130 => (refine' pe_op ?g132 ?g133 ?g134; (case g132 => (exact op_add)); (case g133 => (refine' pe_op ?g135 ?g136 ?g137; (case g135 => (exact op_mul)); (case g136 => (exact (pv 4))); (case g137 => (exact (pv 4))))); (case g134 => (refine' pe_op ?g138 ?g139 ?g140; (case g138 => (exact op_mul)); (case g139 => (exact pe_int)); (case g140 => (exact (pv 4))))))); (case g131 => (exact (pv 5))))); (case g128 => (exact pe_int)))))); (case g121 => (refine' pss_one ?g141; (case g141 => (refine' ps_set ?g142 ?g143 ?g144 ?g145; (case g142 => (exact sc__law_digits.nd)); (case g143 => (exact (ixAt 3))); (case g144 => (exact (Or.inl rfl))); (case g145 => (refine' pe_op ?g146 ?g147 ?g148; (case g146 => (exact op_add)); (case g147 => (refine' pe_op ?g149 ?g150 ?g151; (case g149 => (exact op_mul)); (case g150 => (exact (pv 3))); (case g151 => (exact pe_int)))); (case g148 => (refine' pe_op ?g152 ?g153 ?g154; (case g152 => (exact op_mod)); (case g153 => (refine' pe_op ?g155 ?g156 ?g157; (case g155 => (exact op_mul)); (case g156 => (exact (pv 4))); (case g157 => (exact pe_int)))); (case g154 => (exact pe_int)))))))))))))); (case g105 => (refine' pss_one ?g158; (case g158 => (refine' ps_ret ?g159; (case g159 => (refine' pe_lst ?g160; (case g160 => (refine' pa_c ?g161 ?g162; (case g161 => (exact (pv 3))); (case g162 => (exact pa_nil)))))))))))))))))))
  have hl : (ns.map V.int).length = ns.length := List.length_map _
  have d1 : CPow 10 18 := ⟨by decide, by decide, by decide⟩
  have one : ∀ x : V, ([x] : List V).length ≤ sizeLine := fun x => by show 1 ≤ sizeLine; decide
  refine ⟨_, rfl, _, rfl, a, _, rfl, .inl hS, _, _, rfl, rfl, _, rfl, ?_⟩
  refine ite2 (fun c => ?_) (fun c => ?_)
  · have c' : k < (((ns.map V.int).length : Nat) : Int) := of_decide_eq_true c
    rw [hl] at c'
    have hk : k.toNat < ns.length := by omega
    have hv : atI (ns.map V.int) k = some (.int ns[k.toNat]) := atI_pos h0 (by rw [List.getElem?_map, List.getElem?_eq_getElem hk] <;> rfl)
    refine ⟨_, rfl, _, rfl, a, _, _, _, rfl, rfl, hS, hv, ?_⟩
    refine ⟨_, rfl, _, _, rfl, rfl, d1, _, _, rfl, rfl, _, rfl, ?_⟩
    refine ite2 (fun c1 => ?_) (fun c1 => ?_)
    · exact ⟨_, rfl, _, _, rfl, rfl, d1, _, _, rfl, rfl, one _, fun p hp => q p _ hp⟩
    · refine ⟨_, rfl, _, _, rfl, rfl, .inr ⟨by decide, by decide⟩, _, rfl, _, _, rfl, rfl, .inl ⟨by decide, by decide⟩, _, _, rfl, rfl, _, _, rfl, rfl, _, _, rfl, rfl, (by show (0 : Int) < 2147483647; decide), ?_⟩
      refine ⟨12, rfl, by decide, by decide, for_range (n := 12) (fun i σ H2 => ∃ (c : Option V) (total number : Int) (t : Option V), σ = [some (V.ref a), some (V.int k), c, some (V.int total), some (V.int number), t] ∧ H2 = H ∧ 0 ≤ number ∧ number < 2147483648)
        ⟨_, _, _, _, rfl, rfl, Int.emod_nonneg _ (by decide), Int.lt_trans (Int.emod_lt_of_pos _ (by decide)) (by decide)⟩ ?_ ?_⟩
      · rintro i σ H2 hi ⟨c, total, number, t, rfl, rfl, n0, n1⟩
        refine ⟨_, rfl, _, rfl, _, _, rfl, rfl, .inl ⟨by omega, by omega⟩, _, rfl, _, _, rfl, rfl, .inl ⟨by decide, by decide⟩, _, _, rfl, rfl, _, rfl, _, _, rfl, rfl, _, _, rfl, rfl, (by show (0 : Int) < 2147483629; decide), ?_⟩
        refine ⟨_, rfl, _, _, rfl, rfl, .inr ⟨by decide, by decide⟩, _, rfl, _, _, rfl, rfl, .inr ⟨by decide, by decide⟩, _, _, rfl, rfl, (by show (0 : Int) < 2147483587; decide), _, _, rfl, rfl, ?_⟩
        exact ⟨_, _, _, _, rfl, rfl, Int.emod_nonneg _ (by decide), Int.lt_trans (Int.emod_lt_of_pos _ (by decide)) (by decide)⟩
      · rintro σ H2 ⟨c, total, number, t, rfl, rfl, _, _⟩
        exact ⟨_, rfl, one _, fun p hp => q p _ hp⟩
  · skip
    refine ⟨_, rfl, _, _, rfl, rfl, d1, _, _, rfl, rfl, _, rfl, ?_⟩
    refine ite2 (fun c1 => ?_) (fun c1 => ?_)
    · exact ⟨_, rfl, _, _, rfl, rfl, d1, _, _, rfl, rfl, one _, fun p hp => q p _ hp⟩
    · refine ⟨_, rfl, _, _, rfl, rfl, .inr ⟨by decide, by decide⟩, _, rfl, _, _, rfl, rfl, .inl ⟨by decide, by decide⟩, _, _, rfl, rfl, _, _, rfl, rfl, _, _, rfl, rfl, (by show (0 : Int) < 2147483647; decide), ?_⟩
      refine ⟨12, rfl, by decide, by decide, for_range (n := 12) (fun i σ H2 => ∃ (c : Option V) (total number : Int) (t : Option V), σ = [some (V.ref a), some (V.int k), c, some (V.int total), some (V.int number), t] ∧ H2 = H ∧ 0 ≤ number ∧ number < 2147483648)
        ⟨_, _, _, _, rfl, rfl, Int.emod_nonneg _ (by decide), Int.lt_trans (Int.emod_lt_of_pos _ (by decide)) (by decide)⟩ ?_ ?_⟩
      · rintro i σ H2 hi ⟨c, total, number, t, rfl, rfl, n0, n1⟩
        refine ⟨_, rfl, _, rfl, _, _, rfl, rfl, .inl ⟨by omega, by omega⟩, _, rfl, _, _, rfl, rfl, .inl ⟨by decide, by decide⟩, _, _, rfl, rfl, _, rfl, _, _, rfl, rfl, _, _, rfl, rfl, (by show (0 : Int) < 2147483629; decide), ?_⟩
        refine ⟨_, rfl, _, _, rfl, rfl, .inr ⟨by decide, by decide⟩, _, rfl, _, _, rfl, rfl, .inr ⟨by decide, by decide⟩, _, _, rfl, rfl, (by show (0 : Int) < 2147483587; decide), _, _, rfl, rfl, ?_⟩
        exact ⟨_, _, _, _, rfl, rfl, Int.emod_nonneg _ (by decide), Int.lt_trans (Int.emod_lt_of_pos _ (by decide)) (by decide)⟩
      · rintro σ H2 ⟨c, total, number, t, rfl, rfl, _, _⟩
        exact ⟨_, rfl, one _, fun p hp => q p _ hp⟩
abbrev s__law_bound : Stmt := top 35
theorem sc__law_bound : FnScope ["_law_held"] ["_law_held"] (defScope s__law_bound) := ⟨rfl, rfl, rfl, by decide +kernel, rfl, by decide +kernel, by decide +kernel⟩
theorem ok_lbound {f : Addr} {fd : FuncData} (F : Fun K "_law_bound" "_law_bound" s__law_bound f fd) (C__law_take : CallOk P w K mg base "_law_take" 1 ["_law_held", "_law_many"] spTake) : FnOk P w K mg base CX0 2 f fd ["_law_held"] spBound := by
  refine F.ok sc__law_bound (fun vs H Q E h => ?_) (fun cdv A outer s H vs Q E hr h => ?_)
  · obtain ⟨z, rfl, _⟩ := h
    rfl
  obtain ⟨z, rfl, c, q⟩ := h
  refine' ⟨_, ?hh, ?rr⟩
  case hh => (refine' pss_one ?g163; (case g163 => (refine' ps_ret ?g164; (case g164 => (refine' pe_ix ?g165 ?g166 ?g167 ?g168; (case g165 => (exact ix_D)); (case g166 => (refine' pe_lstD ?g169; (case g169 => (refine' pa_c ?g170 ?g171; (case g170 => (exact pe_int)); (case g171 => (refine' pa_c ?g172 ?g173; (case g172 => (exact pe_int)); (case g173 => (refine' pa_c ?g174 ?g175; (case g174 => (exact pe_int)); (case g175 => (refine' pa_c ?g176 ?g177; (case g176 => (exact pe_int)); (case g177 => (refine' pa_c ?g178 ?g179; (case g178 => (exact pe_int)); (case g179 => (refine' pa_c ?g180 ?g181; (case g180 => (exact pe_int)); (case g181 => (refine' pa_c ?g182 ?g183; (case g182 => (exact pe_int)); (case g183 => (refine' pa_c ?g184 ?g185; (case g184 => (refine' pe_op ?g186 ?g187 ?g188; (case g186 => (exact op_add)); (case g187 => (exact pe_int)); (case g188 => (refine' pe_cl ?g189 ?g190 ?g191 ?g192 ?g193; (case g189 => (exact C__law_take)); (case g190 => (exact hr)); (case g191 => (refine' pa_c ?g194 ?g195; (case g194 => (exact (pv 0))); (case g195 => (refine' pa_c ?g196 ?g197; (case g196 => (exact pe_int)); (case g197 => (exact pa_nil)))))); (case g192 => (exact rfl)); (case g193 => (decide)))))); (case g185 => (exact pa_nil)))))))))))))))))))); (case g167 => (refine' pe_cl ?g198 ?g199 ?g200 ?g201 ?g202; (case g198 => (exact C__law_take)); (case g199 => (exact hr)); (case g200 => (refine' pa_c ?g203 ?g204; (case g203 => (exact (pv 0))); (case g204 => (refine' pa_c ?g205 ?g206; (case g205 => (exact pe_int)); (case g206 => (exact pa_nil)))))); (case g201 => (exact rfl)); (case g202 => (decide)))); (case g168 => (exact (fun _ _ => rfl))))))))
  refine ⟨_, rfl, z, 99, rfl, c, by decide, by decide, fun i H1 i0 i1 s1 => ?_⟩
  refine ⟨_, _, rfl, rfl, z, [.int 1, .int 1, .int 2, .int 2, .int 3, .int 5, .int 99, .int (1 + i)], ⟨_, _, rfl, rfl, _, _, rfl, rfl, _, _, rfl, rfl, _, _, rfl, rfl, _, _, rfl, rfl, _, _, rfl, rfl, _, _, rfl, rfl, _, _, rfl, rfl, rfl⟩, (by show 8 ≤ 1000; decide), s1.cz, fun v H2 s2 f2 => ?_⟩
  refine ⟨_, rfl, z, 8, rfl, s2.cz, by decide, by decide, fun k H3 k0 k1 s3 => ?_⟩
  obtain ⟨d, hd, md⟩ := get_in (xs := [PyData.int 1, .int 1, .int 2, .int 2, .int 3, .int 5, .int 99, .int (1 + i)]) k0 (by show k < 8; exact k1)
  refine ⟨z, _, k, d, .inr (f2.stp s3), rfl, k0, hd, fun v fv => ?_⟩
  obtain ⟨j, rfl, j1, j2⟩ : ∃ j : Int, d = .int j ∧ 1 ≤ j ∧ j ≤ 99 := by
    simp only [List.mem_cons, List.not_mem_nil, or_false] at md
    rcases md with rfl | rfl | rfl | rfl | rfl | rfl | rfl | rfl <;> exact ⟨_, rfl, by omega, by omega⟩
  obtain rfl : v = .int j := fv
  exact q j H3 j1 j2 ((s1.trans s2).trans s3)
abbrev s__law_words : Stmt := top 34
theorem sc__law_words : FnScope ["_law_held", "_law_many", "_law_letters", "_law_word", "_law_at", "_law_start", "_law_signs", "_law_ahead", "_law_behind", "_law_turned", "_law_found"] ["_law_held", "_law_many"] (defScope s__law_words) := ⟨rfl, rfl, rfl, by decide +kernel, rfl, by decide +kernel, by decide +kernel⟩
theorem ok_words {f : Addr} {fd : FuncData} (F : Fun K "_law_words" "_law_words" s__law_words f fd) (T : Txt K mg) (C__law_take : CallOk P w K mg base "_law_take" 1 ["_law_held", "_law_many"] spTake) : FnOk P w K mg base CX0 2 f fd ["_law_held", "_law_many"] spWords := by
  refine F.ok sc__law_words (fun vs H Q E h => ?_) (fun cdv A outer s H vs Q E hr h => ?_)
  · obtain ⟨z, rfl, _⟩ := h
    rfl
  obtain ⟨z, rfl, c, q⟩ := h
  refine' ⟨_, ?hh, ?rr⟩
  case hh => (refine' pss_cons ?g207 ?g208; (case g207 => (refine' ps_set ?g209 ?g210 ?g211 ?g212; (case g209 => (exact sc__law_words.nd)); (case g210 => (exact (ixAt 2))); (case g211 => (exact (Or.inr rfl))); (case g212 => (exact pe_str)))); (case g208 => (refine' pss_cons ?g213 ?g214; (case g213 => (refine' ps_set ?g215 ?g216 ?g217 ?g218; (case g215 => (exact sc__law_words.nd)); (case g216 => (exact (ixAt 3))); (case g217 => (exact (Or.inl rfl))); (case g218 => (refine' pe_bm ?g219 ?g220 ?g221 ?g222 ?g223 ?g224; (case g219 => (exact PySem.F.plainAttrs_str)); (case g220 => (exact PySem.F.slot_str_join)); (case g221 => (exact PySem.F.type_str_join)); (case g222 => (exact mt_join)); (case g223 => (exact pe_str)); (case g224 => (refine' pa_c ?g225 ?g226; (case g225 => (refine' pe_lcomp ?g227 ?g228 ?g229 ?g230 ?g231 ?g232 ?g233 ?g234 ?g235 ?g236; (case g227 => (exact rfl)); (case g228 => (exact ⟨rfl, by decide +kernel, by decide +kernel, (show ∀ y : Str × NameKind, y ∈ _ → y.2 = NameKind.free → (defScope s__law_words).names.lookup y.1 = some .cell ∨ (defScope s__law_words).names.lookup y.1 = some .free from by decide +kernel)⟩)); (case g229 => (exact (compN ["_law_k", "_law_held", "_law_letters"] 1 [0, 2]))); (case g230 => (decide +kernel)); (case g231 => (decide)); (case g232 => (refine' pi_range1 ?g237 ?g238 ?g239; (case g237 => (exact rfl)); (case g238 => (exact T.b_range)); (case g239 => (refine' pa_c ?g240 ?g241; (case g240 => (refine' pe_op ?g242 ?g243 ?g244; (case g242 => (exact op_add)); (case g243 => (exact pe_int)); (case g244 => (refine' pe_cl ?g245 ?g246 ?g247 ?g248 ?g249; (case g245 => (exact C__law_take)); (case g246 => (exact hr)); (case g247 => (refine' pa_c ?g250 ?g251; (case g250 => (exact (pv 0))); (case g251 => (refine' pa_c ?g252 ?g253; (case g252 => (exact pe_int)); (case g253 => (exact pa_nil)))))); (case g248 => (exact rfl)); (case g249 => (decide)))))); (case g241 => (exact pa_nil)))))); (case g233 => (intro _ _ _ _; refine' pg_name ?g254 ?g255 ?g256 ?g257; (case g254 => (exact (show (["_law_k", "_law_held", "_law_letters"] : List Str).Nodup from by decide +kernel))); (case g255 => (exact (ixAt 0))); (case g256 => (exact (Or.inl rfl))); (case g257 => (exact (Or.inr rfl))))); (case g234 => (exact (gown_name (by decide)))); (case g235 => (intro _ _ _ _; exact pts_nil)); (case g236 => (intro _ _ _ _; refine' pe_ix ?g258 ?g259 ?g260 ?g261; (case g258 => (exact ix_str)); (case g259 => (exact (pv 2))); (case g260 => (refine' pe_cl ?g262 ?g263 ?g264 ?g265 ?g266; (case g262 => (exact C__law_take)); (case g263 => (exact hr)); (case g264 => (refine' pa_c ?g267 ?g268; (case g267 => (exact (pv 1))); (case g268 => (refine' pa_c ?g269 ?g270; (case g269 => (exact pe_int)); (case g270 => (exact pa_nil)))))); (case g265 => (exact rfl)); (case g266 => (decide)))); (case g261 => (exact (fun _ _ => rfl))))))); (case g226 => (exact pa_nil)))))))); (case g214 => (refine' pss_cons ?g271 ?g272; (case g271 => (refine' ps_set ?g273 ?g274 ?g275 ?g276; (case g273 => (exact sc__law_words.nd)); (case g274 => (exact (ixAt 4))); (case g275 => (exact (Or.inl rfl))); (case g276 => (refine' pe_cl ?g277 ?g278 ?g279 ?g280 ?g281; (case g277 => (exact C__law_take)); (case g278 => (exact hr)); (case g279 => (refine' pa_c ?g282 ?g283; (case g282 => (exact (pv 0))); (case g283 => (refine' pa_c ?g284 ?g285; (case g284 => (refine' pe_callB ?g286 ?g287 ?g288 ?g289 ?g290; (case g286 => (exact call_len_str)); (case g287 => (exact rfl)); (case g288 => (exact T.b_len)); (case g289 => (exact PySem.boot_len)); (case g290 => (refine' pa_c ?g291 ?g292; (case g291 => (exact (pv 3))); (case g292 => (exact pa_nil)))))); (case g285 => (exact pa_nil)))))); (case g280 => (exact rfl)); (case g281 => (decide)))))); (case g272 => (refine' pss_cons ?g293 ?g294; (case g293 => (refine' ps_set ?g295 ?g296 ?g297 ?g298; (case g295 => (exact sc__law_words.nd)); (case g296 => (exact (ixAt 5))); (case g297 => (exact (Or.inl rfl))); (case g298 => (refine' pe_cl ?g299 ?g300 ?g301 ?g302 ?g303; (case g299 => (exact C__law_take)); (case g300 => (exact hr)); (case g301 => (refine' pa_c ?g304 ?g305; (case g304 => (exact (pv 0))); (case g305 => (refine' pa_c ?g306 ?g307; (case g306 => (exact pe_int)); (case g307 => (exact pa_nil)))))); (case g302 => (exact rfl)); (case g303 => (decide)))))); (case g294 => (refine' pss_cons ?g308 ?g309; (case g308 => (refine' ps_set ?g310 ?g311 ?g312 ?g313; (case g310 => (exact sc__law_words.nd)); (case g311 => (exact (ixAt 6))); (case g312 => (exact (Or.inl rfl))); (case g313 => (exact pe_str)))); (case g309 => (refine' pss_cons ?g314 ?g315; (case g314 => (refine' ps_set ?g316 ?g317 ?g318 ?g319; (case g316 => (exact sc__law_words.nd)); (case g317 => (exact (ixAt 7))); (case g318 => (exact (Or.inr rfl))); (case g319 => (refine' pe_slice ?g320 ?g321 ?g322 ?g323; (case g320 => (exact sl_str)); (case g321 => (exact (pv 3))); (case g322 => (exact po_none)); (case g323 => (refine' po_some ?g324; (case g324 => (exact (pv 4))))))))); (case g315 => (refine' pss_cons ?g325 ?g326; (case g325 => (refine' ps_set ?g327 ?g328 ?g329 ?g330; (case g327 => (exact sc__law_words.nd)); (case g328 => (exact (ixAt 8))); (case g329 => (exact (Or.inr rfl))); (case g330 => (refine' pe_slice ?g331 ?g332 ?g333 ?g334; (case g331 => (exact sl_str)); (case g332 => (exact (pv 3))); (case g333 => (refine' po_some ?g335; (case g335 => (refine' pe_op ?g336 ?g337 ?g338; (case g336 => (exact op_add)); (case g337 => (exact (pv 4))); (case g338 => (exact pe_int)))))); (case g334 => (exact po_none)))))); (case g326 => (refine' pss_cons ?g339 ?g340; (case g339 => (refine' ps_set ?g341 ?g342 ?g343 ?g344; (case g341 => (exact sc__law_words.nd)); (case g342 => (exact (ixAt 9))); (case g343 => (exact (Or.inl rfl))); (case g344 => (refine' pe_op ?g345 ?g346 ?g347; (case g345 => (exact op_add_str)); (case g346 => (refine' pe_slice ?g348 ?g349 ?g350 ?g351; (case g348 => (exact sl_str)); (case g349 => (exact (pv 6))); (case g350 => (refine' po_some ?g352; (case g352 => (exact (pv 5))))); (case g351 => (exact po_none)))); (case g347 => (refine' pe_slice ?g353 ?g354 ?g355 ?g356; (case g353 => (exact sl_str)); (case g354 => (exact (pv 6))); (case g355 => (exact po_none)); (case g356 => (refine' po_some ?g357; (case g357 => (exact (pv 5))))))))))); (case g340 => (refine' pss_cons ?g358 ?g359; (case g358 => (refine' ps_setC ?g360 ?g361 ?g362 ?g363 ?g364 ?g365 ?g366 ?g367 ?g368 ?g369 ?g370 ?g371 ?g372; (case g360 => (exact sc__law_words.nd)); (case g361 => (exact (ixAt 10))); (case g362 => (exact (Or.inl rfl))); (case g363 => (exact rfl)); (case g364 => (exact ⟨rfl, by decide +kernel, by decide +kernel, (show ∀ y : Str × NameKind, y ∈ _ → y.2 = NameKind.free → (defScope s__law_words).names.lookup y.1 = some .cell ∨ (defScope s__law_words).names.lookup y.1 = some .free from by decide +kernel)⟩)); (case g365 => (exact (compN ["_law_sign", "_law_ahead", "_law_behind"] 1 [7, 8]))); (case g366 => (decide +kernel)); (case g367 => (decide)); (case g368 => (refine' pi_str ?g373; (case g373 => (exact (pv 9))))); (case g369 => (intro _ _ _ _; refine' pg_name ?g374 ?g375 ?g376 ?g377; (case g374 => (exact (show (["_law_sign", "_law_ahead", "_law_behind"] : List Str).Nodup from by decide +kernel))); (case g375 => (exact (ixAt 0))); (case g376 => (exact (Or.inl rfl))); (case g377 => (exact (Or.inr rfl))))); (case g370 => (exact (gown_name (by decide)))); (case g371 => (intro _ _ _ _; exact pts_nil)); (case g372 => (intro _ _ _ _; refine' pe_op ?g378 ?g379 ?g380; (case g378 => (exact op_add_str)); (case g379 => (refine' pe_op ?g381 ?g382 ?g383; (case g381 => (exact op_add_str)); (case g382 => (exact (pv 1))); (case g383 => (exact (pv 0))))); (case g380 => (exact (pv 2))))))); (case g359 => (refine' pss_one ?g384; (case g384 => (refine' ps_ret ?g385; (case g385 => (refine' pe_slice ?g386 ?g387 ?g388 ?g389; (case g386 => (exact sl_listD)); (case g387 => (refine' pe_op ?g390 ?g391 ?g392; (case g390 => (exact op_catLD)); (case g391 => (exact (pv 10))); (case g392 => (refine' pe_lcomp ?g393 ?g394 ?g395 ?g396 ?g397 ?g398 ?g399 ?g400 ?g401 ?g402; (case g393 => (exact rfl)); (case g394 => (exact ⟨rfl, by decide +kernel, by decide +kernel, (show ∀ y : Str × NameKind, y ∈ _ → y.2 = NameKind.free → (defScope s__law_words).names.lookup y.1 = some .cell ∨ (defScope s__law_words).names.lookup y.1 = some .free from by decide +kernel)⟩)); (case g395 => (exact (compN ["_law_one"] 1 []))); (case g396 => (decide +kernel)); (case g397 => (decide)); (case g398 => (refine' pi_list ?g403; (case g403 => (exact (pv 10))))); (case g399 => (intro _ _ _ _; refine' pg_name ?g404 ?g405 ?g406 ?g407; (case g404 => (exact (show (["_law_one"] : List Str).Nodup from by decide +kernel))); (case g405 => (exact (ixAt 0))); (case g406 => (exact (Or.inl rfl))); (case g407 => (exact (Or.inr rfl))))); (case g400 => (exact (gown_name (by decide)))); (case g401 => (intro _ _ _ _; exact pts_nil)); (case g402 => (intro _ _ _ _; refine' pe_op ?g408 ?g409 ?g410; (case g408 => (exact op_add_str)); (case g409 => (exact (pv 0))); (case g410 => (exact pe_str)))))))); (case g388 => (exact po_none)); (case g389 => (refine' po_some ?g411; (case g411 => (exact (pv 1))))))))))))))))))))))))))))
  refine ⟨rfl, _, rfl, z, 7, rfl, c, by decide, by decide, fun m H1 m0 m1 s1 => ?_⟩
  refine ⟨_, _, rfl, rfl, _, rfl, by omega, by omega, lcomp_by0 yields_range (fun i xs H3 => Stp z H H3 ∧ ∃ l : List Nat, xs = (l.map fun c => tx [c]).map V.str ∧ l.length = i ∧ ∀ c ∈ l, 97 ≤ c ∧ c ≤ 109) ⟨s1, [], rfl, rfl, by simp⟩ (fun _ _ _ _ => trivial) ?_ ?_⟩
  · rintro i x xs H3 hx hi ⟨s3, l, rfl, hl, hc⟩
    rw [List.length_map, List.length_range] at hi
    have hi' : i < 8 := by omega
    refine ⟨_, rfl, _, rfl, z, 13, rfl, s3.cz, by decide, by decide, fun k H4 k0 k1 s4 => ?_⟩
    obtain ⟨c1, hc1, mc1⟩ := atI_in (xs := (("abcdefghijklm" : Str)).cps.toList) (i := k) k0 (by
      have : ((("abcdefghijklm" : Str)).cps.toList.length : Int) = 13 := by decide +kernel
      rw [this]
      exact k1)
    refine ⟨_, _, c1, rfl, rfl, line (by decide +kernel), hc1, ?_, nx (by rw [List.length_map, List.length_range]; exact hi) ⟨s3.trans s4, l ++ [c1], ?_, by simp [hl], ?_⟩⟩
    · rw [List.length_map, List.length_map, hl]
      exact small1000 (by omega)
    · rw [List.map_append, List.map_append]
      rfl
    · intro y hm
      rcases List.mem_append.mp hm with hm | hm
      · exact hc y hm
      · simp only [List.mem_cons, List.not_mem_nil, or_false] at hm
        subst hm
        exact am_in _ mc1
  · rintro xs H3 ⟨s3, l, rfl, hl, hc⟩ a ha
    rw [List.length_map, List.length_range] at hl
    have hl1 : 1 ≤ l.length := by omega
    have hl7 : l.length ≤ 7 := by omega
    have s4 : Stp z H (upd H3 a (.lst ((l.map fun c => tx [c]).map V.str))) := s3.trans (Stp.of s3.cz (Ext.new ha _))
    refine ⟨_, a, _, rfl, rfl, SqL.of upd_same, (by rw [map_len1, List.length_map, show (("" : Str)).length = 0 by decide +kernel]; omega), ?_⟩
    generalize upd H3 a (.lst ((l.map fun c => tx [c]).map V.str)) = H4 at s4 ⊢
    generalize hj : Txt.join ("" : Str) (l.map fun c => tx [c]) = wd
    rw [tx_join] at hj
    subst hj
    have hw : (tx l).length ≤ sizeLine := line (by rw [tx_len]; omega)
    refine ⟨_, rfl, _, rfl, _, rfl, hw, z, _, rfl, s4.cz, (by rw [tx_len]; omega), (by rw [tx_len]; omega), fun k H5 k0 k1 s5 => ?_⟩
    rw [tx_len] at k1
    refine ⟨_, rfl, z, 26, rfl, s5.cz, by decide, by decide, fun st H6 st0 st1 s6 => ?_⟩
    have s06 := (s4.trans s5).trans s6
    refine ⟨_, rfl, _, rfl, _, rfl, _, rfl, hw, ?_⟩
    generalize ha' : Txt.slice (tx l) none (some k) = ahead
    rw [tx_slice_to k0 (by omega)] at ha'
    subst ha'
    refine ⟨_, rfl, _, rfl, _, _, rfl, rfl, _, rfl, _, rfl, hw, ?_⟩
    generalize hb' : Txt.slice (tx l) (some (k + 1)) none = behind
    rw [tx_slice_from (by omega) (by omega)] at hb'
    subst hb'
    have hz26 : (("abcdefghijklmnopqrstuvwxyz" : Str)).length ≤ sizeLine := line (by decide +kernel)
    refine ⟨_, rfl, _, rfl, _, rfl, _, rfl, hz26, _, rfl, _, rfl, _, rfl, _, rfl, hz26, _, _, rfl, rfl, ?_, ?_⟩
    · have h1 := Txt.slice_le ("abcdefghijklmnopqrstuvwxyz" : Str) (some st) none
      have h2 := Txt.slice_le ("abcdefghijklmnopqrstuvwxyz" : Str) none (some st)
      have h3 : (("abcdefghijklmnopqrstuvwxyz" : Str)).length = 26 := by decide +kernel
      exact line (by omega)
    generalize ht : Txt.slice ("abcdefghijklmnopqrstuvwxyz" : Str) (some st) none ++ Txt.slice ("abcdefghijklmnopqrstuvwxyz" : Str) none (some st) = turned
    rw [az_tx, tx_slice_from st0 (by show st ≤ 26; omega), tx_slice_to st0 (by show st ≤ 26; omega), tx_append] at ht
    subst ht
    have nodup := az_turned st.toNat (by omega)
    have inaz : ∀ c ∈ azl.drop st.toNat ++ azl.take st.toNat, 97 ≤ c ∧ c ≤ 122 := fun c hc => by
      rcases List.mem_append.mp hc with h | h
      · exact az_in c (List.mem_of_mem_drop h)
      · exact az_in c (List.mem_of_mem_take h)
    have hlen : (azl.drop st.toNat ++ azl.take st.toNat).length = 26 := by
      rw [List.length_append, List.length_drop, List.length_take, show azl.length = 26 by decide]
      omega
    have hA : ∀ x ∈ l.take k.toNat, 97 ≤ x ∧ x ≤ 109 := fun x hx => hc x (List.mem_of_mem_take hx)
    have hB : ∀ x ∈ l.drop (k + 1).toNat, 97 ≤ x ∧ x ≤ 109 := fun x hx => hc x (List.mem_of_mem_drop hx)
    have hAB : (l.take k.toNat).length + (l.drop (k + 1).toNat).length ≤ 6 := by
      rw [List.length_take, List.length_drop]
      omega
    generalize l.take k.toNat = A' at hA hAB ⊢
    generalize l.drop (k + 1).toNat = B' at hB hAB ⊢
    generalize azl.drop st.toNat ++ azl.take st.toNat = S at nodup inaz hlen ⊢
    refine ⟨_, rfl, _, rfl, lcomp_by0 yields_str (fun i xs H7 => H7 = H6 ∧ xs = (namesOf A' B' (S.take i)).map V.str) ⟨rfl, rfl⟩ (fun _ _ _ _ => trivial) ?_ ?_⟩
    · rintro i y xs H7 hy hi ⟨rfl, rfl⟩
      have hi2 := hi
      rw [sgV_tx] at hy
      rw [sgV_tx, List.length_map] at hi
      rw [List.getElem?_map, List.getElem?_eq_getElem hi] at hy
      obtain rfl := Option.some.inj hy
      have l1 : ∀ c : Nat, (tx [c]).length = 1 := fun c => tx_len _
      refine ⟨_, rfl, _, rfl, _, _, rfl, rfl, line (by rw [tx_len, l1]; omega), _, rfl, _, _, rfl, rfl, line (by rw [Str.length_append, tx_len, l1, tx_len]; omega), ?_, nx hi2 ⟨rfl, ?_⟩⟩
      · rw [List.length_map]
        unfold namesOf
        rw [List.length_map, List.length_take]
        exact small1000 (by omega)
      · rw [tx_append, tx_append, List.append_assoc]
        unfold namesOf
        rw [List.take_add_one, List.getElem?_eq_getElem hi, List.map_append, List.map_append]
        rfl
    · rintro xs H7 ⟨rfl, rfl⟩ b hb
      have e7 : (sgV (tx S)).length = S.length := by rw [sgV_tx, List.length_map]
      rw [e7, List.take_length]
      have e8 : Ext [] H7 (upd H7 b (.lst ((namesOf A' B' S).map V.str))) := Ext.new hb _
      have s8 : Stp z H7 (upd H7 b (.lst ((namesOf A' B' S).map V.str))) := Stp.of s06.cz e8
      have f8 : IsD z.ex (upd H7 b (.lst ((namesOf A' B' S).map V.str))) (.list ((namesOf A' B' S).map .str)) (.ref b) := ⟨b, _, rfl, s06.cz.free hb, upd_same, IsDs.strs _⟩
      have hb8 : (upd H7 b (.lst ((namesOf A' B' S).map V.str))) b = some (.lst ((namesOf A' B' S).map V.str)) := upd_same
      generalize upd H7 b (.lst ((namesOf A' B' S).map V.str)) = H8 at s8 f8 hb8 ⊢
      have hnl : (namesOf A' B' S).length = 26 := by unfold namesOf; rw [List.length_map, hlen]
      have hnn : ∀ x ∈ namesOf A' B' S, x.length ≤ 8 := fun x hx => by
        obtain ⟨y, _, rfl⟩ := List.mem_map.mp hx
        rw [tx_len, List.length_append, List.length_cons]
        omega
      have nd : (namesOf A' B' S).Nodup := names_nodup nodup
      have nms : ∀ x ∈ namesOf A' B' S, nm x = true := fun x hx => by
        obtain ⟨y, hy, rfl⟩ := List.mem_map.mp hx
        exact name_ok (by omega) hA hB (inaz y hy)
      generalize namesOf A' B' S = names at hnl hnn nd nms f8 hb8 ⊢
      refine ⟨_, rfl, _, rfl, b, rfl, ⟨_, SqL.of hb8⟩, lcomp_by0 (yields_list (ys := names.map V.str)) (fun i xs H9 => H9 = H8 ∧ xs = ((names.take i).map fun x => x ++ ("z" : Str)).map V.str) ⟨rfl, rfl⟩ (fun _ _ _ h => by rw [h.1]; exact SqL.of hb8) ?_ ?_⟩
      · rintro i y xs H9 hy hi ⟨rfl, rfl⟩
        have hi2 := hi
        rw [List.length_map] at hi
        rw [List.getElem?_map, List.getElem?_eq_getElem hi] at hy
        obtain rfl := Option.some.inj hy
        have hx := hnn _ (List.getElem_mem hi)
        refine ⟨_, rfl, _, _, rfl, rfl, line (by rw [show (("z" : Str)).length = 1 by decide +kernel]; omega), ?_, nx hi2 ⟨rfl, ?_⟩⟩
        · rw [List.length_map, List.length_map, List.length_take]
          exact small1000 (by omega)
        · rw [List.take_add_one, List.getElem?_eq_getElem hi, List.map_append, List.map_append]
          rfl
      · rintro xs H9 ⟨rfl, rfl⟩ b2 hb2
        rw [List.length_map, List.take_length]
        have s9 : Stp z H9 (upd H9 b2 (.lst ((names.map fun x => x ++ ("z" : Str)).map V.str))) := Stp.of s8.cz (Ext.new hb2 _)
        have f9 : IsD z.ex (upd H9 b2 (.lst ((names.map fun x => x ++ ("z" : Str)).map V.str))) (.list ((names.map fun x => x ++ ("z" : Str)).map .str)) (.ref b2) := ⟨b2, _, rfl, s8.cz.free hb2, upd_same, IsDs.strs _⟩
        generalize upd H9 b2 (.lst ((names.map fun x => x ++ ("z" : Str)).map V.str)) = H10 at s9 f9 ⊢
        refine ⟨z, _, _, f8.stp s9, f9, (by simp [hnl]), s9.cz, fun v H11 s11 f11 => ?_⟩
        refine ⟨_, rfl, _, rfl, z, _, f11, s11.cz, fun v2 H12 s12 f12 => ?_⟩
        rw [cut_to (by decide), List.take_append_of_le_length (by rw [List.length_map, hnl]; decide), ← List.map_take] at f12
        exact q _ v2 H12 (by rw [List.length_take, hnl]; rfl) (nd.sublist (List.take_sublist _ _)) (fun x hx => nms x (List.mem_of_mem_take hx)) ((((s06.trans s8).trans s9).trans s11).trans s12) f12
end
end K04
end

section
set_option Elab.async false
set_option linter.all false
set_option maxRecDepth 100000
set_option maxHeartbeats 1000000
namespace K04
open PySem PySem.Spec L2 PyProof.Rows
def spPlan : Sp := fun vs H Q _ => ∃ z : Zn, vs = [.ref z.p] ∧ Cz z H ∧ ∀ (d : PyData) (v : V) (H' : Hp), planD d = true → Stp z H H' → IsD z.ex H' d v → Q v H'
theorem shaped_ints (w : List Int) : SeqAt.shaped (.list (w.map .int)) = true := by
  have h1 : PyData.canLayAll0 (w.map .int) = true := by
    induction w with
    | nil => rfl
    | cons x r ih =>
      rw [List.map_cons]
      show (PyData.canLay0 (.int x) && PyData.canLayAll0 (r.map .int)) = true
      rw [ih]
      rfl
  have h2 : PyData.depthAll (w.map .int) = 0 := by
    induction w with
    | nil => rfl
    | cons x r ih =>
      rw [List.map_cons]
      show max (PyData.depth (.int x)) (PyData.depthAll (r.map .int)) = 0
      rw [ih]
      · rfl
      · have h1' : (PyData.canLay0 (.int x) && PyData.canLayAll0 (r.map .int)) = true := h1
        exact (Bool.and_eq_true_iff.mp h1').2
  show (PyData.canLayAll0 (w.map .int) && decide (PyData.depthAll (w.map .int) + 1 ≤ 64)) = true
  rw [h1, h2]
  rfl
theorem eqv_nil (w : List Int) : PyData.eqv (.list (w.map .int)) (.list []) = w.isEmpty := by
  cases w <;> rfl
theorem way_ok {n : Int} : ∀ {w : List Int} {a : Int}, w.Pairwise (· < ·) → (∀ x ∈ w, a < x ∧ x < n) → wayOk n a (w.map .int) = true
  | [], _, _, _ => rfl
  | x :: r, a, hp, hb => by
    have h1 := hb x List.mem_cons_self
    rw [List.map_cons]
    show ((decide (a < x) && decide (x < n)) && wayOk n x (r.map .int)) = true
    rw [decide_eq_true h1.1, decide_eq_true h1.2, way_ok (w := r) (a := x) (List.pairwise_cons.mp hp).2 fun y hy => ⟨(List.pairwise_cons.mp hp).1 y hy, (hb y (List.mem_cons_of_mem _ hy)).2⟩]
    rfl
theorem bounds_ok {bs : List Int} (h : ∀ x ∈ bs, 1 ≤ x ∧ x ≤ 99) : (bs.map PyData.int).all boundD = true := by
  rw [List.all_eq_true]
  intro d hd
  obtain ⟨x, hx, rfl⟩ := List.mem_map.mp hd
  have := h x hx
  show (decide _ && decide _) = true
  rw [decide_eq_true this.1, decide_eq_true this.2]
  rfl
theorem kind_ok {n : Nat} {x : Str} {w bs : List Int} (hx : nm x = true) (h0 : w ≠ []) (hn : w.length ≤ n) (hp : w.Pairwise (· < ·)) (hb : ∀ x ∈ w, 0 ≤ x ∧ x < (n : Int)) (hl : bs.length = w.length) (hbb : ∀ x ∈ bs, 1 ≤ x ∧ x ≤ 99) : kindD n (.tuple [.str x, .tuple (w.map .int), .tuple (bs.map .int)]) = true := by
  have l0 : 1 ≤ w.length := by cases w with | nil => exact absurd rfl h0 | cons _ _ => simp
  show (nm x && ((tupD (.tuple (w.map .int)) 1 n && wayOk n (-1) (w.map .int)) && (tupD (.tuple (bs.map .int)) ((w.map PyData.int).length : Nat) ((w.map PyData.int).length : Nat) && (bs.map PyData.int).all boundD))) = true
  have t1 : tupD (.tuple (w.map .int)) 1 n = true := by
    show (decide ((1 : Int) ≤ ((w.map PyData.int).length : Nat)) && decide ((((w.map PyData.int).length : Nat) : Int) ≤ n)) = true
    rw [List.length_map, decide_eq_true (by omega), decide_eq_true (by omega)]
    rfl
  have t2 : tupD (.tuple (bs.map .int)) ((w.map PyData.int).length : Nat) ((w.map PyData.int).length : Nat) = true := by
    show (decide ((((w.map PyData.int).length : Nat) : Int) ≤ ((bs.map PyData.int).length : Nat)) && decide ((((bs.map PyData.int).length : Nat) : Int) ≤ ((w.map PyData.int).length : Nat))) = true
    rw [List.length_map, List.length_map, hl, decide_eq_true (by omega)]
    rfl
  rw [hx, t1, t2, way_ok hp (fun y hy => ⟨by have := hb y hy; omega, (hb y hy).2⟩), bounds_ok hbb]
  rfl
theorem plan_ok {ls ks : List PyData} (l1 : 1 ≤ ls.length) (l6 : ls.length ≤ 6) (k1 : 1 ≤ ks.length) (k6 : ks.length ≤ 6) (hl : ∀ d ∈ ls, laneD d = true) (hk : ∀ d ∈ ks, kindD (ls.length : Nat) d = true) (nl : (ls.map firstD).Nodup) (nk : (ks.map firstD).Nodup) : planD (.tuple [.tuple ls, .tuple ks]) = true := by
  show ((tupD (.tuple ls) 1 6 && (ls.all laneD && unlikeD ls)) && (tupD (.tuple ks) 1 6 && (ks.all (kindD (ls.length : Nat)) && unlikeD ks))) = true
  have t : ∀ {ds : List PyData}, 1 ≤ ds.length → ds.length ≤ 6 → tupD (.tuple ds) 1 6 = true := fun {ds} h1 h2 => by
    show (decide ((1 : Int) ≤ (ds.length : Nat)) && decide (((ds.length : Nat) : Int) ≤ 6)) = true
    rw [decide_eq_true (by omega), decide_eq_true (by omega)]
    rfl
  rw [t l1 l6, t k1 k6, List.all_eq_true.mpr hl, List.all_eq_true.mpr hk, show unlikeD ls = true from decide_eq_true nl, show unlikeD ks = true from decide_eq_true nk]
  rfl
section
variable {P : Program} {w : World} {K : PySem.W.Frag} {mg : Str → Option Value} {base : Heap}
abbrev s__law_plan : Stmt := top 36
theorem sc__law_plan : FnScope ["_law_held", "_law_names", "_law_lanes", "_law_k", "_law_shift", "_law_kinds", "_law_way", "_law_bounds"] ["_law_held"] (defScope s__law_plan) := ⟨rfl, rfl, rfl, by decide +kernel, rfl, by decide +kernel, by decide +kernel⟩
theorem ok_lplan {f : Addr} {fd : FuncData} (F : Fun K "_law_plan" "_law_plan" s__law_plan f fd) (T : Txt K mg) (C__law_take : CallOk P w K mg base "_law_take" 1 ["_law_held", "_law_many"] spTake) (C__law_words : CallOk P w K mg base "_law_words" 2 ["_law_held", "_law_many"] spWords) (C__law_bound : CallOk P w K mg base "_law_bound" 2 ["_law_held"] spBound) : FnOk P w K mg base CX0 3 f fd ["_law_held"] spPlan := by
  refine F.ok sc__law_plan (fun vs H Q E h => ?_) (fun cdv A outer s H vs Q E hr h => ?_)
  · obtain ⟨z, rfl, _⟩ := h
    rfl
  obtain ⟨z, rfl, c, q⟩ := h
  have hu := hr.units
  refine' ⟨_, ?hh, ?rr⟩
  case hh => (refine' pss_cons ?g1 ?g2; (case g1 => (refine' ps_set ?g3 ?g4 ?g5 ?g6; (case g3 => (exact sc__law_plan.nd)); (case g4 => (exact (ixAt 1))); (case g5 => (exact (Or.inl rfl))); (case g6 => (refine' pe_cl ?g7 ?g8 ?g9 ?g10 ?g11; (case g7 => (exact C__law_words)); (case g8 => (exact hr)); (case g9 => (refine' pa_c ?g12 ?g13; (case g12 => (exact (pv 0))); (case g13 => (refine' pa_c ?g14 ?g15; (case g14 => (exact pe_int)); (case g15 => (exact pa_nil)))))); (case g10 => (exact rfl)); (case g11 => (decide)))))); (case g2 => (refine' pss_cons ?g16 ?g17; (case g16 => (refine' ps_set ?g18 ?g19 ?g20 ?g21; (case g18 => (exact sc__law_plan.nd)); (case g19 => (exact (ixAt 2))); (case g20 => (exact (Or.inl rfl))); (case g21 => (refine' pe_lst ?g22; (case g22 => (exact pa_nil)))))); (case g17 => (refine' pss_cons ?g23 ?g24; (case g23 => (refine' ps_for ?g25 ?g26 ?g27 ?g28 ?g29; (case g25 => (exact PassesOwn.never)); (case g26 => (exact rfl)); (case g27 => (refine' pi_range1 ?g30 ?g31 ?g32; (case g30 => (exact rfl)); (case g31 => (exact T.b_range)); (case g32 => (refine' pa_c ?g33 ?g34; (case g33 => (refine' pe_op ?g35 ?g36 ?g37; (case g35 => (exact op_add)); (case g36 => (exact pe_int)); (case g37 => (refine' pe_cl ?g38 ?g39 ?g40 ?g41 ?g42; (case g38 => (exact C__law_take)); (case g39 => (exact hr)); (case g40 => (refine' pa_c ?g43 ?g44; (case g43 => (exact (pv 0))); (case g44 => (refine' pa_c ?g45 ?g46; (case g45 => (exact pe_int)); (case g46 => (exact pa_nil)))))); (case g41 => (exact rfl)); (case g42 => (decide)))))); (case g34 => (exact pa_nil)))))); (case g28 => (refine' pg_name ?g47 ?g48 ?g49 ?g50; (case g47 => (exact sc__law_plan.nd)); (case g48 => (exact (ixAt 3))); (case g49 => (exact (Or.inl rfl))); (case g50 => (exact (Or.inl rfl))))); (case g29 => (refine' pss_one ?g51; (case g51 => (refine' ps_expr ?g52; (case g52 => (refine' pe_bm ?g53 ?g54 ?g55 ?g56 ?g57 ?g58; (case g53 => (exact PySem.F.plainAttrs_list)); (case g54 => (exact PySem.F.slot_list_append)); (case g55 => (exact PySem.F.type_list_append)); (case g56 => (exact mt_append)); (case g57 => (exact (pv 2))); (case g58 => (refine' pa_c ?g59 ?g60; (case g59 => (refine' pe_tupD ?g61; (case g61 => (refine' pa_c ?g62 ?g63; (case g62 => (refine' pe_ix ?g64 ?g65 ?g66 ?g67; (case g64 => (exact ix_D)); (case g65 => (exact (pv 1))); (case g66 => (exact (pv 3))); (case g67 => (exact (fun _ _ => rfl))))); (case g63 => (refine' pa_c ?g68 ?g69; (case g68 => (refine' pe_cl ?g70 ?g71 ?g72 ?g73 ?g74; (case g70 => (exact C__law_bound)); (case g71 => (exact hr)); (case g72 => (refine' pa_c ?g75 ?g76; (case g75 => (exact (pv 0))); (case g76 => (exact pa_nil)))); (case g73 => (exact rfl)); (case g74 => (decide)))); (case g69 => (exact pa_nil)))))))); (case g60 => (exact pa_nil)))))))))))); (case g24 => (refine' pss_cons ?g77 ?g78; (case g77 => (refine' ps_set ?g79 ?g80 ?g81 ?g82; (case g79 => (exact sc__law_plan.nd)); (case g80 => (exact (ixAt 4))); (case g81 => (exact (Or.inl rfl))); (case g82 => (refine' pe_cl ?g83 ?g84 ?g85 ?g86 ?g87; (case g83 => (exact C__law_take)); (case g84 => (exact hr)); (case g85 => (refine' pa_c ?g88 ?g89; (case g88 => (exact (pv 0))); (case g89 => (refine' pa_c ?g90 ?g91; (case g90 => (exact pe_int)); (case g91 => (exact pa_nil)))))); (case g86 => (exact rfl)); (case g87 => (decide)))))); (case g78 => (refine' pss_cons ?g92 ?g93; (case g92 => (refine' ps_set ?g94 ?g95 ?g96 ?g97; (case g94 => (exact sc__law_plan.nd)); (case g95 => (exact (ixAt 5))); (case g96 => (exact (Or.inl rfl))); (case g97 => (refine' pe_lst ?g98; (case g98 => (exact pa_nil)))))); (case g93 => (refine' pss_cons ?g99 ?g100; (case g99 => (refine' ps_for ?g101 ?g102 ?g103 ?g104 ?g105; (case g101 => (exact PassesOwn.never)); (case g102 => (exact rfl)); (case g103 => (refine' pi_range1 ?g106 ?g107 ?g108; (case g106 => (exact rfl)); (case g107 => (exact T.b_range)); (case g108 => (refine' pa_c ?g109 ?g110; (case g109 => (refine' pe_op ?g111 ?g112 ?g113; (case g111 => (exact op_add)); (case g112 => (exact pe_int)); (case g113 => (refine' pe_cl ?g114 ?g115 ?g116 ?g117 ?g118; (case g114 => (exact C__law_take)); (case g115 => (exact hr)); (case g116 => (refine' pa_c ?g119 ?g120; (case g119 => (exact (pv 0))); (case g120 => (refine' pa_c ?g121 ?g122; (case g121 => (exact pe_int)); (case g122 => (exact pa_nil)))))); (case g117 => (exact rfl)); (case g118 => (decide)))))); (case g110 => (exact pa_nil)))))); (case g104 => (refine' pg_name ?g123 ?g124 ?g125 ?g126; (case g123 => (exact sc__law_plan.nd)); (case g124 => (exact (ixAt 3))); (case g125 => (exact (Or.inl rfl))); (case g126 => (exact (Or.inl rfl))))); (case g105 => (refine' pss_cons ?g127 ?g128; (case g127 => (refine' ps_setC ?g129 ?g130 ?g131 ?g132 ?g133 ?g134 ?g135 ?g136 ?g137 ?g138 ?g139 ?g140 ?g141; (case g129 => (exact sc__law_plan.nd)); (case g130 => (exact (ixAt 6))); (case g131 => (exact (Or.inl rfl))); (case g132 => (exact rfl)); (case g133 => (exact ⟨rfl, by decide +kernel, by decide +kernel, (show ∀ y : Str × NameKind, y ∈ _ → y.2 = NameKind.free → (defScope s__law_plan).names.lookup y.1 = some .cell ∨ (defScope s__law_plan).names.lookup y.1 = some .free from by decide +kernel)⟩)); (case g134 => (exact (compN ["_law_lane", "_law_held"] 1 [0]))); (case g135 => (decide +kernel)); (case g136 => (decide)); (case g137 => (refine' pi_range1 ?g142 ?g143 ?g144; (case g142 => (exact rfl)); (case g143 => (exact T.b_range)); (case g144 => (refine' pa_c ?g145 ?g146; (case g145 => (refine' pe_callB ?g147 ?g148 ?g149 ?g150 ?g151; (case g147 => (exact call_len_seq)); (case g148 => (exact rfl)); (case g149 => (exact T.b_len)); (case g150 => (exact PySem.boot_len)); (case g151 => (refine' pa_c ?g152 ?g153; (case g152 => (exact (pv 2))); (case g153 => (exact pa_nil)))))); (case g146 => (exact pa_nil)))))); (case g138 => (intro _ _ _ _; refine' pg_name ?g154 ?g155 ?g156 ?g157; (case g154 => (exact (show (["_law_lane", "_law_held"] : List Str).Nodup from by decide +kernel))); (case g155 => (exact (ixAt 0))); (case g156 => (exact (Or.inl rfl))); (case g157 => (exact (Or.inr rfl))))); (case g139 => (exact (gown_name (by decide)))); (case g140 => (intro _ _ _ _; refine' pts_one ?g158; (case g158 => (refine' pt_cmpR ?g159 ?g160 ?g161 ?g162; (case g159 => (exact op_gt)); (case g160 => (refine' pe_cl ?g163 ?g164 ?g165 ?g166 ?g167; (case g163 => (exact C__law_take)); (case g164 => (exact hr)); (case g165 => (refine' pa_c ?g168 ?g169; (case g168 => (exact (pv 1))); (case g169 => (refine' pa_c ?g170 ?g171; (case g170 => (exact pe_int)); (case g171 => (exact pa_nil)))))); (case g166 => (exact rfl)); (case g167 => (decide)))); (case g161 => (exact pe_int)); (case g162 => (exact (nomark _))))))); (case g141 => (intro _ _ _ _; exact (pv 0))))); (case g128 => (refine' pss_cons ?g172 ?g173; (case g172 => (refine' ps_if ?g174 ?g175 ?g176; (case g174 => (refine' pt_cmpR ?g177 ?g178 ?g179 ?g180; (case g177 => (exact (op_eqD hu))); (case g178 => (exact (pv 6))); (case g179 => (refine' pe_lstD ?g181; (case g181 => (exact pa_nil)))); (case g180 => (exact (nomark _))))); (case g175 => (refine' pss_one ?g182; (case g182 => (refine' ps_set ?g183 ?g184 ?g185 ?g186; (case g183 => (exact sc__law_plan.nd)); (case g184 => (exact (ixAt 6))); (case g185 => (exact (Or.inl rfl))); (case g186 => (refine' pe_lstD ?g187; (case g187 => (refine' pa_c ?g188 ?g189; (case g188 => (refine' pe_cl ?g190 ?g191 ?g192 ?g193 ?g194; (case g190 => (exact C__law_take)); (case g191 => (exact hr)); (case g192 => (refine' pa_c ?g195 ?g196; (case g195 => (exact (pv 0))); (case g196 => (refine' pa_c ?g197 ?g198; (case g197 => (refine' pe_callB ?g199 ?g200 ?g201 ?g202 ?g203; (case g199 => (exact call_len_seq)); (case g200 => (exact rfl)); (case g201 => (exact T.b_len)); (case g202 => (exact PySem.boot_len)); (case g203 => (refine' pa_c ?g204 ?g205; (case g204 => (exact (pv 2))); (case g205 => (exact pa_nil)))))); (case g198 => (exact pa_nil)))))); (case g193 => (exact rfl)); (case g194 => (decide)))); (case g189 => (exact pa_nil)))))))))); (case g176 => (exact pss_nil)))); (case g173 => (refine' pss_cons ?g206 ?g207; (case g206 => (refine' ps_set ?g208 ?g209 ?g210 ?g211; (case g208 => (exact sc__law_plan.nd)); (case g209 => (exact (ixAt 7))); (case g210 => (exact (Or.inl rfl))); (case g211 => (refine' pe_callTy ?g212 ?g213 ?g214 ?g215 ?g216; (case g212 => (exact call_tupleD)); (case g213 => (exact rfl)); (case g214 => (exact T.b_tuple)); (case g215 => (exact boot_ttuple)); (case g216 => (refine' pa_c ?g217 ?g218; (case g217 => (refine' pe_lcomp ?g219 ?g220 ?g221 ?g222 ?g223 ?g224 ?g225 ?g226 ?g227 ?g228; (case g219 => (exact rfl)); (case g220 => (exact ⟨rfl, by decide +kernel, by decide +kernel, (show ∀ y : Str × NameKind, y ∈ _ → y.2 = NameKind.free → (defScope s__law_plan).names.lookup y.1 = some .cell ∨ (defScope s__law_plan).names.lookup y.1 = some .free from by decide +kernel)⟩)); (case g221 => (exact (compN ["_law_lane", "_law_held"] 1 [0]))); (case g222 => (decide +kernel)); (case g223 => (decide)); (case g224 => (refine' pi_list ?g229; (case g229 => (exact (pv 6))))); (case g225 => (intro _ _ _ _; refine' pg_name ?g230 ?g231 ?g232 ?g233; (case g230 => (exact (show (["_law_lane", "_law_held"] : List Str).Nodup from by decide +kernel))); (case g231 => (exact (ixAt 0))); (case g232 => (exact (Or.inl rfl))); (case g233 => (exact (Or.inr rfl))))); (case g226 => (exact (gown_name (by decide)))); (case g227 => (intro _ _ _ _; exact pts_nil)); (case g228 => (intro _ _ _ _; refine' pe_cl ?g234 ?g235 ?g236 ?g237 ?g238; (case g234 => (exact C__law_bound)); (case g235 => (exact hr)); (case g236 => (refine' pa_c ?g239 ?g240; (case g239 => (exact (pv 1))); (case g240 => (exact pa_nil)))); (case g237 => (exact rfl)); (case g238 => (decide)))))); (case g218 => (exact pa_nil)))))))); (case g207 => (refine' pss_one ?g241; (case g241 => (refine' ps_expr ?g242; (case g242 => (refine' pe_bm ?g243 ?g244 ?g245 ?g246 ?g247 ?g248; (case g243 => (exact PySem.F.plainAttrs_list)); (case g244 => (exact PySem.F.slot_list_append)); (case g245 => (exact PySem.F.type_list_append)); (case g246 => (exact mt_append)); (case g247 => (exact (pv 5))); (case g248 => (refine' pa_c ?g249 ?g250; (case g249 => (refine' pe_tupD ?g251; (case g251 => (refine' pa_c ?g252 ?g253; (case g252 => (refine' pe_ix ?g254 ?g255 ?g256 ?g257; (case g254 => (exact ix_D)); (case g255 => (exact (pv 1))); (case g256 => (refine' pe_op ?g258 ?g259 ?g260; (case g258 => (exact op_add)); (case g259 => (exact (pv 3))); (case g260 => (exact (pv 4))))); (case g257 => (exact (fun _ _ => rfl))))); (case g253 => (refine' pa_c ?g261 ?g262; (case g261 => (refine' pe_callTy ?g263 ?g264 ?g265 ?g266 ?g267; (case g263 => (exact call_tupleD)); (case g264 => (exact rfl)); (case g265 => (exact T.b_tuple)); (case g266 => (exact boot_ttuple)); (case g267 => (refine' pa_c ?g268 ?g269; (case g268 => (exact (pv 6))); (case g269 => (exact pa_nil)))))); (case g262 => (refine' pa_c ?g270 ?g271; (case g270 => (exact (pv 7))); (case g271 => (exact pa_nil)))))))))); (case g250 => (exact pa_nil)))))))))))))))))); (case g100 => (refine' pss_one ?g272; (case g272 => (refine' ps_ret ?g273; (case g273 => (refine' pe_tupD ?g274; (case g274 => (refine' pa_c ?g275 ?g276; (case g275 => (refine' pe_callTy ?g277 ?g278 ?g279 ?g280 ?g281; (case g277 => (exact call_tuple_of)); (case g278 => (exact rfl)); (case g279 => (exact T.b_tuple)); (case g280 => (exact boot_ttuple)); (case g281 => (refine' pa_c ?g282 ?g283; (case g282 => (exact (pv 2))); (case g283 => (exact pa_nil)))))); (case g276 => (refine' pa_c ?g284 ?g285; (case g284 => (refine' pe_callTy ?g286 ?g287 ?g288 ?g289 ?g290; (case g286 => (exact call_tuple_of)); (case g287 => (exact rfl)); (case g288 => (exact T.b_tuple)); (case g289 => (exact boot_ttuple)); (case g290 => (refine' pa_c ?g291 ?g292; (case g291 => (exact (pv 5))); (case g292 => (exact pa_nil)))))); (case g285 => (exact pa_nil)))))))))))))))))))))))
  refine ⟨_, rfl, z, rfl, c, fun ns v1 H1 hn hnd hm s1 f1 => ?_⟩
  refine ⟨(by show 0 ≤ sizeLine; decide), fun l hl => ?_⟩
  have lp : l ≠ z.p := fun e => by
    obtain ⟨n, h⟩ := s1.cz.held
    rw [e, h] at hl
    cases hl
  have nlp : l ∉ [z.p] := fun h => lp (List.mem_singleton.mp h)
  have a2 : Stl z l H1 (upd H1 l (.lst [])) := Stl.new s1.cz hl
  have hl2 : (upd H1 l (.lst [])) l = some (.lst []) := upd_same
  have f1' : IsD (z.with l).ex H1 (.list (ns.map .str)) v1 := IsD.more hl f1
  generalize upd H1 l (.lst []) = H2 at a2 hl2 ⊢
  refine ⟨_, rfl, z.with l, 6, rfl, a2.cz, by decide, by decide, fun m H3 m0 m1 s3 => ?_⟩
  have a3 := a2.stp s3
  have hl3 := s3.ext.lst nlp hl2
  refine ⟨_, _, rfl, rfl, _, rfl, by omega, by omega, for_range (n := (1 + m).toNat) (fun i σ H4 => ∃ (ls : List PyData) (xs : List V) (kk : Option V), σ = [some (V.ref z.p), some v1, some (V.ref l), kk, none, none, none, none] ∧ Stl z l H1 H4 ∧ H4 l = some (.lst xs) ∧ IsDs (z.with l).ex H4 ls xs ∧ ls.length = i ∧ (∀ d ∈ ls, laneD d = true) ∧ ls.map firstD = ns.take i)
    ⟨[], [], _, rfl, a3, hl3, rfl, rfl, by simp, rfl⟩ ?_ ?_⟩
  · rintro i σ H4 hi ⟨ls, xs, kk, rfl, a4, hx, hds, hll, hla, hfi⟩
    have hin : i < ns.length := by omega
    refine ⟨_, rfl, .inl ⟨rfl, xs, SqL.of hx⟩, ?_⟩
    refine ⟨_, rfl, _, rfl, z.with l, _, _, .str ns[i], .inr (f1'.stl a4), rfl, by omega, ?_, fun vn fvn => ?_⟩
    · rw [show ((0 : Int) + (i : Nat)).toNat = i by omega, List.getElem?_map, List.getElem?_eq_getElem hin]
      rfl
    refine ⟨_, rfl, z.with l, rfl, a4.cz, fun b H5 b1 b2 s5 => ?_⟩
    refine ⟨z.with l, [.str ns[i], .int b], ⟨_, _, rfl, fvn.stp s5, _, _, rfl, rfl, rfl⟩, (by show 2 ≤ 1000; decide), s5.cz, fun v6 H6 s6 f6 => ?_⟩
    have s56 := s5.trans s6
    refine ⟨l, xs, v6, rfl, rfl, s56.ext.lst nlp hx, ?_, ?_⟩
    · rw [hds.length, hll]
      exact small1000 (by omega)
    refine ⟨ls ++ [.tuple [.str ns[i], .int b]], xs ++ [v6], _, rfl, (a4.stp s56).put lp, upd_same, ?_, by rw [List.length_append, hll]; rfl, ?_, ?_⟩
    · exact put_ext List.mem_cons_self (IsDs.append (hds.stp s56) ⟨v6, _, rfl, f6, rfl⟩)
    · intro d hd
      rcases List.mem_append.mp hd with h | h
      · exact hla d h
      · rw [List.mem_singleton.mp h]
        show (nm ns[i] && (decide (1 ≤ b) && decide (b ≤ 99))) = true
        rw [hm _ (List.getElem_mem hin), decide_eq_true b1, decide_eq_true b2]
        rfl
    · rw [List.map_append, hfi, List.take_add_one, List.getElem?_eq_getElem hin]
      rfl
  rintro σ H4 ⟨ls, xs, kk, rfl, a4, hx, hds, hll, hla, hfi⟩
  have hl1 : 1 ≤ ls.length := by omega
  have hl6 : ls.length ≤ 6 := by omega
  refine ⟨_, rfl, z.with l, 7, rfl, a4.cz, by decide, by decide, fun sh H5 sh0 sh1 s5 => ?_⟩
  have a5 := a4.stp s5
  have hx5 := s5.ext.lst nlp hx
  have hds5 := hds.stp s5
  refine ⟨(by show 0 ≤ sizeLine; decide), fun l2 hl2 => ?_⟩
  have l2p : l2 ≠ (z.with l).p := fun e => by
    obtain ⟨n, h⟩ := s5.cz.held
    rw [e, h] at hl2
    cases hl2
  have nl2p : l2 ∉ [((z.with l).with l2).p] := fun h => l2p (List.mem_singleton.mp h)
  have ll2 : l ≠ l2 := fun e => by
    rw [← e, hx5] at hl2
    cases hl2
  have nll : l ∉ [l2, (z.with l).p] := fun h => by
    rcases List.mem_cons.mp h with h | h
    · exact ll2 h
    · exact lp (List.mem_singleton.mp h)
  have a6 : Stl (z.with l) l2 H5 (upd H5 l2 (.lst [])) := Stl.new s5.cz hl2
  have hl6' : (upd H5 l2 (.lst [])) l2 = some (.lst []) := upd_same
  have fn : IsD ((z.with l).with l2).ex H5 (.list (ns.map .str)) v1 := IsD.more hl2 (f1'.stl a5)
  have hdsb : IsDs ((z.with l).with l2).ex H5 ls xs := IsDs.more hl2 hds5
  generalize upd H5 l2 (.lst []) = H6 at a6 hl6' ⊢
  refine ⟨_, rfl, (z.with l).with l2, 6, rfl, a6.cz, by decide, by decide, fun m2 H7 m20 m21 s7 => ?_⟩
  have a7' := a6.stp s7
  have hl7 := s7.ext.lst nl2p hl6'
  refine ⟨_, _, rfl, rfl, _, rfl, by omega, by omega, for_range (n := (1 + m2).toNat) (fun i σ H8 => ∃ (ks : List PyData) (ys : List V) (kk wy bd : Option V), σ = [some (V.ref z.p), some v1, some (V.ref l), kk, some (V.int sh), some (V.ref l2), wy, bd] ∧ Stl (z.with l) l2 H5 H8 ∧ H8 l2 = some (.lst ys) ∧ IsDs ((z.with l).with l2).ex H8 ks ys ∧ ks.length = i ∧ (∀ d ∈ ks, kindD (ls.length : Nat) d = true) ∧ ks.map firstD = (ns.drop sh.toNat).take i)
    ⟨[], [], _, _, _, rfl, a7', hl7, rfl, rfl, by simp, rfl⟩ ?_ ?_⟩
  · rintro i σ H8 hi ⟨ks, ys, kk, wy, bd, rfl, a7, hy, hky, hkl, hkk, hkf⟩
    have hi6 : i < 6 := by omega
    have hx8 : H8 l = some (.lst xs) := a7.ext.lst nll hx5
    have exs := hds.length
    refine ⟨_, rfl, l, xs, rfl, .inl (SqL.of hx8), _, rfl, by omega, by omega, ?_⟩
    refine lcomp_by yields_range (fun j us H9 => Stp ((z.with l).with l2) H8 H9 ∧ ∃ w : List Int, us = w.map V.int ∧ w.length ≤ j ∧ w.Pairwise (· < ·) ∧ ∀ x ∈ w, 0 ≤ x ∧ x < (j : Nat)) ⟨Stp.refl a7.cz, [], rfl, by simp, List.Pairwise.nil, by simp⟩ (fun _ _ _ _ => trivial) ?_ ?_
    · rintro j x us H9 hx9 hj ⟨s9, w, rfl, hwl, hwp, hwb⟩
      have hj2 := hj
      rw [List.length_map, List.length_range] at hj
      rw [List.getElem?_map, List.getElem?_range hj] at hx9
      obtain rfl := Option.some.inj hx9
      refine ⟨_, rfl, (z.with l).with l2, 3, rfl, s9.cz, by decide, by decide, fun t H10 t0 t1 s10 => ?_⟩
      refine ⟨_, _, rfl, rfl, _, rfl, ?_⟩
      refine ite2 (fun c1 => ?_) (fun c1 => ?_)
      · refine ⟨_, rfl, ?_, nx hj2 ⟨s9.trans s10, w ++ [(0 : Int) + (j : Nat)], by rw [List.map_append]; rfl, by simp; omega, ?_, ?_⟩⟩
        · rw [List.length_map]
          exact small1000 (by omega)
        · rw [List.pairwise_append]
          refine ⟨hwp, by simp, fun a ha b hb => ?_⟩
          rw [List.mem_singleton.mp hb]
          have := hwb a ha
          omega
        · intro x hx
          rcases List.mem_append.mp hx with h | h
          · have := hwb x h
            omega
          · rw [List.mem_singleton.mp h]
            omega
      · exact nx hj2 ⟨s9.trans s10, w, rfl, by omega, hwp, fun x hx => by have := hwb x hx; omega⟩
    rintro us H9 ⟨s9, w, rfl, hwl, hwp, hwb⟩ a ha
    rw [List.length_map, List.length_range] at hwl hwb
    have hwn : w.length ≤ ls.length := by omega
    replace hwb : ∀ x ∈ w, 0 ≤ x ∧ x < (ls.length : Nat) := fun x hx => by have := hwb x hx; omega
    have s10 : Stp ((z.with l).with l2) H9 (upd H9 a (.lst (w.map V.int))) := Stp.of s9.cz (Ext.new ha _)
    have f10 : IsD ((z.with l).with l2).ex (upd H9 a (.lst (w.map V.int))) (.list (w.map .int)) (.ref a) := ⟨a, _, rfl, s9.cz.free ha, upd_same, IsDs.ints _⟩
    generalize upd H9 a (.lst (w.map V.int)) = H10 at s10 f10 ⊢
    refine ⟨_, rfl, (z.with l).with l2, [], rfl, (by show 0 ≤ 1000; decide), s10.cz, fun v11 H11 s11 f11 => ?_⟩
    refine ⟨.list (w.map .int), .list [], IsD.less (by simp) (f10.stp s11), IsD.less (by simp) f11, shaped_ints w, rfl, _, rfl, ?_⟩
    rw [eqv_nil]
    have sw0 := (s9.trans s10).trans s11
    have fw0 := f10.stp s11
    refine ite2 (fun c1 => ?_) (fun c1 => ?_)
    · have hx11 : H11 l = some (.lst xs) := sw0.ext.lst nlp hx8
      refine ⟨_, rfl, _, rfl, l, xs, rfl, .inl (SqL.of hx11), (z.with l).with l2, _, rfl, s11.cz, by omega, by omega, fun t H12 t0 t1 s12 => ?_⟩
      refine ⟨(z.with l).with l2, [.int t], ⟨_, _, rfl, rfl, rfl⟩, (by show 1 ≤ 1000; decide), s12.cz, fun vw Hw s13 fw => ?_⟩
      have sw := (sw0.trans s12).trans s13
      replace fw : IsD ((z.with l).with l2).ex Hw (.list (([t] : List Int).map .int)) vw := fw
      have hw0 : ([t] : List Int) ≠ [] := by simp
      replace hwn : ([t] : List Int).length ≤ ls.length := hl1
      replace hwp : ([t] : List Int).Pairwise (· < ·) := by simp
      replace hwb : ∀ x ∈ ([t] : List Int), 0 ≤ x ∧ x < (ls.length : Nat) := fun x hx => by rw [List.mem_singleton.mp hx]; omega
      clear fw0 f10 f11
      generalize ([t] : List Int) = w at fw hw0 hwn hwp hwb
      obtain ⟨b, xw, rfl, nb, hb, hxw⟩ := fw
      obtain rfl := IsDs.ints_of hxw
      have nbp : b ∉ [z.p] := fun h => nb (by rw [List.mem_singleton.mp h]; exact sw.cz.mem)
      refine ⟨_, rfl, b, rfl, ⟨_, SqL.of hb⟩, lcomp_by0 (yields_list (ys := w.map V.int)) (fun j xs H9 => Stp ((z.with l).with l2) Hw H9 ∧ ∃ bs : List Int, xs = bs.map V.int ∧ bs.length = j ∧ ∀ x ∈ bs, 1 ≤ x ∧ x ≤ 99) ⟨Stp.refl sw.cz, [], rfl, rfl, by simp⟩ (fun _ _ _ h => SqL.of (h.1.ext.lst nbp hb)) ?_ ?_⟩
      · rintro j x xs H9 hx hj ⟨s9, bs, rfl, hbl, hbb⟩
        refine ⟨_, rfl, (z.with l).with l2, rfl, s9.cz, fun t H10 t1 t2 s10 => ?_⟩
        rw [List.length_map] at hj
        refine ⟨?_, nx (by rw [List.length_map]; exact hj) ⟨s9.trans s10, bs ++ [t], by rw [List.map_append]; rfl, by simp [hbl], fun x hx => ?_⟩⟩
        · rw [List.length_map, hbl]
          exact small1000 (by omega)
        · rcases List.mem_append.mp hx with h | h
          · exact hbb x h
          · rw [List.mem_singleton.mp h]
            exact ⟨t1, t2⟩
      rintro xs H9 ⟨s9, bs, rfl, hbl, hbb⟩ a3 ha3
      rw [List.length_map] at hbl
      have s10 : Stp ((z.with l).with l2) H9 (upd H9 a3 (.lst (bs.map V.int))) := Stp.of s9.cz (Ext.new ha3 _)
      have f10 : IsD ((z.with l).with l2).ex (upd H9 a3 (.lst (bs.map V.int))) (.list (bs.map .int)) (.ref a3) := ⟨a3, _, rfl, s9.cz.free ha3, upd_same, IsDs.ints _⟩
      generalize upd H9 a3 (.lst (bs.map V.int)) = H10 at s10 f10 ⊢
      refine ⟨(z.with l).with l2, _, _, rfl, f10, s10.cz, fun vb H11 s11 fb => ?_⟩
      have fw2 : IsD ((z.with l).with l2).ex Hw (.list (w.map .int)) (.ref b) := ⟨b, _, rfl, nb, hb, IsDs.ints _⟩
      have sA := (s9.trans s10).trans s11
      have hx11 : H11 l2 = some (.lst ys) := (sw.trans sA).ext.lst nl2p hy
      refine ⟨_, rfl, .inl ⟨rfl, ys, SqL.of hx11⟩, ?_⟩
      have hsh : i + sh.toNat < ns.length := by omega
      refine ⟨_, rfl, _, rfl, _, rfl, _, _, rfl, rfl, (z.with l).with l2, _, _, .str ns[i + sh.toNat], .inr (fn.stl (a7.stp (sw.trans sA))), rfl, by omega, ?_, fun vn fvn => ?_⟩
      · rw [show ((0 : Int) + (i : Nat) + sh).toNat = i + sh.toNat by omega, List.getElem?_map, List.getElem?_eq_getElem hsh]
        rfl
      refine ⟨_, rfl, (z.with l).with l2, _, _, rfl, fw2.stp sA, sA.cz, fun vt H12 s12 ft => ?_⟩
      refine ⟨_, rfl, (z.with l).with l2, [.str ns[i + sh.toNat], .tuple (w.map .int), .tuple (bs.map .int)], ⟨_, _, rfl, fvn.stp s12, _, _, rfl, ft, _, _, rfl, fb.stp s12, rfl⟩, (by show 3 ≤ 1000; decide), s12.cz, fun vk H13 s13 fk => ?_⟩
      have sB := (sw.trans sA).trans (s12.trans s13)
      have hx13 : H13 l2 = some (.lst ys) := sB.ext.lst nl2p hy
      refine ⟨l2, ys, vk, rfl, rfl, hx13, ?_, ?_⟩
      · rw [hky.length, hkl]
        exact small1000 (by omega)
      refine ⟨ks ++ [.tuple [.str ns[i + sh.toNat], .tuple (w.map .int), .tuple (bs.map .int)]], ys ++ [vk], _, _, _, rfl, (a7.stp sB).put l2p, upd_same, ?_, by rw [List.length_append, hkl]; rfl, ?_, ?_⟩
      · exact put_ext List.mem_cons_self (IsDs.append (hky.stp sB) ⟨vk, _, rfl, fk, rfl⟩)
      · intro d hd
        rcases List.mem_append.mp hd with h | h
        · exact hkk d h
        · rw [List.mem_singleton.mp h]
          exact kind_ok (hm _ (List.getElem_mem hsh)) hw0 (by omega) hwp hwb hbl hbb
      · rw [List.map_append, hkf, List.take_add_one, List.getElem?_drop, Nat.add_comm sh.toNat i, List.getElem?_eq_getElem hsh]
        rfl
    · have hw0 : w ≠ [] := fun e => c1 (by rw [e]; rfl)
      have sw := sw0
      obtain ⟨Hw, eHw⟩ : ∃ Hw, Hw = H11 := ⟨_, rfl⟩
      subst eHw
      have fw := fw0
      clear fw0 f10 f11
      generalize V.ref a = vw at fw ⊢
      obtain ⟨b, xw, rfl, nb, hb, hxw⟩ := fw
      obtain rfl := IsDs.ints_of hxw
      have nbp : b ∉ [z.p] := fun h => nb (by rw [List.mem_singleton.mp h]; exact sw.cz.mem)
      refine ⟨_, rfl, b, rfl, ⟨_, SqL.of hb⟩, lcomp_by0 (yields_list (ys := w.map V.int)) (fun j xs H9 => Stp ((z.with l).with l2) Hw H9 ∧ ∃ bs : List Int, xs = bs.map V.int ∧ bs.length = j ∧ ∀ x ∈ bs, 1 ≤ x ∧ x ≤ 99) ⟨Stp.refl sw.cz, [], rfl, rfl, by simp⟩ (fun _ _ _ h => SqL.of (h.1.ext.lst nbp hb)) ?_ ?_⟩
      · rintro j x xs H9 hx hj ⟨s9, bs, rfl, hbl, hbb⟩
        refine ⟨_, rfl, (z.with l).with l2, rfl, s9.cz, fun t H10 t1 t2 s10 => ?_⟩
        rw [List.length_map] at hj
        refine ⟨?_, nx (by rw [List.length_map]; exact hj) ⟨s9.trans s10, bs ++ [t], by rw [List.map_append]; rfl, by simp [hbl], fun x hx => ?_⟩⟩
        · rw [List.length_map, hbl]
          exact small1000 (by omega)
        · rcases List.mem_append.mp hx with h | h
          · exact hbb x h
          · rw [List.mem_singleton.mp h]
            exact ⟨t1, t2⟩
      rintro xs H9 ⟨s9, bs, rfl, hbl, hbb⟩ a3 ha3
      rw [List.length_map] at hbl
      have s10 : Stp ((z.with l).with l2) H9 (upd H9 a3 (.lst (bs.map V.int))) := Stp.of s9.cz (Ext.new ha3 _)
      have f10 : IsD ((z.with l).with l2).ex (upd H9 a3 (.lst (bs.map V.int))) (.list (bs.map .int)) (.ref a3) := ⟨a3, _, rfl, s9.cz.free ha3, upd_same, IsDs.ints _⟩
      generalize upd H9 a3 (.lst (bs.map V.int)) = H10 at s10 f10 ⊢
      refine ⟨(z.with l).with l2, _, _, rfl, f10, s10.cz, fun vb H11 s11 fb => ?_⟩
      have fw2 : IsD ((z.with l).with l2).ex Hw (.list (w.map .int)) (.ref b) := ⟨b, _, rfl, nb, hb, IsDs.ints _⟩
      have sA := (s9.trans s10).trans s11
      have hx11 : H11 l2 = some (.lst ys) := (sw.trans sA).ext.lst nl2p hy
      refine ⟨_, rfl, .inl ⟨rfl, ys, SqL.of hx11⟩, ?_⟩
      have hsh : i + sh.toNat < ns.length := by omega
      refine ⟨_, rfl, _, rfl, _, rfl, _, _, rfl, rfl, (z.with l).with l2, _, _, .str ns[i + sh.toNat], .inr (fn.stl (a7.stp (sw.trans sA))), rfl, by omega, ?_, fun vn fvn => ?_⟩
      · rw [show ((0 : Int) + (i : Nat) + sh).toNat = i + sh.toNat by omega, List.getElem?_map, List.getElem?_eq_getElem hsh]
        rfl
      refine ⟨_, rfl, (z.with l).with l2, _, _, rfl, fw2.stp sA, sA.cz, fun vt H12 s12 ft => ?_⟩
      refine ⟨_, rfl, (z.with l).with l2, [.str ns[i + sh.toNat], .tuple (w.map .int), .tuple (bs.map .int)], ⟨_, _, rfl, fvn.stp s12, _, _, rfl, ft, _, _, rfl, fb.stp s12, rfl⟩, (by show 3 ≤ 1000; decide), s12.cz, fun vk H13 s13 fk => ?_⟩
      have sB := (sw.trans sA).trans (s12.trans s13)
      have hx13 : H13 l2 = some (.lst ys) := sB.ext.lst nl2p hy
      refine ⟨l2, ys, vk, rfl, rfl, hx13, ?_, ?_⟩
      · rw [hky.length, hkl]
        exact small1000 (by omega)
      refine ⟨ks ++ [.tuple [.str ns[i + sh.toNat], .tuple (w.map .int), .tuple (bs.map .int)]], ys ++ [vk], _, _, _, rfl, (a7.stp sB).put l2p, upd_same, ?_, by rw [List.length_append, hkl]; rfl, ?_, ?_⟩
      · exact put_ext List.mem_cons_self (IsDs.append (hky.stp sB) ⟨vk, _, rfl, fk, rfl⟩)
      · intro d hd
        rcases List.mem_append.mp hd with h | h
        · exact hkk d h
        · rw [List.mem_singleton.mp h]
          exact kind_ok (hm _ (List.getElem_mem hsh)) hw0 (by omega) hwp hwb hbl hbb
      · rw [List.map_append, hkf, List.take_add_one, List.getElem?_drop, Nat.add_comm sh.toNat i, List.getElem?_eq_getElem hsh]
        rfl
  rintro σ H8 ⟨ks, ys, kk, wy, bd, rfl, a7, hy, hky, hkl, hkk, hkf⟩
  have hx8 : H8 l = some (.lst xs) := a7.ext.lst nll hx5
  have hls8 : IsDs ((z.with l).with l2).ex H8 ls xs := hdsb.stl a7
  refine ⟨_, rfl, l, xs, rfl, .inl ⟨SqL.of hx8, fun t1 ht1 => ?_⟩⟩
  have s9 : Stp ((z.with l).with l2) H8 (upd H8 t1 (.tup xs)) := Stp.of a7.cz (Ext.new ht1 _)
  have f9 : IsD ((z.with l).with l2).ex (upd H8 t1 (.tup xs)) (.tuple ls) (.ref t1) := ⟨t1, _, rfl, a7.cz.free ht1, upd_same, hls8.stp s9⟩
  generalize upd H8 t1 (.tup xs) = H9 at s9 f9 ⊢
  have hy9 := s9.ext.lst nl2p hy
  refine ⟨_, rfl, l2, ys, rfl, .inl ⟨SqL.of hy9, fun t2 ht2 => ?_⟩⟩
  have s10 : Stp ((z.with l).with l2) H9 (upd H9 t2 (.tup ys)) := Stp.of s9.cz (Ext.new ht2 _)
  have f10 : IsD ((z.with l).with l2).ex (upd H9 t2 (.tup ys)) (.tuple ks) (.ref t2) := ⟨t2, _, rfl, s9.cz.free ht2, upd_same, (hky.stp s9).stp s10⟩
  generalize upd H9 t2 (.tup ys) = H10 at s10 f10 ⊢
  refine ⟨(z.with l).with l2, [.tuple ls, .tuple ks], ⟨_, _, rfl, f9.stp s10, _, _, rfl, f10, rfl⟩, (by show 2 ≤ 1000; decide), s10.cz, fun v H11 s11 f11 => ?_⟩
  have b1 : Stp (z.with l) H5 H11 := (((a7.stp s9).stp s10).stp s11).back hl2 a5.cz.mem
  have b2 : Stp z H1 H11 := (a5.stp b1).back hl c.mem
  refine q _ v H11 (plan_ok hl1 hl6 (by omega) (by omega) hla hkk ?_ ?_) (s1.trans b2) (IsD.less (fun b hb => List.mem_cons_of_mem _ (List.mem_cons_of_mem _ hb)) f11)
  · rw [hfi]
    exact hnd.sublist (List.take_sublist _ _)
  · rw [hkf]
    exact (hnd.sublist (List.drop_sublist _ _)).sublist (List.take_sublist _ _)
end
end K04
end

section
set_option Elab.async false
set_option linter.all false
set_option maxRecDepth 100000
set_option maxHeartbeats 1000000
namespace K04
open PySem PySem.Spec L2 PyProof.Rows
/-! ### what is true of plans -/
theorem small_all : ∀ {ds : List PyData}, (∀ d ∈ ds, smallD d = true) → smallDs ds = true
  | [], _ => rfl
  | d :: ds, h => by
    show (smallD d && smallDs ds) = true
    rw [h d List.mem_cons_self, small_all fun e he => h e (List.mem_cons_of_mem _ he)]
    rfl
theorem nm_small {x : Str} (h : nm x = true) : smallD (.str x) = true := by
  unfold nm at h
  split at h
  · cases h
  · rw [Bool.and_eq_true, Bool.and_eq_true, decide_eq_true_eq, decide_eq_true_eq] at h
    show decide (x.length ≤ 1000) = true
    exact decide_eq_true (by omega)
theorem lane_form {d : PyData} (h : laneD d = true) : ∃ x b, d = .tuple [.str x, .int b] ∧ nm x = true ∧ 1 ≤ b ∧ b ≤ 99 := by
  match d, h with
  | .tuple [n, b], h =>
    have h' : (nmD n && boundD b) = true := h
    rw [Bool.and_eq_true] at h'
    match n, b, h' with
    | .str x, .int i, h' =>
      have h2 : (decide (1 ≤ i) && decide (i ≤ 99)) = true := h'.2
      rw [Bool.and_eq_true, decide_eq_true_eq, decide_eq_true_eq] at h2
      exact ⟨x, i, rfl, h'.1, h2.1, h2.2⟩
theorem lane_small {d : PyData} (h : laneD d = true) : smallD d = true := by
  obtain ⟨x, b, rfl, hx, _⟩ := lane_form h
  show (smallD (.str x) && (smallD (.int b) && true)) = true
  rw [nm_small hx]
  rfl
structure GoodL (ls : List PyData) : Prop where
  one : 1 ≤ ls.length
  six : ls.length ≤ 6
  all : ∀ d ∈ ls, laneD d = true
  nd : (ls.map firstD).Nodup
theorem goodL {ls : List PyData} (h : lanesD (.tuple ls) = true) : GoodL ls := by
  have h' : (tupD (.tuple ls) 1 6 && (ls.all laneD && unlikeD ls)) = true := h
  rw [Bool.and_eq_true, Bool.and_eq_true] at h'
  have t := tup_len h'.1
  exact ⟨by omega, by omega, List.all_eq_true.mp h'.2.1, of_decide_eq_true h'.2.2⟩
theorem way_mem {cnt : Int} : ∀ {ws : List PyData} {a : Int}, wayOk cnt a ws = true → ∀ d ∈ ws, ∃ i, d = .int i ∧ a < i ∧ i < cnt
  | [], _, _ => by simp
  | .int j :: r, a, h => by
    have h' : ((decide (a < j) && decide (j < cnt)) && wayOk cnt j r) = true := h
    rw [Bool.and_eq_true, Bool.and_eq_true, decide_eq_true_eq, decide_eq_true_eq] at h'
    intro d hd
    rcases List.mem_cons.mp hd with rfl | hd
    · exact ⟨j, rfl, h'.1.1, h'.1.2⟩
    · obtain ⟨i, rfl, h1, h2⟩ := way_mem h'.2 d hd
      exact ⟨i, rfl, by omega, h2⟩
structure GoodK (n : Int) (x : Str) (ws bs : List PyData) : Prop where
  nmx : nm x = true
  one : 1 ≤ ws.length
  most : (ws.length : Int) ≤ n
  way : wayOk n (-1) ws = true
  len : bs.length = ws.length
  bds : ∀ d ∈ bs, boundD d = true
theorem kind_form {n : Int} {d : PyData} (h : kindD n d = true) : ∃ x ws bs, d = .tuple [.str x, .tuple ws, .tuple bs] ∧ GoodK n x ws bs := by
  match d, h with
  | .tuple [nm1, w, b], h =>
    have h' : (nmD nm1 && (wayD w n && boundsD b (lenD w))) = true := h
    rw [Bool.and_eq_true, Bool.and_eq_true] at h'
    match nm1, w, b, h' with
    | .str x, .tuple ws, .tuple bs, h' =>
      have h1 : (tupD (.tuple ws) 1 n && wayOk n (-1) ws) = true := h'.2.1
      have h2 : (tupD (.tuple bs) (ws.length : Nat) (ws.length : Nat) && bs.all boundD) = true := h'.2.2
      rw [Bool.and_eq_true] at h1 h2
      have t1 := tup_len h1.1
      have t2 := tup_len h2.1
      exact ⟨x, ws, bs, rfl, ⟨h'.1, by omega, t1.2, h1.2, by omega, List.all_eq_true.mp h2.2⟩⟩
theorem ints_small {n a : Int} {ws : List PyData} (h : wayOk n a ws = true) : ∀ d ∈ ws, smallD d = true := fun d hd => by
  obtain ⟨i, rfl, _⟩ := way_mem h d hd
  rfl
theorem bound_small {d : PyData} (h : boundD d = true) : smallD d = true := by
  cases d with
  | int i => rfl
  | _ => cases h
structure GoodP (ls ks : List PyData) : Prop where
  lanes : lanesD (.tuple ls) = true
  one : 1 ≤ ks.length
  six : ks.length ≤ 6
  all : ∀ d ∈ ks, kindD (ls.length : Nat) d = true
theorem plan_form {d : PyData} (h : planD d = true) : ∃ ls ks, d = .tuple [.tuple ls, .tuple ks] ∧ GoodP ls ks := by
  match d, h with
  | .tuple [l, k], h =>
    have h' : (lanesD l && kindsD k (lenD l)) = true := h
    rw [Bool.and_eq_true] at h'
    match l, k, h' with
    | .tuple ls, .tuple ks, h' =>
      have h2 : (tupD (.tuple ks) 1 6 && (ks.all (kindD (ls.length : Nat)) && unlikeD ks)) = true := h'.2
      rw [Bool.and_eq_true, Bool.and_eq_true] at h2
      have t := tup_len h2.1
      exact ⟨ls, ks, rfl, h'.1, by omega, by omega, List.all_eq_true.mp h2.2.1⟩
theorem kind_small {n : Int} {d : PyData} (h : kindD n d = true) : smallD d = true := by
  obtain ⟨x, ws, bs, rfl, g⟩ := kind_form h
  show (smallD (.str x) && (smallDs ws && (smallDs bs && true))) = true
  rw [nm_small g.nmx, small_all (ints_small g.way), small_all fun d hd => bound_small (g.bds d hd)]
  rfl
theorem plan_small {ls ks : List PyData} (g : GoodP ls ks) : smallD (.tuple [.tuple ls, .tuple ks]) = true := by
  show (smallDs ls && (smallDs ks && true)) = true
  rw [small_all fun d hd => lane_small ((goodL g.lanes).all d hd), small_all fun d hd => kind_small (g.all d hd)]
  rfl

theorem kinds_nd {d : PyData} {ls ks : List PyData} (h : planD (.tuple [.tuple ls, .tuple ks]) = true) : (ks.map firstD).Nodup := by
  have h' : (lanesD (.tuple ls) && kindsD (.tuple ks) (lenD (.tuple ls))) = true := h
  rw [Bool.and_eq_true] at h'
  have h2 : (tupD (.tuple ks) 1 6 && (ks.all (kindD (ls.length : Nat)) && unlikeD ks)) = true := h'.2
  rw [Bool.and_eq_true, Bool.and_eq_true] at h2
  exact of_decide_eq_true h2.2.2
theorem inL_one {c : Nat} (h : inL ⟨#[c]⟩ = true) : c < 1114112 := by
  unfold inL at h
  rw [PySem.StrLaws.found_one] at h
  have h1 : c ∈ az.cps.toList := of_decide_eq_true h
  have h2 : ∀ x ∈ az.cps.toList, x < 1114112 := by decide +kernel
  exact h2 c h1
theorem nm_ok {x : Str} (h : nm x = true) : PySem.PyData.strOk x = true ∧ x.length ≤ 8 := by
  unfold nm at h
  split at h
  · cases h
  · rw [Bool.and_eq_true, Bool.and_eq_true, decide_eq_true_eq, decide_eq_true_eq] at h
    refine ⟨?_, by omega⟩
    unfold PySem.PyData.strOk
    rw [Array.all_eq_true']
    intro c hc
    have := List.all_eq_true.mp h.2.2 ⟨#[c]⟩ (List.mem_map.mpr ⟨c, Array.mem_toList_iff.mpr hc, rfl⟩)
    exact decide_eq_true (inL_one this)
/-- no dicts, sound texts, no deeper than n -/
def Sh (n : Nat) (d : PyData) : Prop := d.canLay0 = true ∧ d.depth ≤ n
theorem Sh.more {n m : Nat} {d : PyData} (h : Sh n d) (k : n ≤ m) : Sh m d := ⟨h.1, Nat.le_trans h.2 k⟩
theorem sh_all {n : Nat} : ∀ {ds : List PyData}, (∀ d ∈ ds, Sh n d) → PyData.canLayAll0 ds = true ∧ PyData.depthAll ds ≤ n
  | [], _ => ⟨rfl, Nat.zero_le _⟩
  | d :: ds, h => by
    obtain ⟨a, b⟩ := h d List.mem_cons_self
    obtain ⟨c, e⟩ := sh_all fun x hx => h x (List.mem_cons_of_mem _ hx)
    refine ⟨?_, ?_⟩
    · show (d.canLay0 && PyData.canLayAll0 ds) = true
      rw [a, c]
      rfl
    · show max d.depth (PyData.depthAll ds) ≤ n
      omega
theorem Sh.tup {n : Nat} {ds : List PyData} (h : ∀ d ∈ ds, Sh n d) : Sh (n + 1) (.tuple ds) := by
  obtain ⟨a, b⟩ := sh_all h
  exact ⟨a, by show PyData.depthAll ds + 1 ≤ n + 1; omega⟩
theorem Sh.shaped {n : Nat} {d : PyData} (h : Sh n d) (k : n ≤ 64 := by decide) : SeqAt.shaped d = true := by
  unfold SeqAt.shaped
  rw [h.1, decide_eq_true (Nat.le_trans h.2 k)]
  rfl
theorem Sh.refl {n : Nat} {d : PyData} (h : Sh n d) : PyData.eqv d d = true := SeqAt.eqv_refl d h.1
theorem sh_int (i : Int) : Sh 0 (.int i) := ⟨rfl, Nat.le_refl _⟩
theorem sh_bool (b : Bool) : Sh 0 (.bool b) := ⟨rfl, Nat.le_refl _⟩
theorem sh_nm {x : Str} (h : nm x = true) : Sh 0 (.str x) := ⟨(nm_ok h).1, Nat.le_refl _⟩
theorem sh_bound {d : PyData} (h : boundD d = true) : Sh 0 d := by
  cases d with
  | int i => exact sh_int i
  | _ => cases h
theorem sh_way {n a : Int} {ws : List PyData} (h : wayOk n a ws = true) : Sh 1 (.tuple ws) := Sh.tup fun d hd => by
  obtain ⟨i, rfl, _⟩ := way_mem h d hd
  exact sh_int i
theorem sh_plan {ls ks : List PyData} (g : GoodP ls ks) : Sh 4 (.tuple [.tuple ls, .tuple ks]) := by
  refine Sh.tup fun d hd => ?_
  rcases List.mem_cons.mp hd with rfl | hd
  · refine (Sh.tup (n := 1) fun d hd => ?_).more (by decide)
    obtain ⟨x, b, rfl, hx, _⟩ := lane_form ((goodL g.lanes).all d hd)
    refine Sh.tup fun e he => ?_
    rcases List.mem_cons.mp he with rfl | he
    · exact sh_nm hx
    · rw [show e = .int b by simpa using he]; exact sh_int b
  · rw [show d = .tuple ks by simpa using hd]
    refine Sh.tup fun d hd => ?_
    obtain ⟨x, ws, bs, rfl, k⟩ := kind_form (g.all d hd)
    refine Sh.tup fun e he => ?_
    rcases List.mem_cons.mp he with rfl | he
    · exact (sh_nm k.nmx).more (by decide)
    · rcases List.mem_cons.mp he with rfl | he
      · exact sh_way k.way
      · rw [show e = .tuple bs by simpa using he]; exact Sh.tup fun d hd => sh_bound (k.bds d hd)
end K04
end

section
set_option Elab.async false
set_option linter.all false
set_option maxRecDepth 100000
set_option maxHeartbeats 1000000
namespace K04
open PySem PySem.Spec L2 PyProof.Rows
/-! ### the text of a plan -/
theorem e_sp : (" " : Str) = ⟨#[32]⟩ := by decide +kernel
theorem e_nl : ("\n" : Str) = ⟨#[10]⟩ := by decide +kernel
theorem e_cl : (":" : Str) = ⟨#[58]⟩ := by decide +kernel
def nT (b : Int) : Str := Str.ofString (toString b)
def bT : PyData → Str
  | .int b => nT b
  | _ => ""
def laneW : PyData → List Str
  | .tuple [.str x, b] => ["lane", x, bT b]
  | _ => []
def nameAt (ls : List PyData) : PyData → Str
  | .int i => firstD (ls.getD i.toNat .none)
  | _ => ""
def stepT (ls : List PyData) (w b : PyData) : Str := nameAt ls w ++ ":" ++ bT b
def kindW (ls : List PyData) : PyData → List Str
  | .tuple [.str x, .tuple ws, .tuple bs] => "kind" :: x :: List.zipWith (stepT ls) ws bs
  | _ => []
def row (ws : List Str) : Str := Txt.join " " ws
def rowsT (ls ks : List PyData) : List Str := ls.map (fun d => row (laneW d)) ++ ks.map (fun d => row (kindW ls d))
def planT (ls ks : List PyData) : Str := Txt.join "\n" (rowsT ls ks)
/-- figures -/
def figOk (n : Nat) : Bool := let l := sg (nT (n : Int)); (l.all fun c => decide (48 ≤ c) && decide (c ≤ 57)) && decide (1 ≤ l.length) && decide (l.length ≤ 2) && (n == 0 || l.head? != some 48)
theorem fig_all : (List.range 100).all figOk = true := by decide +kernel
structure Fig (x : Str) : Prop where
  all : ∀ c ∈ sg x, 48 ≤ c ∧ c ≤ 57
  one : 1 ≤ x.length
  two : x.length ≤ 2
  hd : (sg x).head? ≠ some 48
theorem fig_of {b : Int} (h1 : 1 ≤ b) (h2 : b ≤ 99) : Fig (nT b) := by
  have h := List.all_eq_true.mp fig_all b.toNat (List.mem_range.mpr (by omega))
  have e : ((b.toNat : Nat) : Int) = b := by omega
  unfold figOk at h
  rw [e] at h
  simp only [Bool.and_eq_true, decide_eq_true_eq, List.all_eq_true, Bool.or_eq_true, beq_iff_eq, bne_iff_ne] at h
  obtain ⟨⟨⟨a1, a2⟩, a3⟩, a4⟩ := h
  rw [sg_len] at a2 a3
  exact ⟨a1, a2, a3, a4.resolve_left (by omega)⟩
theorem az_all : ∀ x ∈ az.cps.toList, 97 ≤ x ∧ x ≤ 122 := by decide +kernel
theorem nm_sg {x : Str} (h : nm x = true) : (∀ c ∈ sg x, 97 ≤ c ∧ c ≤ 122) ∧ x.length ≤ 8 := by
  unfold nm at h
  split at h
  · cases h
  · rw [Bool.and_eq_true, Bool.and_eq_true, decide_eq_true_eq, decide_eq_true_eq] at h
    refine ⟨fun c hc => ?_, by omega⟩
    have := List.all_eq_true.mp h.2.2 ⟨#[c]⟩ (List.mem_map.mpr ⟨c, hc, rfl⟩)
    unfold inL at this
    rw [PySem.StrLaws.found_one] at this
    exact az_all c (of_decide_eq_true this)
/-- a word -/
structure Word (x : Str) : Prop where
  all : ∀ c ∈ sg x, 33 ≤ c ∧ c ≤ 122
  len : x.length ≤ 11
theorem word_nm {x : Str} (h : nm x = true) : Word x := ⟨fun c hc => by have := (nm_sg h).1 c hc; omega, by have := (nm_sg h).2; omega⟩
theorem word_fig {b : Int} (h1 : 1 ≤ b) (h2 : b ≤ 99) : Word (nT b) := ⟨fun c hc => by have := (fig_of h1 h2).all c hc; omega, by have := (fig_of h1 h2).two; omega⟩
theorem word_lane : Word "lane" := ⟨by decide +kernel, by decide +kernel⟩
theorem word_kind : Word "kind" := ⟨by decide +kernel, by decide +kernel⟩
theorem bound_int {d : PyData} (h : boundD d = true) : ∃ b, d = .int b ∧ 1 ≤ b ∧ b ≤ 99 := by
  cases d with
  | int i =>
    have h' : (decide (1 ≤ i) && decide (i ≤ 99)) = true := h
    rw [Bool.and_eq_true, decide_eq_true_eq, decide_eq_true_eq] at h'
    exact ⟨i, rfl, h'.1, h'.2⟩
  | _ => cases h
theorem name_of {ls : List PyData} (g : ∀ d ∈ ls, laneD d = true) {i : Nat} (hi : i < ls.length) : ∃ x b, ls[i] = .tuple [.str x, .int b] ∧ nm x = true ∧ firstD ls[i] = x := by
  obtain ⟨x, b, e, h, _⟩ := lane_form (g _ (List.getElem_mem hi))
  exact ⟨x, b, e, h, by rw [e]; rfl⟩
theorem nameAt_eq {ls : List PyData} {i : Int} (h0 : 0 ≤ i) (h1 : i < (ls.length : Nat)) : nameAt ls (.int i) = firstD (ls[i.toNat]'(by omega)) := by
  show firstD (ls.getD i.toNat .none) = _
  rw [List.getD_eq_getElem?_getD, List.getElem?_eq_getElem (by omega)]
  rfl
theorem step_sg (ls : List PyData) (w b : PyData) : sg (stepT ls w b) = sg (nameAt ls w) ++ 58 :: sg (bT b) := by
  unfold stepT
  rw [e_cl, sg_app, sg_app]
  show _ ++ [58] ++ _ = _
  simp
theorem word_step {ls : List PyData} (g : ∀ d ∈ ls, laneD d = true) {i b : Int} (h0 : 0 ≤ i) (h1 : i < (ls.length : Nat)) (hb1 : 1 ≤ b) (hb2 : b ≤ 99) : Word (stepT ls (.int i) (.int b)) := by
  obtain ⟨x, b', e, hx, e2⟩ := name_of g (i := i.toNat) (by omega)
  have en : nameAt ls (.int i) = x := by rw [nameAt_eq h0 h1, e2]
  have hs := step_sg ls (.int i) (.int b)
  rw [en] at hs
  have w1 := word_nm hx
  have w2 := word_fig hb1 hb2
  have l1 := (nm_sg hx).2
  have l2 := (fig_of hb1 hb2).two
  refine ⟨fun c hc => ?_, ?_⟩
  · rw [hs] at hc
    rcases List.mem_append.mp hc with hc | hc
    · exact w1.all c hc
    · rcases List.mem_cons.mp hc with rfl | hc
      · omega
      · exact w2.all c hc
  · rw [← sg_len, hs, List.length_append, List.length_cons, sg_len, show (sg (bT (.int b))).length = (nT b).length from sg_len _]
    omega
theorem lane_words {d : PyData} (h : laneD d = true) : (∀ p ∈ laneW d, Word p) ∧ (laneW d).length = 3 := by
  obtain ⟨x, b, rfl, hx, h1, h2⟩ := lane_form h
  refine ⟨fun p hp => ?_, rfl⟩
  have hp' : p ∈ (["lane", x, nT b] : List Str) := hp
  simp only [List.mem_cons, List.not_mem_nil, or_false] at hp'
  rcases hp' with rfl | rfl | rfl
  · exact word_lane
  · exact word_nm hx
  · exact word_fig h1 h2
theorem way_at {ls : List PyData} {x : Str} {ws bs : List PyData} (k : GoodK (ls.length : Nat) x ws bs) {i : Nat} (hi : i < ws.length) : ∃ w : Int, ws[i] = .int w ∧ 0 ≤ w ∧ w < (ls.length : Nat) := by
  obtain ⟨w, e, h1, h2⟩ := way_mem k.way _ (List.getElem_mem hi)
  exact ⟨w, e, by omega, h2⟩
theorem bd_at {n : Int} {x : Str} {ws bs : List PyData} (k : GoodK n x ws bs) {i : Nat} (hi : i < bs.length) : ∃ b : Int, bs[i] = .int b ∧ 1 ≤ b ∧ b ≤ 99 := bound_int (k.bds _ (List.getElem_mem hi))
theorem kind_words {ls : List PyData} (g : GoodL ls) {x : Str} {ws bs : List PyData} (k : GoodK (ls.length : Nat) x ws bs) : (∀ p ∈ kindW ls (.tuple [.str x, .tuple ws, .tuple bs]), Word p) ∧ (kindW ls (.tuple [.str x, .tuple ws, .tuple bs])).length = ws.length + 2 := by
  refine ⟨fun p hp => ?_, ?_⟩
  · have hp' : p ∈ ("kind" : Str) :: x :: List.zipWith (stepT ls) ws bs := hp
    rcases List.mem_cons.mp hp' with rfl | hp'
    · exact word_kind
    · rcases List.mem_cons.mp hp' with rfl | hp'
      · exact word_nm k.nmx
      · obtain ⟨i, hi, e⟩ := List.mem_iff_getElem.mp hp'
        rw [List.length_zipWith] at hi
        rw [List.getElem_zipWith] at e
        obtain ⟨w, ew, h0, h1⟩ := way_at k (i := i) (by omega)
        obtain ⟨b, eb, h2, h3⟩ := bd_at k (i := i) (by omega)
        rw [ew, eb] at e
        rw [← e]
        exact word_step g.all h0 h1 h2 h3
  · show (List.zipWith (stepT ls) ws bs).length + 1 + 1 = _
    rw [List.length_zipWith, k.len, Nat.min_self]
theorem words_split {ps : List Str} (hne : ps ≠ []) (h : ∀ p ∈ ps, Word p) : Txt.split (row ps) " " = ps := by
  unfold row
  rw [e_sp]
  exact split_join hne fun p hp z => by have := (h p hp).all 32 z; omega
theorem row_free {ps : List Str} (h : ∀ p ∈ ps, Word p) : 10 ∉ sg (row ps) := by
  unfold row
  rw [e_sp]
  exact join_free (by decide) fun p hp z => by have := (h p hp).all 10 z; omega
theorem row_len {ps : List Str} (h : ∀ p ∈ ps, Word p) (hl : ps.length ≤ 8) : (row ps).length ≤ 96 := by
  unfold row
  rw [e_sp]
  have := join_len (c := 32) (m := 11) fun p hp => (h p hp).len
  omega
theorem row_sg {ps : List Str} (h : ∀ p ∈ ps, Word p) : ∀ c ∈ sg (row ps), c ≤ 122 := by
  unfold row
  rw [e_sp]
  exact join_all (P := fun c => c ≤ 122) (by decide) fun p hp x hx => ((h p hp).all x hx).2
/-- .. of the rows -/
structure Row (x : Str) : Prop where
  free : 10 ∉ sg x
  len : x.length ≤ 96
  sgs : ∀ c ∈ sg x, c ≤ 122
theorem row_lane {d : PyData} (h : laneD d = true) : Row (row (laneW d)) := by
  obtain ⟨h1, h2⟩ := lane_words h
  exact ⟨row_free h1, row_len h1 (by omega), row_sg h1⟩
theorem row_kind {ls : List PyData} (g : GoodL ls) {d : PyData} (h : kindD (ls.length : Nat) d = true) : Row (row (kindW ls d)) := by
  obtain ⟨x, ws, bs, rfl, k⟩ := kind_form h
  obtain ⟨h1, h2⟩ := kind_words g k
  have := k.most
  have := g.six
  exact ⟨row_free h1, row_len h1 (by omega), row_sg h1⟩
theorem rows_all {ls ks : List PyData} (g : GoodP ls ks) : ∀ r ∈ rowsT ls ks, Row r := fun r hr => by
  rcases List.mem_append.mp hr with hr | hr
  · obtain ⟨d, hd, rfl⟩ := List.mem_map.mp hr
    exact row_lane ((goodL g.lanes).all d hd)
  · obtain ⟨d, hd, rfl⟩ := List.mem_map.mp hr
    exact row_kind (goodL g.lanes) (g.all d hd)
theorem rows_len (ls ks : List PyData) : (rowsT ls ks).length = ls.length + ks.length := by unfold rowsT; simp
theorem plan_split {ls ks : List PyData} (g : GoodP ls ks) : Txt.split (planT ls ks) "\n" = rowsT ls ks := by
  unfold planT
  rw [e_nl]
  refine split_join (fun h => ?_) fun p hp => (rows_all g p hp).free
  have := rows_len ls ks
  rw [h] at this
  have := g.one
  simp at *
  omega
theorem plan_len {ls ks : List PyData} (g : GoodP ls ks) : (planT ls ks).length ≤ 2000 := by
  unfold planT
  rw [e_nl]
  have h1 := join_len (c := 10) (m := 96) fun p hp => (rows_all g p hp).len
  have h2 := rows_len ls ks
  have := (goodL g.lanes).six
  have := g.six
  rw [h2] at h1
  omega
theorem planT_ok {ls ks : List PyData} (g : GoodP ls ks) : PySem.PyData.strOk (planT ls ks) = true := by
  unfold PySem.PyData.strOk
  rw [Array.all_eq_true']
  intro c hc
  have : c ≤ 122 := by
    have h := join_all (c := 10) (P := fun c => c ≤ 122) (by decide) (ps := rowsT ls ks) fun p hp => (rows_all g p hp).sgs
    unfold planT at hc
    rw [e_nl] at hc
    exact h c (Array.mem_toList_iff.mpr hc)
  exact decide_eq_true (by omega)
/-- as a text with fields -/
theorem lane_row (x : Str) (b : Int) : row (laneW (.tuple [.str x, .int b])) = "lane " ++ x ++ " " ++ nT b := by
  apply sg_ext
  show sg (Txt.join " " ["lane", x, nT b]) = _
  rw [e_sp, txt_join, sg_join, sg_app, sg_app, sg_app]
  have e1 : sg ("lane " : Str) = [108, 97, 110, 101, 32] := by decide +kernel
  have e2 : sg ("lane" : Str) = [108, 97, 110, 101] := by decide +kernel
  rw [e1]
  show sg ("lane" : Str) ++ 32 :: (sg x ++ 32 :: sg (nT b)) = _
  rw [e2]
  show _ = [108, 97, 110, 101, 32] ++ sg x ++ [32] ++ sg (nT b)
  simp
/-! ### the beginnings of a plan -/
theorem lanes_take {ls : List PyData} (g : GoodL ls) {i : Nat} (h1 : 1 ≤ i) : lanesD (.tuple (ls.take i)) = true := by
  show (tupD (.tuple (ls.take i)) 1 6 && ((ls.take i).all laneD && unlikeD (ls.take i))) = true
  have hl : (ls.take i).length = min i ls.length := List.length_take
  have := g.one
  have := g.six
  have a : tupD (.tuple (ls.take i)) 1 6 = true := by
    show (decide ((1 : Int) ≤ ((ls.take i).length : Int)) && decide (((ls.take i).length : Int) ≤ 6)) = true
    rw [Bool.and_eq_true, decide_eq_true_eq, decide_eq_true_eq]
    omega
  have b : (ls.take i).all laneD = true := List.all_eq_true.mpr fun d hd => g.all d (List.mem_of_mem_take hd)
  have c : unlikeD (ls.take i) = true := decide_eq_true (by rw [List.map_take]; exact g.nd.sublist (List.take_sublist _ _))
  rw [a, b, c]
  rfl
theorem kinds_take {ks : List PyData} {n : Int} (h6 : ks.length ≤ 6) (h0 : 1 ≤ ks.length) (all : ∀ d ∈ ks, kindD n d = true) (nd : (ks.map firstD).Nodup) {i : Nat} (h1 : 1 ≤ i) : kindsD (.tuple (ks.take i)) n = true := by
  show (tupD (.tuple (ks.take i)) 1 6 && ((ks.take i).all (kindD n) && unlikeD (ks.take i))) = true
  have hl : (ks.take i).length = min i ks.length := List.length_take
  have a : tupD (.tuple (ks.take i)) 1 6 = true := by
    show (decide ((1 : Int) ≤ ((ks.take i).length : Int)) && decide (((ks.take i).length : Int) ≤ 6)) = true
    rw [Bool.and_eq_true, decide_eq_true_eq, decide_eq_true_eq]
    omega
  have b : (ks.take i).all (kindD n) = true := List.all_eq_true.mpr fun d hd => all d (List.mem_of_mem_take hd)
  have c : unlikeD (ks.take i) = true := decide_eq_true (by rw [List.map_take]; exact nd.sublist (List.take_sublist _ _))
  rw [a, b, c]
  rfl
end K04
end

section
set_option Elab.async false
set_option linter.all false
set_option maxRecDepth 100000
set_option maxHeartbeats 1000000
namespace K04
open PySem PySem.Spec L2 PyProof.Rows
abbrev figs : Str := "0123456789"
structure TxE (K : PySem.W.Frag) (mg : Str → Option Value) : Prop extends Txt K mg where
  b_enumerate : mg "enumerate" = none
  b_zip : mg "zip" = none
  g_FIGURES : ∃ u, mg "FIGURES" = some u ∧ RelV (.str figs) u
  g_MOST_FIGURES : ∃ u, mg "MOST_FIGURES" = some u ∧ RelV (.int 2) u
def spRB (ts : List Addr) : Sp := fun vs H Q _ => ∃ b : Int, vs = [.str (nT b)] ∧ 1 ≤ b ∧ b ≤ 99 ∧ Tb ts H ∧ ∀ H', Ext [] H H' → Q (.int b) H'
theorem figs_all : ∀ n ∈ List.range 10, (48 + n) ∈ figs.cps.toList := by decide +kernel
theorem in_figs {c : Nat} (h1 : 48 ≤ c) (h2 : c ≤ 57) : (!(Builtin.Str.occurrences figs ⟨#[c]⟩ 0 figs.length 1).isEmpty) = true := by
  rw [PySem.StrLaws.found_one]
  refine decide_eq_true ?_
  have := figs_all (c - 48) (List.mem_range.mpr (by omega))
  rw [show 48 + (c - 48) = c by omega] at this
  exact this
section
variable {P : Program} {w : World} {K : PySem.W.Frag} {mg : Str → Option Value} {base : Heap} {ts : List Addr}
abbrev s_read_bound : Stmt := top 30
theorem sc_read_bound : FnScope ["word"] ["word"] (defScope s_read_bound) := ⟨rfl, rfl, rfl, by decide +kernel, rfl, by decide +kernel, by decide +kernel⟩
theorem ok_rbound {f c0 tP : Addr} {fd : FuncData} (F : FunC K "read_bound" "read_bound" s_read_bound f fd c0) (T : TxE K mg) (hcd : PySem.W.CodeHd base c0 tP) (hbm : BltMod mg base) (hts : tP ∈ ts) : FnOk P w K mg base CX0 2 f fd ["word"] (spRB ts) := by
  refine F.ok sc_read_bound (fun vs H Q E h => ?_) (fun A outer s H vs Q E hr h => ?_)
  · obtain ⟨b, rfl, _⟩ := h
    rfl
  obtain ⟨b, rfl, h1, h2, tb, q⟩ := h
  have fg := fig_of h1 h2
  have z1 : (nT b).length ≤ sizeLine := Nat.le_of_lt (small1000 (by have := fg.two; omega))
  refine' ⟨_, ?hh, ?rr⟩
  case hh => (refine' pss_cons ?g1 ?g2; (case g1 => (refine' ps_if ?g3 ?g4 ?g5; (case g3 => (refine' PW.pt ?g6; (case g6 => (refine' pw_or ?g7 ?g8; (case g7 => (refine' pt_not ?g9; (case g9 => (refine' pt_chain ?g10 ?g11 ?g12 ?g13 ?g14; (case g10 => (exact op_le)); (case g11 => (exact op_le)); (case g12 => (exact pe_int)); (case g13 => (refine' pe_callB ?g15 ?g16 ?g17 ?g18 ?g19; (case g15 => (exact call_len_str)); (case g16 => (exact rfl)); (case g17 => (exact T.b_len)); (case g18 => (exact PySem.boot_len)); (case g19 => (refine' pa_c ?g20 ?g21; (case g20 => (exact (pv 0))); (case g21 => (exact pa_nil)))))); (case g14 => (exact (pe_gl T.g_MOST_FIGURES))))))); (case g8 => (refine' pw_or1 ?g22; (case g22 => (refine' pt_cmpR ?g23 ?g24 ?g25 ?g26; (case g23 => (exact op_eq)); (case g24 => (refine' pe_ix ?g27 ?g28 ?g29 ?g30; (case g27 => (exact ix_str)); (case g28 => (exact (pv 0))); (case g29 => (exact pe_int)); (case g30 => (exact (fun _ _ => rfl))))); (case g25 => (exact pe_str)); (case g26 => (exact (nomark _))))))))))); (case g4 => (refine' pss_one ?g31; (case g31 => (refine' ps_ret ?g32; (case g32 => (exact pe_non)))))); (case g5 => (exact pss_nil)))); (case g2 => (refine' pss_cons ?g33 ?g34; (case g33 => (refine' ps_if ?g35 ?g36 ?g37; (case g35 => (refine' pt_not ?g38; (case g38 => (refine' pt_val ?g39; (case g39 => (refine' pe_allgen ?g40 ?g41 ?g42 ?g43 ?g44 ?g45 ?g46 ?g47 ?g48 ?g49 ?g50 ?g51 ?g52 ?g53 ?g54 ?g55; (case g40 => (exact hr)); (case g41 => (exact rfl)); (case g42 => (exact rfl)); (case g43 => (exact hcd)); (case g44 => (exact hbm)); (case g45 => (exact rfl)); (case g46 => (exact T.b_all)); (case g47 => (exact ⟨rfl, rfl, by decide +kernel, rfl, (show ∀ y : Str × NameKind, y ∈ _ → y.2 = NameKind.free → (defScope s_read_bound).names.lookup y.1 = some .cell ∨ (defScope s_read_bound).names.lookup y.1 = some .free from by decide +kernel)⟩)); (case g48 => (exact (compN ["sign"] 1 []))); (case g49 => (decide +kernel)); (case g50 => (decide)); (case g51 => (refine' pi_str ?g56; (case g56 => (exact (pv 0))))); (case g52 => (intro _ _ _ _ _ _; refine' pg_name ?g57 ?g58 ?g59 ?g60; (case g57 => (exact (show (["sign"] : List Str).Nodup from by decide +kernel))); (case g58 => (exact (ixAt 0))); (case g59 => (exact (Or.inl rfl))); (case g60 => (exact (Or.inr rfl))))); (case g53 => (exact (gown_name (by decide)))); (case g54 => (intro _ _ _ _ _ _; exact pts_nil)); (case g55 => (intro _ _ _ _ _ _; refine' pe_cmpR ?g61 ?g62 ?g63 ?g64; (case g61 => (exact op_in_str)); (case g62 => (exact (pv 0))); (case g63 => (exact (pe_gl T.g_FIGURES))); (case g64 => (with_unfolding_all rfl)))))))))); (case g36 => (refine' pss_one ?g65; (case g65 => (refine' ps_ret ?g66; (case g66 => (exact pe_non)))))); (case g37 => (exact pss_nil)))); (case g34 => (refine' pss_one ?g67; (case g67 => (refine' ps_ret ?g68; (case g68 => (refine' pe_callTy ?g69 ?g70 ?g71 ?g72 ?g73; (case g69 => (exact call_int_num)); (case g70 => (exact rfl)); (case g71 => (exact T.b_int)); (case g72 => (exact boot_tint)); (case g73 => (refine' pa_c ?g74 ?g75; (case g74 => (exact (pv 0))); (case g75 => (exact pa_nil)))))))))))))
  have l1 := fg.one
  have l2 := fg.two
  have l0 : 0 < (sg (nT b)).length := by rw [sg_len]; omega
  refine ⟨_, rfl, _, rfl, z1, _, _, rfl, rfl, _, rfl, ?_⟩
  refine ite2 (fun c1 => ?_) (fun c1 => absurd (decide_eq_true (by omega)) c1)
  refine ⟨_, _, rfl, rfl, _, rfl, ?_⟩
  rw [decide_eq_true (show (((nT b).length : Nat) : Int) ≤ 2 by omega)]
  refine iteF ?_
  have e0 : atI (sg (nT b)) 0 = some (sg (nT b))[0] := atI_nat (j := 0) (List.getElem?_eq_getElem l0)
  refine ⟨_, rfl, _, _, _, rfl, rfl, z1, e0, rfl, _, rfl, ?_⟩
  have en : decide (V.str ⟨#[(sg (nT b))[0]]⟩ = V.str ("0" : Str)) = false := decide_eq_false fun z => fg.hd (by
    have z1 : (⟨#[(sg (nT b))[0]]⟩ : Str) = "0" := by injection z
    have z2 : ("0" : Str) = ⟨#[48]⟩ := by decide +kernel
    rw [z2] at z1
    have z3 : sg (⟨#[(sg (nT b))[0]]⟩ : Str) = sg ⟨#[48]⟩ := congrArg sg z1
    have z4 : (sg (nT b))[0] = 48 := (List.cons.inj z3).1
    rw [List.head?_eq_getElem?, List.getElem?_eq_getElem l0, z4])
  rw [en]
  refine iteF ?_
  obtain ⟨ps, hps⟩ := tb tP hts
  refine ⟨_, rfl, _, rfl, ⟨ps, hps⟩, fun ps' tb' => allgen_by0 yields_str (fun i H2 => Ext [] H H2) (Ext.tbl hps.1 tb'.2) (fun _ _ _ => trivial) ?_ ?_⟩
  · rintro i y H2 hy hi e
    obtain ⟨c, hc, rfl⟩ : ∃ c, c ∈ sg (nT b) ∧ y = .str ⟨#[c]⟩ := by
      obtain ⟨c, hc, e⟩ := List.mem_map.mp (List.mem_of_getElem? hy)
      exact ⟨c, hc, e.symm⟩
    have hf := fg.all c hc
    refine ⟨_, rfl, _, _, rfl, rfl, _, rfl, ?_⟩
    rw [in_figs hf.1 hf.2]
    exact iteT (nx hi e)
  · rintro H2 e
    refine ⟨_, rfl, iteF ?_⟩
    exact ⟨_, rfl, b, rfl, by omega, by omega, q H2 e⟩
/-- one row of a lane -/
def spRL (ts : List Addr) : Sp := fun vs H Q _ => ∃ (d : PyData) (v : V), vs = [v] ∧ laneD d = true ∧ IsD [] H (.list ((laneW d).map .str)) v ∧ Tb ts H ∧ ∀ u H', Ext [] H H' → IsD [] H' d u → Q u H'
abbrev s_read_lane : Stmt := top 28
theorem sc_read_lane : FnScope ["words"] ["words"] (defScope s_read_lane) := ⟨rfl, rfl, rfl, by decide +kernel, rfl, by decide +kernel, by decide +kernel⟩
theorem ok_rlane {f : Addr} {fd : FuncData} (F : Fun K "read_lane" "read_lane" s_read_lane f fd) (T : TxE K mg) (C_read_bound : CallOk P w K mg base "read_bound" 2 ["word"] (spRB ts)) : FnOk P w K mg base CX0 3 f fd ["words"] (spRL ts) := by
  refine F.ok sc_read_lane (fun vs H Q E h => ?_) (fun cdv A outer s H vs Q E hr h => ?_)
  · obtain ⟨d, v, rfl, _⟩ := h
    rfl
  obtain ⟨d, v, rfl, hd, hv, tb, q⟩ := h
  obtain ⟨x, b, rfl, hx, h1, h2⟩ := lane_form hd
  obtain ⟨a, us, rfl, _, ha, v1, r1, rfl, e1, v2, r2, rfl, e2, v3, r3, rfl, e3, rfl⟩ := hv
  obtain rfl : v1 = .str "lane" := e1
  obtain rfl : v2 = .str x := e2
  obtain rfl : v3 = .str (nT b) := e3
  refine' ⟨_, ?hh, ?rr⟩
  case hh => (refine' pss_cons ?g76 ?g77; (case g76 => (refine' ps_if ?g78 ?g79 ?g80; (case g78 => (refine' pt_cmpR ?g81 ?g82 ?g83 ?g84; (case g81 => (exact op_ne)); (case g82 => (refine' pe_callB ?g85 ?g86 ?g87 ?g88 ?g89; (case g85 => (exact call_len_seq)); (case g86 => (exact rfl)); (case g87 => (exact T.b_len)); (case g88 => (exact PySem.boot_len)); (case g89 => (refine' pa_c ?g90 ?g91; (case g90 => (exact (pv 0))); (case g91 => (exact pa_nil)))))); (case g83 => (exact pe_int)); (case g84 => (exact (nomark _))))); (case g79 => (refine' pss_one ?g92; (case g92 => (refine' ps_ret ?g93; (case g93 => (exact pe_non)))))); (case g80 => (exact pss_nil)))); (case g77 => (refine' pss_one ?g94; (case g94 => (refine' ps_ret ?g95; (case g95 => (refine' pe_tup ?g96; (case g96 => (refine' pa_c ?g97 ?g98; (case g97 => (refine' pe_ix ?g99 ?g100 ?g101 ?g102; (case g99 => (exact ix_list)); (case g100 => (exact (pv 0))); (case g101 => (exact pe_int)); (case g102 => (exact (fun _ _ => rfl))))); (case g98 => (refine' pa_c ?g103 ?g104; (case g103 => (refine' pe_cl ?g105 ?g106 ?g107 ?g108 ?g109; (case g105 => (exact C_read_bound)); (case g106 => (exact hr)); (case g107 => (refine' pa_c ?g110 ?g111; (case g110 => (refine' pe_ix ?g112 ?g113 ?g114 ?g115; (case g112 => (exact ix_list)); (case g113 => (exact (pv 0))); (case g114 => (exact pe_int)); (case g115 => (exact (fun _ _ => rfl))))); (case g111 => (exact pa_nil)))); (case g108 => (exact rfl)); (case g109 => (decide)))); (case g104 => (exact pa_nil)))))))))))))
  refine ⟨_, rfl, a, _, rfl, .inl (SqL.of ha), rfl, _, rfl, ?_⟩
  refine iteF ?_
  refine ⟨_, rfl, a, _, 1, .str x, rfl, rfl, SqL.of ha, atI_nat (j := 1) rfl, _, rfl, a, _, 2, .str (nT b), rfl, rfl, SqL.of ha, atI_nat (j := 2) rfl, b, rfl, h1, h2, tb, fun H1 e1 => ⟨(show 2 ≤ sizeLine by decide), fun p hp => ?_⟩⟩
  exact q _ _ (e1.trans (Ext.new hp _)) ⟨p, _, rfl, by simp, upd_same, .str x, _, rfl, rfl, .int b, _, rfl, rfl, rfl⟩
/-- a beginning of a plan -/
def spBG (ts : List Addr) : Sp := fun vs H Q _ => ∃ (ls ks : List PyData) (v u : V), vs = [v, u] ∧ IsD [] H (.tuple ls) v ∧ IsD [] H (.tuple ks) u ∧ lanesD (.tuple ls) = true ∧ (ks = [] ∨ kindsD (.tuple ks) (ls.length : Nat) = true) ∧ smallDs ls = true ∧ smallDs ks = true ∧ Tb ts H ∧ ∀ H', Ext [] H H' → Q (.bl true) H'
abbrev s_begin_a_plan : Stmt := top 27
theorem sc_begin_a_plan : FnScope ["lanes", "kinds"] ["lanes", "kinds"] (defScope s_begin_a_plan) := ⟨rfl, rfl, rfl, by decide +kernel, rfl, by decide +kernel, by decide +kernel⟩
theorem ok_begin {f : Addr} {fd : FuncData} (F : Fun K "begin_a_plan" "begin_a_plan" s_begin_a_plan f fd) (T : TxE K mg) (C_are_lanes : CallOk P w K mg base "are_lanes" 5 ["thing"] (sp1 ts lanesD)) (C_are_kinds : CallOk P w K mg base "are_kinds" 7 ["thing", "lane_count"] (sp2 ts kindsD)) : FnOk P w K mg base CX0 8 f fd ["lanes", "kinds"] (spBG ts) := by
  refine F.ok sc_begin_a_plan (fun vs H Q E h => ?_) (fun cdv A outer s H vs Q E hr h => ?_)
  · obtain ⟨ls, ks, v, u, rfl, _⟩ := h
    rfl
  obtain ⟨ls, ks, v, u, rfl, hv, hu, hl, hk, s1, s2, tb, q⟩ := h
  refine' ⟨_, ?hh, ?rr⟩
  case hh => (refine' pss_one ?g116; (case g116 => (refine' ps_ret ?g117; (case g117 => (refine' pe_and ?g118 ?g119; (case g118 => (refine' pe_cl ?g120 ?g121 ?g122 ?g123 ?g124; (case g120 => (exact C_are_lanes)); (case g121 => (exact hr)); (case g122 => (refine' pa_c ?g125 ?g126; (case g125 => (exact (pv 0))); (case g126 => (exact pa_nil)))); (case g123 => (exact rfl)); (case g124 => (decide)))); (case g119 => (refine' pe_one ?g127; (case g127 => (refine' pe_or ?g128 ?g129; (case g128 => (refine' pe_notT ?g130; (case g130 => (exact (pv 1))))); (case g129 => (refine' pe_one ?g131; (case g131 => (refine' pe_cl ?g132 ?g133 ?g134 ?g135 ?g136; (case g132 => (exact C_are_kinds)); (case g133 => (exact hr)); (case g134 => (refine' pa_c ?g137 ?g138; (case g137 => (exact (pv 1))); (case g138 => (refine' pa_c ?g139 ?g140; (case g139 => (refine' pe_callB ?g141 ?g142 ?g143 ?g144 ?g145; (case g141 => (exact call_len_seq)); (case g142 => (exact rfl)); (case g143 => (exact T.b_len)); (case g144 => (exact PySem.boot_len)); (case g145 => (refine' pa_c ?g146 ?g147; (case g146 => (exact (pv 0))); (case g147 => (exact pa_nil)))))); (case g140 => (exact pa_nil)))))); (case g135 => (exact rfl)); (case g136 => (decide)))))))))))))))
  refine ⟨_, rfl, .tuple ls, v, rfl, hv, s1, tb, fun H1 e1 => ⟨_, rfl, ?_⟩⟩
  rw [hl]
  refine iteT ?_
  obtain ⟨b, ys, rfl, nb, hb, hys⟩ := IsD.ext e1 hu
  obtain ⟨a, xs, rfl, na, ha, hxs⟩ := IsD.ext e1 hv
  refine ⟨_, rfl, !ys.isEmpty, .inr (.inl ⟨ys, SqT.of hb, rfl⟩), _, rfl, ?_⟩
  have el := hys.length
  cases ys with
  | nil => exact iteT (q _ e1)
  | cons y ys =>
    have hk' := hk.resolve_left fun z => by rw [z] at el; simp at el
    refine iteF ⟨_, rfl, _, rfl, a, xs, rfl, .inr (SqT.of ha), .tuple ks, _, _, rfl, ⟨b, _, rfl, nb, hb, hys⟩, s2, e1.tb tb (by simp), fun H2 e2 => ?_⟩
    rw [hxs.length, hk']
    exact q _ (e1.trans e2)
end
end K04
end

section
set_option Elab.async false
set_option linter.all false
set_option maxRecDepth 100000
set_option maxHeartbeats 1000000
namespace K04
open PySem PySem.Spec L2 PyProof.Rows
theorem fmt_nm {x : Str} (h : nm x = true) : fmtV (.str x) = some x := by
  have := (nm_sg h).2
  show (if x.length ≤ 1000 then some x else none) = some x
  rw [if_pos (by omega)]
theorem log_small : ∀ n ∈ List.range 100, n.log2 < 1920 := by decide +kernel
theorem fmt_int {b : Int} (h1 : 1 ≤ b) (h2 : b ≤ 99) : fmtV (.int b) = some (nT b) := by
  show (if b.natAbs.log2 < 1920 then some (nT b) else none) = _
  rw [if_pos (log_small _ (List.mem_range.mpr (by omega)))]
def spSK : Sp := fun vs H Q _ => ∃ (ls : List PyData) (x : Str) (ws bs : List PyData) (v u : V), vs = [v, u] ∧ GoodL ls ∧ GoodK (ls.length : Nat) x ws bs ∧ IsD [] H (.tuple ls) v ∧ IsD [] H (.tuple [.str x, .tuple ws, .tuple bs]) u ∧ ∀ H', Ext [] H H' → Q (.str (row (kindW ls (.tuple [.str x, .tuple ws, .tuple bs])))) H'
theorem emp_app (x : Str) : Str.empty ++ x = x := by
  apply sg_ext
  rw [sg_app]
  rfl
theorem app_len (x y : Str) : (x ++ y).length = x.length + y.length := by
  rw [← sg_len, sg_app, List.length_append, sg_len, sg_len]
theorem step_at {ls ws bs : List PyData} {i : Nat} {w b : PyData} (hw : ws[i]? = some w) (hb : bs[i]? = some b) : (List.zipWith (stepT ls) ws bs).take (i + 1) = (List.zipWith (stepT ls) ws bs).take i ++ [stepT ls w b] := by
  rw [List.take_add_one, List.getElem?_zipWith, hw, hb]
  rfl
section
variable {P : Program} {w : World} {K : PySem.W.Frag} {mg : Str → Option Value} {base : Heap} {ts : List Addr}
abbrev s_shown_kind : Stmt := top 25
theorem sc_shown_kind : FnScope ["lanes", "kind", "name", "way", "bounds", "steps"] ["lanes", "kind"] (defScope s_shown_kind) := ⟨rfl, rfl, rfl, by decide +kernel, rfl, by decide +kernel, by decide +kernel⟩
theorem ok_skind {f : Addr} {fd : FuncData} (F : Fun K "shown_kind" "shown_kind" s_shown_kind f fd) (T : TxE K mg) : FnOk P w K mg base CX0 1 f fd ["lanes", "kind"] spSK := by
  refine F.ok sc_shown_kind (fun vs H Q E h => ?_) (fun cdv A outer s H vs Q E hr h => ?_)
  · obtain ⟨ls, x, ws, bs, v, u, rfl, _⟩ := h
    rfl
  obtain ⟨ls, x, ws, bs, v, u, rfl, gl, gk, hv, hu, q⟩ := h
  refine' ⟨_, ?hh, ?rr⟩
  case hh => (refine' pss_cons ?g1 ?g2; (case g1 => (refine' ps_asg ?g3 ?g4; (case g3 => (exact (pv 1))); (case g4 => (refine' pg_tup ?g5 ?g6; (case g5 => (exact rfl)); (case g6 => (refine' pgs_cons ?g7 ?g8; (case g7 => (refine' pg_name ?g9 ?g10 ?g11 ?g12; (case g9 => (exact sc_shown_kind.nd)); (case g10 => (exact (ixAt 2))); (case g11 => (exact (Or.inl rfl))); (case g12 => (exact (Or.inl rfl))))); (case g8 => (refine' pgs_cons ?g13 ?g14; (case g13 => (refine' pg_name ?g15 ?g16 ?g17 ?g18; (case g15 => (exact sc_shown_kind.nd)); (case g16 => (exact (ixAt 3))); (case g17 => (exact (Or.inl rfl))); (case g18 => (exact (Or.inl rfl))))); (case g14 => (refine' pgs_cons ?g19 ?g20; (case g19 => (refine' pg_name ?g21 ?g22 ?g23 ?g24; (case g21 => (exact sc_shown_kind.nd)); (case g22 => (exact (ixAt 4))); (case g23 => (exact (Or.inl rfl))); (case g24 => (exact (Or.inl rfl))))); (case g20 => (exact pgs_nil)))))))))))); (case g2 => (refine' pss_cons ?g25 ?g26; (case g25 => (refine' ps_setC ?g27 ?g28 ?g29 ?g30 ?g31 ?g32 ?g33 ?g34 ?g35 ?g36 ?g37 ?g38 ?g39; (case g27 => (exact sc_shown_kind.nd)); (case g28 => (exact (ixAt 5))); (case g29 => (exact (Or.inl rfl))); (case g30 => (exact rfl)); (case g31 => (exact ⟨rfl, by decide +kernel, by decide +kernel, (show ∀ y : Str × NameKind, y ∈ _ → y.2 = NameKind.free → (defScope s_shown_kind).names.lookup y.1 = some .cell ∨ (defScope s_shown_kind).names.lookup y.1 = some .free from by decide +kernel)⟩)); (case g32 => (exact (compN ["number", "bound", "lanes"] 2 [0]))); (case g33 => (decide +kernel)); (case g34 => (decide)); (case g35 => (refine' pi_zip ?g40 ?g41 ?g42; (case g40 => (exact rfl)); (case g41 => (exact T.b_zip)); (case g42 => (refine' pa_c ?g43 ?g44; (case g43 => (exact (pv 3))); (case g44 => (refine' pa_c ?g45 ?g46; (case g45 => (exact (pv 4))); (case g46 => (exact pa_nil)))))))); (case g36 => (intro _ _ _ _; refine' pg_tupK (K := K) (n := 2) ?g47 ?g48 ?g49; (case g47 => (exact rfl)); (case g48 => (exact rfl)); (case g49 => (refine' pgs_cons ?g50 ?g51; (case g50 => (refine' pg_name ?g52 ?g53 ?g54 ?g55; (case g52 => (exact (show (["number", "bound", "lanes"] : List Str).Nodup from by decide +kernel))); (case g53 => (exact (ixAt 0))); (case g54 => (exact (Or.inl rfl))); (case g55 => (exact (Or.inr rfl))))); (case g51 => (refine' pgs_cons ?g56 ?g57; (case g56 => (refine' pg_name ?g58 ?g59 ?g60 ?g61; (case g58 => (exact (show (["number", "bound", "lanes"] : List Str).Nodup from by decide +kernel))); (case g59 => (exact (ixAt 1))); (case g60 => (exact (Or.inl rfl))); (case g61 => (exact (Or.inr rfl))))); (case g57 => (exact pgs_nil)))))))); (case g37 => (exact (gown_tup (gsown_cons (by decide) (gsown_cons (by decide) gsown_nil))))); (case g38 => (intro _ _ _ _; exact pts_nil)); (case g39 => (intro _ _ _ _; refine' pe_join ?g62; (case g62 => (refine' pj_cons ?g63 ?g64; (case g63 => (refine' pe_fmt ?g65; (case g65 => (refine' pe_ix ?g66 ?g67 ?g68 ?g69; (case g66 => (exact (show IxR _ (rIxT K) from ix_tup))); (case g67 => (refine' pe_ix ?g70 ?g71 ?g72 ?g73; (case g70 => (exact (show IxR _ (rIxT K) from ix_tup))); (case g71 => (exact (pv 2))); (case g72 => (exact (pv 0))); (case g73 => (exact (fun _ _ => rfl))))); (case g68 => (exact pe_int)); (case g69 => (exact (fun _ _ => rfl))))))); (case g64 => (refine' pj_cons ?g74 ?g75; (case g74 => (exact pe_str)); (case g75 => (refine' pj_cons ?g76 ?g77; (case g76 => (refine' pe_fmt ?g78; (case g78 => (exact (pv 1))))); (case g77 => (exact pj_nil)))))))))))); (case g26 => (refine' pss_one ?g79; (case g79 => (refine' ps_ret ?g80; (case g80 => (refine' pe_bm ?g81 ?g82 ?g83 ?g84 ?g85 ?g86; (case g81 => (exact PySem.F.plainAttrs_str)); (case g82 => (exact PySem.F.slot_str_join)); (case g83 => (exact PySem.F.type_str_join)); (case g84 => (exact mt_join)); (case g85 => (exact pe_str)); (case g86 => (refine' pa_c ?g87 ?g88; (case g87 => (refine' pe_lst ?g89; (case g89 => (refine' pa_c ?g90 ?g91; (case g90 => (exact pe_str)); (case g91 => (refine' pa_c ?g92 ?g93; (case g92 => (exact (pv 2))); (case g93 => (refine' pa_star ?g94 ?g95; (case g94 => (exact (pv 5))); (case g95 => (exact pa_nil)))))))))); (case g88 => (exact pa_nil)))))))))))))
  obtain ⟨a, us, rfl, _, ha, v1, r1, rfl, e1, v2, r2, rfl, e2, v3, r3, rfl, e3, rfl⟩ := hu
  obtain rfl : v1 = .str x := e1
  obtain ⟨aw, xw, rfl, nw, hw, hxw⟩ := e2
  obtain ⟨ab, xb, rfl, nb, hb, hxb⟩ := e3
  obtain ⟨al, xl, rfl, nl, hl, hxl⟩ := hv
  have lw := hxw.length
  have lb := hxb.length
  have gm := gk.most
  have g6 := gl.six
  have glen := gk.len
  refine ⟨_, rfl, a, _, rfl, SqT.of ha, rfl, _, _, rfl, _, _, rfl, _, _, rfl, rfl, ?_⟩
  refine ⟨_, rfl, _, rfl, aw, ab, rfl, ⟨xw, SqT.of hw⟩, ⟨xb, SqT.of hb⟩, lcomp_zip (xs := xw) (ys := xb) (by omega) (fun i vs H2 => Ext [] H H2 ∧ vs = ((List.zipWith (stepT ls) ws bs).take i).map V.str) ⟨Ext.refl, rfl⟩ (fun _ _ _ h => ⟨SqT.of (h.1.tup (by simp) hw), SqT.of (h.1.tup (by simp) hb)⟩) ?_ ?_⟩
  · rintro i x1 y1 T1 vs H2 hx1 hy1 hi ⟨e, rfl⟩ hT
    have hi' : i < ws.length := by omega
    obtain ⟨wi, ew, h0, h1⟩ := way_at gk hi'
    obtain ⟨bi, eb, hb1, hb2⟩ := bd_at gk (i := i) (by omega)
    have ewq : ws[i]? = some (.int wi) := by rw [List.getElem?_eq_getElem hi', ew]
    have ebq : bs[i]? = some (.int bi) := by rw [List.getElem?_eq_getElem (by omega), eb]
    obtain ⟨x1', hx1', dx⟩ := hxw.get ewq
    rw [hx1] at hx1'
    cases hx1'
    obtain rfl : x1 = .int wi := dx
    obtain ⟨y1', hy1', dy⟩ := hxb.get ebq
    rw [hy1] at hy1'
    cases hy1'
    obtain rfl : y1 = .int bi := dy
    obtain ⟨n, b', en, hn, en2⟩ := name_of gl.all (i := wi.toNat) (by omega)
    have e3 : Ext [] H (upd H2 T1 (.tup [.int wi, .int bi])) := e.trans (Ext.new hT _)
    obtain ⟨vl, hvl, dl⟩ := hxl.get (List.getElem?_eq_getElem (show wi.toNat < ls.length by omega))
    rw [en] at dl
    obtain ⟨cl, us, rfl, _, hcl, u1, r1, rfl, f1, _⟩ := IsD.ext e3 dl
    obtain rfl : u1 = .str n := f1
    have ln := (nm_sg hn).2
    have lb2 := (fig_of hb1 hb2).two
    have lc : (":" : Str).length = 1 := by decide +kernel
    refine ⟨T1, _, rfl, SqT.of upd_same, rfl, _, _, rfl, _, _, rfl, rfl, ?_⟩
    refine ⟨_, rfl, _, rfl, al, xl, wi, _, rfl, rfl, SqT.of (e3.tup (by simp) hl), atI_pos h0 hvl, cl, _, 0, .str n, rfl, rfl, SqT.of hcl, atI_nat (j := 0) rfl, n, fmt_nm hn, n, rfl, ?_, _, rfl, ?_, _, rfl, nT bi, fmt_int hb1 hb2, _, rfl, ?_, ?_, ?_, nx hi ⟨e3, ?_⟩⟩
    · rw [emp_app]
      exact Nat.le_of_lt (small1000 (by omega))
    · rw [emp_app, app_len]
      exact Nat.le_of_lt (small1000 (by omega))
    · rw [emp_app, app_len, app_len]
      exact Nat.le_of_lt (small1000 (by omega))
    · rw [emp_app, app_len, app_len]
      exact Nat.le_of_lt (small1000 (by omega))
    · rw [List.length_map, List.length_take]
      exact small1000 (by omega)
    · rw [step_at ewq ebq, List.map_append, emp_app]
      unfold stepT
      rw [nameAt_eq h0 h1, en2]
      rfl
  · rintro vs H2 ⟨e, rfl⟩ p hp
    have lz : (List.zipWith (stepT ls) ws bs).length = ws.length := by rw [List.length_zipWith, glen, Nat.min_self]
    rw [show xw.length = (List.zipWith (stepT ls) ws bs).length by omega, List.take_length]
    obtain ⟨kw1, kw2⟩ := kind_words gl gk
    have e3 : Ext [] H (upd H2 p (.lst ((List.zipWith (stepT ls) ws bs).map V.str))) := e.trans (Ext.new hp _)
    have hp3 : upd H2 p (.lst ((List.zipWith (stepT ls) ws bs).map V.str)) p = some (.lst ((List.zipWith (stepT ls) ws bs).map V.str)) := upd_same
    generalize upd H2 p (.lst ((List.zipWith (stepT ls) ws bs).map V.str)) = H3 at e3 hp3 ⊢
    refine ⟨rfl, _, rfl, _, rfl, p, _, rfl, .inl (SqL.of hp3), ?_⟩
    have ee : [V.str ("kind" : Str), V.str x] ++ ((List.zipWith (stepT ls) ws bs).map V.str ++ []) = (kindW ls (.tuple [.str x, .tuple ws, .tuple bs])).map V.str := by
      rw [List.append_nil]
      rfl
    refine ⟨?_, fun p2 hp2 => ⟨_, p2, kindW ls (.tuple [.str x, .tuple ws, .tuple bs]), rfl, rfl, ?_, ?_, ?_⟩⟩
    · show (V.str "kind" :: V.str x :: ((List.zipWith (stepT ls) ws bs).map V.str ++ [])).length ≤ _
      simp only [List.length_cons, List.append_nil, List.length_map, lz]
      exact Nat.le_of_lt (small1000 (by omega))
    · rw [← ee]
      exact SqL.of upd_same
    · refine join_fits (m := 11) (fun q hq => (kw1 q hq).len) ?_
      have lc : (" " : Str).length = 1 := by decide +kernel
      rw [lc]
      omega
    · exact q _ (e3.trans (Ext.new hp2 _))
end
end K04
end

section
set_option Elab.async false
set_option linter.all false
set_option maxRecDepth 100000
set_option maxHeartbeats 1000000
namespace K04
open PySem PySem.Spec L2 PyProof.Rows
def spSP : Sp := fun vs H Q _ => ∃ (ls ks : List PyData) (v : V), vs = [v] ∧ GoodP ls ks ∧ IsD [] H (.tuple [.tuple ls, .tuple ks]) v ∧ ∀ H', Ext [] H H' → Q (.str (planT ls ks)) H'
section
variable {P : Program} {w : World} {K : PySem.W.Frag} {mg : Str → Option Value} {base : Heap} {ts : List Addr}
abbrev s_shown_plan : Stmt := top 24
theorem sc_shown_plan : FnScope ["plan", "lanes", "kinds", "lane_rows", "kind_rows"] ["plan"] (defScope s_shown_plan) := ⟨rfl, rfl, rfl, by decide +kernel, rfl, by decide +kernel, by decide +kernel⟩
theorem ok_splan {f : Addr} {fd : FuncData} (F : Fun K "shown_plan" "shown_plan" s_shown_plan f fd) (T : TxE K mg) (C_shown_kind : CallOk P w K mg base "shown_kind" 1 ["lanes", "kind"] spSK) : FnOk P w K mg base CX0 2 f fd ["plan"] spSP := by
  refine F.ok sc_shown_plan (fun vs H Q E h => ?_) (fun cdv A outer s H vs Q E hr h => ?_)
  · obtain ⟨ls, ks, v, rfl, _⟩ := h
    rfl
  obtain ⟨ls, ks, v, rfl, gp, hv, q⟩ := h
  refine' ⟨_, ?hh, ?rr⟩
  case hh => (refine' pss_cons ?g1 ?g2; (case g1 => (refine' ps_asg ?g3 ?g4; (case g3 => (exact (pv 0))); (case g4 => (refine' pg_tup ?g5 ?g6; (case g5 => (exact rfl)); (case g6 => (refine' pgs_cons ?g7 ?g8; (case g7 => (refine' pg_name ?g9 ?g10 ?g11 ?g12; (case g9 => (exact sc_shown_plan.nd)); (case g10 => (exact (ixAt 1))); (case g11 => (exact (Or.inr rfl))); (case g12 => (exact (Or.inl rfl))))); (case g8 => (refine' pgs_cons ?g13 ?g14; (case g13 => (refine' pg_name ?g15 ?g16 ?g17 ?g18; (case g15 => (exact sc_shown_plan.nd)); (case g16 => (exact (ixAt 2))); (case g17 => (exact (Or.inl rfl))); (case g18 => (exact (Or.inl rfl))))); (case g14 => (exact pgs_nil)))))))))); (case g2 => (refine' pss_cons ?g19 ?g20; (case g19 => (refine' ps_setC ?g21 ?g22 ?g23 ?g24 ?g25 ?g26 ?g27 ?g28 ?g29 ?g30 ?g31 ?g32 ?g33; (case g21 => (exact sc_shown_plan.nd)); (case g22 => (exact (ixAt 3))); (case g23 => (exact (Or.inl rfl))); (case g24 => (exact rfl)); (case g25 => (exact ⟨rfl, by decide +kernel, by decide +kernel, (show ∀ y : Str × NameKind, y ∈ _ → y.2 = NameKind.free → (defScope s_shown_plan).names.lookup y.1 = some .cell ∨ (defScope s_shown_plan).names.lookup y.1 = some .free from by decide +kernel)⟩)); (case g26 => (exact (compN ["name", "bound"] 2 []))); (case g27 => (decide +kernel)); (case g28 => (decide)); (case g29 => (refine' pi_tup ?g34; (case g34 => (exact (pv 1))))); (case g30 => (intro _ _ _ _; refine' pg_tupK (K := K) (n := 2) ?g35 ?g36 ?g37; (case g35 => (exact rfl)); (case g36 => (exact rfl)); (case g37 => (refine' pgs_cons ?g38 ?g39; (case g38 => (refine' pg_name ?g40 ?g41 ?g42 ?g43; (case g40 => (exact (show (["name", "bound"] : List Str).Nodup from by decide +kernel))); (case g41 => (exact (ixAt 0))); (case g42 => (exact (Or.inl rfl))); (case g43 => (exact (Or.inr rfl))))); (case g39 => (refine' pgs_cons ?g44 ?g45; (case g44 => (refine' pg_name ?g46 ?g47 ?g48 ?g49; (case g46 => (exact (show (["name", "bound"] : List Str).Nodup from by decide +kernel))); (case g47 => (exact (ixAt 1))); (case g48 => (exact (Or.inl rfl))); (case g49 => (exact (Or.inr rfl))))); (case g45 => (exact pgs_nil)))))))); (case g31 => (exact (gown_tup (gsown_cons (by decide) (gsown_cons (by decide) gsown_nil))))); (case g32 => (intro _ _ _ _; exact pts_nil)); (case g33 => (intro _ _ _ _; refine' pe_join ?g50; (case g50 => (refine' pj_cons ?g51 ?g52; (case g51 => (exact pe_str)); (case g52 => (refine' pj_cons ?g53 ?g54; (case g53 => (refine' pe_fmt ?g55; (case g55 => (exact (pv 0))))); (case g54 => (refine' pj_cons ?g56 ?g57; (case g56 => (exact pe_str)); (case g57 => (refine' pj_cons ?g58 ?g59; (case g58 => (refine' pe_fmt ?g60; (case g60 => (exact (pv 1))))); (case g59 => (exact pj_nil)))))))))))))); (case g20 => (refine' pss_cons ?g61 ?g62; (case g61 => (refine' ps_setC ?g63 ?g64 ?g65 ?g66 ?g67 ?g68 ?g69 ?g70 ?g71 ?g72 ?g73 ?g74 ?g75; (case g63 => (exact sc_shown_plan.nd)); (case g64 => (exact (ixAt 4))); (case g65 => (exact (Or.inl rfl))); (case g66 => (exact rfl)); (case g67 => (exact ⟨rfl, by decide +kernel, by decide +kernel, (show ∀ y : Str × NameKind, y ∈ _ → y.2 = NameKind.free → (defScope s_shown_plan).names.lookup y.1 = some .cell ∨ (defScope s_shown_plan).names.lookup y.1 = some .free from by decide +kernel)⟩)); (case g68 => (exact (compN ["kind", "lanes"] 1 [1]))); (case g69 => (decide +kernel)); (case g70 => (decide)); (case g71 => (refine' pi_tup ?g76; (case g76 => (exact (pv 2))))); (case g72 => (intro _ _ _ _; refine' pg_name ?g77 ?g78 ?g79 ?g80; (case g77 => (exact (show (["kind", "lanes"] : List Str).Nodup from by decide +kernel))); (case g78 => (exact (ixAt 0))); (case g79 => (exact (Or.inl rfl))); (case g80 => (exact (Or.inr rfl))))); (case g73 => (exact (gown_name (by decide)))); (case g74 => (intro _ _ _ _; exact pts_nil)); (case g75 => (intro _ _ _ _; refine' pe_cl ?g81 ?g82 ?g83 ?g84 ?g85; (case g81 => (exact C_shown_kind)); (case g82 => (exact hr)); (case g83 => (refine' pa_c ?g86 ?g87; (case g86 => (exact (pv 1))); (case g87 => (refine' pa_c ?g88 ?g89; (case g88 => (exact (pv 0))); (case g89 => (exact pa_nil)))))); (case g84 => (exact rfl)); (case g85 => (decide)))))); (case g62 => (refine' pss_one ?g90; (case g90 => (refine' ps_ret ?g91; (case g91 => (refine' pe_bm ?g92 ?g93 ?g94 ?g95 ?g96 ?g97; (case g92 => (exact PySem.F.plainAttrs_str)); (case g93 => (exact PySem.F.slot_str_join)); (case g94 => (exact PySem.F.type_str_join)); (case g95 => (exact mt_join)); (case g96 => (exact pe_str)); (case g97 => (refine' pa_c ?g98 ?g99; (case g98 => (refine' pe_op ?g100 ?g101 ?g102; (case g100 => (exact op_cat)); (case g101 => (exact (pv 3))); (case g102 => (exact (pv 4))))); (case g99 => (exact pa_nil)))))))))))))))
  have gl := goodL gp.lanes
  obtain ⟨a, us, rfl, _, ha, v1, r1, rfl, e1, v2, r2, rfl, e2, rfl⟩ := hv
  have e1' := e1
  obtain ⟨al, xl, rfl, nl, hl, hxl⟩ := e1
  obtain ⟨ak, xk, rfl, nk, hk, hxk⟩ := e2
  have ll := hxl.length
  have lk := hxk.length
  have g6 := gl.six
  have k6 := gp.six
  refine ⟨_, rfl, a, _, rfl, SqT.of ha, rfl, _, _, rfl, _, _, rfl, rfl, ?_⟩
  refine ⟨_, rfl, al, rfl, ⟨xl, SqT.of hl⟩, lcomp_by0 (yields_tup (ys := xl)) (fun i xs H2 => H2 = H ∧ xs = ((ls.take i).map fun d => row (laneW d)).map V.str) ⟨rfl, rfl⟩ (fun _ _ _ h => by rw [h.1]; exact SqT.of hl) ?_ ?_⟩
  · rintro i y xs H9 hy hi ⟨rfl, rfl⟩
    have hi' : i < ls.length := by omega
    have hdi := List.getElem?_eq_getElem hi'
    obtain ⟨y', hy', hdy⟩ := hxl.get (i := i) hdi
    rw [hy] at hy'
    cases hy'
    obtain ⟨x, b, ex, hx, hb1, hb2⟩ := lane_form (gl.all _ (List.getElem_mem hi'))
    rw [ex] at hdy
    obtain ⟨c, cs, rfl, _, hc, v3, r3, rfl, h3, v4, r4, rfl, h4, rfl⟩ := hdy
    obtain rfl : v3 = .str x := h3
    obtain rfl : v4 = .int b := h4
    have ln := (nm_sg hx).2
    have lb2 := (fig_of hb1 hb2).two
    have lc : (" " : Str).length = 1 := by decide +kernel
    have ld : ("lane " : Str).length = 5 := by decide +kernel
    refine ⟨c, _, rfl, SqT.of hc, rfl, _, _, rfl, _, _, rfl, rfl, ?_⟩
    refine ⟨_, rfl, ?_, _, rfl, x, fmt_nm hx, _, rfl, ?_, _, rfl, ?_, _, rfl, nT b, fmt_int hb1 hb2, _, rfl, ?_, ?_, ?_, nx hi ⟨rfl, ?_⟩⟩
    · rw [emp_app]
      exact Nat.le_of_lt (small1000 (by omega))
    · rw [emp_app, app_len]
      exact Nat.le_of_lt (small1000 (by omega))
    · rw [emp_app, app_len, app_len]
      exact Nat.le_of_lt (small1000 (by omega))
    · rw [emp_app, app_len, app_len, app_len]
      exact Nat.le_of_lt (small1000 (by omega))
    · rw [emp_app, app_len, app_len, app_len]
      exact Nat.le_of_lt (small1000 (by omega))
    · rw [List.length_map, List.length_map, List.length_take]
      exact small1000 (by omega)
    · rw [List.take_add_one, hdi, List.map_append, List.map_append, ex, emp_app]
      show _ = _ ++ [V.str (row (laneW (.tuple [.str x, .int b])))]
      rw [lane_row]
  rintro xs H9 ⟨rfl, rfl⟩ p1 hp1
  rw [ll, List.take_length]
  generalize hLN : ls.map (fun d => row (laneW d)) = LN at *
  generalize hH1 : upd H9 p1 (.lst (LN.map V.str)) = H1
  have x1 : Ext [] H9 H1 := hH1 ▸ Ext.new hp1 _
  have t1 : H1 p1 = some (.lst (LN.map V.str)) := by rw [← hH1, upd_same]
  have hk1 := x1.tup (by simp) hk
  refine ⟨_, rfl, ak, rfl, ⟨xk, SqT.of hk1⟩, lcomp_by0 (yields_tup (ys := xk)) (fun i xs H2 => Ext [] H1 H2 ∧ xs = ((ks.take i).map fun d => row (kindW ls d)).map V.str) ⟨Ext.refl, rfl⟩ (fun _ _ _ h => SqT.of (h.1.tup (by simp) hk1)) ?_ ?_⟩
  · rintro i y xs H8 hy hi ⟨e, rfl⟩
    have hi' : i < ks.length := by omega
    have hdi := List.getElem?_eq_getElem hi'
    obtain ⟨y', hy', hdy⟩ := hxk.get (i := i) hdi
    rw [hy] at hy'
    cases hy'
    obtain ⟨x, ws, bs, ex, gk⟩ := kind_form (gp.all _ (List.getElem_mem hi'))
    rw [ex] at hdy
    have xx := x1.trans e
    refine ⟨_, rfl, _, rfl, ls, x, ws, bs, _, _, rfl, gl, gk, IsD.ext xx e1', IsD.ext xx hdy, fun H7 e7 => ⟨?_, nx hi ⟨e.trans e7, ?_⟩⟩⟩
    · rw [List.length_map, List.length_map, List.length_take]
      exact small1000 (by omega)
    · rw [List.take_add_one, hdi, List.map_append, List.map_append, ex]
      rfl
  rintro xs H8 ⟨e, rfl⟩ p2 hp2
  rw [lk, List.take_length]
  generalize hKN : ks.map (fun d => row (kindW ls d)) = KN at *
  generalize hH2 : upd H8 p2 (.lst (KN.map V.str)) = H2
  have x2 : Ext [] H1 H2 := hH2 ▸ e.trans (Ext.new hp2 _)
  have t2 : H2 p2 = some (.lst (KN.map V.str)) := by rw [← hH2, upd_same]
  have lL : LN.length = ls.length := by rw [← hLN, List.length_map]
  have lK : KN.length = ks.length := by rw [← hKN, List.length_map]
  have eR : LN ++ KN = rowsT ls ks := by rw [← hLN, ← hKN]; rfl
  refine ⟨rfl, _, rfl, _, rfl, p1, p2, _, _, rfl, rfl, x2.lst (by simp) t1, t2, ?_, fun p3 hp3 => ?_⟩
  · rw [List.length_map, List.length_map]
    exact Nat.le_of_lt (small1000 (by omega))
  · refine ⟨_, p3, rowsT ls ks, rfl, rfl, ?_, ?_, ?_⟩
    · rw [← eR, List.map_append]
      exact SqL.of upd_same
    · refine join_fits (m := 96) (fun r hr => (rows_all gp r hr).len) ?_
      have lc : ("\n" : Str).length = 1 := by decide +kernel
      rw [lc, ← eR, List.length_append]
      omega
    · exact q _ ((x1.trans x2).trans (Ext.new hp3 _))
end
end K04
end

section
set_option Elab.async false
set_option linter.all false
set_option maxRecDepth 100000
set_option maxHeartbeats 1000000
namespace K04
open PySem PySem.Spec L2 PyProof.Rows
theorem inV_strs (x : Str) (L : List Str) : inV (.str x) (L.map V.str) = decide (x ∈ L) := by
  unfold inV
  rw [List.any_map]
  induction L with
  | nil => rfl
  | cons y L ih =>
    rw [List.any_cons, ih, Bool.eq_iff_iff]
    simp only [Bool.or_eq_true, decide_eq_true_eq, List.mem_cons]
    have : (((fun z => eqV z (V.str x)) ∘ V.str) y = true) ↔ x = y := by
      show (y == x) = true ↔ _
      rw [beq_iff_eq]
      exact eq_comm
    rw [this]
theorem flat_strs (L : List Str) : (L.map V.str).all flatV = true := by
  rw [List.all_map]
  exact List.all_eq_true.mpr fun _ _ => rfl
theorem put0 {H H2 : Hp} {p : Addr} {o : HO} (e : Ext [] H H2) (h : H p = none) : Ext [] H (upd H2 p o) := by
  refine ⟨fun b u hb q n => ?_, fun b ps hb q => ?_⟩
  · rw [upd_ne (ne_of_none q h)]
    exact e.old b u hb q n
  · rw [upd_ne (ne_of_none q h)]
    exact e.tab b ps hb q
theorem cutV_from {xs : List V} {i : Int} (h : 0 ≤ i) : cutV xs (some i) none = xs.drop i.toNat := by
  unfold cutV
  show (xs.drop (if i < 0 then _ else min i.toNat xs.length)).take (xs.length - (if i < 0 then _ else min i.toNat xs.length)) = _
  rw [if_neg (by omega)]
  by_cases q : i.toNat ≤ xs.length
  · rw [Nat.min_eq_left q, List.take_of_length_le (by rw [List.length_drop]; omega)]
  · rw [Nat.min_eq_right (by omega), Nat.sub_self, List.take_zero, List.drop_eq_nil_of_le (by omega)]
theorem ints_form : ∀ {ws : List PyData}, (∀ d ∈ ws, ∃ i, d = .int i) → ∃ l : List Int, ws = l.map .int
  | [], _ => ⟨[], rfl⟩
  | d :: ws, h => by
    obtain ⟨i, rfl⟩ := h d (by simp)
    obtain ⟨l, rfl⟩ := ints_form fun e he => h e (List.mem_cons_of_mem _ he)
    exact ⟨i :: l, rfl⟩
theorem idx_at {L : List Str} (nd : L.Nodup) {i : Nat} (hi : i < L.length) : L.idxOf L[i] = i := by
  have hm : L[i] ∈ L := List.getElem_mem hi
  have hj : L.idxOf L[i] < L.length := List.idxOf_lt_length_iff.mpr hm
  exact (List.getElem_inj nd).mp (List.getElem_idxOf hj)
/-- one row of a kind -/
def spRK (ts : List Addr) : Sp := fun vs H Q _ => ∃ (ls : List PyData) (x : Str) (ws bs : List PyData) (v u : V), vs = [v, u] ∧ GoodL ls ∧ GoodK (ls.length : Nat) x ws bs ∧ IsD [] H (.tuple ls) v ∧ IsD [] H (.list ((kindW ls (.tuple [.str x, .tuple ws, .tuple bs])).map .str)) u ∧ Tb ts H ∧ ∀ r H', Ext [] H H' → IsD [] H' (.tuple [.str x, .tuple ws, .tuple bs]) r → Q r H'
/-- what stands while the steps are read -/
structure RK (pn pS pw pb : Addr) (LN ST : List Str) (H : Hp) (wa ba : List Int) (H2 : Hp) : Prop where
  e : Ext [] H H2
  n : H2 pn = some (.lst (LN.map V.str))
  s : H2 pS = some (.lst (ST.map V.str))
  w : H2 pw = some (.lst (wa.map V.int))
  b : H2 pb = some (.lst (ba.map V.int))
structure RKd (pn pS pw pb : Addr) (H : Hp) : Prop where
  nw : pn ≠ pw
  nb : pn ≠ pb
  sw : pS ≠ pw
  sb : pS ≠ pb
  wb : pw ≠ pb
  fw : H pw = none
  fb : H pb = none
section
variable {pn pS pw pb : Addr} {LN ST : List Str} {H : Hp} {wa ba : List Int} {H2 H3 : Hp}
theorem RK.ext (r : RK pn pS pw pb LN ST H wa ba H2) (e : Ext [] H2 H3) : RK pn pS pw pb LN ST H wa ba H3 :=
  ⟨r.e.trans e, e.lst (by simp) r.n, e.lst (by simp) r.s, e.lst (by simp) r.w, e.lst (by simp) r.b⟩
theorem RK.putw (r : RK pn pS pw pb LN ST H wa ba H2) (d : RKd pn pS pw pb H) (i : Int) : RK pn pS pw pb LN ST H (wa ++ [i]) ba (upd H2 pw (.lst (wa.map V.int ++ [.int i]))) :=
  ⟨put0 r.e d.fw, by rw [upd_ne d.nw]; exact r.n, by rw [upd_ne d.sw]; exact r.s, by rw [upd_same, List.map_append]; rfl, by rw [upd_ne (Ne.symm d.wb)]; exact r.b⟩
theorem RK.putb (r : RK pn pS pw pb LN ST H wa ba H2) (d : RKd pn pS pw pb H) (i : Int) : RK pn pS pw pb LN ST H wa (ba ++ [i]) (upd H2 pb (.lst (ba.map V.int ++ [.int i]))) :=
  ⟨put0 r.e d.fb, by rw [upd_ne d.nb]; exact r.n, by rw [upd_ne d.sb]; exact r.s, by rw [upd_ne d.wb]; exact r.w, by rw [upd_same, List.map_append]; rfl⟩
end
section
variable {P : Program} {w : World} {K : PySem.W.Frag} {mg : Str → Option Value} {base : Heap} {ts : List Addr}
abbrev s_read_kind : Stmt := top 29
theorem sc_read_kind : FnScope ["lanes", "words", "names", "way", "bounds", "step", "name", "colon", "figures"] ["lanes", "words"] (defScope s_read_kind) := ⟨rfl, rfl, rfl, by decide +kernel, rfl, by decide +kernel, by decide +kernel⟩
theorem ok_rkind {f : Addr} {fd : FuncData} (F : Fun K "read_kind" "read_kind" s_read_kind f fd) (T : TxE K mg) (C_read_bound : CallOk P w K mg base "read_bound" 2 ["word"] (spRB ts)) : FnOk P w K mg base CX0 3 f fd ["lanes", "words"] (spRK ts) := by
  refine F.ok sc_read_kind (fun vs H Q E h => ?_) (fun cdv A outer s H vs Q E hr h => ?_)
  · obtain ⟨ls, x, ws, bs, v, u, rfl, _⟩ := h
    rfl
  obtain ⟨ls, x, ws, bs, v, u, rfl, gl, gk, hv, hu, tb, q⟩ := h
  refine' ⟨_, ?hh, ?rr⟩
  case hh => (refine' pss_cons ?g1 ?g2; (case g1 => (refine' ps_if ?g3 ?g4 ?g5; (case g3 => (refine' PW.pt ?g6; (case g6 => (refine' pw_or ?g7 ?g8; (case g7 => (refine' pt_cmpR ?g9 ?g10 ?g11 ?g12; (case g9 => (exact op_ne)); (case g10 => (refine' pe_ix ?g13 ?g14 ?g15 ?g16; (case g13 => (exact ix_list)); (case g14 => (exact (pv 1))); (case g15 => (exact pe_int)); (case g16 => (exact (fun _ _ => rfl))))); (case g11 => (exact pe_str)); (case g12 => (exact (nomark _))))); (case g8 => (refine' pw_or1 ?g17; (case g17 => (refine' pt_cmpR ?g18 ?g19 ?g20 ?g21; (case g18 => (exact op_lt)); (case g19 => (refine' pe_callB ?g22 ?g23 ?g24 ?g25 ?g26; (case g22 => (exact call_len_seq)); (case g23 => (exact rfl)); (case g24 => (exact T.b_len)); (case g25 => (exact PySem.boot_len)); (case g26 => (refine' pa_c ?g27 ?g28; (case g27 => (exact (pv 1))); (case g28 => (exact pa_nil)))))); (case g20 => (exact pe_int)); (case g21 => (exact (nomark _))))))))))); (case g4 => (refine' pss_one ?g29; (case g29 => (refine' ps_ret ?g30; (case g30 => (exact pe_non)))))); (case g5 => (exact pss_nil)))); (case g2 => (refine' pss_cons ?g31 ?g32; (case g31 => (refine' ps_setC ?g33 ?g34 ?g35 ?g36 ?g37 ?g38 ?g39 ?g40 ?g41 ?g42 ?g43 ?g44 ?g45; (case g33 => (exact sc_read_kind.nd)); (case g34 => (exact (ixAt 2))); (case g35 => (exact (Or.inl rfl))); (case g36 => (exact rfl)); (case g37 => (exact ⟨rfl, by decide +kernel, by decide +kernel, (show ∀ y : Str × NameKind, y ∈ _ → y.2 = NameKind.free → (defScope s_read_kind).names.lookup y.1 = some .cell ∨ (defScope s_read_kind).names.lookup y.1 = some .free from by decide +kernel)⟩)); (case g38 => (exact (compN ["lane"] 1 []))); (case g39 => (decide +kernel)); (case g40 => (decide)); (case g41 => (refine' pi_tup ?g46; (case g46 => (exact (pv 0))))); (case g42 => (intro _ _ _ _; refine' pg_name ?g47 ?g48 ?g49 ?g50; (case g47 => (exact (show (["lane"] : List Str).Nodup from by decide +kernel))); (case g48 => (exact (ixAt 0))); (case g49 => (exact (Or.inl rfl))); (case g50 => (exact (Or.inr rfl))))); (case g43 => (exact (gown_name (by decide)))); (case g44 => (intro _ _ _ _; exact pts_nil)); (case g45 => (intro _ _ _ _; refine' pe_ix ?g51 ?g52 ?g53 ?g54; (case g51 => (exact (show IxR _ (rIxT K) from ix_tup))); (case g52 => (exact (pv 0))); (case g53 => (exact pe_int)); (case g54 => (exact (fun _ _ => rfl))))))); (case g32 => (refine' pss_cons ?g55 ?g56; (case g55 => (refine' ps_set ?g57 ?g58 ?g59 ?g60; (case g57 => (exact sc_read_kind.nd)); (case g58 => (exact (ixAt 3))); (case g59 => (exact (Or.inl rfl))); (case g60 => (refine' pe_lst ?g61; (case g61 => (exact pa_nil)))))); (case g56 => (refine' pss_cons ?g62 ?g63; (case g62 => (refine' ps_set ?g64 ?g65 ?g66 ?g67; (case g64 => (exact sc_read_kind.nd)); (case g65 => (exact (ixAt 4))); (case g66 => (exact (Or.inl rfl))); (case g67 => (refine' pe_lst ?g68; (case g68 => (exact pa_nil)))))); (case g63 => (refine' pss_cons ?g69 ?g70; (case g69 => (refine' ps_for ?g71 ?g72 ?g73 ?g74 ?g75; (case g71 => (exact PassesOwn.never)); (case g72 => (exact rfl)); (case g73 => (refine' pi_list ?g76; (case g76 => (refine' pe_slice ?g77 ?g78 ?g79 ?g80; (case g77 => (exact sl_list)); (case g78 => (exact (pv 1))); (case g79 => (refine' po_some ?g81; (case g81 => (exact pe_int)))); (case g80 => (exact po_none)))))); (case g74 => (refine' pg_name ?g82 ?g83 ?g84 ?g85; (case g82 => (exact sc_read_kind.nd)); (case g83 => (exact (ixAt 5))); (case g84 => (exact (Or.inl rfl))); (case g85 => (exact (Or.inl rfl))))); (case g75 => (refine' pss_cons ?g86 ?g87; (case g86 => (refine' ps_asg ?g88 ?g89; (case g88 => (refine' pe_bm ?g90 ?g91 ?g92 ?g93 ?g94 ?g95; (case g90 => (exact PySem.F.plainAttrs_str)); (case g91 => (exact PySem.F.slot_str_partition)); (case g92 => (exact PySem.F.type_str_partition)); (case g93 => (exact mt_partition)); (case g94 => (exact (pv 5))); (case g95 => (refine' pa_c ?g96 ?g97; (case g96 => (exact pe_str)); (case g97 => (exact pa_nil)))))); (case g89 => (refine' pg_tup ?g98 ?g99; (case g98 => (exact rfl)); (case g99 => (refine' pgs_cons ?g100 ?g101; (case g100 => (refine' pg_name ?g102 ?g103 ?g104 ?g105; (case g102 => (exact sc_read_kind.nd)); (case g103 => (exact (ixAt 6))); (case g104 => (exact (Or.inl rfl))); (case g105 => (exact (Or.inl rfl))))); (case g101 => (refine' pgs_cons ?g106 ?g107; (case g106 => (refine' pg_name ?g108 ?g109 ?g110 ?g111; (case g108 => (exact sc_read_kind.nd)); (case g109 => (exact (ixAt 7))); (case g110 => (exact (Or.inl rfl))); (case g111 => (exact (Or.inl rfl))))); (case g107 => (refine' pgs_cons ?g112 ?g113; (case g112 => (refine' pg_name ?g114 ?g115 ?g116 ?g117; (case g114 => (exact sc_read_kind.nd)); (case g115 => (exact (ixAt 8))); (case g116 => (exact (Or.inl rfl))); (case g117 => (exact (Or.inl rfl))))); (case g113 => (exact pgs_nil)))))))))))); (case g87 => (refine' pss_cons ?g118 ?g119; (case g118 => (refine' ps_if ?g120 ?g121 ?g122; (case g120 => (refine' pt_cmpR ?g123 ?g124 ?g125 ?g126; (case g123 => (exact op_notIn_seq)); (case g124 => (exact (pv 6))); (case g125 => (exact (pv 2))); (case g126 => (with_unfolding_all rfl)))); (case g121 => (refine' pss_one ?g127; (case g127 => (refine' ps_ret ?g128; (case g128 => (exact pe_non)))))); (case g122 => (exact pss_nil)))); (case g119 => (refine' pss_cons ?g129 ?g130; (case g129 => (refine' ps_expr ?g131; (case g131 => (refine' pe_bm ?g132 ?g133 ?g134 ?g135 ?g136 ?g137; (case g132 => (exact PySem.F.plainAttrs_list)); (case g133 => (exact PySem.F.slot_list_append)); (case g134 => (exact PySem.F.type_list_append)); (case g135 => (exact mt_append)); (case g136 => (exact (pv 3))); (case g137 => (refine' pa_c ?g138 ?g139; (case g138 => (refine' pe_bm ?g140 ?g141 ?g142 ?g143 ?g144 ?g145; (case g140 => (exact PySem.F.plainAttrs_list)); (case g141 => (exact PySem.F.slot_list_index)); (case g142 => (exact PySem.F.type_list_index)); (case g143 => (exact mt_index)); (case g144 => (exact (pv 2))); (case g145 => (refine' pa_c ?g146 ?g147; (case g146 => (exact (pv 6))); (case g147 => (exact pa_nil)))))); (case g139 => (exact pa_nil)))))))); (case g130 => (refine' pss_one ?g148; (case g148 => (refine' ps_expr ?g149; (case g149 => (refine' pe_bm ?g150 ?g151 ?g152 ?g153 ?g154 ?g155; (case g150 => (exact PySem.F.plainAttrs_list)); (case g151 => (exact PySem.F.slot_list_append)); (case g152 => (exact PySem.F.type_list_append)); (case g153 => (exact mt_append)); (case g154 => (exact (pv 4))); (case g155 => (refine' pa_c ?g156 ?g157; (case g156 => (refine' pe_cl ?g158 ?g159 ?g160 ?g161 ?g162; (case g158 => (exact C_read_bound)); (case g159 => (exact hr)); (case g160 => (refine' pa_c ?g163 ?g164; (case g163 => (exact (pv 8))); (case g164 => (exact pa_nil)))); (case g161 => (exact rfl)); (case g162 => (decide)))); (case g157 => (exact pa_nil)))))))))))))))))); (case g70 => (refine' pss_one ?g165; (case g165 => (refine' ps_ret ?g166; (case g166 => (refine' pe_tup ?g167; (case g167 => (refine' pa_c ?g168 ?g169; (case g168 => (refine' pe_ix ?g170 ?g171 ?g172 ?g173; (case g170 => (exact ix_list)); (case g171 => (exact (pv 1))); (case g172 => (exact pe_int)); (case g173 => (exact (fun _ _ => rfl))))); (case g169 => (refine' pa_c ?g174 ?g175; (case g174 => (refine' pe_callTy ?g176 ?g177 ?g178 ?g179 ?g180; (case g176 => (exact call_tuple_of)); (case g177 => (exact rfl)); (case g178 => (exact T.b_tuple)); (case g179 => (exact boot_ttuple)); (case g180 => (refine' pa_c ?g181 ?g182; (case g181 => (exact (pv 3))); (case g182 => (exact pa_nil)))))); (case g175 => (refine' pa_c ?g183 ?g184; (case g183 => (refine' pe_callTy ?g185 ?g186 ?g187 ?g188 ?g189; (case g185 => (exact call_tuple_of)); (case g186 => (exact rfl)); (case g187 => (exact T.b_tuple)); (case g188 => (exact boot_ttuple)); (case g189 => (refine' pa_c ?g190 ?g191; (case g190 => (exact (pv 4))); (case g191 => (exact pa_nil)))))); (case g184 => (exact pa_nil)))))))))))))))))))))))
  obtain ⟨al, xl, rfl, nl, hl, hxl⟩ := hv
  obtain ⟨aw, us, rfl, _, haw, hus⟩ := hu
  obtain rfl := hus.strs_of
  obtain ⟨kw1, kw2⟩ := kind_words gl gk
  obtain ⟨wl, rfl⟩ := ints_form (ws := ws) fun d hd => by obtain ⟨i, e, _⟩ := way_mem gk.way d hd; exact ⟨i, e⟩
  obtain ⟨bl, rfl⟩ := ints_form (ws := bs) fun d hd => by obtain ⟨i, e, _⟩ := bound_int (gk.bds d hd); exact ⟨i, e⟩
  have ll := hxl.length
  have gm := gk.most
  have g6 := gl.six
  have glen := gk.len
  rw [List.length_map] at gm kw2
  rw [List.length_map, List.length_map] at glen
  generalize hST : List.zipWith (stepT ls) (wl.map .int) (bl.map .int) = ST
  have eW : kindW ls (.tuple [.str x, .tuple (wl.map .int), .tuple (bl.map .int)]) = ("kind" : Str) :: x :: ST := by rw [← hST]; rfl
  rw [eW] at haw kw1 kw2
  have lST : ST.length = wl.length := by simp only [List.length_cons] at kw2; omega
  refine ⟨_, rfl, aw, _, 0, .str "kind", rfl, rfl, SqL.of haw, atI_nat (j := 0) rfl, rfl, _, rfl, ?_⟩
  refine iteF ?_
  refine ⟨_, rfl, aw, _, rfl, .inl (SqL.of haw), _, _, rfl, rfl, _, rfl, ?_⟩
  rw [decide_eq_false (by rw [List.length_map, kw2]; omega)]
  refine iteF ?_
  have lc1 : (":" : Str).length = 1 := by decide +kernel
  refine ⟨_, rfl, al, rfl, ⟨xl, SqT.of hl⟩, lcomp_by0 (yields_tup (ys := xl)) (fun i xs H2 => H2 = H ∧ xs = ((ls.take i).map firstD).map V.str) ⟨rfl, rfl⟩ (fun _ _ _ h => by rw [h.1]; exact SqT.of hl) ?_ ?_⟩
  · rintro i y xs H9 hy hi ⟨rfl, rfl⟩
    have hi' : i < ls.length := by omega
    have hdi := List.getElem?_eq_getElem hi'
    obtain ⟨y', hy', hdy⟩ := hxl.get (i := i) hdi
    rw [hy] at hy'
    cases hy'
    obtain ⟨n, b, en, hn, en2⟩ := name_of gl.all hi'
    rw [en] at hdy
    obtain ⟨c, cs, rfl, _, hc, v3, r3, rfl, h3, hr3⟩ := hdy
    obtain rfl : v3 = .str n := h3
    refine ⟨_, rfl, c, _, _, .str n, rfl, rfl, SqT.of hc, atI_nat (j := 0) rfl, ?_, nx hi ⟨rfl, ?_⟩⟩
    · rw [List.length_map, List.length_map, List.length_take]
      exact small1000 (by omega)
    · rw [List.take_add_one, hdi, List.map_append, List.map_append, en]
      rfl
  rintro xs H9 ⟨rfl, rfl⟩ pn hpn
  rw [ll, List.take_length]
  have ndL := gl.nd
  have nmL : ∀ i (hi : i < ls.length), nm (firstD ls[i]) = true := fun i hi => by
    obtain ⟨n, b, en, hn, en2⟩ := name_of gl.all hi
    rw [en2]
    exact hn
  generalize hLN : ls.map firstD = LN at *
  have lLN : LN.length = ls.length := by rw [← hLN, List.length_map]
  generalize hH1 : upd H9 pn (.lst (LN.map V.str)) = H1
  have x1 : Ext [] H9 H1 := hH1 ▸ Ext.new hpn _
  have t1 : H1 pn = some (.lst (LN.map V.str)) := by rw [← hH1, upd_same]
  refine ⟨by decide, fun pw hpw => ?_⟩
  generalize hH2 : upd H1 pw (.lst []) = H2
  have x2 : Ext [] H9 H2 := hH2 ▸ x1.trans (Ext.new hpw _)
  have t2 : H2 pn = some (.lst (LN.map V.str)) := by rw [← hH2, upd_ne (ne_of_none t1 hpw)]; exact t1
  have w2 : H2 pw = some (.lst []) := by rw [← hH2, upd_same]
  have fw : H9 pw = none := by
    rw [← hH1] at hpw
    by_cases z : pw = pn
    · rw [z, upd_same] at hpw; cases hpw
    · rw [upd_ne z] at hpw; exact hpw
  refine ⟨by decide, fun pb hpb => ?_⟩
  generalize hH3 : upd H2 pb (.lst []) = H3
  have x3 : Ext [] H9 H3 := hH3 ▸ x2.trans (Ext.new hpb _)
  have t3 : H3 pn = some (.lst (LN.map V.str)) := by rw [← hH3, upd_ne (ne_of_none t2 hpb)]; exact t2
  have w3 : H3 pw = some (.lst []) := by rw [← hH3, upd_ne (ne_of_none w2 hpb)]; exact w2
  have b3 : H3 pb = some (.lst []) := by rw [← hH3, upd_same]
  have fb : H9 pb = none := by
    cases z : H9 pb with
    | none => rfl
    | some o =>
      rw [← hH2] at hpb
      by_cases z1 : pb = pw
      · rw [z1, upd_same] at hpb; cases hpb
      · rw [upd_ne z1, ← hH1] at hpb
        by_cases z2 : pb = pn
        · rw [z2, upd_same] at hpb; cases hpb
        · rw [upd_ne z2, z] at hpb; cases hpb
  have haw3 := x3.lst (by simp) haw
  refine ⟨_, rfl, _, rfl, aw, _, rfl, SqL.of haw3, fun pS hpS => ?_⟩
  rw [cutV_from (by decide)]
  have eST : (List.map V.str (("kind" : Str) :: x :: ST)).drop (2 : Int).toNat = ST.map V.str := rfl
  rw [eST]
  generalize hH4 : upd H3 pS (.lst (ST.map V.str)) = H4
  have d : RKd pn pS pw pb H9 := ⟨ne_of_none t1 hpw, ne_of_none t2 hpb, fun z => ne_of_none w3 hpS z.symm, fun z => ne_of_none b3 hpS z.symm, ne_of_none w2 hpb, fw, fb⟩
  have r4 : RK pn pS pw pb LN ST H9 [] [] H4 := ⟨hH4 ▸ x3.trans (Ext.new hpS _), by rw [← hH4, upd_ne (ne_of_none t3 hpS)]; exact t3, by rw [← hH4, upd_same], by rw [← hH4, upd_ne (ne_of_none w3 hpS)]; exact w3, by rw [← hH4, upd_ne (ne_of_none b3 hpS)]; exact b3⟩
  refine ⟨pS, rfl, ⟨_, SqL.of r4.s⟩, for_list (xs := ST.map V.str) (fun i σ H5 => ∃ x5 x6 x7 x8, σ = [some (V.ref al), some (V.ref aw), some (V.ref pn), some (V.ref pw), some (V.ref pb), x5, x6, x7, x8] ∧ RK pn pS pw pb LN ST H9 (wl.take i) (bl.take i) H5) ⟨_, _, _, _, rfl, r4⟩ ?_ ?_ ?_⟩
  · rintro i σ H5 hi ⟨x5, x6, x7, x8, rfl, r⟩
    exact SqL.of r.s
  · rintro i y σ H5 hy ⟨x5, x6, x7, x8, rfl, r⟩
    have hi : i < ST.length := by have := (List.getElem?_eq_some_iff.mp hy).1; rwa [List.length_map] at this
    have hiw : i < wl.length := by omega
    have hib : i < bl.length := by omega
    obtain ⟨wi, ew, h0, h1⟩ := way_at gk (i := i) (by rw [List.length_map]; exact hiw)
    obtain ⟨bi, eb, hb1, hb2⟩ := bd_at gk (i := i) (by rw [List.length_map]; exact hib)
    rw [List.getElem_map] at ew eb
    have ew' : wl[i] = wi := by injection ew
    have eb' : bl[i] = bi := by injection eb
    have hwn : wi.toNat < ls.length := by omega
    have eN : LN[wi.toNat]'(by omega) = firstD ls[wi.toNat] := by subst hLN; rw [List.getElem_map]
    have eS : ST[i] = firstD ls[wi.toNat] ++ ":" ++ nT bi := by
      subst hST
      rw [List.getElem_zipWith, List.getElem_map, List.getElem_map, ew', eb']
      show nameAt ls (.int wi) ++ ":" ++ nT bi = _
      rw [nameAt_eq h0 h1]
    have hn := nmL _ hwn
    generalize hnn : firstD ls[wi.toNat] = n at *
    have hy' : y = .str (n ++ ":" ++ nT bi) := by
      rw [List.getElem?_map, List.getElem?_eq_getElem hi, eS] at hy
      exact (Option.some.inj hy).symm
    subst hy'
    have ln := (nm_sg hn).2
    have lb2 := (fig_of hb1 hb2).two
    have hm : n ∈ LN := by rw [← eN]; exact List.getElem_mem _
    have hix : LN.idxOf n = wi.toNat := by rw [← eN]; exact idx_at ndL (by omega)
    have hpart : Txt.partition (n ++ ":" ++ nT bi) ":" = (n, (":" : Str), nT bi) := by
      rw [e_cl]
      exact part_cut fun z => by have := (nm_sg hn).1 _ z; omega
    refine ⟨_, rfl, rfl, _, _, rfl, rfl, by rw [lc1]; rfl, ?_, fun p hp => ?_⟩
    · rw [app_len, app_len]
      exact Nat.le_of_lt (small1000 (by omega))
    rw [hpart]
    have r5 := r.ext (Ext.new (ex := []) hp (.tup [.str n, .str ":", .str (nT bi)]))
    have hp5 : upd H5 p (.tup [.str n, .str ":", .str (nT bi)]) p = some (.tup [.str n, .str ":", .str (nT bi)]) := upd_same
    generalize upd H5 p (.tup [.str n, .str ":", .str (nT bi)]) = H6 at r5 hp5 ⊢
    refine ⟨p, _, rfl, SqT.of hp5, rfl, _, _, rfl, _, _, rfl, _, _, rfl, rfl, ?_⟩
    refine ⟨_, rfl, _, rfl, pn, _, rfl, .inl (SqL.of r5.n), rfl, flat_strs _, _, rfl, ?_⟩
    have hin : inV (.str n) (LN.map V.str) = true := by rw [inV_strs]; exact decide_eq_true hm
    rw [hin]
    refine iteF ?_
    refine ⟨_, rfl, .inl ⟨rfl, _, SqL.of r5.w⟩, _, rfl, .inl ⟨rfl, _, SqL.of r5.n⟩, _, rfl, pn, LN, n, rfl, rfl, SqL.of r5.n, hm, pw, _, _, rfl, rfl, r5.w, ?_, ?_⟩
    · rw [List.length_map, List.length_take]
      exact small1000 (by omega)
    have r6 := r5.putw d ((LN.idxOf n : Nat) : Int)
    generalize upd H6 pw (.lst ((wl.take i).map V.int ++ [.int ((LN.idxOf n : Nat) : Int)])) = H7 at r6 ⊢
    refine ⟨_, rfl, .inl ⟨rfl, _, SqL.of r6.b⟩, _, rfl, bi, rfl, hb1, hb2, r6.e.tb tb (by simp), fun H8 e8 => ?_⟩
    have r7 := r6.ext e8
    refine ⟨pb, _, _, rfl, rfl, r7.b, ?_, ?_⟩
    · rw [List.length_map, List.length_take]
      exact small1000 (by omega)
    have r8 := r7.putb d bi
    have e1 : wl.take i ++ [((LN.idxOf n : Nat) : Int)] = wl.take (i + 1) := by
      rw [List.take_add_one, List.getElem?_eq_getElem hiw, ew', hix, show ((wi.toNat : Nat) : Int) = wi by omega]
      rfl
    have e2 : bl.take i ++ [bi] = bl.take (i + 1) := by
      rw [List.take_add_one, List.getElem?_eq_getElem hib, eb']
      rfl
    rw [e1, e2] at r8
    exact ⟨_, _, _, _, rfl, r8⟩
  · rintro σ H5 ⟨x5, x6, x7, x8, rfl, r⟩
    rw [List.length_map, lST, List.take_length, ← glen, List.take_length] at r
    refine ⟨_, rfl, aw, _, 1, .str x, rfl, rfl, SqL.of (r.e.lst (by simp) haw), atI_nat (j := 1) rfl, _, rfl, pw, _, rfl, .inl ⟨SqL.of r.w, fun l hl1 => ?_⟩⟩
    have e6 : Ext [] H5 (upd H5 l (.tup (wl.map V.int))) := Ext.new hl1 _
    refine ⟨_, rfl, pb, _, rfl, .inl ⟨SqL.of (r.ext e6).b, fun m hm => ?_⟩⟩
    have e7 : Ext [] (upd H5 l (.tup (wl.map V.int))) (upd (upd H5 l (.tup (wl.map V.int))) m (.tup (bl.map V.int))) := Ext.new hm _
    refine ⟨(show 3 ≤ sizeLine by decide), fun p hp => ?_⟩
    have e8 : Ext [] (upd (upd H5 l (.tup (wl.map V.int))) m (.tup (bl.map V.int))) (upd (upd (upd H5 l (.tup (wl.map V.int))) m (.tup (bl.map V.int))) p (.tup [.str x, .ref l, .ref m])) := Ext.new hp _
    refine q _ _ (((r.e.trans e6).trans e7).trans e8) ⟨p, _, rfl, by simp, upd_same, .str x, _, rfl, rfl, .ref l, _, rfl, ⟨l, _, rfl, by simp, e8.tup (by simp) (e7.tup (by simp) upd_same), IsDs.ints _⟩, .ref m, _, rfl, ⟨m, _, rfl, by simp, e8.tup (by simp) upd_same, IsDs.ints _⟩, rfl⟩
end
end K04
end

section
set_option Elab.async false
set_option linter.all false
set_option maxRecDepth 100000
set_option maxHeartbeats 1000000
namespace K04
open PySem PySem.Spec L2 PyProof.Rows
def spRP (ts : List Addr) : Sp := fun vs H Q _ => ∃ (ls ks : List PyData), vs = [.str (planT ls ks)] ∧ GoodP ls ks ∧ (ks.map firstD).Nodup ∧ Tb ts H ∧ ∀ v H', Ext [] H H' → IsD [] H' (.tuple [.tuple ls, .tuple ks]) v → Q v H'
theorem row_atL {ls ks : List PyData} {i : Nat} (h : i < ls.length) : (rowsT ls ks)[i]? = some (row (laneW ls[i])) := by
  unfold rowsT
  rw [List.getElem?_append_left (by rw [List.length_map]; exact h), List.getElem?_map, List.getElem?_eq_getElem h]
  rfl
theorem row_atK {ls ks : List PyData} {i : Nat} (h : ls.length ≤ i) (h2 : i - ls.length < ks.length) : (rowsT ls ks)[i]? = some (row (kindW ls ks[i - ls.length])) := by
  unfold rowsT
  rw [List.getElem?_append_right (by rw [List.length_map]; exact h), List.length_map, List.getElem?_map, List.getElem?_eq_getElem h2]
  rfl
/-- one more -/
theorem snocD {ex : List Addr} {H : Hp} {ds : List PyData} {d : PyData} {p : Addr} {xs : List V} {u : V} (he : ex = []) (hd : IsDs ex H ds xs) (hu : IsD ex H d u) (hp : H p = none) : IsD ex (upd H p (.tup (xs ++ [u]))) (.tuple (ds ++ [d])) (.ref p) := by
  subst he
  have e : Ext [] H (upd H p (.tup (xs ++ [u]))) := Ext.new hp _
  exact ⟨p, _, rfl, by simp, upd_same, IsDs.append (IsDs.ext e hd) ⟨u, [], rfl, IsD.ext e hu, rfl⟩⟩
section
variable {P : Program} {w : World} {K : PySem.W.Frag} {mg : Str → Option Value} {base : Heap} {ts : List Addr}
abbrev s_read_plan : Stmt := top 26
theorem sc_read_plan : FnScope ["text", "rows", "lanes", "kinds", "at", "row", "words"] ["text"] (defScope s_read_plan) := ⟨rfl, rfl, rfl, by decide +kernel, rfl, by decide +kernel, by decide +kernel⟩
theorem ok_rplan {f : Addr} {fd : FuncData} (F : Fun K "read_plan" "read_plan" s_read_plan f fd) (T : TxE K mg) (C_read_lane : CallOk P w K mg base "read_lane" 3 ["words"] (spRL ts)) (C_read_kind : CallOk P w K mg base "read_kind" 3 ["lanes", "words"] (spRK ts)) (C_begin_a_plan : CallOk P w K mg base "begin_a_plan" 8 ["lanes", "kinds"] (spBG ts)) : FnOk P w K mg base CX0 9 f fd ["text"] (spRP ts) := by
  refine F.ok sc_read_plan (fun vs H Q E h => ?_) (fun cdv A outer s H vs Q E hr h => ?_)
  · obtain ⟨ls, ks, rfl, _⟩ := h
    rfl
  obtain ⟨ls, ks, rfl, gp, nd, tb, q⟩ := h
  refine' ⟨_, ?hh, ?rr⟩
  case hh => (refine' pss_cons ?g1 ?g2; (case g1 => (refine' ps_if ?g3 ?g4 ?g5; (case g3 => (refine' pt_not ?g6; (case g6 => (refine' pt_val ?g7; (case g7 => (refine' pe_callB ?g8 ?g9 ?g10 ?g11 ?g12; (case g8 => (exact call_isi)); (case g9 => (exact rfl)); (case g10 => (exact T.b_isinstance)); (case g11 => (exact boot_isi)); (case g12 => (refine' pa_c ?g13 ?g14; (case g13 => (exact (pv 0))); (case g14 => (refine' pa_c ?g15 ?g16; (case g15 => (exact (pe_bltn (v := .ty "str") rfl T.b_str boot_tstr rfl))); (case g16 => (exact pa_nil)))))))))))); (case g4 => (refine' pss_one ?g17; (case g17 => (exact ps_never)))); (case g5 => (exact pss_nil)))); (case g2 => (refine' pss_cons ?g18 ?g19; (case g18 => (refine' ps_set ?g20 ?g21 ?g22 ?g23; (case g20 => (exact sc_read_plan.nd)); (case g21 => (exact (ixAt 1))); (case g22 => (exact (Or.inl rfl))); (case g23 => (refine' pe_bm ?g24 ?g25 ?g26 ?g27 ?g28 ?g29; (case g24 => (exact PySem.F.plainAttrs_str)); (case g25 => (exact PySem.F.slot_str_split)); (case g26 => (exact PySem.F.type_str_split)); (case g27 => (exact mt_split)); (case g28 => (exact (pv 0))); (case g29 => (refine' pa_c ?g30 ?g31; (case g30 => (exact pe_str)); (case g31 => (exact pa_nil)))))))); (case g19 => (refine' pss_cons ?g32 ?g33; (case g32 => (refine' ps_set ?g34 ?g35 ?g36 ?g37; (case g34 => (exact sc_read_plan.nd)); (case g35 => (exact (ixAt 2))); (case g36 => (exact (Or.inl rfl))); (case g37 => (refine' pe_tup ?g38; (case g38 => (exact pa_nil)))))); (case g33 => (refine' pss_cons ?g39 ?g40; (case g39 => (refine' ps_set ?g41 ?g42 ?g43 ?g44; (case g41 => (exact sc_read_plan.nd)); (case g42 => (exact (ixAt 3))); (case g43 => (exact (Or.inl rfl))); (case g44 => (refine' pe_tup ?g45; (case g45 => (exact pa_nil)))))); (case g40 => (refine' pss_cons ?g46 ?g47; (case g46 => (refine' ps_for ?g48 ?g49 ?g50 ?g51 ?g52; (case g48 => (exact PassesOwn.never)); (case g49 => (exact rfl)); (case g50 => (refine' pi_enumL ?g53 ?g54 ?g55; (case g53 => (exact rfl)); (case g54 => (exact T.b_enumerate)); (case g55 => (refine' pa_c ?g56 ?g57; (case g56 => (exact (pv 1))); (case g57 => (exact pa_nil)))))); (case g51 => (refine' pg_tup ?g58 ?g59; (case g58 => (exact rfl)); (case g59 => (refine' pgs_cons ?g60 ?g61; (case g60 => (refine' pg_name ?g62 ?g63 ?g64 ?g65; (case g62 => (exact sc_read_plan.nd)); (case g63 => (exact (ixAt 4))); (case g64 => (exact (Or.inl rfl))); (case g65 => (exact (Or.inl rfl))))); (case g61 => (refine' pgs_cons ?g66 ?g67; (case g66 => (refine' pg_name ?g68 ?g69 ?g70 ?g71; (case g68 => (exact sc_read_plan.nd)); (case g69 => (exact (ixAt 5))); (case g70 => (exact (Or.inl rfl))); (case g71 => (exact (Or.inl rfl))))); (case g67 => (exact pgs_nil)))))))); (case g52 => (refine' pss_cons ?g72 ?g73; (case g72 => (refine' ps_set ?g74 ?g75 ?g76 ?g77; (case g74 => (exact sc_read_plan.nd)); (case g75 => (exact (ixAt 6))); (case g76 => (exact (Or.inl rfl))); (case g77 => (refine' pe_bm ?g78 ?g79 ?g80 ?g81 ?g82 ?g83; (case g78 => (exact PySem.F.plainAttrs_str)); (case g79 => (exact PySem.F.slot_str_split)); (case g80 => (exact PySem.F.type_str_split)); (case g81 => (exact mt_split)); (case g82 => (exact (pv 5))); (case g83 => (refine' pa_c ?g84 ?g85; (case g84 => (exact pe_str)); (case g85 => (exact pa_nil)))))))); (case g73 => (refine' pss_cons ?g86 ?g87; (case g86 => (refine' ps_if ?g88 ?g89 ?g90; (case g88 => (refine' PW.pt ?g91; (case g91 => (refine' pw_and ?g92 ?g93; (case g92 => (refine' pt_cmpR ?g94 ?g95 ?g96 ?g97; (case g94 => (exact op_eq)); (case g95 => (refine' pe_ix ?g98 ?g99 ?g100 ?g101; (case g98 => (exact ix_list)); (case g99 => (exact (pv 6))); (case g100 => (exact pe_int)); (case g101 => (exact (fun _ _ => rfl))))); (case g96 => (exact pe_str)); (case g97 => (exact (nomark _))))); (case g93 => (refine' pw_and1 ?g102; (case g102 => (refine' pt_not ?g103; (case g103 => (refine' pt_truth ?g104 ?g105; (case g104 => (exact (pv 3))); (case g105 => (exact (fun _ => rfl))))))))))))); (case g89 => (refine' pss_one ?g106; (case g106 => (refine' ps_set ?g107 ?g108 ?g109 ?g110; (case g107 => (exact sc_read_plan.nd)); (case g108 => (exact (ixAt 2))); (case g109 => (exact (Or.inl rfl))); (case g110 => (refine' pe_tup ?g111; (case g111 => (refine' pa_star ?g112 ?g113; (case g112 => (exact (pv 2))); (case g113 => (refine' pa_c ?g114 ?g115; (case g114 => (refine' pe_cl ?g116 ?g117 ?g118 ?g119 ?g120; (case g116 => (exact C_read_lane)); (case g117 => (exact hr)); (case g118 => (refine' pa_c ?g121 ?g122; (case g121 => (exact (pv 6))); (case g122 => (exact pa_nil)))); (case g119 => (exact rfl)); (case g120 => (decide)))); (case g115 => (exact pa_nil)))))))))))); (case g90 => (refine' pss_one ?g123; (case g123 => (refine' ps_set ?g124 ?g125 ?g126 ?g127; (case g124 => (exact sc_read_plan.nd)); (case g125 => (exact (ixAt 3))); (case g126 => (exact (Or.inl rfl))); (case g127 => (refine' pe_tup ?g128; (case g128 => (refine' pa_star ?g129 ?g130; (case g129 => (exact (pv 3))); (case g130 => (refine' pa_c ?g131 ?g132; (case g131 => (refine' pe_cl ?g133 ?g134 ?g135 ?g136 ?g137; (case g133 => (exact C_read_kind)); (case g134 => (exact hr)); (case g135 => (refine' pa_c ?g138 ?g139; (case g138 => (exact (pv 2))); (case g139 => (refine' pa_c ?g140 ?g141; (case g140 => (exact (pv 6))); (case g141 => (exact pa_nil)))))); (case g136 => (exact rfl)); (case g137 => (decide)))); (case g132 => (exact pa_nil)))))))))))))); (case g87 => (refine' pss_one ?g142; (case g142 => (refine' ps_if ?g143 ?g144 ?g145; (case g143 => (refine' pt_not ?g146; (case g146 => (refine' pt_val ?g147; (case g147 => (refine' pe_cl ?g148 ?g149 ?g150 ?g151 ?g152; (case g148 => (exact C_begin_a_plan)); (case g149 => (exact hr)); (case g150 => (refine' pa_c ?g153 ?g154; (case g153 => (exact (pv 2))); (case g154 => (refine' pa_c ?g155 ?g156; (case g155 => (exact (pv 3))); (case g156 => (exact pa_nil)))))); (case g151 => (exact rfl)); (case g152 => (decide)))))))); (case g144 => (refine' pss_one ?g157; (case g157 => (exact ps_never)))); (case g145 => (exact pss_nil)))))))))))); (case g47 => (refine' pss_cons ?g158 ?g159; (case g158 => (refine' ps_if ?g160 ?g161 ?g162; (case g160 => (refine' pt_not ?g163; (case g163 => (refine' pt_truth ?g164 ?g165; (case g164 => (exact (pv 3))); (case g165 => (exact (fun _ => rfl))))))); (case g161 => (refine' pss_one ?g166; (case g166 => (exact ps_never)))); (case g162 => (exact pss_nil)))); (case g159 => (refine' pss_one ?g167; (case g167 => (refine' ps_ret ?g168; (case g168 => (refine' pe_tup ?g169; (case g169 => (refine' pa_c ?g170 ?g171; (case g170 => (exact (pv 2))); (case g171 => (refine' pa_c ?g172 ?g173; (case g172 => (exact (pv 3))); (case g173 => (exact pa_nil)))))))))))))))))))))))
  have gl := goodL gp.lanes
  have g1 := gl.one
  have g6 := gl.six
  have k1 := gp.one
  have k6 := gp.six
  have lp := plan_len gp
  have lr := rows_len ls ks
  have hd0 : IsD [] H (.str (planT ls ks)) (.str (planT ls ks)) := rfl
  have lnl : ("\n" : Str).length = 1 := by decide +kernel
  have lsp : (" " : Str).length = 1 := by decide +kernel
  refine ⟨_, rfl, _, _, _, _, rfl, hd0.ty, kit_str _, _, rfl, ?_⟩
  refine iteF ?_
  refine ⟨_, rfl, rfl, _, _, rfl, rfl, by rw [lnl]; rfl, ?_, ?_, fun pr hpr => ?_⟩
  · exact Nat.le_trans lp (by decide)
  · rw [plan_split gp, lr]
    exact Nat.le_of_lt (small1000 (by omega))
  rw [plan_split gp]
  generalize hH1 : upd H pr (.lst ((rowsT ls ks).map V.str)) = H1
  have x1 : Ext [] H H1 := hH1 ▸ Ext.new hpr _
  have t1 : H1 pr = some (.lst ((rowsT ls ks).map V.str)) := by rw [← hH1, upd_same]
  refine ⟨Nat.zero_le _, fun pl hpl => ?_⟩
  generalize hH2 : upd H1 pl (.tup []) = H2
  have x2 : Ext [] H1 H2 := hH2 ▸ Ext.new hpl _
  have t2 : H2 pl = some (.tup []) := by rw [← hH2, upd_same]
  refine ⟨Nat.zero_le _, fun pk hpk => ?_⟩
  generalize hH3 : upd H2 pk (.tup []) = H3
  have x3 : Ext [] H2 H3 := hH3 ▸ Ext.new hpk _
  have t3 : H3 pk = some (.tup []) := by rw [← hH3, upd_same]
  have lx : ((rowsT ls ks).map V.str).length = ls.length + ks.length := by rw [List.length_map, lr]
  refine ⟨_, rfl, pr, rfl, ⟨_, SqL.of (x3.lst (by simp) (x2.lst (by simp) t1))⟩, for_enumL (xs := (rowsT ls ks).map V.str) (fun i σ H5 => ∃ vl vk x4 x5 x6, σ = [some (V.str (planT ls ks)), some (V.ref pr), some vl, some vk, x4, x5, x6] ∧ Ext [] H H5 ∧ H5 pr = some (.lst ((rowsT ls ks).map V.str)) ∧ IsD [] H5 (.tuple (ls.take i)) vl ∧ IsD [] H5 (.tuple (ks.take (i - ls.length))) vk)
    ⟨_, _, _, _, _, rfl, (x1.trans x2).trans x3, x3.lst (by simp) (x2.lst (by simp) t1), ⟨pl, [], rfl, by simp, x3.tup (by simp) t2, rfl⟩, ⟨pk, [], rfl, by simp, t3, by rw [Nat.zero_sub]; rfl⟩⟩ ?_ ?_ ?_⟩
  · rintro i σ H5 _ ⟨vl, vk, x4, x5, x6, rfl, e5, h5, dl, dk⟩
    exact SqL.of h5
  · rintro i y T1 σ H5 hy ⟨vl, vk, x4, x5, x6, rfl, e5, h5, dl, dk⟩ hT
    have hi : i < ls.length + ks.length := by have := (List.getElem?_eq_some_iff.mp hy).1; omega
    have x6' : Ext [] H5 (upd H5 T1 (.tup [.int i, y])) := Ext.new hT _
    have hT6 : upd H5 T1 (.tup [.int i, y]) T1 = some (.tup [.int i, y]) := upd_same
    generalize upd H5 T1 (.tup [.int i, y]) = H6 at x6' hT6 ⊢
    refine ⟨T1, _, rfl, SqT.of hT6, rfl, _, _, rfl, _, _, rfl, rfl, ?_⟩
    replace e5 := e5.trans x6'
    replace h5 := x6'.lst (by simp) h5
    replace dl := IsD.ext x6' dl
    replace dk := IsD.ext x6' dk
    by_cases hL : i < ls.length
    · rw [List.getElem?_map, row_atL hL] at hy
      obtain rfl : V.str (row (laneW ls[i])) = y := Option.some.inj hy
      have ld := gl.all _ (List.getElem_mem hL)
      obtain ⟨w1, w2⟩ := lane_words ld
      have rl := row_lane ld
      have esp := words_split (ps := laneW ls[i]) (fun z => by rw [z] at w2; cases w2) w1
      refine ⟨_, rfl, rfl, _, _, rfl, rfl, by rw [lsp]; rfl, ?_, ?_, fun pW hpW => ?_⟩
      · exact Nat.le_of_lt (small1000 (by have := rl.len; omega))
      · rw [esp, w2]
        decide
      rw [esp]
      generalize hWV : (laneW ls[i]).map V.str = WV
      have x7 : Ext [] H6 (upd H6 pW (.lst WV)) := Ext.new hpW _
      have hW : upd H6 pW (.lst WV) pW = some (.lst WV) := upd_same
      generalize upd H6 pW (.lst WV) = H7 at x7 hW ⊢
      replace e5 := e5.trans x7
      replace h5 := x7.lst (by simp) h5
      replace dl := IsD.ext x7 dl
      replace dk := IsD.ext x7 dk
      have hw0 : atI WV 0 = some (.str "lane") := by
        obtain ⟨x, b, ex, _⟩ := lane_form ld
        rw [← hWV, ex]
        exact atI_nat (j := 0) rfl
      obtain ⟨ak, xk, rfl, nk, hk, hxk⟩ := dk
      obtain ⟨al, xl, rfl, nl, hl, hxl⟩ := dl
      have lk := hxk.length
      have ek0 : ks.take (i - ls.length) = [] := by rw [show i - ls.length = 0 by omega]; rfl
      rw [ek0] at lk hxk
      have exk : xk = [] := List.length_eq_zero_iff.mp lk
      subst exk
      refine ⟨_, rfl, pW, _, 0, .str "lane", rfl, rfl, SqL.of hW, hw0, rfl, _, rfl, ?_⟩
      rw [decide_eq_true rfl]
      refine iteT ?_
      refine ⟨_, rfl, _, .inr (.inl ⟨[], SqT.of hk, rfl⟩), ?_⟩
      refine iteT ?_
      have dW : IsD [] H7 (.list ((laneW ls[i]).map .str)) (.ref pW) := ⟨pW, WV, rfl, by simp, hW, by rw [← hWV]; exact IsDs.strs _⟩
      refine ⟨_, rfl, al, xl, rfl, .inr (SqT.of hl), _, rfl, ls[i], _, rfl, ld, dW, e5.tb tb (by simp), fun u H8 e8 du => ⟨?_, fun p hp => ?_⟩⟩
      · rw [List.length_append, hxl.length, List.length_take]
        exact Nat.le_of_lt (small1000 (by simp; omega))
      have dN := snocD rfl (IsDs.ext e8 hxl) du hp
      have eT : ls.take i ++ [ls[i]] = ls.take (i + 1) := by rw [List.take_add_one, List.getElem?_eq_getElem hL]; rfl
      rw [eT] at dN
      have x9 : Ext [] H8 (upd H8 p (.tup (xl ++ [u]))) := Ext.new hp _
      generalize upd H8 p (.tup (xl ++ [u])) = H9 at dN x9 ⊢
      have e9 := (e5.trans e8).trans x9
      have dk9 : IsD [] H9 (.tuple []) (.ref ak) := ⟨ak, [], rfl, nk, (e8.trans x9).tup (by simp) hk, rfl⟩
      refine ⟨_, rfl, _, rfl, ls.take (i + 1), [], _, _, rfl, dN, dk9, lanes_take gl (by omega), .inl rfl, small_all fun d hd => lane_small (gl.all d (List.mem_of_mem_take hd)), rfl, e9.tb tb (by simp), fun H10 e10 => ⟨_, rfl, ?_⟩⟩
      refine iteF ?_
      exact ⟨_, _, _, _, _, rfl, e9.trans e10, ((e8.trans x9).trans e10).lst (by simp) h5, IsD.ext e10 dN, by rw [show i + 1 - ls.length = 0 by omega]; exact IsD.ext e10 dk9⟩
    · have hj : i - ls.length < ks.length := by omega
      rw [List.getElem?_map, row_atK (by omega) hj] at hy
      obtain rfl : V.str (row (kindW ls ks[i - ls.length])) = y := Option.some.inj hy
      have kd := gp.all _ (List.getElem_mem hj)
      have rk := row_kind gl kd
      obtain ⟨x, ws, bs, ek, gk⟩ := kind_form kd
      obtain ⟨w1, w2⟩ := kind_words gl gk
      have gm := gk.most
      rw [← ek] at w1 w2
      have esp := words_split (ps := kindW ls ks[i - ls.length]) (fun z => by rw [z] at w2; cases w2) w1
      refine ⟨_, rfl, rfl, _, _, rfl, rfl, by rw [lsp]; rfl, ?_, ?_, fun pW hpW => ?_⟩
      · exact Nat.le_of_lt (small1000 (by have := rk.len; omega))
      · rw [esp, w2]
        exact Nat.le_of_lt (small1000 (by omega))
      rw [esp]
      generalize hWV : (kindW ls ks[i - ls.length]).map V.str = WV
      have x7 : Ext [] H6 (upd H6 pW (.lst WV)) := Ext.new hpW _
      have hW : upd H6 pW (.lst WV) pW = some (.lst WV) := upd_same
      generalize upd H6 pW (.lst WV) = H7 at x7 hW ⊢
      replace e5 := e5.trans x7
      replace h5 := x7.lst (by simp) h5
      replace dl := IsD.ext x7 dl
      replace dk := IsD.ext x7 dk
      have hw0 : atI WV 0 = some (.str "kind") := by
        rw [← hWV, ek]
        exact atI_nat (j := 0) rfl
      have eL : ls.take i = ls := List.take_of_length_le (by omega)
      rw [eL] at dl
      obtain ⟨ak, xk, rfl, nk, hk, hxk⟩ := dk
      have nlk : decide (V.str ("kind" : Str) = V.str ("lane" : Str)) = false := decide_eq_false fun z => by
        have z1 : ("kind" : Str) = "lane" := by injection z
        exact absurd z1 (by decide +kernel)
      refine ⟨_, rfl, pW, _, 0, .str "kind", rfl, rfl, SqL.of hW, hw0, rfl, _, rfl, ?_⟩
      rw [nlk]
      refine iteF (iteF ?_)
      have dW : IsD [] H7 (.list ((kindW ls (.tuple [.str x, .tuple ws, .tuple bs])).map .str)) (.ref pW) := ⟨pW, WV, rfl, by simp, hW, by rw [← hWV, ek]; exact IsDs.strs _⟩
      refine ⟨_, rfl, ak, xk, rfl, .inr (SqT.of hk), _, rfl, _, rfl, ls, x, ws, bs, _, _, rfl, gl, gk, dl, dW, e5.tb tb (by simp), fun u H8 e8 du => ⟨?_, fun p hp => ?_⟩⟩
      · rw [List.length_append, hxk.length, List.length_take]
        exact Nat.le_of_lt (small1000 (by simp; omega))
      have dN := snocD rfl (IsDs.ext e8 hxk) du hp
      have eT : ks.take (i - ls.length) ++ [.tuple [.str x, .tuple ws, .tuple bs]] = ks.take (i + 1 - ls.length) := by
        rw [show i + 1 - ls.length = (i - ls.length) + 1 by omega, List.take_add_one, List.getElem?_eq_getElem hj, ek]
        rfl
      rw [eT] at dN
      have x9 : Ext [] H8 (upd H8 p (.tup (xk ++ [u]))) := Ext.new hp _
      generalize upd H8 p (.tup (xk ++ [u])) = H9 at dN x9 ⊢
      have e9 := (e5.trans e8).trans x9
      have dl9 := IsD.ext (e8.trans x9) dl
      refine ⟨_, rfl, _, rfl, ls, ks.take (i + 1 - ls.length), _, _, rfl, dl9, dN, gp.lanes, .inr (kinds_take k6 k1 gp.all nd (by omega)), small_all fun d hd => lane_small (gl.all d hd), small_all fun d hd => kind_small (gp.all d (List.mem_of_mem_take hd)), e9.tb tb (by simp), fun H10 e10 => ⟨_, rfl, ?_⟩⟩
      refine iteF ?_
      exact ⟨_, _, _, _, _, rfl, e9.trans e10, ((e8.trans x9).trans e10).lst (by simp) h5, by rw [List.take_of_length_le (by omega)]; exact IsD.ext e10 dl9, IsD.ext e10 dN⟩
  · rintro σ H5 ⟨vl, vk, x4, x5, x6, rfl, e5, h5, dl, dk⟩
    rw [lx, List.take_of_length_le (by omega)] at dl
    rw [lx, List.take_of_length_le (by omega)] at dk
    have dk' := dk
    obtain ⟨ak, xk, rfl, nk, hk, hxk⟩ := dk
    have lk := hxk.length
    refine ⟨_, rfl, _, .inr (.inl ⟨xk, SqT.of hk, rfl⟩), ?_⟩
    cases xk with
    | nil => simp at lk; omega
    | cons v0 xk =>
      refine iteF ?_
      refine ⟨_, rfl, _, rfl, (show 2 ≤ sizeLine by decide), fun p hp => ?_⟩
      have x9 : Ext [] H5 (upd H5 p (.tup [vl, .ref ak])) := Ext.new hp _
      exact q _ _ (e5.trans x9) ⟨p, _, rfl, by simp, upd_same, vl, _, rfl, IsD.ext x9 dl, .ref ak, _, rfl, IsD.ext x9 dk', rfl⟩
end
end K04
end

section
set_option Elab.async false
set_option linter.all false
set_option maxRecDepth 100000
set_option maxHeartbeats 1000000
namespace K04
open PySem PySem.Spec L2 PyProof.Rows
/-! ### the law's own text of a plan -/
section
variable {P : Program} {w : World} {K : PySem.W.Frag} {mg : Str → Option Value} {base : Heap} {ts : List Addr}
abbrev s__law_plan_text : Stmt := top 37
theorem sc__law_plan_text : FnScope ["_law_plan_here", "_law_rows", "_law_name", "_law_way", "_law_bounds", "_law_words_here", "_law_lane", "_law_own"] ["_law_plan_here"] (defScope s__law_plan_text) := ⟨rfl, rfl, rfl, by decide +kernel, rfl, by decide +kernel, by decide +kernel⟩
theorem ok_ptext {f : Addr} {fd : FuncData} (F : Fun K "_law_plan_text" "_law_plan_text" s__law_plan_text f fd) (T : TxE K mg) : FnOk P w K mg base CX0 1 f fd ["_law_plan_here"] spSP := by
  refine F.ok sc__law_plan_text (fun vs H Q E h => ?_) (fun cdv A outer s H vs Q E hr h => ?_)
  · obtain ⟨ls, ks, v, rfl, _⟩ := h
    rfl
  obtain ⟨ls, ks, v, rfl, gp, hv, q⟩ := h
  refine' ⟨_, ?hh, ?rr⟩
  case hh => (refine' pss_cons ?g1 ?g2; (case g1 => (refine' ps_setC ?g3 ?g4 ?g5 ?g6 ?g7 ?g8 ?g9 ?g10 ?g11 ?g12 ?g13 ?g14 ?g15; (case g3 => (exact sc__law_plan_text.nd)); (case g4 => (exact (ixAt 1))); (case g5 => (exact (Or.inl rfl))); (case g6 => (exact rfl)); (case g7 => (exact ⟨rfl, by decide +kernel, by decide +kernel, (show ∀ y : Str × NameKind, y ∈ _ → y.2 = NameKind.free → (defScope s__law_plan_text).names.lookup y.1 = some .cell ∨ (defScope s__law_plan_text).names.lookup y.1 = some .free from by decide +kernel)⟩)); (case g8 => (exact (compN ["_law_name", "_law_bound_here"] 2 []))); (case g9 => (decide +kernel)); (case g10 => (decide)); (case g11 => (refine' pi_tup ?g16; (case g16 => (refine' pe_ix ?g17 ?g18 ?g19 ?g20; (case g17 => (exact ix_tup)); (case g18 => (exact (pv 0))); (case g19 => (exact pe_int)); (case g20 => (exact (fun _ _ => rfl))))))); (case g12 => (intro _ _ _ _; refine' pg_tupK (K := K) (n := 2) ?g21 ?g22 ?g23; (case g21 => (exact rfl)); (case g22 => (exact rfl)); (case g23 => (refine' pgs_cons ?g24 ?g25; (case g24 => (refine' pg_name ?g26 ?g27 ?g28 ?g29; (case g26 => (exact (show (["_law_name", "_law_bound_here"] : List Str).Nodup from by decide +kernel))); (case g27 => (exact (ixAt 0))); (case g28 => (exact (Or.inl rfl))); (case g29 => (exact (Or.inr rfl))))); (case g25 => (refine' pgs_cons ?g30 ?g31; (case g30 => (refine' pg_name ?g32 ?g33 ?g34 ?g35; (case g32 => (exact (show (["_law_name", "_law_bound_here"] : List Str).Nodup from by decide +kernel))); (case g33 => (exact (ixAt 1))); (case g34 => (exact (Or.inl rfl))); (case g35 => (exact (Or.inr rfl))))); (case g31 => (exact pgs_nil)))))))); (case g13 => (exact (gown_tup (gsown_cons (by decide) (gsown_cons (by decide) gsown_nil))))); (case g14 => (intro _ _ _ _; exact pts_nil)); (case g15 => (intro _ _ _ _; refine' pe_op ?g36 ?g37 ?g38; (case g36 => (exact op_add_str)); (case g37 => (refine' pe_op ?g39 ?g40 ?g41; (case g39 => (exact op_add_str)); (case g40 => (refine' pe_op ?g42 ?g43 ?g44; (case g42 => (exact op_add_str)); (case g43 => (exact pe_str)); (case g44 => (exact (pv 0))))); (case g41 => (exact pe_str)))); (case g38 => (refine' pe_callTy ?g45 ?g46 ?g47 ?g48 ?g49; (case g45 => (exact call_str_int)); (case g46 => (exact rfl)); (case g47 => (exact T.b_str)); (case g48 => (exact boot_tstr)); (case g49 => (refine' pa_c ?g50 ?g51; (case g50 => (exact (pv 1))); (case g51 => (exact pa_nil)))))))))); (case g2 => (refine' pss_cons ?g52 ?g53; (case g52 => (refine' ps_for ?g54 ?g55 ?g56 ?g57 ?g58; (case g54 => (exact PassesOwn.never)); (case g55 => (exact rfl)); (case g56 => (refine' pi_tup ?g59; (case g59 => (refine' pe_ix ?g60 ?g61 ?g62 ?g63; (case g60 => (exact ix_tup)); (case g61 => (exact (pv 0))); (case g62 => (exact pe_int)); (case g63 => (exact (fun _ _ => rfl))))))); (case g57 => (refine' pg_tup ?g64 ?g65; (case g64 => (exact rfl)); (case g65 => (refine' pgs_cons ?g66 ?g67; (case g66 => (refine' pg_name ?g68 ?g69 ?g70 ?g71; (case g68 => (exact sc__law_plan_text.nd)); (case g69 => (exact (ixAt 2))); (case g70 => (exact (Or.inl rfl))); (case g71 => (exact (Or.inl rfl))))); (case g67 => (refine' pgs_cons ?g72 ?g73; (case g72 => (refine' pg_name ?g74 ?g75 ?g76 ?g77; (case g74 => (exact sc__law_plan_text.nd)); (case g75 => (exact (ixAt 3))); (case g76 => (exact (Or.inl rfl))); (case g77 => (exact (Or.inl rfl))))); (case g73 => (refine' pgs_cons ?g78 ?g79; (case g78 => (refine' pg_name ?g80 ?g81 ?g82 ?g83; (case g80 => (exact sc__law_plan_text.nd)); (case g81 => (exact (ixAt 4))); (case g82 => (exact (Or.inl rfl))); (case g83 => (exact (Or.inl rfl))))); (case g79 => (exact pgs_nil)))))))))); (case g58 => (refine' pss_cons ?g84 ?g85; (case g84 => (refine' ps_set ?g86 ?g87 ?g88 ?g89; (case g86 => (exact sc__law_plan_text.nd)); (case g87 => (exact (ixAt 5))); (case g88 => (exact (Or.inl rfl))); (case g89 => (refine' pe_lst ?g90; (case g90 => (refine' pa_c ?g91 ?g92; (case g91 => (exact pe_str)); (case g92 => (refine' pa_c ?g93 ?g94; (case g93 => (exact (pv 2))); (case g94 => (exact pa_nil)))))))))); (case g85 => (refine' pss_cons ?g95 ?g96; (case g95 => (refine' ps_for ?g97 ?g98 ?g99 ?g100 ?g101; (case g97 => (exact PassesOwn.never)); (case g98 => (exact rfl)); (case g99 => (refine' pi_zip ?g102 ?g103 ?g104; (case g102 => (exact rfl)); (case g103 => (exact T.b_zip)); (case g104 => (refine' pa_c ?g105 ?g106; (case g105 => (exact (pv 3))); (case g106 => (refine' pa_c ?g107 ?g108; (case g107 => (exact (pv 4))); (case g108 => (exact pa_nil)))))))); (case g100 => (refine' pg_tup ?g109 ?g110; (case g109 => (exact rfl)); (case g110 => (refine' pgs_cons ?g111 ?g112; (case g111 => (refine' pg_name ?g113 ?g114 ?g115 ?g116; (case g113 => (exact sc__law_plan_text.nd)); (case g114 => (exact (ixAt 6))); (case g115 => (exact (Or.inl rfl))); (case g116 => (exact (Or.inl rfl))))); (case g112 => (refine' pgs_cons ?g117 ?g118; (case g117 => (refine' pg_name ?g119 ?g120 ?g121 ?g122; (case g119 => (exact sc__law_plan_text.nd)); (case g120 => (exact (ixAt 7))); (case g121 => (exact (Or.inl rfl))); (case g122 => (exact (Or.inl rfl))))); (case g118 => (exact pgs_nil)))))))); (case g101 => (refine' pss_one ?g123; (case g123 => (refine' ps_expr ?g124; (case g124 => (refine' pe_bm ?g125 ?g126 ?g127 ?g128 ?g129 ?g130; (case g125 => (exact PySem.F.plainAttrs_list)); (case g126 => (exact PySem.F.slot_list_append)); (case g127 => (exact PySem.F.type_list_append)); (case g128 => (exact mt_append)); (case g129 => (exact (pv 5))); (case g130 => (refine' pa_c ?g131 ?g132; (case g131 => (refine' pe_op ?g133 ?g134 ?g135; (case g133 => (exact op_add_str)); (case g134 => (refine' pe_op ?g136 ?g137 ?g138; (case g136 => (exact op_add_str)); (case g137 => (refine' pe_ix ?g139 ?g140 ?g141 ?g142; (case g139 => (exact ix_tup)); (case g140 => (refine' pe_ix ?g143 ?g144 ?g145 ?g146; (case g143 => (exact ix_tup)); (case g144 => (refine' pe_ix ?g147 ?g148 ?g149 ?g150; (case g147 => (exact ix_tup)); (case g148 => (exact (pv 0))); (case g149 => (exact pe_int)); (case g150 => (exact (fun _ _ => rfl))))); (case g145 => (exact (pv 6))); (case g146 => (exact (fun _ _ => rfl))))); (case g141 => (exact pe_int)); (case g142 => (exact (fun _ _ => rfl))))); (case g138 => (exact pe_str)))); (case g135 => (refine' pe_callTy ?g151 ?g152 ?g153 ?g154 ?g155; (case g151 => (exact call_str_int)); (case g152 => (exact rfl)); (case g153 => (exact T.b_str)); (case g154 => (exact boot_tstr)); (case g155 => (refine' pa_c ?g156 ?g157; (case g156 => (exact (pv 7))); (case g157 => (exact pa_nil)))))))); (case g132 => (exact pa_nil)))))))))))); (case g96 => (refine' pss_one ?g158; (case g158 => (refine' ps_expr ?g159; (case g159 => (refine' pe_bm ?g160 ?g161 ?g162 ?g163 ?g164 ?g165; (case g160 => (exact PySem.F.plainAttrs_list)); (case g161 => (exact PySem.F.slot_list_append)); (case g162 => (exact PySem.F.type_list_append)); (case g163 => (exact mt_append)); (case g164 => (exact (pv 1))); (case g165 => (refine' pa_c ?g166 ?g167; (case g166 => (refine' pe_bm ?g168 ?g169 ?g170 ?g171 ?g172 ?g173; (case g168 => (exact PySem.F.plainAttrs_str)); (case g169 => (exact PySem.F.slot_str_join)); (case g170 => (exact PySem.F.type_str_join)); (case g171 => (exact mt_join)); (case g172 => (exact pe_str)); (case g173 => (refine' pa_c ?g174 ?g175; (case g174 => (exact (pv 5))); (case g175 => (exact pa_nil)))))); (case g167 => (exact pa_nil)))))))))))))))); (case g53 => (refine' pss_one ?g176; (case g176 => (refine' ps_ret ?g177; (case g177 => (refine' pe_bm ?g178 ?g179 ?g180 ?g181 ?g182 ?g183; (case g178 => (exact PySem.F.plainAttrs_str)); (case g179 => (exact PySem.F.slot_str_join)); (case g180 => (exact PySem.F.type_str_join)); (case g181 => (exact mt_join)); (case g182 => (exact pe_str)); (case g183 => (refine' pa_c ?g184 ?g185; (case g184 => (exact (pv 1))); (case g185 => (exact pa_nil)))))))))))))
  have gl := goodL gp.lanes
  obtain ⟨a, us, rfl, _, ha, v1, r1, rfl, e1, v2, r2, rfl, e2, rfl⟩ := hv
  obtain ⟨al, xl, rfl, nl, hl, hxl⟩ := e1
  obtain ⟨ak, xk, rfl, nk, hk, hxk⟩ := e2
  have ll := hxl.length
  have lk := hxk.length
  have g6 := gl.six
  have k6 := gp.six
  have lc : (" " : Str).length = 1 := by decide +kernel
  have lc2 : (":" : Str).length = 1 := by decide +kernel
  have ld : ("lane " : Str).length = 5 := by decide +kernel
  refine ⟨_, rfl, a, _, _, _, rfl, rfl, SqT.of ha, rfl, al, rfl, ⟨xl, SqT.of hl⟩, lcomp_by0 (yields_tup (ys := xl)) (fun i xs H2 => H2 = H ∧ xs = ((ls.take i).map fun d => row (laneW d)).map V.str) ⟨rfl, rfl⟩ (fun _ _ _ h => by rw [h.1]; exact SqT.of hl) ?_ ?_⟩
  · rintro i y xs H9 hy hi ⟨rfl, rfl⟩
    have hi' : i < ls.length := by omega
    have hdi := List.getElem?_eq_getElem hi'
    obtain ⟨y', hy', hdy⟩ := hxl.get (i := i) hdi
    rw [hy] at hy'
    cases hy'
    obtain ⟨x, b, ex, hx, hb1, hb2⟩ := lane_form (gl.all _ (List.getElem_mem hi'))
    rw [ex] at hdy
    obtain ⟨c, cs, rfl, _, hc, v3, r3, rfl, h3, v4, r4, rfl, h4, rfl⟩ := hdy
    obtain rfl : v3 = .str x := h3
    obtain rfl : v4 = .int b := h4
    have ln := (nm_sg hx).2
    have lb2 := (fig_of hb1 hb2).two
    refine ⟨c, _, rfl, SqT.of hc, rfl, _, _, rfl, _, _, rfl, rfl, ?_⟩
    refine ⟨_, rfl, _, _, rfl, rfl, ?_, _, _, rfl, rfl, ?_, _, rfl, b, rfl, log_small _ (List.mem_range.mpr (by omega)), _, _, rfl, rfl, ?_, ?_, nx hi ⟨rfl, ?_⟩⟩
    · exact Nat.le_of_lt (small1000 (by omega))
    · rw [app_len]
      exact Nat.le_of_lt (small1000 (by omega))
    · rw [app_len, app_len]
      exact Nat.le_of_lt (small1000 (show _ + (nT b).length ≤ 1000 by omega))
    · rw [List.length_map, List.length_map, List.length_take]
      exact small1000 (by omega)
    · rw [List.take_add_one, hdi, List.map_append, List.map_append, ex]
      show _ = _ ++ [V.str (row (laneW (.tuple [.str x, .int b])))]
      rw [lane_row]
      rfl
  rintro xs H9 ⟨rfl, rfl⟩ pR hpR
  rw [ll, List.take_length]
  generalize hLN : ls.map (fun d => row (laneW d)) = LN at *
  generalize hH1 : upd H9 pR (.lst (LN.map V.str)) = H1
  have x1 : Ext [] H9 H1 := hH1 ▸ Ext.new hpR _
  have t1 : H1 pR = some (.lst (LN.map V.str)) := by rw [← hH1, upd_same]
  have lL : LN.length = ls.length := by rw [← hLN, List.length_map]
  refine ⟨_, rfl, a, _, _, _, rfl, rfl, SqT.of (x1.tup (by simp) ha), rfl, ak, rfl, ⟨xk, SqT.of (x1.tup (by simp) hk)⟩, for_tup (xs := xk) (fun j σ H2 => ∃ x2 x3 x4 x5 x6 x7, σ = [some (V.ref a), some (V.ref pR), x2, x3, x4, x5, x6, x7] ∧ Ext [] H9 H2 ∧ H2 pR = some (.lst ((LN ++ (ks.take j).map fun d => row (kindW ls d)).map V.str))) ⟨_, _, _, _, _, _, rfl, x1, by rw [t1, List.take_zero, List.map_nil, List.append_nil]⟩ ?_ ?_ ?_⟩
  · rintro j σ H2 _ ⟨x2, x3, x4, x5, x6, x7, rfl, e, h2⟩
    exact SqT.of (e.tup (by simp) hk)
  · rintro j y σ H2 hy ⟨x2, x3, x4, x5, x6, x7, rfl, e, h2⟩
    have hj : j < ks.length := by have := (List.getElem?_eq_some_iff.mp hy).1; omega
    have hdj := List.getElem?_eq_getElem hj
    obtain ⟨y', hy', hdy⟩ := hxk.get (i := j) hdj
    rw [hy] at hy'
    cases hy'
    obtain ⟨x, ws, bs, ex, gk⟩ := kind_form (gp.all _ (List.getElem_mem hj))
    obtain ⟨kw1, kw2⟩ := kind_words gl gk
    have gm := gk.most
    have glen := gk.len
    rw [ex] at hdy
    obtain ⟨c, cs, rfl, _, hc, v3, r3, rfl, h3, v4, r4, rfl, h4, v5, r5, rfl, h5, rfl⟩ := hdy
    obtain rfl : v3 = .str x := h3
    obtain ⟨aw, xw, rfl, nw, hw, hxw⟩ := h4
    obtain ⟨ab, xb, rfl, nb, hb, hxb⟩ := h5
    have lw := hxw.length
    have lb := hxb.length
    refine ⟨c, _, rfl, SqT.of (e.tup (by simp) hc), rfl, _, _, rfl, _, _, rfl, _, _, rfl, rfl, ?_⟩
    refine ⟨_, rfl, (show 2 ≤ sizeLine by decide), fun pW hpW => ?_⟩
    have fW : H9 pW = none := by
      cases z : H9 pW with
      | none => rfl
      | some o =>
        by_cases zt : ∃ ps, o = .tbl ps
        · obtain ⟨ps, rfl⟩ := zt
          obtain ⟨ps', z', _⟩ := e.tab pW ps (by simp) z
          rw [hpW] at z'
          cases z'
        · have := e.old pW o (by simp) z fun ps z2 => zt ⟨ps, z2⟩
          rw [hpW] at this
          cases this
    have nRW : pR ≠ pW := ne_of_none h2 hpW
    generalize hST : List.zipWith (stepT ls) ws bs = ST
    have lz : ST.length = ws.length := by rw [← hST, List.length_zipWith, glen, Nat.min_self]
    have eW : kindW ls (.tuple [.str x, .tuple ws, .tuple bs]) = ("kind" : Str) :: x :: ST := by rw [← hST]; rfl
    have h3 : upd H2 pW (.lst [.str "kind", .str x]) pR = some (.lst ((LN ++ (ks.take j).map fun d => row (kindW ls d)).map V.str)) := by rw [upd_ne nRW]; exact h2
    have w3 : upd H2 pW (.lst [.str "kind", .str x]) pW = some (.lst [.str "kind", .str x]) := upd_same
    have e3 : Ext [] H9 (upd H2 pW (.lst [.str "kind", .str x])) := put0 e fW
    generalize upd H2 pW (.lst [.str "kind", .str x]) = H3 at h3 w3 e3 ⊢
    refine ⟨_, rfl, _, rfl, aw, ab, rfl, ⟨xw, SqT.of (e3.tup (by simp) hw)⟩, ⟨xb, SqT.of (e3.tup (by simp) hb)⟩, for_zip (xs := xw) (ys := xb) (by omega) (fun i σ H4 => ∃ x6 x7, σ = [some (V.ref a), some (V.ref pR), some (V.str x), some (V.ref aw), some (V.ref ab), some (V.ref pW), x6, x7] ∧ Ext [] H9 H4 ∧ H4 pR = some (.lst ((LN ++ (ks.take j).map fun d => row (kindW ls d)).map V.str)) ∧ H4 pW = some (.lst ((("kind" : Str) :: x :: ST.take i).map V.str))) ⟨_, _, rfl, e3, h3, w3⟩ ?_ ?_ ?_⟩
    · rintro i σ H4 _ ⟨x6, x7, rfl, e4, h4, w4⟩
      exact ⟨SqT.of (e4.tup (by simp) hw), SqT.of (e4.tup (by simp) hb)⟩
    · rintro i y1 z1 T1 σ H4 hy1 hz1 ⟨x6, x7, rfl, e4, h4, w4⟩ hT
      have hi' : i < ws.length := by have := (List.getElem?_eq_some_iff.mp hy1).1; omega
      obtain ⟨wi, ew, h0, h1⟩ := way_at gk hi'
      obtain ⟨bi, eb, hb1, hb2⟩ := bd_at gk (i := i) (by omega)
      have ewq : ws[i]? = some (.int wi) := by rw [List.getElem?_eq_getElem hi', ew]
      have ebq : bs[i]? = some (.int bi) := by rw [List.getElem?_eq_getElem (by omega), eb]
      obtain ⟨y1', hy1', dy⟩ := hxw.get ewq
      rw [hy1] at hy1'
      cases hy1'
      obtain rfl : y1 = .int wi := dy
      obtain ⟨z1', hz1', dz⟩ := hxb.get ebq
      rw [hz1] at hz1'
      cases hz1'
      obtain rfl : z1 = .int bi := dz
      obtain ⟨n, b', en, hn, en2⟩ := name_of gl.all (i := wi.toNat) (by omega)
      have x5 : Ext [] H4 (upd H4 T1 (.tup [.int wi, .int bi])) := Ext.new hT _
      have hT5 : upd H4 T1 (.tup [.int wi, .int bi]) T1 = some (.tup [.int wi, .int bi]) := upd_same
      generalize upd H4 T1 (.tup [.int wi, .int bi]) = H5 at x5 hT5 ⊢
      have e5 := e4.trans x5
      have h5 := x5.lst (by simp) h4
      have w5 := x5.lst (by simp) w4
      obtain ⟨vl, hvl, dl⟩ := hxl.get (List.getElem?_eq_getElem (show wi.toNat < ls.length by omega))
      rw [en] at dl
      obtain ⟨cl, us, rfl, _, hcl, u1, r1, rfl, f1, _⟩ := IsD.ext e5 dl
      obtain rfl : u1 = .str n := f1
      have ln := (nm_sg hn).2
      have lb2 := (fig_of hb1 hb2).two
      refine ⟨T1, _, rfl, SqT.of hT5, rfl, _, _, rfl, _, _, rfl, rfl, ?_⟩
      refine ⟨_, rfl, .inl ⟨rfl, _, SqL.of w5⟩, _, rfl, a, _, 0, _, rfl, rfl, SqT.of (e5.tup (by simp) ha), atI_nat (j := 0) rfl, _, rfl, al, xl, wi, _, rfl, rfl, SqT.of (e5.tup (by simp) hl), atI_pos h0 hvl, cl, _, 0, .str n, rfl, rfl, SqT.of hcl, atI_nat (j := 0) rfl, _, _, rfl, rfl, ?_, _, rfl, bi, rfl, log_small _ (List.mem_range.mpr (by omega)), _, _, rfl, rfl, ?_, pW, _, _, rfl, rfl, w5, ?_, ?_⟩
      · exact Nat.le_of_lt (small1000 (by omega))
      · rw [app_len]
        exact Nat.le_of_lt (small1000 (show _ + (nT bi).length ≤ 1000 by omega))
      · rw [List.length_map, List.length_cons, List.length_cons, List.length_take]
        exact small1000 (by omega)
      · refine ⟨_, _, rfl, put0 e5 fW, by rw [upd_ne nRW]; exact h5, ?_⟩
        rw [upd_same]
        have := step_at (ls := ls) ewq ebq
        rw [hST] at this
        rw [this]
        show some (HO.lst ((("kind" : Str) :: x :: ST.take i).map V.str ++ [V.str (n ++ ":" ++ nT bi)])) = some (HO.lst ((("kind" : Str) :: x :: (ST.take i ++ [stepT ls (.int wi) (.int bi)])).map V.str))
        have e9 : stepT ls (.int wi) (.int bi) = n ++ ":" ++ nT bi := by
          unfold stepT
          rw [nameAt_eq h0 h1, en2]
          rfl
        rw [e9]
        simp
    · rintro σ H4 ⟨x6, x7, rfl, e4, h4, w4⟩
      rw [show xw.length = ST.length by omega, List.take_length, ← eW] at w4
      refine ⟨_, rfl, .inl ⟨rfl, _, SqL.of h4⟩, rfl, _, rfl, _, pW, _, rfl, rfl, SqL.of w4, ?_, pR, _, _, rfl, rfl, h4, ?_, ?_⟩
      · refine join_fits (m := 11) (fun q hq => (kw1 q hq).len) ?_
        rw [lc]
        omega
      · rw [List.length_map, List.length_append, List.length_map, List.length_take]
        exact small1000 (by omega)
      · refine ⟨_, _, _, _, _, _, rfl, put0 e4 hpR, ?_⟩
        rw [upd_same, List.take_add_one, hdj, ex]
        show some (HO.lst ((LN ++ (ks.take j).map fun d => row (kindW ls d)).map V.str ++ [V.str (row (kindW ls (.tuple [.str x, .tuple ws, .tuple bs])))])) = _
        simp
  · rintro σ H2 ⟨x2, x3, x4, x5, x6, x7, rfl, e, h2⟩
    rw [lk, List.take_length] at h2
    have eR : (LN ++ ks.map fun d => row (kindW ls d)) = rowsT ls ks := by rw [← hLN]; rfl
    rw [eR] at h2
    refine ⟨rfl, _, rfl, _, pR, rowsT ls ks, rfl, rfl, SqL.of h2, ?_, q _ e⟩
    refine join_fits (m := 96) (fun r hr => (rows_all gp r hr).len) ?_
    have lc3 : ("\n" : Str).length = 1 := by decide +kernel
    rw [lc3, rows_len]
    omega
end
end K04
end

section
set_option Elab.async false
set_option linter.all false
set_option maxRecDepth 100000
set_option maxHeartbeats 1000000
namespace K04
open PySem PySem.Spec L2 PyProof.Rows
/-! ### whether two things are alike -/
def flatD (d : PyData) : Prop := (∃ x, d = .str x ∧ PySem.PyData.strOk x = true) ∨ ∃ i, d = .int i
def okS : Nat → PyData → Prop
  | 0, d => flatD d
  | n + 1, d => flatD d ∨ ∃ ds, d = .tuple ds ∧ ds.length ≤ 100 ∧ ∀ e ∈ ds, okS n e
def spS : Nat → Sp
  | 0 => fun _ _ _ _ => False
  | n + 1 => fun vs H Q _ => ∃ (d : PyData) (v u : V), vs = [v, u] ∧ IsD [] H d v ∧ IsD [] H d u ∧ okS n d ∧ ∀ H', Ext [] H H' → Q (.bl true) H'
theorem okS_cases {n : Nat} {d : PyData} (h : okS n d) : flatD d ∨ ∃ m ds, n = m + 1 ∧ d = .tuple ds ∧ ds.length ≤ 100 ∧ ∀ e ∈ ds, okS m e := by
  cases n with
  | zero => exact .inl h
  | succ n =>
    rcases h with hf | ⟨ds, rfl, hl, hds⟩
    · exact .inl hf
    · exact .inr ⟨n, ds, rfl, rfl, hl, hds⟩
theorem flat_sh {d : PyData} (h : flatD d) : Sh 0 d := by
  rcases h with ⟨x, rfl, hx⟩ | ⟨i, rfl⟩
  · exact ⟨hx, Nat.le_refl _⟩
  · exact sh_int i
section
variable {P : Program} {w : World} {K : PySem.W.Frag} {mg : Str → Option Value} {base : Heap} {ts : List Addr}
abbrev s__law_same : Stmt := top 38
theorem sc__law_same : FnScope ["_law_found", "_law_due"] ["_law_found", "_law_due"] (defScope s__law_same) := ⟨rfl, rfl, rfl, by decide +kernel, rfl, by decide +kernel, by decide +kernel⟩
theorem ok_same {f : Addr} {fd : FuncData} (n : Nat) (F : Fun K "_law_same" "_law_same" s__law_same f fd) (T : TxE K mg) (C__law_same : CallOk P w K mg base "_law_same" n ["_law_found", "_law_due"] (spS n)) : FnOk P w K mg base CX0 (n + 1) f fd ["_law_found", "_law_due"] (spS (n + 1)) := by
  refine F.ok sc__law_same (fun vs H Q E h => ?_) (fun cdv A outer s H vs Q E hr h => ?_)
  · obtain ⟨d, v, u, rfl, _⟩ := h
    rfl
  obtain ⟨d, v, u, rfl, hv, hu', ok, q⟩ := h
  have hu := hr.units
  refine' ⟨_, ?hh, ?rr⟩
  case hh => (refine' pss_cons ?g1 ?g2; (case g1 => (refine' ps_if ?g3 ?g4 ?g5; (case g3 => (refine' PW.pt ?g6; (case g6 => (refine' pw_or ?g7 ?g8; (case g7 => (refine' pt_val ?g9; (case g9 => (refine' pe_callB ?g10 ?g11 ?g12 ?g13 ?g14; (case g10 => (exact call_isi)); (case g11 => (exact rfl)); (case g12 => (exact T.b_isinstance)); (case g13 => (exact boot_isi)); (case g14 => (refine' pa_c ?g15 ?g16; (case g15 => (exact (pv 1))); (case g16 => (refine' pa_c ?g17 ?g18; (case g17 => (exact (pe_bltn (v := .ty "tuple") rfl T.b_tuple boot_ttuple rfl))); (case g18 => (exact pa_nil)))))))))); (case g8 => (refine' pw_or1 ?g19; (case g19 => (refine' pt_val ?g20; (case g20 => (refine' pe_callB ?g21 ?g22 ?g23 ?g24 ?g25; (case g21 => (exact call_isi)); (case g22 => (exact rfl)); (case g23 => (exact T.b_isinstance)); (case g24 => (exact boot_isi)); (case g25 => (refine' pa_c ?g26 ?g27; (case g26 => (exact (pv 1))); (case g27 => (refine' pa_c ?g28 ?g29; (case g28 => (exact (pe_bltn (v := .ty "list") rfl T.b_list boot_tlist rfl))); (case g29 => (exact pa_nil)))))))))))))))); (case g4 => (refine' pss_cons ?g30 ?g31; (case g30 => (refine' ps_if ?g32 ?g33 ?g34; (case g32 => (refine' pt_cmpR ?g35 ?g36 ?g37 ?g38; (case g35 => (exact op_ne)); (case g36 => (refine' pe_callB ?g39 ?g40 ?g41 ?g42 ?g43; (case g39 => (exact call_isi)); (case g40 => (exact rfl)); (case g41 => (exact T.b_isinstance)); (case g42 => (exact boot_isi)); (case g43 => (refine' pa_c ?g44 ?g45; (case g44 => (exact (pv 0))); (case g45 => (refine' pa_c ?g46 ?g47; (case g46 => (exact (pe_bltn (v := .ty "tuple") rfl T.b_tuple boot_ttuple rfl))); (case g47 => (exact pa_nil)))))))); (case g37 => (refine' pe_callB ?g48 ?g49 ?g50 ?g51 ?g52; (case g48 => (exact call_isi)); (case g49 => (exact rfl)); (case g50 => (exact T.b_isinstance)); (case g51 => (exact boot_isi)); (case g52 => (refine' pa_c ?g53 ?g54; (case g53 => (exact (pv 1))); (case g54 => (refine' pa_c ?g55 ?g56; (case g55 => (exact (pe_bltn (v := .ty "tuple") rfl T.b_tuple boot_ttuple rfl))); (case g56 => (exact pa_nil)))))))); (case g38 => (exact (nomark _))))); (case g33 => (refine' pss_one ?g57; (case g57 => (refine' ps_ret ?g58; (case g58 => (exact pe_bl)))))); (case g34 => (exact pss_nil)))); (case g31 => (refine' pss_cons ?g59 ?g60; (case g59 => (refine' ps_if ?g61 ?g62 ?g63; (case g61 => (refine' PW.pt ?g64; (case g64 => (refine' pw_or ?g65 ?g66; (case g65 => (refine' pt_cmpR ?g67 ?g68 ?g69 ?g70; (case g67 => (exact op_ne)); (case g68 => (refine' pe_callB ?g71 ?g72 ?g73 ?g74 ?g75; (case g71 => (exact call_isi)); (case g72 => (exact rfl)); (case g73 => (exact T.b_isinstance)); (case g74 => (exact boot_isi)); (case g75 => (refine' pa_c ?g76 ?g77; (case g76 => (exact (pv 0))); (case g77 => (refine' pa_c ?g78 ?g79; (case g78 => (exact (pe_bltn (v := .ty "list") rfl T.b_list boot_tlist rfl))); (case g79 => (exact pa_nil)))))))); (case g69 => (refine' pe_callB ?g80 ?g81 ?g82 ?g83 ?g84; (case g80 => (exact call_isi)); (case g81 => (exact rfl)); (case g82 => (exact T.b_isinstance)); (case g83 => (exact boot_isi)); (case g84 => (refine' pa_c ?g85 ?g86; (case g85 => (exact (pv 1))); (case g86 => (refine' pa_c ?g87 ?g88; (case g87 => (exact (pe_bltn (v := .ty "list") rfl T.b_list boot_tlist rfl))); (case g88 => (exact pa_nil)))))))); (case g70 => (exact (nomark _))))); (case g66 => (refine' pw_or1 ?g89; (case g89 => (refine' pt_cmpR ?g90 ?g91 ?g92 ?g93; (case g90 => (exact op_ne)); (case g91 => (refine' pe_callB ?g94 ?g95 ?g96 ?g97 ?g98; (case g94 => (exact call_len_seq)); (case g95 => (exact rfl)); (case g96 => (exact T.b_len)); (case g97 => (exact PySem.boot_len)); (case g98 => (refine' pa_c ?g99 ?g100; (case g99 => (exact (pv 0))); (case g100 => (exact pa_nil)))))); (case g92 => (refine' pe_callB ?g101 ?g102 ?g103 ?g104 ?g105; (case g101 => (exact call_len_seq)); (case g102 => (exact rfl)); (case g103 => (exact T.b_len)); (case g104 => (exact PySem.boot_len)); (case g105 => (refine' pa_c ?g106 ?g107; (case g106 => (exact (pv 1))); (case g107 => (exact pa_nil)))))); (case g93 => (exact (nomark _))))))))))); (case g62 => (refine' pss_one ?g108; (case g108 => (refine' ps_ret ?g109; (case g109 => (exact pe_bl)))))); (case g63 => (exact pss_nil)))); (case g60 => (refine' pss_one ?g110; (case g110 => (refine' ps_ret ?g111; (case g111 => (refine' pe_callB ?g112 ?g113 ?g114 ?g115 ?g116; (case g112 => (exact (call_all_list rfl))); (case g113 => (exact rfl)); (case g114 => (exact T.b_all)); (case g115 => (exact boot_ball)); (case g116 => (refine' pa_c ?g117 ?g118; (case g117 => (refine' pe_lcomp ?g119 ?g120 ?g121 ?g122 ?g123 ?g124 ?g125 ?g126 ?g127 ?g128; (case g119 => (exact rfl)); (case g120 => (exact ⟨rfl, by decide +kernel, by decide +kernel, (show ∀ y : Str × NameKind, y ∈ _ → y.2 = NameKind.free → (defScope s__law_same).names.lookup y.1 = some .cell ∨ (defScope s__law_same).names.lookup y.1 = some .free from by decide +kernel)⟩)); (case g121 => (exact (compN ["_law_one", "_law_other"] 2 []))); (case g122 => (decide +kernel)); (case g123 => (decide)); (case g124 => (refine' pi_zip ?g129 ?g130 ?g131; (case g129 => (exact rfl)); (case g130 => (exact T.b_zip)); (case g131 => (refine' pa_c ?g132 ?g133; (case g132 => (exact (pv 0))); (case g133 => (refine' pa_c ?g134 ?g135; (case g134 => (exact (pv 1))); (case g135 => (exact pa_nil)))))))); (case g125 => (intro _ _ _ _; refine' pg_tupK (K := K) (n := 2) ?g136 ?g137 ?g138; (case g136 => (exact rfl)); (case g137 => (exact rfl)); (case g138 => (refine' pgs_cons ?g139 ?g140; (case g139 => (refine' pg_name ?g141 ?g142 ?g143 ?g144; (case g141 => (exact (show (["_law_one", "_law_other"] : List Str).Nodup from by decide +kernel))); (case g142 => (exact (ixAt 0))); (case g143 => (exact (Or.inl rfl))); (case g144 => (exact (Or.inr rfl))))); (case g140 => (refine' pgs_cons ?g145 ?g146; (case g145 => (refine' pg_name ?g147 ?g148 ?g149 ?g150; (case g147 => (exact (show (["_law_one", "_law_other"] : List Str).Nodup from by decide +kernel))); (case g148 => (exact (ixAt 1))); (case g149 => (exact (Or.inl rfl))); (case g150 => (exact (Or.inr rfl))))); (case g146 => (exact pgs_nil)))))))); (case g126 => (exact (gown_tup (gsown_cons (by decide) (gsown_cons (by decide) gsown_nil))))); (case g127 => (intro _ _ _ _; exact pts_nil)); (case g128 => (intro _ _ _ _; refine' pe_cl ?g151 ?g152 ?g153 ?g154 ?g155; (case g151 => (exact C__law_same)); (case g152 => (exact hr)); (case g153 => (refine' pa_c ?g156 ?g157; (case g156 => (exact (pv 0))); (case g157 => (refine' pa_c ?g158 ?g159; (case g158 => (exact (pv 1))); (case g159 => (exact pa_nil)))))); (case g154 => (exact rfl)); (case g155 => (first | decide | exact Nat.le_refl _)))))); (case g118 => (exact pa_nil)))))))))))))); (case g5 => (exact pss_nil)))); (case g2 => (refine' pss_one ?g160; (case g160 => (refine' ps_ret ?g161; (case g161 => (refine' pe_and ?g162 ?g163; (case g162 => (refine' pe_cmpR ?g164 ?g165 ?g166 ?g167; (case g164 => (exact op_eq)); (case g165 => (refine' pe_callB ?g168 ?g169 ?g170 ?g171 ?g172; (case g168 => (exact call_isi)); (case g169 => (exact rfl)); (case g170 => (exact T.b_isinstance)); (case g171 => (exact boot_isi)); (case g172 => (refine' pa_c ?g173 ?g174; (case g173 => (exact (pv 0))); (case g174 => (refine' pa_c ?g175 ?g176; (case g175 => (exact (pe_bltn (v := .ty "bool") rfl T.b_bool boot_tbool rfl))); (case g176 => (exact pa_nil)))))))); (case g166 => (refine' pe_callB ?g177 ?g178 ?g179 ?g180 ?g181; (case g177 => (exact call_isi)); (case g178 => (exact rfl)); (case g179 => (exact T.b_isinstance)); (case g180 => (exact boot_isi)); (case g181 => (refine' pa_c ?g182 ?g183; (case g182 => (exact (pv 1))); (case g183 => (refine' pa_c ?g184 ?g185; (case g184 => (exact (pe_bltn (v := .ty "bool") rfl T.b_bool boot_tbool rfl))); (case g185 => (exact pa_nil)))))))); (case g167 => (exact (nomark _))))); (case g163 => (refine' pe_one ?g186; (case g186 => (refine' pe_cmpR ?g187 ?g188 ?g189 ?g190; (case g187 => (exact (op_eqD hu))); (case g188 => (exact (pv 0))); (case g189 => (exact (pv 1))); (case g190 => (exact (nomark _))))))))))))))
  rcases okS_cases ok with hf | ⟨m, ds, rfl, rfl, hl, hds⟩
  · skip
    have sh := flat_sh hf
    refine ⟨_, rfl, _, _, _, _, rfl, hu'.ty, kit_tuple d, _, rfl, ?_⟩
    have e1 : isiD "tuple" d = false := by rcases hf with ⟨x, rfl, hx⟩ | ⟨i, rfl⟩ <;> rfl
    have e2 : isiD "list" d = false := by rcases hf with ⟨x, rfl, hx⟩ | ⟨i, rfl⟩ <;> rfl
    rw [e1]
    refine iteF ?_
    refine ⟨_, rfl, _, _, _, _, rfl, hu'.ty, kit_list d, _, rfl, ?_⟩
    rw [e2]
    refine iteF ?_
    refine ⟨_, rfl, _, _, _, _, rfl, hv.ty, kit_bool d, _, rfl, _, _, _, _, rfl, hu'.ty, kit_bool d, rfl, _, rfl, ?_⟩
    rw [decide_eq_true rfl]
    refine iteT ?_
    refine ⟨_, rfl, _, rfl, d, d, hv, hu', sh.shaped, sh.shaped, ?_⟩
    rw [sh.refl]
    exact q H Ext.refl
  · skip
    obtain ⟨a, xs, rfl, na, ha, hxs⟩ := id hv
    obtain ⟨c, ys, rfl, nc, hc, hys⟩ := id hu'
    have lx := hxs.length
    have ly := hys.length
    refine ⟨_, rfl, _, _, _, _, rfl, hu'.ty, kit_tuple _, _, rfl, ?_⟩
    refine iteT (iteT ?_)
    refine ⟨_, rfl, _, _, _, _, rfl, hv.ty, kit_tuple _, _, rfl, _, _, _, _, rfl, hu'.ty, kit_tuple _, rfl, _, rfl, ?_⟩
    rw [decide_eq_true rfl]
    refine iteF ?_
    refine ⟨_, rfl, _, _, _, _, rfl, hv.ty, kit_list _, _, rfl, _, _, _, _, rfl, hu'.ty, kit_list _, rfl, _, rfl, ?_⟩
    rw [decide_eq_true rfl]
    refine iteF ?_
    refine ⟨_, rfl, a, _, rfl, .inr (SqT.of ha), _, rfl, c, _, rfl, .inr (SqT.of hc), rfl, _, rfl, ?_⟩
    rw [lx, ly, decide_eq_true rfl]
    refine iteF ?_
    refine ⟨_, rfl, _, rfl, a, c, rfl, ⟨xs, SqT.of ha⟩, ⟨ys, SqT.of hc⟩, lcomp_zip (xs := xs) (ys := ys) (by omega) (fun i vs H2 => Ext [] H H2 ∧ vs = (List.replicate i true).map V.bl) ⟨Ext.refl, rfl⟩ (fun _ _ _ h => ⟨SqT.of (h.1.tup (by simp) ha), SqT.of (h.1.tup (by simp) hc)⟩) ?_ ?_⟩
    · rintro i x1 y1 T1 vs H2 hx1 hy1 hi ⟨e, rfl⟩ hT
      have hi' : i < ds.length := by omega
      have hdi := List.getElem?_eq_getElem hi'
      obtain ⟨x1', hx1', dx⟩ := hxs.get hdi
      rw [hx1] at hx1'
      cases hx1'
      obtain ⟨y1', hy1', dy⟩ := hys.get hdi
      rw [hy1] at hy1'
      cases hy1'
      have x3 : Ext [] H2 (upd H2 T1 (.tup [x1, y1])) := Ext.new hT _
      have hT3 : upd H2 T1 (.tup [x1, y1]) T1 = some (.tup [x1, y1]) := upd_same
      generalize upd H2 T1 (.tup [x1, y1]) = H3 at x3 hT3 ⊢
      have e3 := e.trans x3
      refine ⟨T1, _, rfl, SqT.of hT3, rfl, _, _, rfl, _, _, rfl, rfl, ?_⟩
      refine ⟨_, rfl, _, rfl, ds[i], x1, y1, rfl, IsD.ext e3 dx, IsD.ext e3 dy, hds _ (List.getElem_mem hi'), fun H4 e4 => ⟨?_, nx hi ⟨e3.trans e4, ?_⟩⟩⟩
      · rw [List.length_map, List.length_replicate]
        exact small1000 (by omega)
      · rw [List.replicate_succ', List.map_append]
        rfl
    · rintro vs H2 ⟨e, rfl⟩ p hp
      refine ⟨p, _, rfl, SqL.of upd_same, ?_⟩
      have : (List.replicate xs.length true).all id = true := by simp
      rw [this]
      exact q _ (e.trans (Ext.new hp _))
/-- however deep -/
theorem call_same {f : Addr} {fd : FuncData} (F : Fun K "_law_same" "_law_same" s__law_same f fd) (T : TxE K mg) (hm : mg "_law_same" = some (.ref f)) (hk : PySem.W.keepIn K (.ref f) = true) (hb : Binds K fd ["_law_found", "_law_due"] []) : ∀ n, CallOk P w K mg base "_law_same" n ["_law_found", "_law_due"] (spS n)
  | 0 => ⟨f, fd, ⟨fun _ _ _ _ h => h.elim, fun _ _ _ _ _ _ _ _ _ _ _ _ _ h => h.elim⟩, hm, hk, hb⟩
  | n + 1 => ⟨f, fd, ok_same n F T (call_same F T hm hk hb n), hm, hk, hb⟩
theorem okS_plan {ls ks : List PyData} (g : GoodP ls ks) : okS 4 (.tuple [.tuple ls, .tuple ks]) := by
  have gl := goodL g.lanes
  have g6 := gl.six
  have k6 := g.six
  refine .inr ⟨_, rfl, (show 2 ≤ 100 by decide), fun d hd => ?_⟩
  rcases List.mem_cons.mp hd with rfl | hd
  · refine .inr ⟨_, rfl, by omega, fun d hd => ?_⟩
    obtain ⟨x, b, rfl, hx, _⟩ := lane_form (gl.all d hd)
    refine .inr ⟨_, rfl, (show 2 ≤ 100 by decide), fun e he => ?_⟩
    rcases List.mem_cons.mp he with rfl | he
    · exact .inl (.inl ⟨x, rfl, (nm_ok hx).1⟩)
    · rw [show e = .int b by simpa using he]
      exact .inl (.inr ⟨b, rfl⟩)
  · rw [show d = .tuple ks by simpa using hd]
    refine .inr ⟨_, rfl, by omega, fun d hd => ?_⟩
    obtain ⟨x, ws, bs, rfl, k⟩ := kind_form (g.all d hd)
    have := k.most
    have := k.len
    refine .inr ⟨_, rfl, (show 3 ≤ 100 by decide), fun e he => ?_⟩
    simp only [List.mem_cons, List.not_mem_nil, or_false] at he
    rcases he with rfl | rfl | rfl
    · exact .inl (.inl ⟨x, rfl, (nm_ok k.nmx).1⟩)
    · refine .inr ⟨_, rfl, by omega, fun e he => ?_⟩
      obtain ⟨i, rfl, _⟩ := way_mem k.way e he
      exact .inr ⟨i, rfl⟩
    · refine .inr ⟨_, rfl, by omega, fun e he => ?_⟩
      obtain ⟨i, rfl, _⟩ := bound_int (k.bds e he)
      exact .inr ⟨i, rfl⟩
end
end K04
end

section
set_option Elab.async false
set_option linter.all false
set_option maxRecDepth 100000
set_option maxHeartbeats 1000000
namespace K04
open PySem PySem.Spec L2 PyProof.Rows
theorem ext_drop {H H' : Hp} {p : Addr} {o : HO} (h : H p = none) (e : Ext [p] (upd H p o) H') : Ext [] H H' := by
  refine ⟨fun b u _ q n => ?_, fun b ps _ q => ?_⟩
  · have hb := ne_of_none q h
    exact e.old b u (by simpa using hb) (by rw [upd_ne hb]; exact q) n
  · have hb := ne_of_none q h
    exact e.tab b ps (by simpa using hb) (by rw [upd_ne hb]; exact q)
def spLaw (ts : List Addr) (K : PySem.W.Frag) : Sp := fun vs H Q _ => ∃ (a : Addr) (ns : List Int), vs = [.ref a] ∧ SqL K H a (ns.map V.int) ∧ ns.length ≤ 63 ∧ Tb ts H ∧ ∀ H', Q (.bl true) H'
structure GoodN (ls ks : List PyData) : Prop where
  g : GoodP ls ks
  nd : (ks.map firstD).Nodup
theorem goodN {d : PyData} (h : planD d = true) : ∃ ls ks, d = .tuple [.tuple ls, .tuple ks] ∧ GoodN ls ks := by
  obtain ⟨ls, ks, rfl, g⟩ := plan_form h
  exact ⟨ls, ks, rfl, g, kinds_nd (d := .none) h⟩
abbrev ls0 : List PyData := [.tuple [.str "a", .int 1]]
abbrev ks0 : List PyData := [.tuple [.str "b", .tuple [.int 0], .tuple [.int 99]]]
theorem good0 : GoodN ls0 ks0 := by
  have h : planD (.tuple [.tuple ls0, .tuple ks0]) = true := by decide +kernel
  obtain ⟨ls, ks, e, g⟩ := goodN h
  cases e
  exact g
section
variable {P : Program} {w : World} {K : PySem.W.Frag} {mg : Str → Option Value} {base : Heap} {ts : List Addr}
abbrev s_law : Stmt := top 39
theorem sc_law : FnScope ["_law_script", "_law_ahead", "_law_k", "_law_plan_here", "_law_text", "_law_told", "_law_one", "_law_some"] ["_law_script"] (defScope s_law) := ⟨rfl, rfl, rfl, by decide +kernel, rfl, by decide +kernel, by decide +kernel⟩
theorem ok_law {f : Addr} {fd : FuncData} (F : Fun K "law" "law" s_law f fd) (T : TxE K mg) (C__law_digits : CallOk P w K mg base "_law_digits" 1 ["_law_script", "_law_k"] (spDigits K)) (C__law_plan : CallOk P w K mg base "_law_plan" 3 ["_law_held"] spPlan)
    (C__law_plan_text : CallOk P w K mg base "_law_plan_text" 1 ["_law_plan_here"] spSP) (C__law_same : CallOk P w K mg base "_law_same" 5 ["_law_found", "_law_due"] (spS 5)) (C_shown_plan : CallOk P w K mg base "shown_plan" 2 ["plan"] spSP) (C_read_plan : CallOk P w K mg base "read_plan" 9 ["text"] (spRP ts)) : FnOk P w K mg base CX0 10 f fd ["_law_script"] (spLaw ts K) := by
  refine F.ok sc_law (fun vs H Q E h => ?_) (fun cdv A outer s H vs Q E hr h => ?_)
  · obtain ⟨a, ns, rfl, _⟩ := h
    rfl
  obtain ⟨a, ns, rfl, hS, h63, tb, q⟩ := h
  refine' ⟨_, ?hh, ?rr⟩
  case hh => (refine' pss_cons ?g1 ?g2; (case g1 => (refine' ps_set ?g3 ?g4 ?g5 ?g6; (case g3 => (exact sc_law.nd)); (case g4 => (exact (ixAt 1))); (case g5 => (exact (Or.inl rfl))); (case g6 => (refine' pe_tup ?g7; (case g7 => (refine' pa_c ?g8 ?g9; (case g8 => (refine' pe_tup ?g10; (case g10 => (refine' pa_c ?g11 ?g12; (case g11 => (refine' pe_tup ?g13; (case g13 => (refine' pa_c ?g14 ?g15; (case g14 => (exact pe_str)); (case g15 => (refine' pa_c ?g16 ?g17; (case g16 => (exact pe_int)); (case g17 => (exact pa_nil)))))))); (case g12 => (exact pa_nil)))))); (case g9 => (refine' pa_c ?g18 ?g19; (case g18 => (refine' pe_tup ?g20; (case g20 => (refine' pa_c ?g21 ?g22; (case g21 => (refine' pe_tup ?g23; (case g23 => (refine' pa_c ?g24 ?g25; (case g24 => (exact pe_str)); (case g25 => (refine' pa_c ?g26 ?g27; (case g26 => (refine' pe_tup ?g28; (case g28 => (refine' pa_c ?g29 ?g30; (case g29 => (exact pe_int)); (case g30 => (exact pa_nil)))))); (case g27 => (refine' pa_c ?g31 ?g32; (case g31 => (refine' pe_tup ?g33; (case g33 => (refine' pa_c ?g34 ?g35; (case g34 => (exact pe_int)); (case g35 => (exact pa_nil)))))); (case g32 => (exact pa_nil)))))))))); (case g22 => (exact pa_nil)))))); (case g19 => (exact pa_nil)))))))))); (case g2 => (refine' pss_cons ?g36 ?g37; (case g36 => (refine' ps_for ?g38 ?g39 ?g40 ?g41 ?g42; (case g38 => (exact PassesOwn.never)); (case g39 => (exact rfl)); (case g40 => (refine' pi_range1 ?g43 ?g44 ?g45; (case g43 => (exact rfl)); (case g44 => (exact T.b_range)); (case g45 => (refine' pa_c ?g46 ?g47; (case g46 => (refine' pe_op ?g48 ?g49 ?g50; (case g48 => (exact op_add)); (case g49 => (refine' pe_callB ?g51 ?g52 ?g53 ?g54 ?g55; (case g51 => (exact (call_min2 rfl))); (case g52 => (exact rfl)); (case g53 => (exact T.b_min)); (case g54 => (exact boot_bmin)); (case g55 => (refine' pa_c ?g56 ?g57; (case g56 => (exact pe_int)); (case g57 => (refine' pa_c ?g58 ?g59; (case g58 => (refine' pe_callB ?g60 ?g61 ?g62 ?g63 ?g64; (case g60 => (exact call_len_seq)); (case g61 => (exact rfl)); (case g62 => (exact T.b_len)); (case g63 => (exact PySem.boot_len)); (case g64 => (refine' pa_c ?g65 ?g66; (case g65 => (exact (pv 0))); (case g66 => (exact pa_nil)))))); (case g59 => (exact pa_nil)))))))); (case g50 => (exact pe_int)))); (case g47 => (exact pa_nil)))))); (case g41 => (refine' pg_name ?g67 ?g68 ?g69 ?g70; (case g67 => (exact sc_law.nd)); (case g68 => (exact (ixAt 2))); (case g69 => (exact (Or.inl rfl))); (case g70 => (exact (Or.inl rfl))))); (case g42 => (refine' pss_cons ?g71 ?g72; (case g71 => (refine' ps_set ?g73 ?g74 ?g75 ?g76; (case g73 => (exact sc_law.nd)); (case g74 => (exact (ixAt 3))); (case g75 => (exact (Or.inl rfl))); (case g76 => (refine' pe_cl ?g77 ?g78 ?g79 ?g80 ?g81; (case g77 => (exact C__law_plan)); (case g78 => (exact hr)); (case g79 => (refine' pa_c ?g82 ?g83; (case g82 => (refine' pe_cl ?g84 ?g85 ?g86 ?g87 ?g88; (case g84 => (exact C__law_digits)); (case g85 => (exact hr)); (case g86 => (refine' pa_c ?g89 ?g90; (case g89 => (exact (pv 0))); (case g90 => (refine' pa_c ?g91 ?g92; (case g91 => (exact (pv 2))); (case g92 => (exact pa_nil)))))); (case g87 => (exact rfl)); (case g88 => (decide)))); (case g83 => (exact pa_nil)))); (case g80 => (exact rfl)); (case g81 => (decide)))))); (case g72 => (refine' pss_cons ?g93 ?g94; (case g93 => (refine' ps_set ?g95 ?g96 ?g97 ?g98; (case g95 => (exact sc_law.nd)); (case g96 => (exact (ixAt 4))); (case g97 => (exact (Or.inl rfl))); (case g98 => (refine' pe_cl ?g99 ?g100 ?g101 ?g102 ?g103; (case g99 => (exact C__law_plan_text)); (case g100 => (exact hr)); (case g101 => (refine' pa_c ?g104 ?g105; (case g104 => (exact (pv 3))); (case g105 => (exact pa_nil)))); (case g102 => (exact rfl)); (case g103 => (decide)))))); (case g94 => (refine' pss_cons ?g106 ?g107; (case g106 => (refine' ps_set ?g108 ?g109 ?g110 ?g111; (case g108 => (exact sc_law.nd)); (case g109 => (exact (ixAt 5))); (case g110 => (exact (Or.inl rfl))); (case g111 => (refine' pe_cl ?g112 ?g113 ?g114 ?g115 ?g116; (case g112 => (exact C__law_plan_text)); (case g113 => (exact hr)); (case g114 => (refine' pa_c ?g117 ?g118; (case g117 => (exact (pv 1))); (case g118 => (exact pa_nil)))); (case g115 => (exact rfl)); (case g116 => (decide)))))); (case g107 => (refine' pss_cons ?g119 ?g120; (case g119 => (refine' ps_for ?g121 ?g122 ?g123 ?g124 ?g125; (case g121 => (exact PassesOwn.never)); (case g122 => (exact rfl)); (case g123 => (refine' pi_list ?g126; (case g126 => (refine' pe_lst ?g127; (case g127 => (refine' pa_c ?g128 ?g129; (case g128 => (refine' pe_tup ?g130; (case g130 => (refine' pa_c ?g131 ?g132; (case g131 => (exact (pv 3))); (case g132 => (refine' pa_c ?g133 ?g134; (case g133 => (exact (pv 4))); (case g134 => (exact pa_nil)))))))); (case g129 => (refine' pa_c ?g135 ?g136; (case g135 => (refine' pe_tup ?g137; (case g137 => (refine' pa_c ?g138 ?g139; (case g138 => (exact (pv 1))); (case g139 => (refine' pa_c ?g140 ?g141; (case g140 => (exact (pv 5))); (case g141 => (exact pa_nil)))))))); (case g136 => (refine' pa_c ?g142 ?g143; (case g142 => (refine' pe_tup ?g144; (case g144 => (refine' pa_c ?g145 ?g146; (case g145 => (exact (pv 3))); (case g146 => (refine' pa_c ?g147 ?g148; (case g147 => (exact (pv 4))); (case g148 => (exact pa_nil)))))))); (case g143 => (exact pa_nil)))))))))))); (case g124 => (refine' pg_tup ?g149 ?g150; (case g149 => (exact rfl)); (case g150 => (refine' pgs_cons ?g151 ?g152; (case g151 => (refine' pg_name ?g153 ?g154 ?g155 ?g156; (case g153 => (exact sc_law.nd)); (case g154 => (exact (ixAt 6))); (case g155 => (exact (Or.inl rfl))); (case g156 => (exact (Or.inl rfl))))); (case g152 => (refine' pgs_cons ?g157 ?g158; (case g157 => (refine' pg_name ?g159 ?g160 ?g161 ?g162; (case g159 => (exact sc_law.nd)); (case g160 => (exact (ixAt 7))); (case g161 => (exact (Or.inl rfl))); (case g162 => (exact (Or.inl rfl))))); (case g158 => (exact pgs_nil)))))))); (case g125 => (refine' pss_one ?g163; (case g163 => (refine' ps_if ?g164 ?g165 ?g166; (case g164 => (refine' PW.pt ?g167; (case g167 => (refine' pw_or ?g168 ?g169; (case g168 => (refine' pt_not ?g170; (case g170 => (refine' pt_val ?g171; (case g171 => (refine' pe_cl ?g172 ?g173 ?g174 ?g175 ?g176; (case g172 => (exact C__law_same)); (case g173 => (exact hr)); (case g174 => (refine' pa_c ?g177 ?g178; (case g177 => (refine' pe_cl ?g179 ?g180 ?g181 ?g182 ?g183; (case g179 => (exact C_shown_plan)); (case g180 => (exact hr)); (case g181 => (refine' pa_c ?g184 ?g185; (case g184 => (exact (pv 6))); (case g185 => (exact pa_nil)))); (case g182 => (exact rfl)); (case g183 => (decide)))); (case g178 => (refine' pa_c ?g186 ?g187; (case g186 => (exact (pv 7))); (case g187 => (exact pa_nil)))))); (case g175 => (exact rfl)); (case g176 => (first | decide | exact Nat.le_refl _)))))))); (case g169 => (refine' pw_or1 ?g188; (case g188 => (refine' pt_not ?g189; (case g189 => (refine' pt_val ?g190; (case g190 => (refine' pe_cl ?g191 ?g192 ?g193 ?g194 ?g195; (case g191 => (exact C__law_same)); (case g192 => (exact hr)); (case g193 => (refine' pa_c ?g196 ?g197; (case g196 => (refine' pe_cl ?g198 ?g199 ?g200 ?g201 ?g202; (case g198 => (exact C_read_plan)); (case g199 => (exact hr)); (case g200 => (refine' pa_c ?g203 ?g204; (case g203 => (exact (pv 7))); (case g204 => (exact pa_nil)))); (case g201 => (exact rfl)); (case g202 => (decide)))); (case g197 => (refine' pa_c ?g205 ?g206; (case g205 => (exact (pv 6))); (case g206 => (exact pa_nil)))))); (case g194 => (exact rfl)); (case g195 => (first | decide | exact Nat.le_refl _)))))))))))))); (case g165 => (refine' pss_one ?g207; (case g207 => (refine' ps_ret ?g208; (case g208 => (exact pe_bl)))))); (case g166 => (exact pss_nil)))))))); (case g120 => (refine' pss_one ?g209; (case g209 => (refine' ps_set ?g210 ?g211 ?g212 ?g213; (case g210 => (exact sc_law.nd)); (case g211 => (exact (ixAt 1))); (case g212 => (exact (Or.inl rfl))); (case g213 => (exact (pv 3))))))))))))))))); (case g37 => (refine' pss_one ?g214; (case g214 => (refine' ps_ret ?g215; (case g215 => (exact pe_bl)))))))))
  have hl : (ns.map V.int).length = ns.length := List.length_map _
  refine ⟨(show 2 ≤ sizeLine by decide), fun p1 h1 => ⟨(show 1 ≤ sizeLine by decide), fun p2 h2 => ⟨(show 1 ≤ sizeLine by decide), fun p3 h3 => ⟨(show 1 ≤ sizeLine by decide), fun p4 h4 => ⟨(show 3 ≤ sizeLine by decide), fun p5 h5 => ⟨(show 1 ≤ sizeLine by decide), fun p6 h6 => ⟨(show 2 ≤ sizeLine by decide), fun p7 h7 => ?_⟩⟩⟩⟩⟩⟩⟩
  have ini : ∃ H8 va, upd (upd (upd (upd (upd (upd (upd H p1 (.tup [.str "a", .int 1])) p2 (.tup [.ref p1])) p3 (.tup [.int 0])) p4 (.tup [.int 99])) p5 (.tup [.str "b", .ref p3, .ref p4])) p6 (.tup [.ref p5])) p7 (.tup [.ref p2, .ref p6]) = H8 ∧ V.ref p7 = va ∧ Ext [] H H8 ∧ IsD [] H8 (.tuple [.tuple ls0, .tuple ks0]) va := by
    refine ⟨_, _, rfl, rfl, ?_⟩
    generalize g1 : upd H p1 (.tup [.str "a", .int 1]) = H1 at h2 h3 h4 h5 h6 h7 ⊢
    have e1 : Ext [] H H1 := g1 ▸ Ext.new h1 _
    have t1 : H1 p1 = some (.tup [.str "a", .int 1]) := g1 ▸ upd_same
    generalize g2 : upd H1 p2 (.tup [.ref p1]) = H2 at h3 h4 h5 h6 h7 ⊢
    have e2 : Ext [] H1 H2 := g2 ▸ Ext.new h2 _
    have t2 : H2 p2 = some (.tup [.ref p1]) := g2 ▸ upd_same
    generalize g3 : upd H2 p3 (.tup [.int 0]) = H3 at h4 h5 h6 h7 ⊢
    have e3 : Ext [] H2 H3 := g3 ▸ Ext.new h3 _
    have t3 : H3 p3 = some (.tup [.int 0]) := g3 ▸ upd_same
    generalize g4 : upd H3 p4 (.tup [.int 99]) = H4 at h5 h6 h7 ⊢
    have e4 : Ext [] H3 H4 := g4 ▸ Ext.new h4 _
    have t4 : H4 p4 = some (.tup [.int 99]) := g4 ▸ upd_same
    generalize g5 : upd H4 p5 (.tup [.str "b", .ref p3, .ref p4]) = H5 at h6 h7 ⊢
    have e5 : Ext [] H4 H5 := g5 ▸ Ext.new h5 _
    have t5 : H5 p5 = some (.tup [.str "b", .ref p3, .ref p4]) := g5 ▸ upd_same
    generalize g6 : upd H5 p6 (.tup [.ref p5]) = H6 at h7 ⊢
    have e6 : Ext [] H5 H6 := g6 ▸ Ext.new h6 _
    have t6 : H6 p6 = some (.tup [.ref p5]) := g6 ▸ upd_same
    have e7 : Ext [] H6 (upd H6 p7 (.tup [.ref p2, .ref p6])) := Ext.new h7 _
    have e67 := e6.trans e7
    have e57 := e5.trans e67
    have e47 := e4.trans e57
    have e37 := e3.trans e47
    have e27 := e2.trans e37
    refine ⟨e1.trans e27, p7, _, rfl, by simp, upd_same, .ref p2, _, rfl, ⟨p2, _, rfl, by simp, e37.tup (by simp) t2, .ref p1, _, rfl, ⟨p1, _, rfl, by simp, e27.tup (by simp) t1, .str "a", _, rfl, rfl, .int 1, _, rfl, rfl, rfl⟩, rfl⟩, .ref p6, _, rfl, ⟨p6, _, rfl, by simp, e7.tup (by simp) t6, .ref p5, _, rfl, ⟨p5, _, rfl, by simp, e67.tup (by simp) t5, .str "b", _, rfl, rfl, .ref p3, _, rfl, ⟨p3, _, rfl, by simp, e47.tup (by simp) t3, .int 0, _, rfl, rfl, rfl⟩, .ref p4, _, rfl, ⟨p4, _, rfl, by simp, e57.tup (by simp) t4, .int 99, _, rfl, rfl, rfl⟩, rfl⟩, rfl⟩, rfl⟩
  obtain ⟨H8, va, ge, gv, eI, dI⟩ := ini
  rw [ge, gv]
  clear ge gv
  refine ⟨_, rfl, a, _, rfl, .inl (eI.sql (by simp) hS), _, _, rfl, _, _, rfl, rfl, ?_⟩
  have j0 : 1 ≤ (if (((ns.map V.int).length : Nat) : Int) < 30 then (((ns.map V.int).length : Nat) : Int) else 30) + 1 := by
    split <;> omega
  have j1 : (if (((ns.map V.int).length : Nat) : Int) < 30 then (((ns.map V.int).length : Nat) : Int) else 30) + 1 ≤ 31 := by
    split <;> omega
  refine ⟨_, rfl, Int.le_trans (by decide) j0, Int.lt_of_le_of_lt j1 (by decide), for_range (fun i σ H2 => ∃ lsA ksA va x2 x3 x4 x5 x6 x7, σ = [some (V.ref a), some va, x2, x3, x4, x5, x6, x7] ∧ GoodN lsA ksA ∧ Ext [] H H2 ∧ IsD [] H2 (.tuple [.tuple lsA, .tuple ksA]) va) ⟨ls0, ks0, va, _, _, _, _, _, _, rfl, good0, eI, dI⟩ ?_ ?_⟩
  · rintro i σ H2 hi ⟨lsA, ksA, va, x2, x3, x4, x5, x6, x7, rfl, gA, e, dA⟩
    have hi2 : i < 31 := Nat.lt_of_lt_of_le hi (Int.toNat_le.mpr j1)
    refine ⟨_, rfl, _, rfl, a, ns, _, rfl, e.sql (by simp) hS, h63, by omega, by omega, fun p n hp => ?_⟩
    have tb2 := e.tb tb (by simp)
    have c : Cz ⟨[p], p, ts⟩ (upd H2 p (.lst [.int n])) := ⟨by simp, fun b hb => ⟨[.int n], by rw [List.mem_singleton.mp hb]; exact upd_same⟩, ⟨n, upd_same⟩, (Ext.new (ex := []) hp (.lst [.int n])).tb tb2 (by simp)⟩
    have fin : ∀ H9, Stp ⟨[p], p, ts⟩ (upd H2 p (.lst [.int n])) H9 → Ext [] H2 H9 := fun H9 s9 => ext_drop hp s9.ext
    generalize upd H2 p (.lst [.int n]) = H3 at c fin ⊢
    refine ⟨⟨[p], p, ts⟩, rfl, c, fun pd vp H4 hpl s4 fp => ?_⟩
    obtain ⟨ls, ks, rfl, gN⟩ := goodN hpl
    have e24 := fin H4 s4
    replace dA := IsD.ext e24 dA
    replace e := e.trans e24
    have dP := IsD.less (ex' := []) (by simp) fp
    show tSeq _ _ _ [_, _, _, _, _, _, _, _] _
    refine ⟨_, rfl, ls, ks, _, rfl, gN.g, dP, fun H5 e5 => ?_⟩
    show tSeq _ _ _ [_, _, _, _, _, _, _, _] _
    refine ⟨_, rfl, lsA, ksA, _, rfl, gA.g, IsD.ext e5 dA, fun H6 e6 => ?_⟩
    replace dA := IsD.ext (e5.trans e6) dA
    replace dP := IsD.ext (e5.trans e6) dP
    replace e := (e.trans e5).trans e6
    show tSeq _ _ _ [_, _, _, _, _, _, _, _] _
    refine ⟨_, rfl, _, rfl, (show 2 ≤ sizeLine by decide), fun q1 hq1 => ⟨_, rfl, _, rfl, (show 2 ≤ sizeLine by decide), fun q2 hq2 => ⟨_, rfl, _, rfl, (show 2 ≤ sizeLine by decide), fun q3 hq3 => ⟨(show 3 ≤ sizeLine by decide), fun qL hqL => ?_⟩⟩⟩⟩
    have inn : ∃ Hd, upd (upd (upd (upd H6 q1 (.tup [vp, .str (planT ls ks)])) q2 (.tup [va, .str (planT lsA ksA)])) q3 (.tup [vp, .str (planT ls ks)])) qL (.lst [.ref q1, .ref q2, .ref q3]) = Hd ∧ Ext [] H6 Hd ∧ Hd q1 = some (.tup [vp, .str (planT ls ks)]) ∧ Hd q2 = some (.tup [va, .str (planT lsA ksA)]) ∧ Hd q3 = some (.tup [vp, .str (planT ls ks)]) ∧ Hd qL = some (.lst [.ref q1, .ref q2, .ref q3]) := by
      refine ⟨_, rfl, ?_⟩
      generalize g1 : upd H6 q1 (.tup [vp, .str (planT ls ks)]) = H7 at hq2 hq3 hqL ⊢
      have y1 : Ext [] H6 H7 := g1 ▸ Ext.new hq1 _
      have t1 : H7 q1 = some (.tup [vp, .str (planT ls ks)]) := g1 ▸ upd_same
      generalize g2 : upd H7 q2 (.tup [va, .str (planT lsA ksA)]) = H8 at hq3 hqL ⊢
      have y2 : Ext [] H7 H8 := g2 ▸ Ext.new hq2 _
      have t2 : H8 q2 = some (.tup [va, .str (planT lsA ksA)]) := g2 ▸ upd_same
      generalize g3 : upd H8 q3 (.tup [vp, .str (planT ls ks)]) = H9 at hqL ⊢
      have y3 : Ext [] H8 H9 := g3 ▸ Ext.new hq3 _
      have t3 : H9 q3 = some (.tup [vp, .str (planT ls ks)]) := g3 ▸ upd_same
      have y4 : Ext [] H9 (upd H9 qL (.lst [.ref q1, .ref q2, .ref q3])) := Ext.new hqL _
      exact ⟨((y1.trans y2).trans y3).trans y4, ((y2.trans y3).trans y4).tup (by simp) t1, (y3.trans y4).tup (by simp) t2, y4.tup (by simp) t3, upd_same⟩
    obtain ⟨Hd, ge, eD, d1, d2, d3, dL⟩ := inn
    rw [ge]
    clear ge
    replace dA := IsD.ext eD dA
    replace dP := IsD.ext eD dP
    replace e := e.trans eD
    have item : ∀ (j : Nat) (y : V), [V.ref q1, V.ref q2, V.ref q3][j]? = some y → ∃ r lsB ksB v, y = .ref r ∧ GoodN lsB ksB ∧ IsD [] Hd (.tuple [.tuple lsB, .tuple ksB]) v ∧ Hd r = some (.tup [v, .str (planT lsB ksB)]) := fun j y hy => by
      match j, hy with
      | 0, hy => cases hy; exact ⟨q1, ls, ks, vp, rfl, gN, dP, d1⟩
      | 1, hy => cases hy; exact ⟨q2, lsA, ksA, va, rfl, gA, dA, d2⟩
      | 2, hy => cases hy; exact ⟨q3, ls, ks, vp, rfl, gN, dP, d3⟩
      | j + 3, hy => cases hy
    refine ⟨qL, rfl, ⟨_, SqL.of dL⟩, for_list (xs := [.ref q1, .ref q2, .ref q3]) (fun j σ H7 => ∃ x6 x7, σ = [some (V.ref a), some va, some (V.int (0 + (i : Nat))), some vp, some (V.str (planT ls ks)), some (V.str (planT lsA ksA)), x6, x7] ∧ Ext [] Hd H7) ⟨_, _, rfl, Ext.refl⟩ ?_ ?_ ?_⟩
    · rintro j σ H7 _ ⟨x6, x7, rfl, e7⟩
      exact SqL.of (e7.lst (by simp) dL)
    · rintro j y σ H7 hy ⟨x6, x7, rfl, e7⟩
      obtain ⟨r, lsB, ksB, v, rfl, gB, dB, dr⟩ := item j y hy
      refine ⟨r, _, rfl, SqT.of (e7.tup (by simp) dr), rfl, _, _, rfl, _, _, rfl, rfl, ?_⟩
      refine ⟨_, rfl, lsB, ksB, v, rfl, gB.g, IsD.ext e7 dB, fun H10 e10 => ⟨_, rfl, .str (planT lsB ksB), _, _, rfl, rfl, rfl, .inl (.inl ⟨_, rfl, planT_ok gB.g⟩), fun H11 e11 => ⟨_, rfl, ?_⟩⟩⟩
      refine iteF ?_
      have e711 := (e7.trans e10).trans e11
      refine ⟨_, rfl, lsB, ksB, rfl, gB.g, gB.nd, (e.trans e711).tb tb (by simp), fun u H12 e12 du => ⟨_, rfl, .tuple [.tuple lsB, .tuple ksB], _, _, rfl, du, IsD.ext (e711.trans e12) dB, okS_plan gB.g, fun H13 e13 => ⟨_, rfl, ?_⟩⟩⟩
      refine iteF ?_
      exact ⟨_, _, rfl, (e711.trans e12).trans e13⟩
    · rintro σ H7 ⟨x6, x7, rfl, e7⟩
      refine ⟨_, rfl, ?_⟩
      exact ⟨ls, ks, vp, _, _, _, _, _, _, rfl, gN, e.trans e7, IsD.ext e7 dP⟩
  · rintro σ H2 ⟨lsA, ksA, va, x2, x3, x4, x5, x6, x7, rfl, gA, e, dA⟩
    exact q H2
end
end K04
end

section
set_option Elab.async false
set_option linter.all false
set_option maxRecDepth 100000
set_option maxHeartbeats 4000000
namespace K04
open PySem L2 PyProof.Rows
abbrev gnames : List Str := ["is_name", "are_bounds", "are_lanes", "are_kinds", "read_bound"]
theorem all_mk {l : PySem.W.OpenLaw} {w : World} {K : PySem.W.Frag} {h : Heap} {mg : Str → Option Value} {fa ao : Addr} (X : K.In h) (G : h.Ns mainGlobals mg) (hfa : mg "law" = some (.ref fa))
    {t0 : Tok} {t1 : Tok} {t2 : Tok} {t3 : Tok} {t4 : Tok} {t5 : Tok} {t6 : Tok} {t7 : Tok} {t8 : Tok} {oo : Obj} {no : Nat}
    {f0 : Addr} {od0 an0 : Option Addr} {sl0 : Array (Option Value)} {oc0 kV0 dc0 pm0 ct0 cd0 : Value}
    (a0 : PySem.W.nsIn K mainGlobals "is_whole" = some (some (.ref f0))) (l0 : K.lookup f0 = some ⟨oc0, od0, .func (PySem.W.fnOf "is_whole" "is_whole" (defArgs s_is_whole) (defBody s_is_whole) (defScope s_is_whole) .none kV0 dc0 pm0 an0 cd0 ct0), sl0⟩) (c0 : PySem.W.codeIn K cd0 "is_whole" = true) (k0 : PySem.W.keepIn K (.ref f0) = true)
    {f1 : Addr} {od1 an1 : Option Addr} {sl1 : Array (Option Value)} {oc1 kV1 dc1 pm1 ct1 cd1 : Value}
    (a1 : PySem.W.nsIn K mainGlobals "is_tuple" = some (some (.ref f1))) (l1 : K.lookup f1 = some ⟨oc1, od1, .func (PySem.W.fnOf "is_tuple" "is_tuple" (defArgs s_is_tuple) (defBody s_is_tuple) (defScope s_is_tuple) .none kV1 dc1 pm1 an1 cd1 ct1), sl1⟩) (c1 : PySem.W.codeIn K cd1 "is_tuple" = true) (k1 : PySem.W.keepIn K (.ref f1) = true)
    {f2 : Addr} {od2 an2 : Option Addr} {sl2 : Array (Option Value)} {oc2 kV2 dc2 pm2 ct2 cd2 : Value}
    (a2 : PySem.W.nsIn K mainGlobals "is_bound" = some (some (.ref f2))) (l2 : K.lookup f2 = some ⟨oc2, od2, .func (PySem.W.fnOf "is_bound" "is_bound" (defArgs s_is_bound) (defBody s_is_bound) (defScope s_is_bound) .none kV2 dc2 pm2 an2 cd2 ct2), sl2⟩) (c2 : PySem.W.codeIn K cd2 "is_bound" = true) (k2 : PySem.W.keepIn K (.ref f2) = true)
    {f3 : Addr} {od3 an3 : Option Addr} {sl3 : Array (Option Value)} {oc3 kV3 dc3 pm3 ct3 : Value} {cx3 tp3 : Addr} {cc3 : Value} {cdd3 : Option Addr} {vs3 : Array Value} {csl3 : Array (Option Value)}
    (a3 : PySem.W.nsIn K mainGlobals "is_name" = some (some (.ref f3))) (l3 : K.lookup f3 = some ⟨oc3, od3, .func (PySem.W.fnOf "is_name" "is_name" (defArgs s_is_name) (defBody s_is_name) (defScope s_is_name) .none kV3 dc3 pm3 an3 (.ref cx3) ct3), sl3⟩) (c3 : PySem.W.codeIn K (.ref cx3) "is_name" = true) (k3 : PySem.W.keepIn K (.ref f3) = true)
    (lc3 : K.lookup cx3 = some ⟨cc3, cdd3, .fields vs3, csl3⟩) (h113 : (vs3[11]? : Option Value) = some (.ref tp3)) (tI3 : PySem.W.tabIn K "is_name" = some (cx3, tp3)) (hd3 : PySem.W.codeHdIn K cx3 tp3 = true)
    {f4 : Addr} {od4 an4 : Option Addr} {sl4 : Array (Option Value)} {oc4 kV4 dc4 pm4 ct4 cd4 : Value}
    (a4 : PySem.W.nsIn K mainGlobals "is_lane" = some (some (.ref f4))) (l4 : K.lookup f4 = some ⟨oc4, od4, .func (PySem.W.fnOf "is_lane" "is_lane" (defArgs s_is_lane) (defBody s_is_lane) (defScope s_is_lane) .none kV4 dc4 pm4 an4 cd4 ct4), sl4⟩) (c4 : PySem.W.codeIn K cd4 "is_lane" = true) (k4 : PySem.W.keepIn K (.ref f4) = true)
    {f5 : Addr} {od5 an5 : Option Addr} {sl5 : Array (Option Value)} {oc5 kV5 dc5 pm5 ct5 cd5 : Value}
    (a5 : PySem.W.nsIn K mainGlobals "have_unlike_names" = some (some (.ref f5))) (l5 : K.lookup f5 = some ⟨oc5, od5, .func (PySem.W.fnOf "have_unlike_names" "have_unlike_names" (defArgs s_unlike) (defBody s_unlike) (defScope s_unlike) .none kV5 dc5 pm5 an5 cd5 ct5), sl5⟩) (c5 : PySem.W.codeIn K cd5 "have_unlike_names" = true) (k5 : PySem.W.keepIn K (.ref f5) = true)
    {f6 : Addr} {od6 an6 : Option Addr} {sl6 : Array (Option Value)} {oc6 kV6 dc6 pm6 ct6 : Value} {cx6 tp6 : Addr} {cc6 : Value} {cdd6 : Option Addr} {vs6 : Array Value} {csl6 : Array (Option Value)}
    (a6 : PySem.W.nsIn K mainGlobals "are_bounds" = some (some (.ref f6))) (l6 : K.lookup f6 = some ⟨oc6, od6, .func (PySem.W.fnOf "are_bounds" "are_bounds" (defArgs s_are_bounds) (defBody s_are_bounds) (defScope s_are_bounds) .none kV6 dc6 pm6 an6 (.ref cx6) ct6), sl6⟩) (c6 : PySem.W.codeIn K (.ref cx6) "are_bounds" = true) (k6 : PySem.W.keepIn K (.ref f6) = true)
    (lc6 : K.lookup cx6 = some ⟨cc6, cdd6, .fields vs6, csl6⟩) (h116 : (vs6[11]? : Option Value) = some (.ref tp6)) (tI6 : PySem.W.tabIn K "are_bounds" = some (cx6, tp6)) (hd6 : PySem.W.codeHdIn K cx6 tp6 = true)
    {f7 : Addr} {od7 an7 : Option Addr} {sl7 : Array (Option Value)} {oc7 kV7 dc7 pm7 ct7 cd7 : Value}
    (a7 : PySem.W.nsIn K mainGlobals "is_way" = some (some (.ref f7))) (l7 : K.lookup f7 = some ⟨oc7, od7, .func (PySem.W.fnOf "is_way" "is_way" (defArgs s_is_way) (defBody s_is_way) (defScope s_is_way) .none kV7 dc7 pm7 an7 cd7 ct7), sl7⟩) (c7 : PySem.W.codeIn K cd7 "is_way" = true) (k7 : PySem.W.keepIn K (.ref f7) = true)
    {f8 : Addr} {od8 an8 : Option Addr} {sl8 : Array (Option Value)} {oc8 kV8 dc8 pm8 ct8 cd8 : Value}
    (a8 : PySem.W.nsIn K mainGlobals "is_kind" = some (some (.ref f8))) (l8 : K.lookup f8 = some ⟨oc8, od8, .func (PySem.W.fnOf "is_kind" "is_kind" (defArgs s_is_kind) (defBody s_is_kind) (defScope s_is_kind) .none kV8 dc8 pm8 an8 cd8 ct8), sl8⟩) (c8 : PySem.W.codeIn K cd8 "is_kind" = true) (k8 : PySem.W.keepIn K (.ref f8) = true)
    {f9 : Addr} {od9 an9 : Option Addr} {sl9 : Array (Option Value)} {oc9 kV9 dc9 pm9 ct9 : Value} {cx9 tp9 : Addr} {cc9 : Value} {cdd9 : Option Addr} {vs9 : Array Value} {csl9 : Array (Option Value)}
    (a9 : PySem.W.nsIn K mainGlobals "are_lanes" = some (some (.ref f9))) (l9 : K.lookup f9 = some ⟨oc9, od9, .func (PySem.W.fnOf "are_lanes" "are_lanes" (defArgs s_are_lanes) (defBody s_are_lanes) (defScope s_are_lanes) .none kV9 dc9 pm9 an9 (.ref cx9) ct9), sl9⟩) (c9 : PySem.W.codeIn K (.ref cx9) "are_lanes" = true) (k9 : PySem.W.keepIn K (.ref f9) = true)
    (lc9 : K.lookup cx9 = some ⟨cc9, cdd9, .fields vs9, csl9⟩) (h119 : (vs9[11]? : Option Value) = some (.ref tp9)) (tI9 : PySem.W.tabIn K "are_lanes" = some (cx9, tp9)) (hd9 : PySem.W.codeHdIn K cx9 tp9 = true)
    {f10 : Addr} {od10 an10 : Option Addr} {sl10 : Array (Option Value)} {oc10 kV10 dc10 pm10 ct10 : Value} {cx10 tp10 : Addr} {cc10 : Value} {cdd10 : Option Addr} {vs10 : Array Value} {csl10 : Array (Option Value)}
    (a10 : PySem.W.nsIn K mainGlobals "are_kinds" = some (some (.ref f10))) (l10 : K.lookup f10 = some ⟨oc10, od10, .func (PySem.W.fnOf "are_kinds" "are_kinds" (defArgs s_are_kinds) (defBody s_are_kinds) (defScope s_are_kinds) .none kV10 dc10 pm10 an10 (.ref cx10) ct10), sl10⟩) (c10 : PySem.W.codeIn K (.ref cx10) "are_kinds" = true) (k10 : PySem.W.keepIn K (.ref f10) = true)
    (lc10 : K.lookup cx10 = some ⟨cc10, cdd10, .fields vs10, csl10⟩) (h1110 : (vs10[11]? : Option Value) = some (.ref tp10)) (tI10 : PySem.W.tabIn K "are_kinds" = some (cx10, tp10)) (hd10 : PySem.W.codeHdIn K cx10 tp10 = true)
    {f11 : Addr} {od11 an11 : Option Addr} {sl11 : Array (Option Value)} {oc11 kV11 dc11 pm11 ct11 cd11 : Value}
    (a11 : PySem.W.nsIn K mainGlobals "_law_take" = some (some (.ref f11))) (l11 : K.lookup f11 = some ⟨oc11, od11, .func (PySem.W.fnOf "_law_take" "_law_take" (defArgs s__law_take) (defBody s__law_take) (defScope s__law_take) .none kV11 dc11 pm11 an11 cd11 ct11), sl11⟩) (c11 : PySem.W.codeIn K cd11 "_law_take" = true) (k11 : PySem.W.keepIn K (.ref f11) = true)
    {f12 : Addr} {od12 an12 : Option Addr} {sl12 : Array (Option Value)} {oc12 kV12 dc12 pm12 ct12 cd12 : Value}
    (a12 : PySem.W.nsIn K mainGlobals "_law_digits" = some (some (.ref f12))) (l12 : K.lookup f12 = some ⟨oc12, od12, .func (PySem.W.fnOf "_law_digits" "_law_digits" (defArgs s__law_digits) (defBody s__law_digits) (defScope s__law_digits) .none kV12 dc12 pm12 an12 cd12 ct12), sl12⟩) (c12 : PySem.W.codeIn K cd12 "_law_digits" = true) (k12 : PySem.W.keepIn K (.ref f12) = true)
    {f13 : Addr} {od13 an13 : Option Addr} {sl13 : Array (Option Value)} {oc13 kV13 dc13 pm13 ct13 cd13 : Value}
    (a13 : PySem.W.nsIn K mainGlobals "_law_bound" = some (some (.ref f13))) (l13 : K.lookup f13 = some ⟨oc13, od13, .func (PySem.W.fnOf "_law_bound" "_law_bound" (defArgs s__law_bound) (defBody s__law_bound) (defScope s__law_bound) .none kV13 dc13 pm13 an13 cd13 ct13), sl13⟩) (c13 : PySem.W.codeIn K cd13 "_law_bound" = true) (k13 : PySem.W.keepIn K (.ref f13) = true)
    {f14 : Addr} {od14 an14 : Option Addr} {sl14 : Array (Option Value)} {oc14 kV14 dc14 pm14 ct14 cd14 : Value}
    (a14 : PySem.W.nsIn K mainGlobals "_law_words" = some (some (.ref f14))) (l14 : K.lookup f14 = some ⟨oc14, od14, .func (PySem.W.fnOf "_law_words" "_law_words" (defArgs s__law_words) (defBody s__law_words) (defScope s__law_words) .none kV14 dc14 pm14 an14 cd14 ct14), sl14⟩) (c14 : PySem.W.codeIn K cd14 "_law_words" = true) (k14 : PySem.W.keepIn K (.ref f14) = true)
    {f15 : Addr} {od15 an15 : Option Addr} {sl15 : Array (Option Value)} {oc15 kV15 dc15 pm15 ct15 cd15 : Value}
    (a15 : PySem.W.nsIn K mainGlobals "_law_plan" = some (some (.ref f15))) (l15 : K.lookup f15 = some ⟨oc15, od15, .func (PySem.W.fnOf "_law_plan" "_law_plan" (defArgs s__law_plan) (defBody s__law_plan) (defScope s__law_plan) .none kV15 dc15 pm15 an15 cd15 ct15), sl15⟩) (c15 : PySem.W.codeIn K cd15 "_law_plan" = true) (k15 : PySem.W.keepIn K (.ref f15) = true)
    {f16 : Addr} {od16 an16 : Option Addr} {sl16 : Array (Option Value)} {oc16 kV16 dc16 pm16 ct16 : Value} {cx16 tp16 : Addr} {cc16 : Value} {cdd16 : Option Addr} {vs16 : Array Value} {csl16 : Array (Option Value)}
    (a16 : PySem.W.nsIn K mainGlobals "read_bound" = some (some (.ref f16))) (l16 : K.lookup f16 = some ⟨oc16, od16, .func (PySem.W.fnOf "read_bound" "read_bound" (defArgs s_read_bound) (defBody s_read_bound) (defScope s_read_bound) .none kV16 dc16 pm16 an16 (.ref cx16) ct16), sl16⟩) (c16 : PySem.W.codeIn K (.ref cx16) "read_bound" = true) (k16 : PySem.W.keepIn K (.ref f16) = true)
    (lc16 : K.lookup cx16 = some ⟨cc16, cdd16, .fields vs16, csl16⟩) (h1116 : (vs16[11]? : Option Value) = some (.ref tp16)) (tI16 : PySem.W.tabIn K "read_bound" = some (cx16, tp16)) (hd16 : PySem.W.codeHdIn K cx16 tp16 = true)
    {f17 : Addr} {od17 an17 : Option Addr} {sl17 : Array (Option Value)} {oc17 kV17 dc17 pm17 ct17 cd17 : Value}
    (a17 : PySem.W.nsIn K mainGlobals "read_lane" = some (some (.ref f17))) (l17 : K.lookup f17 = some ⟨oc17, od17, .func (PySem.W.fnOf "read_lane" "read_lane" (defArgs s_read_lane) (defBody s_read_lane) (defScope s_read_lane) .none kV17 dc17 pm17 an17 cd17 ct17), sl17⟩) (c17 : PySem.W.codeIn K cd17 "read_lane" = true) (k17 : PySem.W.keepIn K (.ref f17) = true)
    {f18 : Addr} {od18 an18 : Option Addr} {sl18 : Array (Option Value)} {oc18 kV18 dc18 pm18 ct18 cd18 : Value}
    (a18 : PySem.W.nsIn K mainGlobals "read_kind" = some (some (.ref f18))) (l18 : K.lookup f18 = some ⟨oc18, od18, .func (PySem.W.fnOf "read_kind" "read_kind" (defArgs s_read_kind) (defBody s_read_kind) (defScope s_read_kind) .none kV18 dc18 pm18 an18 cd18 ct18), sl18⟩) (c18 : PySem.W.codeIn K cd18 "read_kind" = true) (k18 : PySem.W.keepIn K (.ref f18) = true)
    {f19 : Addr} {od19 an19 : Option Addr} {sl19 : Array (Option Value)} {oc19 kV19 dc19 pm19 ct19 cd19 : Value}
    (a19 : PySem.W.nsIn K mainGlobals "begin_a_plan" = some (some (.ref f19))) (l19 : K.lookup f19 = some ⟨oc19, od19, .func (PySem.W.fnOf "begin_a_plan" "begin_a_plan" (defArgs s_begin_a_plan) (defBody s_begin_a_plan) (defScope s_begin_a_plan) .none kV19 dc19 pm19 an19 cd19 ct19), sl19⟩) (c19 : PySem.W.codeIn K cd19 "begin_a_plan" = true) (k19 : PySem.W.keepIn K (.ref f19) = true)
    {f20 : Addr} {od20 an20 : Option Addr} {sl20 : Array (Option Value)} {oc20 kV20 dc20 pm20 ct20 cd20 : Value}
    (a20 : PySem.W.nsIn K mainGlobals "read_plan" = some (some (.ref f20))) (l20 : K.lookup f20 = some ⟨oc20, od20, .func (PySem.W.fnOf "read_plan" "read_plan" (defArgs s_read_plan) (defBody s_read_plan) (defScope s_read_plan) .none kV20 dc20 pm20 an20 cd20 ct20), sl20⟩) (c20 : PySem.W.codeIn K cd20 "read_plan" = true) (k20 : PySem.W.keepIn K (.ref f20) = true)
    {f21 : Addr} {od21 an21 : Option Addr} {sl21 : Array (Option Value)} {oc21 kV21 dc21 pm21 ct21 cd21 : Value}
    (a21 : PySem.W.nsIn K mainGlobals "shown_kind" = some (some (.ref f21))) (l21 : K.lookup f21 = some ⟨oc21, od21, .func (PySem.W.fnOf "shown_kind" "shown_kind" (defArgs s_shown_kind) (defBody s_shown_kind) (defScope s_shown_kind) .none kV21 dc21 pm21 an21 cd21 ct21), sl21⟩) (c21 : PySem.W.codeIn K cd21 "shown_kind" = true) (k21 : PySem.W.keepIn K (.ref f21) = true)
    {f22 : Addr} {od22 an22 : Option Addr} {sl22 : Array (Option Value)} {oc22 kV22 dc22 pm22 ct22 cd22 : Value}
    (a22 : PySem.W.nsIn K mainGlobals "shown_plan" = some (some (.ref f22))) (l22 : K.lookup f22 = some ⟨oc22, od22, .func (PySem.W.fnOf "shown_plan" "shown_plan" (defArgs s_shown_plan) (defBody s_shown_plan) (defScope s_shown_plan) .none kV22 dc22 pm22 an22 cd22 ct22), sl22⟩) (c22 : PySem.W.codeIn K cd22 "shown_plan" = true) (k22 : PySem.W.keepIn K (.ref f22) = true)
    {f23 : Addr} {od23 an23 : Option Addr} {sl23 : Array (Option Value)} {oc23 kV23 dc23 pm23 ct23 cd23 : Value}
    (a23 : PySem.W.nsIn K mainGlobals "_law_plan_text" = some (some (.ref f23))) (l23 : K.lookup f23 = some ⟨oc23, od23, .func (PySem.W.fnOf "_law_plan_text" "_law_plan_text" (defArgs s__law_plan_text) (defBody s__law_plan_text) (defScope s__law_plan_text) .none kV23 dc23 pm23 an23 cd23 ct23), sl23⟩) (c23 : PySem.W.codeIn K cd23 "_law_plan_text" = true) (k23 : PySem.W.keepIn K (.ref f23) = true)
    {f24 : Addr} {od24 an24 : Option Addr} {sl24 : Array (Option Value)} {oc24 kV24 dc24 pm24 ct24 cd24 : Value}
    (a24 : PySem.W.nsIn K mainGlobals "_law_same" = some (some (.ref f24))) (l24 : K.lookup f24 = some ⟨oc24, od24, .func (PySem.W.fnOf "_law_same" "_law_same" (defArgs s__law_same) (defBody s__law_same) (defScope s__law_same) .none kV24 dc24 pm24 an24 cd24 ct24), sl24⟩) (c24 : PySem.W.codeIn K cd24 "_law_same" = true) (k24 : PySem.W.keepIn K (.ref f24) = true)
    {f25 : Addr} {od25 an25 : Option Addr} {sl25 : Array (Option Value)} {oc25 kV25 dc25 pm25 ct25 cd25 : Value}
    (a25 : PySem.W.nsIn K mainGlobals "law" = some (some (.ref f25))) (l25 : K.lookup f25 = some ⟨oc25, od25, .func (PySem.W.fnOf "law" "law" (defArgs s_law) (defBody s_law) (defScope s_law) .none kV25 dc25 pm25 an25 cd25 ct25), sl25⟩) (c25 : PySem.W.codeIn K cd25 "law" = true) (k25 : PySem.W.keepIn K (.ref f25) = true)
    (z0 : PySem.W.nsIn K mainGlobals "len" = some none)
    (z1 : PySem.W.nsIn K mainGlobals "all" = some none)
    (z2 : PySem.W.nsIn K mainGlobals "isinstance" = some none)
    (z3 : PySem.W.nsIn K mainGlobals "str" = some none)
    (z4 : PySem.W.nsIn K mainGlobals "bool" = some none)
    (z5 : PySem.W.nsIn K mainGlobals "int" = some none)
    (z6 : PySem.W.nsIn K mainGlobals "tuple" = some none)
    (z7 : PySem.W.nsIn K mainGlobals "list" = some none)
    (z8 : PySem.W.nsIn K mainGlobals "range" = some none)
    (z9 : PySem.W.nsIn K mainGlobals "min" = some none)
    (z10 : PySem.W.nsIn K mainGlobals "enumerate" = some none)
    (z11 : PySem.W.nsIn K mainGlobals "zip" = some none)
    (gl0 : PySem.W.nsIn K mainGlobals "LETTERS" = some (some (.str az t0)))
    (gl1 : PySem.W.nsIn K mainGlobals "LONGEST_NAME" = some (some (.int 8 t1)))
    (gl2 : PySem.W.nsIn K mainGlobals "GREATEST_BOUND" = some (some (.int 99 t2)))
    (gl3 : PySem.W.nsIn K mainGlobals "MOST_LANES" = some (some (.int 6 t3)))
    (gl4 : PySem.W.nsIn K mainGlobals "MOST_KINDS" = some (some (.int 6 t4)))
    (gl5 : PySem.W.nsIn K mainGlobals "FIGURES" = some (some (.str figs t5)))
    (gl6 : PySem.W.nsIn K mainGlobals "MOST_FIGURES" = some (some (.int 2 t6)))
    (gO : PySem.W.nsIn K mainGlobals "OUTSIDE" = some (some (.ref ao))) (lo : K.lookup ao = some oo) (oc : oo.cls = .type "tuple") (odt : oo.data = .seq #[.str "out" t7, .str "yard" t8] no) :
    ∃ fd : FuncData, (∀ (s : Shared) (v : Value), BindsTo s fd ⟨[v], []⟩ [("_law_script", v)]) ∧ ∀ base : Heap, K.In base → base.Ns mainGlobals mg → BltMod mg base → FnOk l.prog w K mg base CX0 10 fa fd ["_law_script"] (spLaw (tabsOf K gnames) K) := by
  have e := hfa.symm.trans (PySem.W.mg_of X G a25)
  cases e
  have T : Txt K mg := ⟨PySem.W.mg_none_of X G z0, PySem.W.mg_none_of X G z1, PySem.W.mg_none_of X G z2, PySem.W.mg_none_of X G z3, PySem.W.mg_none_of X G z4, PySem.W.mg_none_of X G z5, PySem.W.mg_none_of X G z6, PySem.W.mg_none_of X G z7, PySem.W.mg_none_of X G z8, PySem.W.mg_none_of X G z9, ⟨_, PySem.W.mg_of X G gl0, ⟨_, rfl⟩⟩, ⟨_, PySem.W.mg_of X G gl1, ⟨_, rfl⟩⟩, ⟨_, PySem.W.mg_of X G gl2, ⟨_, rfl⟩⟩, ⟨_, PySem.W.mg_of X G gl3, ⟨_, rfl⟩⟩, ⟨_, PySem.W.mg_of X G gl4, ⟨_, rfl⟩⟩⟩
  have O : Out K mg ao := ⟨⟨_, PySem.W.mg_of X G gO, rfl⟩, fun H => .inr ⟨oo, _, no, lo, oc, odt, by show 2 ≤ sizeLine; decide, .cons ⟨_, rfl⟩ (.cons ⟨_, rfl⟩ .nil)⟩⟩
  have TE : TxE K mg := ⟨T, PySem.W.mg_none_of X G z10, PySem.W.mg_none_of X G z11, ⟨_, PySem.W.mg_of X G gl5, ⟨_, rfl⟩⟩, ⟨_, PySem.W.mg_of X G gl6, ⟨_, rfl⟩⟩⟩
  have F0 := fun_mk (st := s_is_whole) l0 c0 k0
  have b0 := F0.binds (ps := ["thing"]) fun _ _ _ _ _ _ us hl => match us, hl with | [_], _ => rfl
  have F1 := fun_mk (st := s_is_tuple) l1 c1 k1
  have b1 := F1.binds (ps := ["thing", "least", "most"]) fun _ _ _ _ _ _ us hl => match us, hl with | [_, _, _], _ => rfl
  have F2 := fun_mk (st := s_is_bound) l2 c2 k2
  have b2 := F2.binds (ps := ["thing"]) fun _ _ _ _ _ _ us hl => match us, hl with | [_], _ => rfl
  have F3 : FunC K "is_name" "is_name" s_is_name f3 _ cx3 := ⟨⟨oc3, od3, kV3, dc3, pm3, an3, ct3, sl3, rfl, l3, c3⟩, k3⟩
  have b3 := F3.fn.binds (ps := ["thing"]) fun _ _ _ _ _ _ us hl => match us, hl with | [_], _ => rfl
  have F4 := fun_mk (st := s_is_lane) l4 c4 k4
  have b4 := F4.binds (ps := ["thing"]) fun _ _ _ _ _ _ us hl => match us, hl with | [_], _ => rfl
  have F5 := fun_mk (st := s_unlike) l5 c5 k5
  have b5 := F5.binds (ps := ["tuples"]) fun _ _ _ _ _ _ us hl => match us, hl with | [_], _ => rfl
  have F6 : FunC K "are_bounds" "are_bounds" s_are_bounds f6 _ cx6 := ⟨⟨oc6, od6, kV6, dc6, pm6, an6, ct6, sl6, rfl, l6, c6⟩, k6⟩
  have b6 := F6.fn.binds (ps := ["thing", "many"]) fun _ _ _ _ _ _ us hl => match us, hl with | [_, _], _ => rfl
  have F7 := fun_mk (st := s_is_way) l7 c7 k7
  have b7 := F7.binds (ps := ["thing", "lane_count"]) fun _ _ _ _ _ _ us hl => match us, hl with | [_, _], _ => rfl
  have F8 := fun_mk (st := s_is_kind) l8 c8 k8
  have b8 := F8.binds (ps := ["thing", "lane_count"]) fun _ _ _ _ _ _ us hl => match us, hl with | [_, _], _ => rfl
  have F9 : FunC K "are_lanes" "are_lanes" s_are_lanes f9 _ cx9 := ⟨⟨oc9, od9, kV9, dc9, pm9, an9, ct9, sl9, rfl, l9, c9⟩, k9⟩
  have b9 := F9.fn.binds (ps := ["thing"]) fun _ _ _ _ _ _ us hl => match us, hl with | [_], _ => rfl
  have F10 : FunC K "are_kinds" "are_kinds" s_are_kinds f10 _ cx10 := ⟨⟨oc10, od10, kV10, dc10, pm10, an10, ct10, sl10, rfl, l10, c10⟩, k10⟩
  have b10 := F10.fn.binds (ps := ["thing", "lane_count"]) fun _ _ _ _ _ _ us hl => match us, hl with | [_, _], _ => rfl
  have F11 := fun_mk (st := s__law_take) l11 c11 k11
  have b11 := F11.binds (ps := ["_law_held", "_law_many"]) fun _ _ _ _ _ _ us hl => match us, hl with | [_, _], _ => rfl
  have F12 := fun_mk (st := s__law_digits) l12 c12 k12
  have b12 := F12.binds (ps := ["_law_script", "_law_k"]) fun _ _ _ _ _ _ us hl => match us, hl with | [_, _], _ => rfl
  have F13 := fun_mk (st := s__law_bound) l13 c13 k13
  have b13 := F13.binds (ps := ["_law_held"]) fun _ _ _ _ _ _ us hl => match us, hl with | [_], _ => rfl
  have F14 := fun_mk (st := s__law_words) l14 c14 k14
  have b14 := F14.binds (ps := ["_law_held", "_law_many"]) fun _ _ _ _ _ _ us hl => match us, hl with | [_, _], _ => rfl
  have F15 := fun_mk (st := s__law_plan) l15 c15 k15
  have b15 := F15.binds (ps := ["_law_held"]) fun _ _ _ _ _ _ us hl => match us, hl with | [_], _ => rfl
  have F16 : FunC K "read_bound" "read_bound" s_read_bound f16 _ cx16 := ⟨⟨oc16, od16, kV16, dc16, pm16, an16, ct16, sl16, rfl, l16, c16⟩, k16⟩
  have b16 := F16.fn.binds (ps := ["word"]) fun _ _ _ _ _ _ us hl => match us, hl with | [_], _ => rfl
  have F17 := fun_mk (st := s_read_lane) l17 c17 k17
  have b17 := F17.binds (ps := ["words"]) fun _ _ _ _ _ _ us hl => match us, hl with | [_], _ => rfl
  have F18 := fun_mk (st := s_read_kind) l18 c18 k18
  have b18 := F18.binds (ps := ["lanes", "words"]) fun _ _ _ _ _ _ us hl => match us, hl with | [_, _], _ => rfl
  have F19 := fun_mk (st := s_begin_a_plan) l19 c19 k19
  have b19 := F19.binds (ps := ["lanes", "kinds"]) fun _ _ _ _ _ _ us hl => match us, hl with | [_, _], _ => rfl
  have F20 := fun_mk (st := s_read_plan) l20 c20 k20
  have b20 := F20.binds (ps := ["text"]) fun _ _ _ _ _ _ us hl => match us, hl with | [_], _ => rfl
  have F21 := fun_mk (st := s_shown_kind) l21 c21 k21
  have b21 := F21.binds (ps := ["lanes", "kind"]) fun _ _ _ _ _ _ us hl => match us, hl with | [_, _], _ => rfl
  have F22 := fun_mk (st := s_shown_plan) l22 c22 k22
  have b22 := F22.binds (ps := ["plan"]) fun _ _ _ _ _ _ us hl => match us, hl with | [_], _ => rfl
  have F23 := fun_mk (st := s__law_plan_text) l23 c23 k23
  have b23 := F23.binds (ps := ["_law_plan_here"]) fun _ _ _ _ _ _ us hl => match us, hl with | [_], _ => rfl
  have F24 := fun_mk (st := s__law_same) l24 c24 k24
  have b24 := F24.binds (ps := ["_law_found", "_law_due"]) fun _ _ _ _ _ _ us hl => match us, hl with | [_, _], _ => rfl
  have F25 := fun_mk (st := s_law) l25 c25 k25
  have et : tabsOf K gnames = [tp3, tp6, tp9, tp10, tp16] := by
    unfold tabsOf gnames
    simp only [List.filterMap_cons, List.filterMap_nil, tI3, tI6, tI9, tI10, tI16, Option.map]
  rw [et]
  refine ⟨PySem.W.fnOf "law" "law" (defArgs s_law) (defBody s_law) (defScope s_law) .none kV25 dc25 pm25 an25 cd25 ct25, fun s v => .of_eq rfl, fun base kb nb hbm => ?_⟩
  let ts : List Addr := [tp3, tp6, tp9, tp10, tp16]
  have C_is_whole : CallOk l.prog w K mg base "is_whole" 1 ["thing"] (sp1 ts wholeD) := ⟨f0, _, ok_whole F0 T , PySem.W.mg_of X G a0, k0, b0⟩
  have C_is_tuple : CallOk l.prog w K mg base "is_tuple" 1 ["thing", "least", "most"] spTup := ⟨f1, _, ok_tuple F1 T , PySem.W.mg_of X G a1, k1, b1⟩
  have C_is_bound : CallOk l.prog w K mg base "is_bound" 2 ["thing"] (sp1 ts boundD) := ⟨f2, _, ok_bound F2 T C_is_whole, PySem.W.mg_of X G a2, k2, b2⟩
  have C_is_name : CallOk l.prog w K mg base "is_name" 2 ["thing"] (sp1 ts nmD) := ⟨f3, _, ok_name F3 T O (PySem.W.codeHd_of_K kb hd3) hbm (show tp3 ∈ ts by simp [ts]) , PySem.W.mg_of X G a3, k3, b3⟩
  have C_is_lane : CallOk l.prog w K mg base "is_lane" 3 ["thing"] (sp1 ts laneD) := ⟨f4, _, ok_lane F4  C_is_tuple C_is_name C_is_bound, PySem.W.mg_of X G a4, k4, b4⟩
  have C_have_unlike_names : CallOk l.prog w K mg base "have_unlike_names" 1 ["tuples"] spUn := ⟨f5, _, ok_unlike F5 T , PySem.W.mg_of X G a5, k5, b5⟩
  have C_are_bounds : CallOk l.prog w K mg base "are_bounds" 4 ["thing", "many"] (sp2 ts boundsD) := ⟨f6, _, ok_bounds F6 T (PySem.W.codeHd_of_K kb hd6) hbm (show tp6 ∈ ts by simp [ts]) C_is_tuple C_is_bound, PySem.W.mg_of X G a6, k6, b6⟩
  have C_is_way : CallOk l.prog w K mg base "is_way" 2 ["thing", "lane_count"] (sp2 ts wayD) := ⟨f7, _, ok_way F7 T C_is_tuple C_is_whole, PySem.W.mg_of X G a7, k7, b7⟩
  have C_is_kind : CallOk l.prog w K mg base "is_kind" 5 ["thing", "lane_count"] (sp2 ts fun d n => kindD n d) := ⟨f8, _, ok_kind F8 T C_is_tuple C_is_name C_is_way C_are_bounds, PySem.W.mg_of X G a8, k8, b8⟩
  have C_are_lanes : CallOk l.prog w K mg base "are_lanes" 5 ["thing"] (sp1 ts lanesD) := ⟨f9, _, ok_lanes F9 T (PySem.W.codeHd_of_K kb hd9) hbm (show tp9 ∈ ts by simp [ts]) C_is_tuple C_is_lane C_have_unlike_names, PySem.W.mg_of X G a9, k9, b9⟩
  have C_are_kinds : CallOk l.prog w K mg base "are_kinds" 7 ["thing", "lane_count"] (sp2 ts kindsD) := ⟨f10, _, ok_kinds F10 T (PySem.W.codeHd_of_K kb hd10) hbm (show tp10 ∈ ts by simp [ts]) C_is_tuple C_is_kind C_have_unlike_names, PySem.W.mg_of X G a10, k10, b10⟩
  have C__law_take : CallOk l.prog w K mg base "_law_take" 1 ["_law_held", "_law_many"] spTake := ⟨f11, _, ok_take F11  , PySem.W.mg_of X G a11, k11, b11⟩
  have C__law_digits : CallOk l.prog w K mg base "_law_digits" 1 ["_law_script", "_law_k"] (spDigits K) := ⟨f12, _, ok_digits F12 T , PySem.W.mg_of X G a12, k12, b12⟩
  have C__law_bound : CallOk l.prog w K mg base "_law_bound" 2 ["_law_held"] spBound := ⟨f13, _, ok_lbound F13  C__law_take, PySem.W.mg_of X G a13, k13, b13⟩
  have C__law_words : CallOk l.prog w K mg base "_law_words" 2 ["_law_held", "_law_many"] spWords := ⟨f14, _, ok_words F14 T C__law_take, PySem.W.mg_of X G a14, k14, b14⟩
  have C__law_plan : CallOk l.prog w K mg base "_law_plan" 3 ["_law_held"] spPlan := ⟨f15, _, ok_lplan F15 T C__law_take C__law_words C__law_bound, PySem.W.mg_of X G a15, k15, b15⟩
  have C_read_bound : CallOk l.prog w K mg base "read_bound" 2 ["word"] (spRB ts) := ⟨f16, _, ok_rbound F16 TE (PySem.W.codeHd_of_K kb hd16) hbm (show tp16 ∈ ts by simp [ts]) , PySem.W.mg_of X G a16, k16, b16⟩
  have C_read_lane : CallOk l.prog w K mg base "read_lane" 3 ["words"] (spRL ts) := ⟨f17, _, ok_rlane F17 TE C_read_bound, PySem.W.mg_of X G a17, k17, b17⟩
  have C_read_kind : CallOk l.prog w K mg base "read_kind" 3 ["lanes", "words"] (spRK ts) := ⟨f18, _, ok_rkind F18 TE C_read_bound, PySem.W.mg_of X G a18, k18, b18⟩
  have C_begin_a_plan : CallOk l.prog w K mg base "begin_a_plan" 8 ["lanes", "kinds"] (spBG ts) := ⟨f19, _, ok_begin F19 TE C_are_lanes C_are_kinds, PySem.W.mg_of X G a19, k19, b19⟩
  have C_read_plan : CallOk l.prog w K mg base "read_plan" 9 ["text"] (spRP ts) := ⟨f20, _, ok_rplan F20 TE C_read_lane C_read_kind C_begin_a_plan, PySem.W.mg_of X G a20, k20, b20⟩
  have C_shown_kind : CallOk l.prog w K mg base "shown_kind" 1 ["lanes", "kind"] spSK := ⟨f21, _, ok_skind F21 TE , PySem.W.mg_of X G a21, k21, b21⟩
  have C_shown_plan : CallOk l.prog w K mg base "shown_plan" 2 ["plan"] spSP := ⟨f22, _, ok_splan F22 TE C_shown_kind, PySem.W.mg_of X G a22, k22, b22⟩
  have C__law_plan_text : CallOk l.prog w K mg base "_law_plan_text" 1 ["_law_plan_here"] spSP := ⟨f23, _, ok_ptext F23 TE , PySem.W.mg_of X G a23, k23, b23⟩
  have C__law_same : CallOk l.prog w K mg base "_law_same" 5 ["_law_found", "_law_due"] (spS 5) := call_same F24 TE (PySem.W.mg_of X G a24) k24 b24 5
  exact ok_law F25 TE C__law_digits C__law_plan C__law_plan_text C__law_same C_shown_plan C_read_plan
theorem tab_no {K : PySem.W.Frag}
    {f3 : Addr} {od3 an3 : Option Addr} {sl3 : Array (Option Value)} {oc3 kV3 dc3 pm3 ct3 : Value} {cx3 tp3 : Addr} {cc3 : Value} {cdd3 : Option Addr} {vs3 : Array Value} {csl3 : Array (Option Value)}
    (a3 : PySem.W.nsIn K mainGlobals "is_name" = some (some (.ref f3))) (l3 : K.lookup f3 = some ⟨oc3, od3, .func (PySem.W.fnOf "is_name" "is_name" (defArgs s_is_name) (defBody s_is_name) (defScope s_is_name) .none kV3 dc3 pm3 an3 (.ref cx3) ct3), sl3⟩) (lc3 : K.lookup cx3 = some ⟨cc3, cdd3, .fields vs3, csl3⟩) (h113 : (vs3[11]? : Option Value) = some (.ref tp3)) (tI3 : PySem.W.tabIn K "is_name" = some (cx3, tp3)) (n3 : K.lookup tp3 = none)
    {f6 : Addr} {od6 an6 : Option Addr} {sl6 : Array (Option Value)} {oc6 kV6 dc6 pm6 ct6 : Value} {cx6 tp6 : Addr} {cc6 : Value} {cdd6 : Option Addr} {vs6 : Array Value} {csl6 : Array (Option Value)}
    (a6 : PySem.W.nsIn K mainGlobals "are_bounds" = some (some (.ref f6))) (l6 : K.lookup f6 = some ⟨oc6, od6, .func (PySem.W.fnOf "are_bounds" "are_bounds" (defArgs s_are_bounds) (defBody s_are_bounds) (defScope s_are_bounds) .none kV6 dc6 pm6 an6 (.ref cx6) ct6), sl6⟩) (lc6 : K.lookup cx6 = some ⟨cc6, cdd6, .fields vs6, csl6⟩) (h116 : (vs6[11]? : Option Value) = some (.ref tp6)) (tI6 : PySem.W.tabIn K "are_bounds" = some (cx6, tp6)) (n6 : K.lookup tp6 = none)
    {f9 : Addr} {od9 an9 : Option Addr} {sl9 : Array (Option Value)} {oc9 kV9 dc9 pm9 ct9 : Value} {cx9 tp9 : Addr} {cc9 : Value} {cdd9 : Option Addr} {vs9 : Array Value} {csl9 : Array (Option Value)}
    (a9 : PySem.W.nsIn K mainGlobals "are_lanes" = some (some (.ref f9))) (l9 : K.lookup f9 = some ⟨oc9, od9, .func (PySem.W.fnOf "are_lanes" "are_lanes" (defArgs s_are_lanes) (defBody s_are_lanes) (defScope s_are_lanes) .none kV9 dc9 pm9 an9 (.ref cx9) ct9), sl9⟩) (lc9 : K.lookup cx9 = some ⟨cc9, cdd9, .fields vs9, csl9⟩) (h119 : (vs9[11]? : Option Value) = some (.ref tp9)) (tI9 : PySem.W.tabIn K "are_lanes" = some (cx9, tp9)) (n9 : K.lookup tp9 = none)
    {f10 : Addr} {od10 an10 : Option Addr} {sl10 : Array (Option Value)} {oc10 kV10 dc10 pm10 ct10 : Value} {cx10 tp10 : Addr} {cc10 : Value} {cdd10 : Option Addr} {vs10 : Array Value} {csl10 : Array (Option Value)}
    (a10 : PySem.W.nsIn K mainGlobals "are_kinds" = some (some (.ref f10))) (l10 : K.lookup f10 = some ⟨oc10, od10, .func (PySem.W.fnOf "are_kinds" "are_kinds" (defArgs s_are_kinds) (defBody s_are_kinds) (defScope s_are_kinds) .none kV10 dc10 pm10 an10 (.ref cx10) ct10), sl10⟩) (lc10 : K.lookup cx10 = some ⟨cc10, cdd10, .fields vs10, csl10⟩) (h1110 : (vs10[11]? : Option Value) = some (.ref tp10)) (tI10 : PySem.W.tabIn K "are_kinds" = some (cx10, tp10)) (n10 : K.lookup tp10 = none)
    {f16 : Addr} {od16 an16 : Option Addr} {sl16 : Array (Option Value)} {oc16 kV16 dc16 pm16 ct16 : Value} {cx16 tp16 : Addr} {cc16 : Value} {cdd16 : Option Addr} {vs16 : Array Value} {csl16 : Array (Option Value)}
    (a16 : PySem.W.nsIn K mainGlobals "read_bound" = some (some (.ref f16))) (l16 : K.lookup f16 = some ⟨oc16, od16, .func (PySem.W.fnOf "read_bound" "read_bound" (defArgs s_read_bound) (defBody s_read_bound) (defScope s_read_bound) .none kV16 dc16 pm16 an16 (.ref cx16) ct16), sl16⟩) (lc16 : K.lookup cx16 = some ⟨cc16, cdd16, .fields vs16, csl16⟩) (h1116 : (vs16[11]? : Option Value) = some (.ref tp16)) (tI16 : PySem.W.tabIn K "read_bound" = some (cx16, tp16)) (n16 : K.lookup tp16 = none)
    : ∀ y ∈ gnames, ∀ c P, PySem.W.tabIn K y = some (c, P) → K.lookup P = none := by
  intro y hy c P e
  simp only [gnames, List.mem_cons, List.not_mem_nil, or_false] at hy
  rcases hy with rfl | rfl | rfl | rfl | rfl
  · rw [tI3] at e
    cases e
    exact n3
  · rw [tI6] at e
    cases e
    exact n6
  · rw [tI9] at e
    cases e
    exact n9
  · rw [tI10] at e
    cases e
    exact n10
  · rw [tI16] at e
    cases e
    exact n16
theorem walk {l : PySem.W.OpenLaw} {q : Program} {loose : List Str} {XP : (Str → Option Value) → Heap → Prop} {YP : World → Heap → Prop} {d : DefRec} {K : Params → PySem.W.Frag} (hn : l.most = some 63) (hdf : d.params.defaults = [])
    (hY : ∀ (w : World) (h : Heap), YP w h → (K w.params).In h)
    (hgn : ∀ y ∈ gnames, ((recsOf q).find? (fun e => e.name == y)).isSome = true)
    (hT : ∀ (w : World) (h : Heap), (K w.params).In h → ∀ y ∈ gnames, ∀ c P, PySem.W.tabIn (K w.params) y = some (c, P) → (K w.params).lookup P = none)
    (F : ∀ (w : World) (mg : Str → Option Value) (fa : Addr) (h : Heap), (K w.params).In h → h.Ns mainGlobals mg → mg d.name = some (.ref fa) →
      ∃ fd : FuncData, (∀ (s : Shared) (u : Value), BindsTo s fd ⟨[u], []⟩ [("_law_script", u)]) ∧ ∀ base : Heap, (K w.params).In base → base.Ns mainGlobals mg → BltMod mg base → FnOk l.prog w (K w.params) mg base CX0 10 fa fd ["_law_script"] (spLaw (tabsOf (K w.params) gnames) (K w.params))) :
    PySem.W.WalkO q loose XP YP l.row.toRowW d [] (fun f vs => PySem.call f vs) :=
  L2.walk_ofT (n := 63) (k := 10) (x := "_law_script") (CX := fun _ => CX0) (sp := fun w => spLaw (tabsOf (K w.params) gnames) (K w.params)) gnames hn (by decide) hdf ⟨rfl, by decide, by decide⟩ hY hgn hT F
    (fun w H a ns hl hO hS => ⟨a, ns, rfl, hS, hl, fun P hP => ⟨#[], hO.2 P hP, by trivial⟩, fun _ => rfl⟩) fun _ _ _ _ _ z => z
end K04
open PySem PySem.W PyProof.Rows
set_option maxRecDepth 100000 in
set_option maxHeartbeats 0 in
theorem PySem.Challenge.cw_cardlanes_k04_plan_texts_holds : PySem.Challenge.rw_cardlanes_k04_plan_texts.Holds := by
  w_on; o_law; k_head; (case hw => w_witness2)
  k_fill
  refine K04.walk (l := PySem.Challenge.rw_cardlanes_k04_plan_texts) rfl rfl (fun w h Y => PySem.W.kIn_of Y) ?G ?T ?F
  case F =>
    intro w mg fa h KX G hmg
    refine' K04.all_mk KX G hmg ?a0 ?l0 ?c0 ?k0 ?a1 ?l1 ?c1 ?k1 ?a2 ?l2 ?c2 ?k2 ?a3 ?l3 ?c3 ?k3 ?lc3 ?h113 ?tI3 ?hd3 ?a4 ?l4 ?c4 ?k4 ?a5 ?l5 ?c5 ?k5 ?a6 ?l6 ?c6 ?k6 ?lc6 ?h116 ?tI6 ?hd6 ?a7 ?l7 ?c7 ?k7 ?a8 ?l8 ?c8 ?k8 ?a9 ?l9 ?c9 ?k9 ?lc9 ?h119 ?tI9 ?hd9 ?a10 ?l10 ?c10 ?k10 ?lc10 ?h1110 ?tI10 ?hd10 ?a11 ?l11 ?c11 ?k11 ?a12 ?l12 ?c12 ?k12 ?a13 ?l13 ?c13 ?k13 ?a14 ?l14 ?c14 ?k14 ?a15 ?l15 ?c15 ?k15 ?a16 ?l16 ?c16 ?k16 ?lc16 ?h1116 ?tI16 ?hd16 ?a17 ?l17 ?c17 ?k17 ?a18 ?l18 ?c18 ?k18 ?a19 ?l19 ?c19 ?k19 ?a20 ?l20 ?c20 ?k20 ?a21 ?l21 ?c21 ?k21 ?a22 ?l22 ?c22 ?k22 ?a23 ?l23 ?c23 ?k23 ?a24 ?l24 ?c24 ?k24 ?a25 ?l25 ?c25 ?k25 ?z0 ?z1 ?z2 ?z3 ?z4 ?z5 ?z6 ?z7 ?z8 ?z9 ?z10 ?z11 ?gl0 ?gl1 ?gl2 ?gl3 ?gl4 ?gl5 ?gl6 ?gO ?lo ?oc ?odt
    (case a0 => k_is)
    (case l0 => k_is)
    (case c0 => k_is)
    (case k0 => k_is)
    (case a1 => k_is)
    (case l1 => k_is)
    (case c1 => k_is)
    (case k1 => k_is)
    (case a2 => k_is)
    (case l2 => k_is)
    (case c2 => k_is)
    (case k2 => k_is)
    (case a3 => k_is)
    (case l3 => k_is)
    (case c3 => k_is)
    (case k3 => k_is)
    (case lc3 => k_is)
    (case h113 => rfl)
    (case tI3 => kernel_rfl)
    (case hd3 => kernel_rfl)
    (case a4 => k_is)
    (case l4 => k_is)
    (case c4 => k_is)
    (case k4 => k_is)
    (case a5 => k_is)
    (case l5 => k_is)
    (case c5 => k_is)
    (case k5 => k_is)
    (case a6 => k_is)
    (case l6 => k_is)
    (case c6 => k_is)
    (case k6 => k_is)
    (case lc6 => k_is)
    (case h116 => rfl)
    (case tI6 => kernel_rfl)
    (case hd6 => kernel_rfl)
    (case a7 => k_is)
    (case l7 => k_is)
    (case c7 => k_is)
    (case k7 => k_is)
    (case a8 => k_is)
    (case l8 => k_is)
    (case c8 => k_is)
    (case k8 => k_is)
    (case a9 => k_is)
    (case l9 => k_is)
    (case c9 => k_is)
    (case k9 => k_is)
    (case lc9 => k_is)
    (case h119 => rfl)
    (case tI9 => kernel_rfl)
    (case hd9 => kernel_rfl)
    (case a10 => k_is)
    (case l10 => k_is)
    (case c10 => k_is)
    (case k10 => k_is)
    (case lc10 => k_is)
    (case h1110 => rfl)
    (case tI10 => kernel_rfl)
    (case hd10 => kernel_rfl)
    (case a11 => k_is)
    (case l11 => k_is)
    (case c11 => k_is)
    (case k11 => k_is)
    (case a12 => k_is)
    (case l12 => k_is)
    (case c12 => k_is)
    (case k12 => k_is)
    (case a13 => k_is)
    (case l13 => k_is)
    (case c13 => k_is)
    (case k13 => k_is)
    (case a14 => k_is)
    (case l14 => k_is)
    (case c14 => k_is)
    (case k14 => k_is)
    (case a15 => k_is)
    (case l15 => k_is)
    (case c15 => k_is)
    (case k15 => k_is)
    (case a16 => k_is)
    (case l16 => k_is)
    (case c16 => k_is)
    (case k16 => k_is)
    (case lc16 => k_is)
    (case h1116 => rfl)
    (case tI16 => kernel_rfl)
    (case hd16 => kernel_rfl)
    (case a17 => k_is)
    (case l17 => k_is)
    (case c17 => k_is)
    (case k17 => k_is)
    (case a18 => k_is)
    (case l18 => k_is)
    (case c18 => k_is)
    (case k18 => k_is)
    (case a19 => k_is)
    (case l19 => k_is)
    (case c19 => k_is)
    (case k19 => k_is)
    (case a20 => k_is)
    (case l20 => k_is)
    (case c20 => k_is)
    (case k20 => k_is)
    (case a21 => k_is)
    (case l21 => k_is)
    (case c21 => k_is)
    (case k21 => k_is)
    (case a22 => k_is)
    (case l22 => k_is)
    (case c22 => k_is)
    (case k22 => k_is)
    (case a23 => k_is)
    (case l23 => k_is)
    (case c23 => k_is)
    (case k23 => k_is)
    (case a24 => k_is)
    (case l24 => k_is)
    (case c24 => k_is)
    (case k24 => k_is)
    (case a25 => k_is)
    (case l25 => k_is)
    (case c25 => k_is)
    (case k25 => k_is)
    (case z0 => k_is)
    (case z1 => k_is)
    (case z2 => k_is)
    (case z3 => k_is)
    (case z4 => k_is)
    (case z5 => k_is)
    (case z6 => k_is)
    (case z7 => k_is)
    (case z8 => k_is)
    (case z9 => k_is)
    (case z10 => k_is)
    (case z11 => k_is)
    (case gl0 => k_is)
    (case gl1 => k_is)
    (case gl2 => k_is)
    (case gl3 => k_is)
    (case gl4 => k_is)
    (case gl5 => k_is)
    (case gl6 => k_is)
    (case gO => k_is)
    (case lo => k_is)
    (case oc => rfl)
    (case odt => rfl)
  case T =>
    intro w h KX
    refine' K04.tab_no ?a3 ?l3 ?lc3 ?h113 ?tI3 ?n3 ?a6 ?l6 ?lc6 ?h116 ?tI6 ?n6 ?a9 ?l9 ?lc9 ?h119 ?tI9 ?n9 ?a10 ?l10 ?lc10 ?h1110 ?tI10 ?n10 ?a16 ?l16 ?lc16 ?h1116 ?tI16 ?n16
    (case a3 => k_is)
    (case l3 => k_is)
    (case lc3 => k_is)
    (case h113 => rfl)
    (case tI3 => kernel_rfl)
    (case n3 => kernel_rfl)
    (case a6 => k_is)
    (case l6 => k_is)
    (case lc6 => k_is)
    (case h116 => rfl)
    (case tI6 => kernel_rfl)
    (case n6 => kernel_rfl)
    (case a9 => k_is)
    (case l9 => k_is)
    (case lc9 => k_is)
    (case h119 => rfl)
    (case tI9 => kernel_rfl)
    (case n9 => kernel_rfl)
    (case a10 => k_is)
    (case l10 => k_is)
    (case lc10 => k_is)
    (case h1110 => rfl)
    (case tI10 => kernel_rfl)
    (case n10 => kernel_rfl)
    (case a16 => k_is)
    (case l16 => k_is)
    (case lc16 => k_is)
    (case h1116 => rfl)
    (case tI16 => kernel_rfl)
    (case n16 => kernel_rfl)
  case G => decide +kernel
end
