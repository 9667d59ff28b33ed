import PyProof.Rows.All
import Wide.All
import OpenK.AllK
import Wide.FinOn
import Lean
import PyProof.EqAt
import PyProof.EqKinds
import PyProof.TupleCall
import KE.KRevIter
import PyProof.CallType
import PyProof.EnumMake
import PyProof.EnumFor
import PyProof.Rows.SortStr
import KE.KLcPair
import PyProof.Draws
import PyProof.TupleIter
import PyProof.IsRules
import PyProof.ListRange
import PySem.Challenge.RW_stirround_k81_turned_about
set_option Elab.async false
set_option linter.all false
set_option maxRecDepth 100000
/-! THE HAND LAYER, for ints, bools, texts, own classes, LISTS and tuples (index, slices, in, append, pop ..), calls, loops. Paste it whole ahead of your own text; what your proof does not reach may be deleted. -/
namespace L2
open PySem PySem.Spec PyProof.Rows

/-- a key: an int or a str -/
abbrev Key := Sum Int Str
def keyIs : Key → Value → Bool
  | .inl k, v => Value.isInt k v
  | .inr x, v => Value.isStrOf x v
def keyH (w : World) : Key → Int
  | .inl k => hashInt k
  | .inr x => hashStr w x
theorem keyIs_shape : ∀ {k : Key} {v : Value}, keyIs k v = true → (∃ i t, k = Sum.inl i ∧ v = Value.int i t) ∨ (∃ x t, k = Sum.inr x ∧ v = Value.str x t)
  | .inl i, v, h => by
    obtain ⟨t, e⟩ := Value.isInt_shape (k := i) (v := v) h
    exact .inl ⟨i, t, rfl, e⟩
  | .inr x, v, h => by
    obtain ⟨t, e⟩ := Value.isStrOf_shape (x := x) (v := v) h
    exact .inr ⟨x, t, rfl, e⟩
theorem keyIs_int (i : Int) (t : Tok) : keyIs (.inl i) (.int i t) = true := by simp [keyIs, Value.isInt]
theorem keyIs_str (x : Str) (t : Tok) : keyIs (.inr x) (.str x t) = true := by simp [keyIs, Value.isStrOf]
theorem key_ll (a b : Int) : decide ((Sum.inl a : Key) = Sum.inl b) = (a == b) := by
  by_cases e : a = b
  · subst e; simp
  · have h : ¬ (Sum.inl a : Key) = Sum.inl b := fun q => e (Sum.inl.inj q)
    rw [decide_eq_false h]
    exact (beq_eq_false_iff_ne.mpr e).symm
theorem key_rr (a b : Str) : decide ((Sum.inr a : Key) = Sum.inr b) = decide (a = b) := by
  by_cases e : a = b
  · subst e; simp
  · have h : ¬ (Sum.inr a : Key) = Sum.inr b := fun q => e (Sum.inr.inj q)
    rw [decide_eq_false h, decide_eq_false e]
theorem key_lr (a : Int) (b : Str) : decide ((Sum.inl a : Key) = Sum.inr b) = false := decide_eq_false (fun q => nomatch q)
theorem key_rl (a : Str) (b : Int) : decide ((Sum.inr a : Key) = Sum.inl b) = false := decide_eq_false (fun q => nomatch q)

def mixKind (prog : Program) (w : World) : PySem.KeyKind prog w Key where
  is := keyIs
  hash := keyH w
  inj := fun v a b ha hb => by
    rcases keyIs_shape ha with ⟨i, t, rfl, rfl⟩ | ⟨x, t, rfl, rfl⟩
    · rcases keyIs_shape hb with ⟨j, u, rfl, e⟩ | ⟨y, u, rfl, e⟩
      · injection e with e1 _; rw [e1]
      · exact nomatch e
    · rcases keyIs_shape hb with ⟨j, u, rfl, e⟩ | ⟨y, u, rfl, e⟩
      · exact nomatch e
      · injection e with e1 _; rw [e1]
  byValue := fun k v h => by
    rcases keyIs_shape h with ⟨i, t, rfl, rfl⟩ | ⟨x, t, rfl, rfl⟩ <;> rfl
  pyHash := fun hv h => by
    rcases keyIs_shape hv with ⟨i, t, rfl, rfl⟩ | ⟨x, t, rfl, rfl⟩
    · exact wpAny_pyHash_int h
    · exact wpAny_pyHash_str h
  eqBool := fun hu hv h => by
    rcases keyIs_shape hu with ⟨i, t, rfl, rfl⟩ | ⟨x, t, rfl, rfl⟩
    · rcases keyIs_shape hv with ⟨j, u, rfl, rfl⟩ | ⟨y, u, rfl, rfl⟩
      · rw [key_ll] at h; exact wpAny_eqBool_int h
      · rw [key_lr] at h; exact SeqAt.EqAt.int_str i t y u _ _ _ _ h
    · rcases keyIs_shape hv with ⟨j, u, rfl, rfl⟩ | ⟨y, u, rfl, rfl⟩
      · rw [key_rl] at h; exact SeqAt.EqAt.str_int x t j u _ _ _ _ h
      · rw [key_rr] at h; exact wpAny_eqBool_str h
  «strs» := fun k x t v h => by
    rcases keyIs_shape h with ⟨i, u, rfl, e⟩ | ⟨y, u, rfl, e⟩
    · exact nomatch e
    · injection e with e1 _
      subst e1
      cases v <;> rfl

theorem mixKind_is (prog : Program) (w : World) (k : Key) (v : Value) : (mixKind prog w).is k v = keyIs k v := rfl
theorem mixKind_int (prog : Program) (w : World) (i : Int) (t : Tok) : (mixKind prog w).is (.inl i) (.int i t) = true := keyIs_int i t
theorem mixKind_str (prog : Program) (w : World) (x : Str) (t : Tok) : (mixKind prog w).is (.inr x) (.str x t) = true := keyIs_str x t
end L2

namespace L2
open PySem PySem.Spec PyProof.Rows

/-- a value, without the heap -/
inductive V where
  | non | bl (b : Bool) | int (i : Int) | str (x : Str) | byt (b : Array UInt8) | flt (b : UInt64) | ref (a : Addr) | ty (n : String)
  deriving DecidableEq

def RelV : V → Value → Prop
  | .non, u => u = Value.none
  | .bl b, u => u = Value.bool b
  | .int i, u => ∃ t, u = Value.int i t
  | .str x, u => ∃ t, u = Value.str x t
  | .byt b, u => ∃ t, u = Value.bytes b t
  | .flt b, u => ∃ t, u = Value.float b t
  | .ref a, u => u = Value.ref a
  | .ty n, u => u = Value.type n

abbrev Vals : List V → List Value → Prop := Paired RelV
theorem Vals.length {xs : List V} {us : List Value} (r : Vals xs us) : xs.length = us.length := Paired.length r
theorem Vals.get : ∀ {xs : List V} {us : List Value} {i : Nat} {x : V}, Vals xs us → xs[i]? = some x → ∃ u, us[i]? = some u ∧ RelV x u
  | _, _, _, _, .nil, e => by simp at e
  | _, _, 0, _, .cons r _, e => by simp at e; subst e; exact ⟨_, rfl, r⟩
  | _, _, i + 1, x, .cons _ t, e => by
    obtain ⟨u, h1, h2⟩ := Vals.get (i := i) (x := x) t (by simpa using e)
    exact ⟨u, by simpa using h1, h2⟩
theorem Vals.set {x : V} {u : Value} (r : RelV x u) : ∀ {xs : List V} {us : List Value} (i : Nat), Vals xs us → Vals (xs.set i x) (us.set i u)
  | _, _, _, .nil => .nil
  | _, _, 0, .cons _ t => .cons r t
  | _, _, i + 1, .cons q t => .cons q (Vals.set r i t)
theorem Vals.append : ∀ {xs ys : List V} {us ws : List Value}, Vals xs us → Vals ys ws → Vals (xs ++ ys) (us ++ ws)
  | _, _, _, _, .nil, s => s
  | _, _, _, _, .cons r t, s => .cons r (Vals.append t s)
theorem Vals.take : ∀ {xs : List V} {us : List Value} (n : Nat), Vals xs us → Vals (xs.take n) (us.take n)
  | _, _, 0, _ => .nil
  | _, _, _ + 1, .nil => .nil
  | _, _, n + 1, .cons r t => .cons r (Vals.take n t)
theorem Vals.drop : ∀ {xs : List V} {us : List Value} (n : Nat), Vals xs us → Vals (xs.drop n) (us.drop n)
  | _, _, 0, r => r
  | _, _, _ + 1, .nil => .nil
  | _, _, n + 1, .cons _ t => Vals.drop n t
theorem Vals.none_of : ∀ {xs : List V} {us : List Value} {i : Nat}, Vals xs us → xs[i]? = none → us[i]? = none := fun {xs us i} r e => by
  have h1 := r.length
  have h2 : xs.length ≤ i := List.getElem?_eq_none_iff.mp e
  exact List.getElem?_eq_none_iff.mpr (by omega)

def RelO : Option V → Option Value → Prop
  | some v, some u => RelV v u
  | none, none => True
  | _, _ => False
def KV {κ : Type} : List (κ × V) → List (κ × Value) → Prop := Paired fun (p : κ × V) (q : κ × Value) => p.1 = q.1 ∧ RelV p.2 q.2

/-- a key of a dict (00_mix): an int or a text -/
def kV : Key → V
  | .inl i => .int i
  | .inr x => .str x

/-- what stands at a tracked address -/
inductive HO where
  /-- a list -/
  | lst (xs : List V)
  /-- a tuple (never changes) -/
  | tup (xs : List V)
  /-- a dict whose keys are ints and texts; one whose keys are tuples of ints and texts (the empty one is both) -/
  | dK (kvs : List (Key × V)) | dT (kvs : List (List Key × V))
  /-- a set of ints: its members, its size -/
  | set (S : Int → Bool) (n : Nat)
  /-- an instance of the class at C, its dict at dx, its attributes -/
  | ins (C dx : Addr) (fs : List (Str × V))
  /-- the dict of the instance at x -/
  | own (x : Addr)
  /-- the dict of an exception -/
  | xd (fs : List (Str × V))
  /-- a bound method, f of x -/
  | met (f x : Addr)
  /-- a range object lo, lo + 1, .. below hi -/
  | rng (lo hi : Int)
  /-- a thing that is known to the object (the script; a dict while a loop walks it): read, never written while it is so -/
  | frz (o : Obj) (u : HO)
  /-- a code object's table -/
  | tbl (ps : Array Value)
  /-- any other thing, by what is true of its one object (a def of one's own: SetO a S n := HO.ext fun h => ..) -/
  | ext (φ : Heap → Prop)

abbrev Hp := Addr → Option HO
def upd (H : Hp) (a : Addr) (o : HO) : Hp := fun b => if b = a then some o else H b
theorem upd_same {H : Hp} {a : Addr} {o : HO} : upd H a o a = some o := by unfold upd; rw [if_pos rfl]
theorem upd_ne {H : Hp} {a b : Addr} {o : HO} (h : b ≠ a) : upd H a o b = H b := by unfold upd; rw [if_neg h]
theorem upd_upd {H : Hp} {a : Addr} {o u : HO} : upd (upd H a o) a u = upd H a u := by
  funext b; unfold upd; split <;> rfl
/-- two objects of different content stand apart -/
theorem ne_of {H : Hp} {a b : Addr} {o u : HO} (h : H a = some o) (h' : H b = some u) (d : o ≠ u) : a ≠ b := by
  intro e; subst e; rw [h] at h'; exact d (Option.some.inj h')
theorem ne_of_none {H : Hp} {a b : Addr} {o : HO} (h : H a = some o) (h' : H b = none) : a ≠ b := by
  intro e; subst e; rw [h] at h'; cases h'

section
variable (P : Program) (w : World)
def ObjOk (H : Hp) (h : Heap) (a : Addr) : HO → Prop
  | .lst xs => xs.length ≤ sizeLine ∧ ∃ (its : List Value) (n : Nat), Vals xs its ∧ h.get? a = some { cls := .type "list", data := .seq its.toArray n }
  | .tup xs => xs.length ≤ sizeLine ∧ ∃ its : List Value, Vals xs its ∧ (IsTup h a its.toArray ∧ ∀ ob, h.get? a = some ob → ob.dict = none)
  | .dK kvs => kvs.length ≤ sizeLine ∧ (a == sysModules) = false ∧ ∃ vs, KV kvs vs ∧ h.DictOf (mixKind P w) a vs
  | .dT kvs => kvs.length ≤ sizeLine ∧ (a == sysModules) = false ∧ ∃ xs : List (List Key × Addr × Value),
      Paired (fun (p : List Key × V) (q : List Key × Addr × Value) => p.1 = q.1 ∧ H q.2.1 = some (.tup (p.1.map kV)) ∧ RelV p.2 q.2.2) kvs xs ∧
      ∃ o es ep, h.get? a = some o ∧ o.ExactDict ∧ o.data = .dict es ep ∧ es.toList = xs.map (entryOfKey (tupleKind (mixKind P w))) ∧ (xs.map (·.1)).Nodup
  | .set S n => h.SetOf (intKind P w) a S n
  | .ins C dx fs => H dx = some (.own a) ∧ fs.length ≤ 1000 ∧ dx ≠ a ∧ h.get? a = some (PySem.W.instObj C dx) ∧
      ∃ mA, h.Ns1 dx mA ∧ (∀ f, RelO (fs.lookup f) (mA f)) ∧ PySem.Within mA (fs.map (·.1))
  | .own _ => ∃ o, h.get? a = some o
  | .xd fs => ∃ mA, h.Ns1 a mA ∧ ∀ f, RelO (fs.lookup f) (mA f)
  | .rng lo hi => ∃ t u v, h.get? a = some { cls := .type "range", data := .fields #[.int lo t, .int hi u, .int 1 v] }
  | .frz o u => h.get? a = some o ∧ ObjOk H h a u
  | .tbl ps => h.get? a = some { cls := .none, data := .fields ps }
  | .met f x => h.get? a = some (PySem.W.methodObj (.ref f) (.ref x))
  | .ext φ => φ h ∧ (∃ o, h.get? a = some o) ∧ ∀ h1 h2 : Heap, φ h1 → (∀ o, h1.get? a = some o → h2.get? a = some o) → φ h2
/-- the abstract heap is held -/
def HOk (H : Hp) (h : Heap) : Prop := ∀ a o, H a = some o → ObjOk P w H h a o
end

section
variable {P : Program} {w : World} {H H' : Hp} {h h' : Heap} {a : Addr} {o : HO}
theorem ObjOk.lt (x : ObjOk P w H h a o) : a < h.objs.size := by
  cases o with
  | lst xs => obtain ⟨_, _, _, _, e⟩ := x; exact Heap.lt_size e
  | tup xs => obtain ⟨_, _, _, p⟩ := x; exact p.1.lt
  | dK kvs => obtain ⟨_, _, _, _, o, _, _, e, _⟩ := x; exact Heap.lt_size e
  | dT kvs => obtain ⟨_, _, _, _, o, _, _, e, _⟩ := x; exact Heap.lt_size e
  | set S n => obtain ⟨o, _, _, _, e, _⟩ := x; exact Heap.lt_size e
  | ins C dx fs => obtain ⟨_, _, _, e, _⟩ := x; exact Heap.lt_size e
  | own y => obtain ⟨_, e⟩ := x; exact Heap.lt_size e
  | xd fs => obtain ⟨_, ⟨_, _, _, e, _⟩, _⟩ := x; exact Heap.lt_size e
  | rng lo hi => obtain ⟨_, _, _, e⟩ := x; exact Heap.lt_size e
  | frz ob u => obtain ⟨e, _⟩ := x; exact Heap.lt_size e
  | tbl ps => exact Heap.lt_size (show h.get? a = some _ from x)
  | met f y => exact Heap.lt_size (show h.get? a = some _ from x)
  | ext φ => obtain ⟨_, ⟨_, e⟩, _⟩ := x; exact Heap.lt_size e
theorem Paired.mapP {α β : Type} {F G : α → β → Prop} : ∀ {l₁ : List α} {l₂ : List β}, Paired F l₁ l₂ → (∀ a b, F a b → G a b) → Paired G l₁ l₂
  | _, _, .nil, _ => .nil
  | _, _, .cons r t, f => .cons (f _ _ r) (Paired.mapP t f)
theorem Paired.imp' {α β : Type} {F G : α → β → Prop} (f : ∀ a b, F a b → G a b) {l₁ : List α} {l₂ : List β} (r : Paired F l₁ l₂) : Paired G l₁ l₂ := Paired.mapP r f
/-- what an object's description leans on: its own object, its own dict, the tuples -/
theorem ObjOk.stay (x : ObjOk P w H h a o) (k : ∀ b u, (b = a ∨ H b = some (.own a)) → h.get? b = some u → h'.get? b = some u)
    (ho : ∀ b, H b = some (.own a) → H' b = some (.own a)) (ht : ∀ b xs, H b = some (.tup xs) → H' b = some (.tup xs)) : ObjOk P w H' h' a o := by
  induction o with
  | lst xs => obtain ⟨z, its, n, r, e⟩ := x; exact ⟨z, its, n, r, k _ _ (.inl rfl) e⟩
  | tup xs => obtain ⟨z, its, r, ⟨ob, e, c⟩, dn⟩ := x; exact ⟨z, its, r, ⟨ob, k _ _ (.inl rfl) e, c⟩, fun ob' e' => by rw [k _ _ (.inl rfl) e] at e'; cases e'; exact dn _ e⟩
  | dK kvs => obtain ⟨z, y, vs, r, ob, es, ep, e, c⟩ := x; exact ⟨z, y, vs, r, ob, es, ep, k _ _ (.inl rfl) e, c⟩
  | dT kvs =>
    obtain ⟨z, y, xs, r, ob, es, ep, e, c⟩ := x
    exact ⟨z, y, xs, Paired.mapP r fun p q z => ⟨z.1, ht _ _ z.2.1, z.2.2⟩, ob, es, ep, k _ _ (.inl rfl) e, c⟩
  | set S n => obtain ⟨ob, es, ep, t, e, c⟩ := x; exact ⟨ob, es, ep, t, k _ _ (.inl rfl) e, c⟩
  | ins C dx fs =>
    obtain ⟨d, z, ne, e, mA, ⟨od, es, ep, e2, c⟩, r⟩ := x
    exact ⟨ho _ d, z, ne, k _ _ (.inl rfl) e, mA, ⟨od, es, ep, k _ _ (.inr d) e2, c⟩, r⟩
  | own y => obtain ⟨ob, e⟩ := x; exact ⟨ob, k _ _ (.inl rfl) e⟩
  | xd fs => obtain ⟨mA, ⟨od, es, ep, e, c⟩, r⟩ := x; exact ⟨mA, ⟨od, es, ep, k _ _ (.inl rfl) e, c⟩, r⟩
  | rng lo hi => obtain ⟨t, u, v, e⟩ := x; exact ⟨t, u, v, k _ _ (.inl rfl) e⟩
  | frz ob u ih => obtain ⟨e, q⟩ := x; exact ⟨k _ _ (.inl rfl) e, ih q⟩
  | tbl ps =>
    have e : h.get? a = some { cls := .none, data := .fields ps } := x
    show h'.get? a = some { cls := .none, data := .fields ps }
    exact k a _ (.inl rfl) e
  | met f y =>
    have e : h.get? a = some (PySem.W.methodObj (.ref f) (.ref y)) := x
    show h'.get? a = some (PySem.W.methodObj (.ref f) (.ref y))
    exact k a _ (.inl rfl) e
  | ext φ => obtain ⟨p, ⟨o, e⟩, st⟩ := x; exact ⟨st _ _ p fun o q => k _ _ (.inl rfl) q, ⟨o, k _ _ (.inl rfl) e⟩, st⟩
theorem HOk.lt (x : HOk P w H h) (e : H a = some o) : a < h.objs.size := (x a o e).lt
theorem HOk.fresh (x : HOk P w H h) (e : h.objs.size ≤ a) : H a = none := by
  cases q : H a with
  | none => rfl
  | some u => exact absurd (Nat.lt_of_lt_of_le (x.lt q) e) (Nat.lt_irrefl _)
/-- every object of the heap is kept -/
theorem HOk.kept (x : HOk P w H h) (k : ∀ b u, h.get? b = some u → h'.get? b = some u) : HOk P w H h' := fun a o e =>
  (x a o e).stay (fun b u _ q => k b u q) (fun _ q => q) fun _ _ q => q
/-- a new object is laid and tracked -/
theorem HOk.laid (x : HOk P w H h) (k : ∀ b u, h.get? b = some u → h'.get? b = some u) (hp : h.objs.size ≤ a) (new : ObjOk P w (upd H a o) h' a o) : HOk P w (upd H a o) h' := fun b u e => by
  have hn := x.fresh hp
  by_cases hb : b = a
  · subst hb; rw [upd_same] at e; cases e; exact new
  · rw [upd_ne hb] at e
    exact (x b u e).stay (fun c v _ q => k c v q) (fun c q => by rw [upd_ne (ne_of_none q hn)]; exact q) fun c xs q => by rw [upd_ne (ne_of_none q hn)]; exact q
end

/-- what may be read as u: it is u, or a known u -/
def Rd (H : Hp) (a : Addr) (u : HO) : Prop := H a = some u ∨ ∃ o, H a = some (.frz o u)
theorem Rd.of {H : Hp} {a : Addr} {u : HO} (h : H a = some u) : Rd H a u := .inl h
theorem Rd.ok {P : Program} {w : World} {H : Hp} {h : Heap} {a : Addr} {u : HO} (r : Rd H a u) (x : HOk P w H h) : ObjOk P w H h a u := by
  rcases r with r | ⟨o, r⟩
  · exact x a u r
  · obtain ⟨_, q⟩ := x a _ r
    exact q
/-- what may be written -/
def Mut : Option HO → Prop
  | some (.lst _) => True
  | some (.dK _) => True
  | some (.dT _) => True
  | some (.set _ _) => True
  | some (.ins _ _ _) => True
  | some (.ext _) => True
  | _ => False
section
variable {P : Program} {w : World} {H : Hp} {h h' : Heap} {x e : Addr} {o' : HO}
/-- the object at e is changed: x itself, or the dict of the instance x -/
theorem HOk.write (ok : HOk P w H h) (mu : Mut (H x)) (he : e = x ∨ H e = some (.own x)) (k : ∀ b u, b ≠ e → h.get? b = some u → h'.get? b = some u) (heo : ∃ u, h'.get? e = some u)
    (new : ObjOk P w (upd H x o') h' x o') : HOk P w (upd H x o') h' := fun b u q => by
  have nown : ∀ c y, H c = some (.own y) → c ≠ x := fun c y r z => by subst z; rw [r] at mu; exact mu
  have ntup : ∀ c xs, H c = some (.tup xs) → c ≠ x := fun c xs r z => by subst z; rw [r] at mu; exact mu
  by_cases hb : b = x
  · subst hb; rw [upd_same] at q; cases q; exact new
  · rw [upd_ne hb] at q
    by_cases hbe : b = e
    · have q' : H b = some (.own x) := by
        rcases he with z | z
        · exact absurd (hbe.trans z) hb
        · rw [hbe]; exact z
      rw [q] at q'; cases q'
      obtain ⟨v, hv⟩ := heo
      exact ⟨v, by rw [hbe]; exact hv⟩
    · refine (ok b u q).stay (fun c v hc r => k c v ?_ r) (fun c r => by rw [upd_ne (nown c b r)]; exact r) fun c xs r => by rw [upd_ne (ntup c xs r)]; exact r
      rcases hc with rfl | hc
      · exact hbe
      · rintro rfl
        rcases he with z | z
        · exact nown c b hc z
        · rw [hc] at z; cases z; exact hb rfl
end

/-! ### kept unless tracked; of the frames at fs (the callers') the slots may change (an exception that passes writes there); of the records at ex (iterators) nothing is said -/
structure Un (fs ex : List Addr) (H H' : Hp) (h h' : Heap) : Prop where
  keep : ∀ b o, h.get? b = some o → H b = none → b ∉ fs → b ∉ ex → h'.get? b = some o
  slot : ∀ b o, h.get? b = some o → H b = none → b ∈ fs → b ∉ ex → ∃ sl, h'.get? b = some { o with slots := sl }
  free : ∀ b o, h.get? b = some o → H b = none → b ∉ ex → H' b = none
  there : ∀ b o, h.get? b = some o → b ∉ ex → ∃ o', h'.get? b = some o'
  tups : ∀ b xs, H b = some (.tup xs) → H' b = some (.tup xs)
  frzs : ∀ b o u, H b = some (.frz o u) → H' b = some (.frz o u)
  tbls : ∀ b ps, H b = some (.tbl ps) → ∃ more, H' b = some (.tbl (ps ++ more))
section
variable {fs fs' ex ex' : List Addr} {H H1 H2 : Hp} {h h1 h2 h' : Heap} {a x e : Addr} {o : HO}
theorem Un.any (u : Un fs ex H H1 h h1) {b : Addr} {ob : Obj} (q : h.get? b = some ob) (n : H b = none) (hx : b ∉ ex) : ∃ sl, h1.get? b = some { ob with slots := sl } := by
  by_cases hb : b ∈ fs
  · exact u.slot b ob q n hb hx
  · exact ⟨ob.slots, u.keep b ob q n hb hx⟩
theorem Un.trans (a : Un fs ex H H1 h h1) (b : Un fs ex H1 H2 h1 h2) : Un fs ex H H2 h h2 where
  keep := fun c ob q n hc hx => b.keep c ob (a.keep c ob q n hc hx) (a.free c ob q n hx) hc hx
  slot := fun c ob q n hc hx => by
    obtain ⟨sl, e1⟩ := a.slot c ob q n hc hx
    obtain ⟨sl', e2⟩ := b.slot c _ e1 (a.free c ob q n hx) hc hx
    exact ⟨sl', e2⟩
  free := fun c ob q n hx => by
    obtain ⟨o', e1⟩ := a.there c ob q hx
    exact b.free c o' e1 (a.free c ob q n hx) hx
  there := fun c ob q hx => by
    obtain ⟨o', e1⟩ := a.there c ob q hx
    exact b.there c o' e1 hx
  tups := fun c xs q => b.tups c xs (a.tups c xs q)
  frzs := fun c ob xs q => b.frzs c ob xs (a.frzs c ob xs q)
  tbls := fun c ps q => by
    obtain ⟨m1, e1⟩ := a.tbls c ps q
    obtain ⟨m2, e2⟩ := b.tbls c _ e1
    exact ⟨m1 ++ m2, by rw [e2, Array.append_assoc]⟩
theorem Un.kept (k : ∀ b u, h.get? b = some u → h'.get? b = some u) : Un fs ex H H h h' :=
  ⟨fun b ob q _ _ _ => k b ob q, fun b ob q _ _ _ => ⟨ob.slots, k b ob q⟩, fun _ _ _ n _ => n, fun b ob q _ => ⟨ob, k b ob q⟩, fun _ _ q => q, fun _ _ _ q => q, fun _ ps q => ⟨#[], by rw [q]; simp⟩⟩
theorem Un.refl : Un fs ex H H h h := Un.kept fun _ _ q => q
theorem Un.laid (k : ∀ b u, h.get? b = some u → h'.get? b = some u) (hp : h.objs.size ≤ a) (hn : H a = none) : Un fs ex H (upd H a o) h h' where
  keep := fun b u q _ _ _ => k b u q
  slot := fun b u q _ _ _ => ⟨u.slots, k b u q⟩
  free := fun b u q n _ => by rw [upd_ne (Nat.ne_of_lt (Nat.lt_of_lt_of_le (Heap.lt_size q) hp))]; exact n
  there := fun b u q _ => ⟨u, k b u q⟩
  tups := fun b xs q => by rw [upd_ne (ne_of_none q hn)]; exact q
  frzs := fun b u xs q => by rw [upd_ne (ne_of_none q hn)]; exact q
  tbls := fun b ps q => ⟨#[], by rw [upd_ne (ne_of_none q hn), q]; simp⟩
theorem Un.write (mu : Mut (H x)) (he : e = x ∨ H e = some (.own x)) (k : ∀ b u, b ≠ e → h.get? b = some u → h'.get? b = some u) (heo : ∃ u, h'.get? e = some u) : Un fs ex H (upd H x o) h h' := by
  have hx : ∀ b, H b = none → b ≠ x := fun b n z => by subst z; rw [n] at mu; exact mu
  have hb : ∀ b, H b = none → b ≠ e := fun b n z => by
    subst z
    rcases he with r | r
    · exact hx b n r
    · rw [n] at r; cases r
  have hm : ∀ b u, H b = some u → ¬ Mut (some u) → b ≠ x := fun b u q nm z => by subst z; rw [q] at mu; exact nm mu
  refine ⟨fun b u q n _ _ => k b u (hb b n) q, fun b u q n _ _ => ⟨u.slots, k b u (hb b n) q⟩, fun b u q n _ => by rw [upd_ne (hx b n)]; exact n, fun b u q _ => ?_,
    fun b xs q => by rw [upd_ne (hm b _ q fun z => z)]; exact q, fun b u xs q => by rw [upd_ne (hm b _ q fun z => z)]; exact q, fun b ps q => ⟨#[], by rw [upd_ne (hm b _ q fun z => z), q]; simp⟩⟩
  by_cases hbe : b = e
  · subst hbe; exact heo
  · exact ⟨u, k b u hbe q⟩
theorem Un.mono (u : Un fs ex H H1 h h1) (hs : ∀ b ∈ fs, b ∈ fs') (hx : ∀ b ∈ ex, b ∈ ex') : Un fs' ex' H H1 h h1 :=
  ⟨fun b ob q n hb he => u.keep b ob q n (fun z => hb (hs b z)) fun z => he (hx b z), fun _ _ q n _ he => u.any q n fun z => he (hx _ z), fun b ob q n he => u.free b ob q n fun z => he (hx b z), fun b ob q he => u.there b ob q fun z => he (hx b z), u.tups, u.frzs, u.tbls⟩
end

/-! ### the heap without what is tracked -/
def trk (h : Heap) (H : Hp) : List Addr := (List.range h.objs.size).filter fun a => (H a).isSome
def hidT (h : Heap) (H : Hp) : Heap := PySem.W.hideAll h (trk h H)
theorem hidT_size (h : Heap) (H : Hp) : (hidT h H).objs.size = h.objs.size := PySem.W.hideAll_size _ _
theorem hidT_get {h : Heap} {H : Hp} {b : Addr} {o : Obj} (e : h.get? b = some o) (n : H b = none) : (hidT h H).get? b = some o :=
  PySem.W.hideAll_get _ e fun hm => by
    have q : (H b).isSome = true := (List.mem_filter.mp hm).2
    rw [n] at q; simp at q
theorem of_hidT {h : Heap} {H : Hp} {b : Addr} {o : Obj} (e : (hidT h H).get? b = some o) : h.get? b = some o ∧ H b = none := by
  have e' : h.get? b = some o := PySem.W.of_hideAll (trk h H) e
  refine ⟨e', ?_⟩
  cases q : H b with
  | none => rfl
  | some x =>
    have hm : b ∈ trk h H := List.mem_filter.mpr ⟨List.mem_range.mpr (Heap.lt_size e'), by simp [q]⟩
    have z : (hidT h H).get? b = none := PySem.W.hideAll_none (trk h H) hm
    rw [z] at e; cases e

/-! ### OpenK's ledger, filled with every new object but one -/
def allNews (g h : Heap) (L : Addr) : List (Addr × Obj) := (List.range h.objs.size).filterMap fun a => if a = L ∨ (g.get? a).isSome = true then none else (h.get? a).map fun o => (a, o)
theorem mem_allNews {g h : Heap} {L a : Addr} {o : Obj} (h1 : a ≠ L) (h2 : g.get? a = none) (h3 : h.get? a = some o) : (a, o) ∈ allNews g h L :=
  List.mem_filterMap.mpr ⟨a, List.mem_range.mpr (Heap.lt_size h3), by simp [h1, h2, h3]⟩
theorem of_mem_allNews {g h : Heap} {L : Addr} {p : Addr × Obj} (hp : p ∈ allNews g h L) : p.1 ≠ L ∧ g.get? p.1 = none ∧ h.get? p.1 = some p.2 := by
  obtain ⟨b, _, e⟩ := List.mem_filterMap.mp hp
  split at e
  · cases e
  · rename_i hn
    cases q : h.get? b with
    | none => rw [q] at e; simp at e
    | some u =>
      rw [q] at e
      simp only [Option.map_some, Option.some.injEq] at e
      subst e
      refine ⟨fun z => hn (.inl z), ?_, q⟩
      show g.get? b = none
      cases r : g.get? b with
      | none => rfl
      | some v => exact (hn (.inr (by simp [r]))).elim
def rest (g h : Heap) (L d : Addr) : List (Addr × Obj) := (allNews g h L).filter fun p => decide (p.1 ≠ d)
theorem rest_ne {g h : Heap} {L d : Addr} : ∀ p ∈ rest g h L d, p.1 ≠ d := fun p hp => of_decide_eq_true (List.mem_filter.mp hp).2
theorem mem_rest {g h : Heap} {L d a : Addr} {o : Obj} (h1 : a ≠ L) (h2 : g.get? a = none) (h3 : h.get? a = some o) (h4 : a ≠ d) : (a, o) ∈ rest g h L d :=
  List.mem_filter.mpr ⟨mem_allNews h1 h2 h3, decide_eq_true h4⟩
theorem news_all {g h : Heap} {L : Addr} : News g L h (allNews g h L) := fun p hp => let ⟨a, b, c⟩ := of_mem_allNews hp; ⟨c, a, b⟩
theorem news_at {g h : Heap} {L d : Addr} {o : Obj} (h1 : d ≠ L) (h2 : g.get? d = none) (h3 : h.get? d = some o) : News g L h ((d, o) :: rest g h L d) := fun p hp => by
  rcases List.mem_cons.mp hp with rfl | hp
  · exact ⟨h3, h1, h2⟩
  · exact news_all p (List.mem_filter.mp hp).1
/-- behind a rule that changed d alone: all else but the frame is kept -/
theorem kept_of_news {g h h' : Heap} {L d : Addr} {m : Str → Option Value} (k : ∀ b o, g.get? b = some o → h.get? b = some o) (F : Fr g L h' m) (N : News g L h' (rest g h L d)) :
    ∀ b o, b ≠ L → b ≠ d → h.get? b = some o → h'.get? b = some o := fun b o h1 h2 e => by
  cases q : g.get? b with
  | some u =>
    have := k b u q
    rw [e] at this; cases this
    exact F.keep b _ q
  | none => exact (N (b, o) (mem_rest h1 q e h2)).1
end L2

namespace L2
open PySem PySem.Spec PyProof.Rows

/-- the module's facts, over the base: the heap at the law's entry without what is tracked there -/
structure Mod (K : PySem.W.Frag) (mg : Str → Option Value) (base : Heap) : Prop where
  kin : K.In base
  glob : base.Ns mainGlobals mg
  blt : ∃ mb, base.Ns builtinsNs mb ∧ ∀ x : Str, x ≠ "__name__" → mb x = bootBuiltins x
  nolimit : base.NoLimit

/-- the context: a def's body (or a comprehension's block) running. base: fixed through the whole law; s₀, H₀: the entry; outer: the frames whose slots others may change (a def's callers); stack: all frames that run;
   ex: iterators that were made ahead of the entry and are walked here (a comprehension's); fn: the names whose cells were made at the entry (a def: all; a comprehension's block: its own); calm: not within an except suite; pn: pins that every state bears; xe: what is wanted of an exception that leaves the code -/
structure Cx where
  prog : Program
  w : World
  K : PySem.W.Frag
  mg : Str → Option Value
  base : Heap
  A : Around
  N : List Str
  s₀ : Shared
  H₀ : Hp
  env : Env
  outer : List Env
  stack : List Env
  ex : List Addr
  fn : Str → Bool
  calm : Bool
  pn : List (Addr × Obj)
  xe : Value → Shared → Prop
/-- the callers' frames -/
def frs (l : List Env) : List Addr := l.filterMap (·.frame)
abbrev Cx.fs (X : Cx) : List Addr := frs X.outer

def Vis (sc : Scope) (x : Str) : Prop := sc.names.lookup x = some .local ∨ sc.names.lookup x = some .cell ∨ sc.names.lookup x = some .free
def Loc (sc : Scope) (x : Str) : Prop := sc.names.lookup x = some .local ∨ sc.names.lookup x = some .cell
def Look (env : Env) (h : Heap) (m : Str → Option Value) (x : Str) (u : Value) : Prop :=
  (env.kindOf x = some .local ∧ m x = some u) ∨ ((env.kindOf x = some .cell ∨ env.kindOf x = some .free) ∧ ∃ c, env.cells.lookup x = some c ∧ h.IsCell c (some u))

structure Cx.Ok (X : Cx) : Prop where
  mod : Mod X.K X.mg X.base
  kind : X.env.scope.kind = .function
  glob : X.env.globals = mainGlobals
  blt : X.env.builtins = builtinsNs
  above : X.s₀.heap.objs.size ≤ X.env.locals
  inj : ∀ x y c, X.env.cells.lookup x = some c → X.env.cells.lookup y = some c → x = y
  has : ∀ x, (X.env.kindOf x = some .cell ∨ X.env.kindOf x = some .free) → ∃ c, X.env.cells.lookup x = some c
  cab : ∀ x c, X.fn x = true → X.env.cells.lookup x = some c → X.s₀.heap.objs.size ≤ c
  hd : X.calm = true → X.A.handled = none
  frames : X.A.frames = some X.stack
  stk : X.stack = X.outer ∨ (X.stack = X.env :: X.outer ∧ X.env.frame = some X.env.locals)
  exf : ∀ b ∈ X.ex, b ≠ X.env.locals ∧ ∀ x c, X.env.cells.lookup x = some c → c ≠ b
  bs : ∀ b o, X.base.get? b = some o → X.s₀.heap.get? b = some o ∧ X.H₀ b = none
  bsz : X.base.objs.size ≤ X.s₀.heap.objs.size
  noex : ∀ b o, X.base.get? b = some o → b ∉ X.ex
  exfs : ∀ b ∈ X.ex, b ∉ X.fs
  funs : X.s₀.heap.FunFrames X.base X.outer
  frf : ∀ b ∈ X.fs, X.H₀ b = none

structure Inv (X : Cx) (pins : List (Addr × Obj)) (σ : List (Option V)) (H : Hp) (s : Shared) : Prop where
  ok : X.Ok
  os : s.os = X.s₀.os
  bare : AllBare s.gens
  base : Un X.fs X.ex X.H₀ H X.s₀.heap s.heap
  loc : ∃ m, s.heap.Ns X.env.locals m ∧ ∀ (i : Nat) (x : Str) (v : V), X.N[i]? = some x → σ[i]? = some (some v) → Vis X.env.scope x → ∃ u, RelV v u ∧ Look X.env s.heap m x u
  cell : ∀ x c, X.env.cells.lookup x = some c → ∃ v, s.heap.IsCell c v
  free : H X.env.locals = none
  freeC : ∀ x c, X.env.cells.lookup x = some c → H c = none
  pin : ∀ p ∈ X.pn ++ pins, s.heap.get? p.1 = some p.2 ∧ H p.1 = none ∧ p.1 ≠ X.env.locals ∧ p.1 ∉ X.fs ∧ ∀ v, p.2.data ≠ .cell v
  hok : HOk X.prog X.w H s.heap
  len : σ.length = X.N.length

section
variable {X : Cx} {pins : List (Addr × Obj)} {σ : List (Option V)} {H H' : Hp} {s : Shared} {h' : Heap}

theorem Cx.Ok.nofr (ok : X.Ok) {b : Addr} {o : Obj} (e : X.base.get? b = some o) : b ∉ X.fs := fun hb => by
  have := (ok.funs.mem hb).1
  rw [e] at this; cases this
theorem Inv.bs (I : Inv X pins σ H s) : ∀ b o, X.base.get? b = some o → s.heap.get? b = some o ∧ H b = none := fun b o e =>
  ⟨I.base.keep b o (I.ok.bs b o e).1 (I.ok.bs b o e).2 (I.ok.nofr e) (I.ok.noex b o e), I.base.free b o (I.ok.bs b o e).1 (I.ok.bs b o e).2 (I.ok.noex b o e)⟩
theorem Inv.bk (I : Inv X pins σ H s) : ∀ b o, X.base.get? b = some o → s.heap.get? b = some o := fun b o e => (I.bs b o e).1
theorem Inv.mod (I : Inv X pins σ H s) : Mod X.K X.mg X.base := I.ok.mod
theorem Inv.kIn (I : Inv X pins σ H s) : X.K.In s.heap := I.ok.mod.kin.keeps I.bk
theorem Inv.nolimit (I : Inv X pins σ H s) : s.heap.NoLimit := I.ok.mod.nolimit.keeps I.bk
/-- the frame over the base: for OpenK's rules (K.In X.base is I.mod.kin) -/
theorem Inv.fr (I : Inv X pins σ H s) : ∃ m, Fr X.base X.env.locals s.heap m :=
  let ⟨m, hn, _⟩ := I.loc
  ⟨m, hn, I.bk, Nat.le_trans I.ok.bsz I.ok.above⟩
theorem Inv.lt (I : Inv X pins σ H s) : X.env.locals < s.heap.objs.size := let ⟨_, hn, _⟩ := I.loc; hn.lt
theorem Inv.sz (I : Inv X pins σ H s) : X.s₀.heap.objs.size ≤ s.heap.objs.size := Nat.le_trans I.ok.above (Nat.le_of_lt I.lt)
theorem Inv.nofs (I : Inv X pins σ H s) {a : Addr} (h : s.heap.objs.size ≤ a) : a ∉ X.fs := fun hb => by
  obtain ⟨_, o, ho, _⟩ := I.ok.funs.mem hb
  exact absurd (Nat.lt_of_lt_of_le (Heap.lt_size ho) (Nat.le_trans I.sz h)) (Nat.lt_irrefl _)
theorem Inv.cne (I : Inv X pins σ H s) : ∀ x c, X.env.cells.lookup x = some c → c ≠ X.env.locals := fun x c e z => by
  obtain ⟨v, o, ho, hd⟩ := I.cell x c e
  obtain ⟨m, ⟨o', es, ep, ho', hd', _⟩, _⟩ := I.loc
  rw [z, ho'] at ho; cases ho; rw [hd'] at hd; cases hd
theorem Inv.funs (I : Inv X pins σ H s) : s.heap.FunFrames X.base X.outer := by
  have all : ∀ (l : List Env), (∀ b ∈ frs l, b ∈ X.fs) → X.s₀.heap.FunFrames X.base l → s.heap.FunFrames X.base l := by
    intro l
    induction l with
    | nil => intro _ _; trivial
    | cons env r ih =>
      intro hs hl
      obtain ⟨hk, ⟨L, o, hf, hn, ho, hd⟩, hr⟩ := hl
      have hL : L ∈ X.fs := hs L (by unfold frs; rw [List.filterMap_cons, hf]; exact List.mem_cons_self)
      obtain ⟨sl, e⟩ := I.base.slot L o ho (I.ok.frf L hL) hL fun z => I.ok.exfs L z hL
      exact ⟨hk, ⟨L, _, hf, hn, e, hd⟩, ih (fun b hb => hs b (by unfold frs; rw [List.filterMap_cons, hf]; exact List.mem_cons_of_mem _ hb)) hr⟩
  exact all X.outer (fun _ hb => hb) I.ok.funs

/-- the frames that run, for a call -/
theorem Inv.stack (I : Inv X pins σ H s) : s.heap.FunFrames X.base X.stack := by
  rcases I.ok.stk with e | ⟨e, hf⟩
  · rw [e]; exact I.funs
  · rw [e]
    obtain ⟨m, hn, _⟩ := I.loc
    refine .cons (by rw [I.ok.kind]; decide) hf hn ?_ I.funs
    exact Heap.get?_none_of_le (Nat.le_trans I.ok.bsz I.ok.above)
theorem Inv.stkSub (I : Inv X pins σ H s) : ∀ b ∈ frs X.stack, b ∈ X.env.locals :: X.fs := fun b hb => by
  rcases I.ok.stk with e | ⟨e, hf⟩
  · rw [e] at hb; exact List.mem_cons_of_mem _ hb
  · rw [e] at hb
    unfold frs at hb
    rw [List.filterMap_cons, hf] at hb
    exact hb
theorem Inv.stkFree (I : Inv X pins σ H s) : ∀ b ∈ frs X.stack, H b = none := fun b hb => by
  rcases List.mem_cons.mp (I.stkSub b hb) with e | hb
  · rw [e]; exact I.free
  · obtain ⟨_, o, ho, _⟩ := I.ok.funs.mem hb
    exact I.base.free b o ho (I.ok.frf b hb) fun z => I.ok.exfs b z hb

/-- THE STEP: the untracked objects but the frame and the records at ch are kept (the callers' frames up to slots), the frame's map is kept, the new abstract heap is held -/
theorem Inv.step {g' : Array GenState} {t' : Nat} {d' : Drawn} {ch : List Addr} (I : Inv X pins σ H s)
    (hch : ∀ b ∈ ch, (b ∈ X.ex ∨ X.s₀.heap.objs.size ≤ b) ∧ b ≠ X.env.locals ∧ (∀ x c, X.env.cells.lookup x = some c → c ≠ b) ∧ ∀ p ∈ X.pn ++ pins, p.1 ≠ b)
    (keep : ∀ b o, b ≠ X.env.locals → b ∉ X.fs → b ∉ ch → s.heap.get? b = some o → H b = none → h'.get? b = some o)
    (slot : ∀ b o, b ≠ X.env.locals → b ∈ X.fs → b ∉ ch → s.heap.get? b = some o → H b = none → ∃ sl, h'.get? b = some { o with slots := sl }) (free : ∀ b o, b ∉ ch → s.heap.get? b = some o → H b = none → H' b = none)
    (there : ∀ b o, b ∉ ch → s.heap.get? b = some o → ∃ o', h'.get? b = some o')
    (tups : ∀ b xs, H b = some (.tup xs) → H' b = some (.tup xs)) (frzs : ∀ b o u, H b = some (.frz o u) → H' b = some (.frz o u)) (tbls : ∀ b ps, H b = some (.tbl ps) → ∃ more, H' b = some (.tbl (ps ++ more)))
    (ns : ∀ m, s.heap.Ns X.env.locals m → h'.Ns X.env.locals m) (hok : HOk X.prog X.w H' h') (hg : AllBare g') :
    Inv X pins σ H' { s with heap := h', gens := g', drawn := d', toks := t' } := by
  have neL : ∀ b o, X.s₀.heap.get? b = some o → b ≠ X.env.locals := fun b o e => Nat.ne_of_lt (Nat.lt_of_lt_of_le (Heap.lt_size e) I.ok.above)
  have neC : ∀ b o, X.s₀.heap.get? b = some o → b ∉ X.ex → b ∉ ch := fun b o e hx hb => by
    rcases (hch b hb).1 with z | z
    · exact hx z
    · exact absurd (Nat.lt_of_lt_of_le (Heap.lt_size e) z) (Nat.lt_irrefl _)
  have cellK : ∀ x c, X.env.cells.lookup x = some c → ∀ v, s.heap.IsCell c v → h'.IsCell c v := fun x c e v ⟨o, ho, hd⟩ => by
    have nch : c ∉ ch := fun z => (hch c z).2.2.1 x c e rfl
    by_cases hc : c ∈ X.fs
    · obtain ⟨sl, q⟩ := slot c o (I.cne x c e) hc nch ho (I.freeC x c e)
      exact ⟨_, q, hd⟩
    · exact ⟨o, keep c o (I.cne x c e) hc nch ho (I.freeC x c e), hd⟩
  refine ⟨I.ok, I.os, hg, ⟨fun b o e n hb hx => ?_, fun b o e n hb hx => ?_, fun b o e n hx => ?_, fun b o e hx => ?_, fun b xs e => tups b xs (I.base.tups b xs e), fun b o xs e => frzs b o xs (I.base.frzs b o xs e), fun b ps e => ?_⟩, ?_, fun x c e => ?_, ?_, fun x c e => ?_, fun p hp => ?_, hok, I.len⟩
  · exact keep b o (neL b o e) hb (neC b o e hx) (I.base.keep b o e n hb hx) (I.base.free b o e n hx)
  · obtain ⟨sl, e1⟩ := I.base.slot b o e n hb hx
    obtain ⟨sl', e2⟩ := slot b _ (neL b o e) hb (neC b o e hx) e1 (I.base.free b o e n hx)
    exact ⟨sl', e2⟩
  · obtain ⟨o', e1⟩ := I.base.there b o e hx
    exact free b o' (neC b o e hx) e1 (I.base.free b o e n hx)
  · obtain ⟨o', e1⟩ := I.base.there b o e hx
    exact there b o' (neC b o e hx) e1
  · obtain ⟨m1, e1⟩ := I.base.tbls b ps e
    obtain ⟨m2, e2⟩ := tbls b _ e1
    exact ⟨m1 ++ m2, by rw [e2, Array.append_assoc]⟩
  · obtain ⟨m, hn, hl⟩ := I.loc
    refine ⟨m, ns m hn, fun i x v e1 e2 e3 => ?_⟩
    obtain ⟨u, r, l⟩ := hl i x v e1 e2 e3
    refine ⟨u, r, ?_⟩
    rcases l with l | ⟨k, c, e, z⟩
    · exact .inl l
    · exact .inr ⟨k, c, e, cellK x c e _ z⟩
  · obtain ⟨v, z⟩ := I.cell x c e
    exact ⟨v, cellK x c e v z⟩
  · obtain ⟨m, ⟨o, _, _, ho, _⟩, _⟩ := I.loc
    exact free _ o (fun z => (hch _ z).2.1 rfl) ho I.free
  · obtain ⟨v, o, ho, hd⟩ := I.cell x c e
    exact free c o (fun z => (hch c z).2.2.1 x c e rfl) ho (I.freeC x c e)
  · obtain ⟨e, n, ne, nf, d⟩ := I.pin p hp
    have nch : p.1 ∉ ch := fun z => (hch p.1 z).2.2.2 p hp rfl
    exact ⟨keep p.1 p.2 ne nf nch e n, free p.1 p.2 nch e n, ne, nf, d⟩
/-- .. where the frame's own object is kept too -/
theorem Inv.un {t' : Nat} (I : Inv X pins σ H s) (u : Un X.fs [] H H' s.heap h') (hok : HOk X.prog X.w H' h') : Inv X pins σ H' { s with heap := h', toks := t' } := by
  obtain ⟨m, ⟨o, es, ep, ho, r⟩, _⟩ := id I.loc
  obtain ⟨sl, hL⟩ := u.any ho I.free (by simp)
  exact I.step (g' := s.gens) (d' := s.drawn) (ch := []) (fun _ z => nomatch z) (fun b o _ hb _ e n => u.keep b o e n hb (by simp)) (fun b o _ hb _ e n => u.slot b o e n hb (by simp)) (fun b o _ e n => u.free b o e n (by simp)) (fun b o _ e => u.there b o e (by simp)) u.tups u.frzs u.tbls (fun m' hm => by
    obtain ⟨o', es', ep', ho', r'⟩ := hm
    rw [ho] at ho'; cases ho'
    exact ⟨_, es', ep', hL, r'⟩) hok I.bare
/-- behind a call (or a comprehension's block): the slots of this frame may have changed too, the records at ch may have turned -/
theorem Inv.call {g' : Array GenState} {t' : Nat} {d' : Drawn} {ch : List Addr} (I : Inv X pins σ H s) (u : Un (frs X.stack) ch H H' s.heap h') (hok : HOk X.prog X.w H' h') (hg : AllBare g')
    (hch : ∀ b ∈ ch, (b ∈ X.ex ∨ X.s₀.heap.objs.size ≤ b) ∧ b ≠ X.env.locals ∧ (∀ x c, X.env.cells.lookup x = some c → c ≠ b) ∧ ∀ p ∈ X.pn ++ pins, p.1 ≠ b) :
    Inv X pins σ H' { s with heap := h', gens := g', drawn := d', toks := t' } := by
  obtain ⟨m, ⟨o, es, ep, ho, r⟩, _⟩ := id I.loc
  obtain ⟨sl, hL⟩ := u.any ho I.free fun z => (hch _ z).2.1 rfl
  exact I.step (ch := ch) hch (fun b o hL hb hc e n => u.keep b o e n (fun z => (List.mem_cons.mp (I.stkSub b z)).elim hL hb) hc) (fun b o _ _ hc e n => u.any e n hc) (fun b o hc e n => u.free b o e n hc) (fun b o hc e => u.there b o e hc) u.tups u.frzs u.tbls (fun m' hm => by
    obtain ⟨o', es', ep', ho', r'⟩ := hm
    rw [ho] at ho'; cases ho'
    exact ⟨_, es', ep', hL, r'⟩) hok hg
/-- an untracked record of ours (an iterator) has turned -/
theorem Inv.turned {t' : Nat} {it : Addr} (I : Inv X pins σ H s) (k : ∀ b o, b ≠ it → s.heap.get? b = some o → h'.get? b = some o) (hn : H it = none) (hL : it ≠ X.env.locals)
    (h1 : it ∈ X.ex ∨ X.s₀.heap.objs.size ≤ it) (h2 : ∀ x c, X.env.cells.lookup x = some c → c ≠ it) (h3 : ∀ p ∈ X.pn ++ pins, p.1 ≠ it) : Inv X pins σ H { s with heap := h', toks := t' } := by
  have nit : ∀ b u, H b = some u → b ≠ it := fun b u e z => by rw [z, hn] at e; cases e
  refine I.step (g' := s.gens) (d' := s.drawn) (ch := [it]) (fun b hb => ?_) (fun b o _ _ hc e _ => k b o (fun z => hc (by simp [z])) e) (fun b o _ _ hc e _ => ⟨o.slots, k b o (fun z => hc (by simp [z])) e⟩) (fun _ _ _ _ n => n)
    (fun b o hc e => ⟨o, k b o (fun z => hc (by simp [z])) e⟩) (fun _ _ e => e) (fun _ _ _ e => e) (fun b ps e => ⟨#[], by rw [e]; simp⟩) (fun m hm => ?_) (fun b u e => ?_) I.bare
  · have e : b = it := by simpa using hb
    subst e
    exact ⟨h1, hL, h2, h3⟩
  · obtain ⟨o, es, ep, ho, r⟩ := hm
    exact ⟨o, es, ep, k _ o (Ne.symm hL) ho, r⟩
  · refine (I.hok b u e).stay (fun c v hc q => k c v ?_ q) (fun _ q => q) fun _ _ q => q
    rcases hc with z | z
    · rw [z]; exact nit b u e
    · exact nit c _ z
theorem Inv.tok (I : Inv X pins σ H s) (t : Nat) : Inv X pins σ H { s with toks := t } := I.un (h' := s.heap) (t' := t) Un.refl I.hok
/-- all objects kept -/
theorem Inv.kept {t' : Nat} (I : Inv X pins σ H s) (k : ∀ b u, s.heap.get? b = some u → h'.get? b = some u) : Inv X pins σ H { s with heap := h', toks := t' } := I.un (Un.kept k) (I.hok.kept k)
/-- a new object laid and tracked -/
theorem Inv.laid {a : Addr} {o : HO} {t' : Nat} (I : Inv X pins σ H s) (k : ∀ b u, s.heap.get? b = some u → h'.get? b = some u) (hp : s.heap.objs.size ≤ a) (new : ObjOk X.prog X.w (upd H a o) h' a o) :
    Inv X pins σ (upd H a o) { s with heap := h', toks := t' } := I.un (Un.laid k hp (I.hok.fresh hp)) (I.hok.laid k hp new)
/-- an object written -/
theorem Inv.write {x e : Addr} {o : HO} {t' : Nat} (I : Inv X pins σ H s) (mu : Mut (H x)) (he : e = x ∨ H e = some (.own x)) (k : ∀ b u, b ≠ e → s.heap.get? b = some u → h'.get? b = some u) (heo : ∃ u, h'.get? e = some u)
    (new : ObjOk X.prog X.w (upd H x o) h' x o) : Inv X pins σ (upd H x o) { s with heap := h', toks := t' } := I.un (Un.write mu he k heo) (I.hok.write mu he k heo new)
/-- forgetting slots, pins -/
theorem Inv.weak {σ' : List (Option V)} (I : Inv X pins σ H s) (hl : σ'.length = σ.length) (w : ∀ (i : Nat) v, σ'[i]? = some (some v) → σ[i]? = some (some v)) : Inv X pins σ' H s :=
  ⟨I.ok, I.os, I.bare, I.base, let ⟨m, hn, hl'⟩ := I.loc; ⟨m, hn, fun i x v e1 e2 e3 => hl' i x v e1 (w i v e2) e3⟩, I.cell, I.free, I.freeC, I.pin, I.hok, hl.trans I.len⟩
theorem Inv.pins_of {pins' : List (Addr × Obj)} (I : Inv X pins σ H s) (h : ∀ p ∈ pins', s.heap.get? p.1 = some p.2 ∧ H p.1 = none ∧ p.1 ≠ X.env.locals ∧ p.1 ∉ X.fs ∧ ∀ v, p.2.data ≠ .cell v) : Inv X pins' σ H s :=
  ⟨I.ok, I.os, I.bare, I.base, I.loc, I.cell, I.free, I.freeC, fun p hp => (List.mem_append.mp hp).elim (fun z => I.pin p (List.mem_append_left _ z)) (h p), I.hok, I.len⟩

theorem nodup_ix {N : List Str} (hN : N.Nodup) {i j : Nat} {x : Str} (a : N[i]? = some x) (b : N[j]? = some x) : i = j := by
  obtain ⟨h1, e1⟩ := List.getElem?_eq_some_iff.mp a
  obtain ⟨h2, e2⟩ := List.getElem?_eq_some_iff.mp b
  exact (List.getElem_inj hN).mp (e1.trans e2.symm)

/-- a name is stored; what changed -/
theorem store_ok2 {M : Model} {A : Around} {E : Value → Shared → Prop} {i : Nat} {x : Str} {v : V} {u : Value} {Q : Unit → Shared → Prop} (I : Inv X pins σ H s) (hN : X.N.Nodup) (hi : X.N[i]? = some x) (hx : Loc X.env.scope x) (r : RelV v u)
    (h : ∀ s', Inv X pins (σ.set i (some v)) H s' → (∃ a, Heap.SameBut a s.heap s'.heap ∧ (a = X.env.locals ∨ X.env.cells.lookup x = some a)) → Q () s') (hf : X.fn x = true ∨ X.env.scope.names.lookup x = some .local := by first | exact .inl rfl | exact .inr rfl | assumption) : wpAny M A (storeName X.env x u) Q E s := by
  obtain ⟨m, hn, hl⟩ := id I.loc
  have hcls : (X.env.scope.kind == .class || (X.env.scope.kind == .module && X.env.locals != X.env.globals)) = false := by rw [I.ok.kind]; rfl
  have hiσ : i < σ.length := by rw [I.len]; exact (List.getElem?_eq_some_iff.mp hi).1
  have cne := I.cne
  have tracked : ∀ {a : Addr} {h' : Heap}, (∃ o, s.heap.get? a = some o ∧ H a = none) → Heap.SameBut a s.heap h' → HOk X.prog X.w H h' := fun {a h'} ha hs b ob e => by
    obtain ⟨_, _, hfree⟩ := ha
    refine (I.hok b ob e).stay (fun c w' hc q => (hs.2 c ?_).trans q) (fun _ q => q) fun _ _ q => q
    rintro rfl
    rcases hc with rfl | hc
    · rw [hfree] at e; cases e
    · rw [hfree] at hc; cases hc
  rcases hx with hk | hk
  · refine wpAny_storeName_local hk hn (fun h' hn' hs => ?_) hcls
    obtain ⟨oL, _, _, hoL, _⟩ := id hn
    refine h _ ⟨I.ok, I.os, I.bare, ⟨fun b o e n hb hx => ?_, fun b o e n hb hx => ?_, I.base.free, fun b o e hx => ?_, I.base.tups, I.base.frzs, I.base.tbls⟩, ⟨_, hn', fun j y v' e1 e2 e3 => ?_⟩, fun y c e => ?_, I.free, I.freeC, fun p hp => ?_, tracked ⟨oL, hoL, I.free⟩ hs, by simpa using I.len⟩ ⟨_, hs, .inl rfl⟩
    · exact (hs.2 b (Nat.ne_of_lt (Nat.lt_of_lt_of_le (Heap.lt_size e) I.ok.above))).trans (I.base.keep b o e n hb hx)
    · obtain ⟨sl, e1⟩ := I.base.slot b o e n hb hx
      exact ⟨sl, (hs.2 b (Nat.ne_of_lt (Nat.lt_of_lt_of_le (Heap.lt_size e) I.ok.above))).trans e1⟩
    · obtain ⟨o', e1⟩ := I.base.there b o e hx
      exact ⟨o', (hs.2 b (Nat.ne_of_lt (Nat.lt_of_lt_of_le (Heap.lt_size e) I.ok.above))).trans e1⟩
    · by_cases hj : j = i
      · subst hj
        rw [hi] at e1; cases e1
        rw [List.getElem?_set_self hiσ] at e2
        cases e2
        exact ⟨u, r, .inl ⟨hk, by simp⟩⟩
      · rw [List.getElem?_set_ne (Ne.symm hj)] at e2
        obtain ⟨u', r', q⟩ := hl j y v' e1 e2 e3
        refine ⟨u', r', ?_⟩
        rcases q with ⟨k, e⟩ | ⟨k, c, e, z⟩
        · refine .inl ⟨k, ?_⟩
          have : y ≠ x := fun e => hj (nodup_ix hN e1 (e ▸ hi))
          simp [this, e]
        · exact .inr ⟨k, c, e, z.sameBut hs (cne y c e)⟩
    · obtain ⟨w', z⟩ := I.cell y c e
      exact ⟨w', z.sameBut hs (cne y c e)⟩
    · obtain ⟨e, n, ne, nf, d⟩ := I.pin p hp
      exact ⟨(hs.2 p.1 ne).trans e, n, ne, nf, d⟩
  · have hfn : X.fn x = true := by
      rcases hf with z | z
      · exact z
      · rw [z] at hk; cases hk
    obtain ⟨c, hc⟩ := I.ok.has x (.inl hk)
    obtain ⟨w', z⟩ := I.cell x c hc
    refine wpAny_storeName_cell I.ok.kind hk hc z (fun h' hc' hs => ?_)
    obtain ⟨oc, hoc, hocd⟩ := id z
    refine h { s with heap := h' } ⟨I.ok, I.os, I.bare, ⟨fun b o e n hb hx => ?_, fun b o e n hb hx => ?_, I.base.free, fun b o e hx => ?_, I.base.tups, I.base.frzs, I.base.tbls⟩, ⟨m, hn.sameBut hs (Ne.symm (cne x c hc)), fun j y v' e1 e2 e3 => ?_⟩, fun y c' e => ?_, I.free, I.freeC, fun p hp => ?_, tracked ⟨oc, hoc, I.freeC x c hc⟩ hs, by simpa using I.len⟩ ⟨c, hs, .inr hc⟩
    · exact (hs.2 b (Nat.ne_of_lt (Nat.lt_of_lt_of_le (Heap.lt_size e) (I.ok.cab x c hfn hc)))).trans (I.base.keep b o e n hb hx)
    · obtain ⟨sl, e1⟩ := I.base.slot b o e n hb hx
      exact ⟨sl, (hs.2 b (Nat.ne_of_lt (Nat.lt_of_lt_of_le (Heap.lt_size e) (I.ok.cab x c hfn hc)))).trans e1⟩
    · obtain ⟨o', e1⟩ := I.base.there b o e hx
      exact ⟨o', (hs.2 b (Nat.ne_of_lt (Nat.lt_of_lt_of_le (Heap.lt_size e) (I.ok.cab x c hfn hc)))).trans e1⟩
    · by_cases hj : j = i
      · subst hj
        rw [hi] at e1; cases e1
        rw [List.getElem?_set_self hiσ] at e2
        cases e2
        exact ⟨u, r, .inr ⟨.inl hk, c, hc, hc'⟩⟩
      · rw [List.getElem?_set_ne (Ne.symm hj)] at e2
        obtain ⟨u', r', q⟩ := hl j y v' e1 e2 e3
        refine ⟨u', r', ?_⟩
        rcases q with q | ⟨k, c', e, z'⟩
        · exact .inl q
        · refine .inr ⟨k, c', e, z'.sameBut hs ?_⟩
          rintro rfl
          exact hj (nodup_ix hN e1 (I.ok.inj _ _ _ e hc ▸ hi))
    · by_cases hcc : c' = c
      · subst hcc; exact ⟨_, hc'⟩
      · obtain ⟨w2, z2⟩ := I.cell y c' e
        exact ⟨w2, z2.sameBut hs hcc⟩
    · obtain ⟨e, n, ne, nf, d⟩ := I.pin p hp
      refine ⟨(hs.2 p.1 ?_).trans e, n, ne, nf, d⟩
      intro q
      rw [q, hoc] at e
      have q' : oc = p.2 := Option.some.inj e
      exact d w' (by rw [← q']; exact hocd)
theorem store_ok {M : Model} {A : Around} {E : Value → Shared → Prop} {i : Nat} {x : Str} {v : V} {u : Value} {Q : Unit → Shared → Prop} (I : Inv X pins σ H s) (hN : X.N.Nodup) (hi : X.N[i]? = some x) (hx : Loc X.env.scope x) (r : RelV v u)
    (h : ∀ s', Inv X pins (σ.set i (some v)) H s' → Q () s') (hf : X.fn x = true ∨ X.env.scope.names.lookup x = some .local := by first | exact .inl rfl | exact .inr rfl | assumption) : wpAny M A (storeName X.env x u) Q E s :=
  store_ok2 I hN hi hx r (fun s' I' _ => h s' I') hf
/-- behind a call or a block, the state as it is -/
theorem Inv.call' {s' : Shared} {ch : List Addr} (I : Inv X pins σ H s) (ho : s'.os = s.os) (u : Un (frs X.stack) ch H H' s.heap s'.heap) (hok : HOk X.prog X.w H' s'.heap) (hg : AllBare s'.gens)
    (hch : ∀ b ∈ ch, (b ∈ X.ex ∨ X.s₀.heap.objs.size ≤ b) ∧ b ≠ X.env.locals ∧ (∀ x c, X.env.cells.lookup x = some c → c ≠ b) ∧ ∀ p ∈ X.pn ++ pins, p.1 ≠ b) : Inv X pins σ H' s' := by
  obtain ⟨h', g', d', t', o'⟩ := s'
  have e : o' = s.os := ho
  subst e
  exact I.call (g' := g') (t' := t') (d' := d') u hok hg hch
end

/-! ### the judgements -/
/-- an exception: its class, its own dict's address (where it has one), the abstract heap behind it -/
abbrev XK := Value → Option Addr → Hp → Prop
abbrev St := List (Option V)
abbrev VK := V → Hp → Prop
/-- an expression's reading; a test's; an argument list's -/
abbrev TE := St → Hp → VK → Prop
abbrev TT := St → Hp → (Bool → Hp → Prop) → Prop
abbrev TA := St → Hp → (List V → Hp → Prop) → Prop
/-- what is wanted behind a statement -/
structure Ends where
  nx : St → Hp → Prop
  rt : VK
  bk : St → Hp → Prop := fun _ _ => False
  ct : St → Hp → Prop := fun _ _ => False
abbrev TS := Ends → St → Hp → Prop

def EP (X : Cx) (pins : List (Addr × Obj)) (σ : St) (Q : VK) (u : Value) (s' : Shared) : Prop := ∃ v H', Inv X pins σ H' s' ∧ RelV v u ∧ Q v H'
def TP (X : Cx) (pins : List (Addr × Obj)) (σ : St) (Q : Bool → Hp → Prop) (b : Bool) (s' : Shared) : Prop := ∃ H', Inv X pins σ H' s' ∧ Q b H'
def AP (X : Cx) (pins : List (Addr × Obj)) (σ : St) (Q : List V → Hp → Prop) (us : List Value) (s' : Shared) : Prop := ∃ vs H', Inv X pins σ H' s' ∧ Vals vs us ∧ Q vs H'
def SP (X : Cx) (pins : List (Addr × Obj)) (D : Ends) (f : Flow) (s' : Shared) : Prop :=
  match f with
  | .next => ∃ σ' H', Inv X pins σ' H' s' ∧ D.nx σ' H'
  | .brk => ∃ σ' H', Inv X pins σ' H' s' ∧ D.bk σ' H'
  | .cont => ∃ σ' H', Inv X pins σ' H' s' ∧ D.ct σ' H'
  | .ret u => ∃ v σ' H', Inv X pins σ' H' s' ∧ RelV v u ∧ D.rt v H'

def PE (X : Cx) (e : Expr) (t : TE) : Prop :=
  ∀ (pins : List (Addr × Obj)) (s : Shared) (σ : St) (H : Hp) (Q : VK), Inv X pins σ H s → t σ H Q → wpAny (model X.prog X.w) X.A (eval e X.env) (EP X pins σ Q) X.xe s
def PT (X : Cx) (e : Expr) (t : TT) : Prop :=
  ∀ (pins : List (Addr × Obj)) (s : Shared) (σ : St) (H : Hp) (Q : Bool → Hp → Prop), Inv X pins σ H s → t σ H Q → wpAny (model X.prog X.w) X.A (isTrue e X.env (eval e X.env)) (TP X pins σ Q) X.xe s
/-- a test whatever its 'whole' is (and, or) -/
def PW (X : Cx) (e : Expr) (t : TT) : Prop :=
  ∀ (whole : Sem Value) (pins : List (Addr × Obj)) (s : Shared) (σ : St) (H : Hp) (Q : Bool → Hp → Prop), Inv X pins σ H s → t σ H Q → wpAny (model X.prog X.w) X.A (isTrue e X.env whole) (TP X pins σ Q) X.xe s
theorem PW.pt {X : Cx} {e : Expr} {t : TT} (h : PW X e t) : PT X e t := h _
/-- an argument list (no star), from the left -/
def PA (X : Cx) (es : List Expr) (t : TA) : Prop :=
  ∀ (pos : Pos) (pins : List (Addr × Obj)) (s : Shared) (σ : St) (H : Hp) (Q : List V → Hp → Prop), Inv X pins σ H s → t σ H Q → wpAny (model X.prog X.w) X.A (spliced (backTo pos (starEach es X.env))) (AP X pins σ Q) X.xe s
def PS (X : Cx) (st : Stmt) (t : TS) : Prop :=
  ∀ (pins : List (Addr × Obj)) (s : Shared) (σ : St) (H : Hp) (D : Ends), Inv X pins σ H s → t D σ H → wpAny (model X.prog X.w) X.A (exec st X.env) (SP X pins D) X.xe s
def PSs (X : Cx) (st : List Stmt) (t : TS) : Prop :=
  ∀ (pins : List (Addr × Obj)) (s : Shared) (σ : St) (H : Hp) (D : Ends), Inv X pins σ H s → t D σ H → wpAny (model X.prog X.w) X.A (execs st X.env) (SP X pins D) X.xe s
/-- weaken the end -/
theorem thn {α : Type} {t : Sem α} {Q Q' : α → Shared → Prop} {M : Model} {A : Around} {E : Value → Shared → Prop} {s : Shared} (h : wpAny M A t Q E s) (hQ : ∀ a s, Q a s → Q' a s) : wpAny M A t Q' E s := wpAny_mono h hQ fun _ _ x => x
end L2

namespace L2
open PySem PySem.Spec PyProof.Rows
section
variable {X : Cx}

/-- two expressions in a row -/
theorem bin {a b : Expr} {ta tb : TE} (ha : PE X a ta) (hb : PE X b tb) {pins : List (Addr × Obj)} {s : Shared} {σ : St} {H : Hp} {R : V → V → Hp → Prop} (I : Inv X pins σ H s) (h : ta σ H fun x H1 => tb σ H1 fun y H2 => R x y H2)
    {α : Type} {Q : α → Shared → Prop} {f : Value → Value → Sem α}
    (hf : ∀ v u s2 x y H2, Inv X pins σ H2 s2 → RelV x v → RelV y u → R x y H2 → wpAny (model X.prog X.w) X.A (f v u) Q X.xe s2) :
    wpAny (model X.prog X.w) X.A (eval a X.env) (fun v s₁ => wpAny (model X.prog X.w) X.A (eval b X.env) (fun u s₂ => wpAny (model X.prog X.w) X.A (f v u) Q X.xe s₂) X.xe s₁) X.xe s := by
  refine thn (ha pins s σ H _ I h) fun v s1 ⟨x, H1, I1, r1, q1⟩ => ?_
  refine thn (hb pins s1 σ H1 _ I1 q1) fun u s2 ⟨y, H2, I2, r2, q2⟩ => ?_
  exact hf v u s2 x y H2 I2 r1 r2 q2

/-! ### names and constants -/
def tVar (i : Nat) : TE := fun σ H Q => ∃ v, σ[i]? = some (some v) ∧ Q v H
def tC (v : V) : TE := fun _ H Q => Q v H
theorem pe_var {i : Nat} {x : Str} {pos : Pos} (hN : X.N[i]? = some x) (hv : Vis X.env.scope x) (hd : (x == ("__debug__" : Str)) = false := by decide) (hcd : (x == ("__classdict__" : Str)) = false := by decide) : PE X (.Name x pos) (tVar i) := by
  intro pins s σ H Q I h
  obtain ⟨v, e, h⟩ := h
  obtain ⟨m, hn, hl⟩ := I.loc
  obtain ⟨u, r, l⟩ := hl i x v hN e hv
  have fin : EP X pins σ Q u s := ⟨v, H, I, r, h⟩
  rcases l with ⟨hk, hm⟩ | ⟨hk, c, hc, hcell⟩
  · exact wpAny_Name (wpAny_loadName_local I.ok.kind hk hn hm fin) hd
  · rcases hk with hk | hk
    · exact wpAny_Name (wpAny_loadName_cell I.ok.kind hk hc hcell fin) hd
    · exact wpAny_Name (wpAny_loadName_free I.ok.kind hk hc hcell fin hcd) hd
theorem pe_int {i j pos} : PE X (.Constant (.int i) j pos) (tC (.int i)) := fun _ _ _ H _ I h => wpAny_Constant_int ⟨.int i, H, I.tok _, ⟨_, rfl⟩, h⟩
theorem pe_bl {b j pos} : PE X (.Constant (.bool b) j pos) (tC (.bl b)) := fun _ _ _ H _ I h => Constant_bool ⟨.bl b, H, I, rfl, h⟩
theorem pe_non {j pos} : PE X (.Constant .none j pos) (tC .non) := fun _ _ _ H _ I h => Constant_none ⟨.non, H, I, rfl, h⟩
theorem pe_str {x j pos} : PE X (.Constant (.str x) j pos) (tC (.str x)) := fun _ _ _ H _ I h => Calls.Constant_str ⟨.str x, H, I.tok _, ⟨_, rfl⟩, h⟩

/-- a global name of the def -/
def Gl (X : Cx) (x : Str) : Prop := X.env.kindOf x = some .globalImplicit
theorem ld_glob {E : Value → Shared → Prop} {pins : List (Addr × Obj)} {s : Shared} {σ : St} {H : Hp} {x : Str} {u : Value} {pos : Pos} {Q : Value → Shared → Prop} (I : Inv X pins σ H s) (hg : Gl X x) (hm : X.mg x = some u) (h : Q u s)
    (hd : (x == ("__debug__" : Str)) = false := by decide) : wpAny (model X.prog X.w) X.A (eval (.Name x pos) X.env) Q E s :=
  Calls.Name_function_global I.ok.kind hg (Calls.loadGlobal_global (by rw [I.ok.glob]; exact I.mod.glob.keeps I.bk) hm h) hd
theorem ld_blt {E : Value → Shared → Prop} {pins : List (Addr × Obj)} {s : Shared} {σ : St} {H : Hp} {x : Str} {u : Value} {pos : Pos} {Q : Value → Shared → Prop} (I : Inv X pins σ H s) (hg : Gl X x) (hm : X.mg x = none) (hv : bootBuiltins x = some u) (h : Q u s)
    (hn : x ≠ "__name__" := by decide) (hd : (x == ("__debug__" : Str)) = false := by decide) : wpAny (model X.prog X.w) X.A (eval (.Name x pos) X.env) Q E s := by
  obtain ⟨mb, h1, h2⟩ := I.mod.blt
  exact Calls.Name_function_global I.ok.kind hg (Calls.loadGlobal_builtin (by rw [I.ok.glob]; exact I.mod.glob.keeps I.bk) hm (by rw [I.ok.blt]; exact h1.keeps I.bk) ((h2 x hn).trans hv) h) hd
/-- a module's constant, a class, a function, as a value -/
theorem pe_glob {x : Str} {v : V} {u : Value} {pos : Pos} (hg : Gl X x) (hm : X.mg x = some u) (r : RelV v u) (hd : (x == ("__debug__" : Str)) = false := by decide) : PE X (.Name x pos) (tC v) :=
  fun _ _ _ H _ I h => ld_glob I hg hm ⟨v, H, I, r, h⟩ hd
theorem pe_bltn {x : Str} {v : V} {u : Value} {pos : Pos} (hg : Gl X x) (hm : X.mg x = none) (hv : bootBuiltins x = some u) (r : RelV v u) (hn : x ≠ "__name__" := by decide) (hd : (x == ("__debug__" : Str)) = false := by decide) : PE X (.Name x pos) (tC v) :=
  fun _ _ _ H _ I h => ld_blt I hg hm hv ⟨v, H, I, r, h⟩ hn hd

/-! ### arithmetic -/
/-- two ints -/
def t2I (ta tb : TE) (k : Int → Int → Hp → Prop) : St → Hp → Prop := fun σ H => ta σ H fun x H1 => tb σ H1 fun y H2 => ∃ i j, x = .int i ∧ y = .int j ∧ k i j H2
def tAdd (ta tb : TE) : TE := fun σ H Q => t2I ta tb (fun i j H2 => Q (.int (i + j)) H2) σ H
def tSub (ta tb : TE) : TE := fun σ H Q => t2I ta tb (fun i j H2 => Q (.int (i - j)) H2) σ H
/-- the left factor below 2^64 -/
def tMul (ta tb : TE) : TE := fun σ H Q => t2I ta tb (fun i j H2 => (-(2 ^ 64) < i ∧ i < 2 ^ 64) ∧ Q (.int (i * j)) H2) σ H
variable {a b : Expr} {ta tb : TE} {pos : Pos}
theorem pe_add (ha : PE X a ta) (hb : PE X b tb) : PE X (.BinOp a .Add b pos) (tAdd ta tb) := by
  intro pins s σ H Q I h
  refine wpAny_BinOp (bin ha hb I h fun v u s2 x y H2 I2 rx ry q => ?_)
  obtain ⟨i, j, rfl, rfl, q⟩ := q
  obtain ⟨t, rfl⟩ := rx
  obtain ⟨t', rfl⟩ := ry
  exact add_int ⟨.int _, H2, I2.tok _, ⟨_, rfl⟩, q⟩
theorem pe_sub (ha : PE X a ta) (hb : PE X b tb) : PE X (.BinOp a .Sub b pos) (tSub ta tb) := by
  intro pins s σ H Q I h
  refine wpAny_BinOp (bin ha hb I h fun v u s2 x y H2 I2 rx ry q => ?_)
  obtain ⟨i, j, rfl, rfl, q⟩ := q
  obtain ⟨t, rfl⟩ := rx
  obtain ⟨t', rfl⟩ := ry
  exact sub_int ⟨.int _, H2, I2.tok _, ⟨_, rfl⟩, q⟩
theorem pe_mul (ha : PE X a ta) (hb : PE X b tb) : PE X (.BinOp a .Mult b pos) (tMul ta tb) := by
  intro pins s σ H Q I h
  refine wpAny_BinOp (bin ha hb I h fun v u s2 x y H2 I2 rx ry q => ?_)
  obtain ⟨i, j, rfl, rfl, ⟨q1, q2⟩, q⟩ := q
  obtain ⟨t, rfl⟩ := rx
  obtain ⟨t', rfl⟩ := ry
  exact mul_int ⟨.int _, H2, I2.tok _, ⟨_, rfl⟩, q⟩ (.of_left (intBits_le_64 q1 q2))

/-! ### comparisons -/
def PC (X : Cx) (op : CmpOp) (a b : Expr) (t : TE) : Prop :=
  ∀ (pins : List (Addr × Obj)) (s : Shared) (σ : St) (H : Hp) (Q : VK), Inv X pins σ H s → t σ H Q →
    wpAny (model X.prog X.w) X.A (eval a X.env) (fun v s₁ => wpAny (model X.prog X.w) X.A (eval b X.env) (fun u s₂ => wpAny (model X.prog X.w) X.A (compareOp op v u) (EP X pins σ Q) X.xe s₂) X.xe s₁) X.xe s
theorem nobehind (b : Expr) {op : CmpOp} (h : op ≠ .In) (h2 : op ≠ .NotIn) : behindInMarks op b = false := by
  have e1 : (op == CmpOp.In) = false := by cases op <;> first | rfl | exact absurd rfl h
  have e2 : (op == CmpOp.NotIn) = false := by cases op <;> first | rfl | exact absurd rfl h2
  cases b <;> simp [behindInMarks, e1, e2]
def tCmp (p : Int → Int → Bool) (ta tb : TE) : TE := fun σ H Q => t2I ta tb (fun i j H2 => Q (.bl (p i j)) H2) σ H
abbrev tLt : TE → TE → TE := tCmp fun i j => decide (i < j)
abbrev tLe : TE → TE → TE := tCmp fun i j => decide (i ≤ j)
abbrev tGt : TE → TE → TE := tCmp fun i j => decide (j < i)
abbrev tGe : TE → TE → TE := tCmp fun i j => decide (j ≤ i)
abbrev tEqI : TE → TE → TE := tCmp fun i j => decide (i = j)
abbrev tNeI : TE → TE → TE := tCmp fun i j => !decide (i = j)
/-- a comparison of two ints, by its rule -/
theorem pc_int {op : CmpOp} {p : Int → Int → Bool} (ha : PE X a ta) (hb : PE X b tb)
    (rule : ∀ (i j : Int) (t u : Tok) (Q : Value → Shared → Prop) (s : Shared), Q (.bool (p i j)) s → wpAny (model X.prog X.w) X.A (compareOp op (.int i t) (.int j u)) Q X.xe s) : PC X op a b (tCmp p ta tb) := by
  intro pins s σ H Q I h
  refine bin ha hb I h fun v u s2 x y H2 I2 rx ry q => ?_
  obtain ⟨i, j, rfl, rfl, q⟩ := q
  obtain ⟨t, rfl⟩ := rx
  obtain ⟨t', rfl⟩ := ry
  exact rule i j t t' _ s2 ⟨.bl _, H2, I2, rfl, q⟩
theorem pc_lt (ha : PE X a ta) (hb : PE X b tb) : PC X .Lt a b (tLt ta tb) := pc_int ha hb fun _ _ _ _ _ _ h => lt_int h
theorem pc_le (ha : PE X a ta) (hb : PE X b tb) : PC X .LtE a b (tLe ta tb) := pc_int ha hb fun _ _ _ _ _ _ h => le_int h
theorem pc_gt (ha : PE X a ta) (hb : PE X b tb) : PC X .Gt a b (tGt ta tb) := pc_int ha hb fun _ _ _ _ _ _ h => gt_int h
theorem pc_ge (ha : PE X a ta) (hb : PE X b tb) : PC X .GtE a b (tGe ta tb) := pc_int ha hb fun _ _ _ _ _ _ h => ge_int h
theorem pc_eqI (ha : PE X a ta) (hb : PE X b tb) : PC X .Eq a b (tEqI ta tb) := pc_int ha hb fun _ _ _ _ _ _ h => eq_int (by rw [Bool.beq_eq_decide_eq]; exact h)
theorem pc_neI (ha : PE X a ta) (hb : PE X b tb) : PC X .NotEq a b (tNeI ta tb) := pc_int ha hb fun _ _ _ _ _ _ h => ne_int (by rw [bne, Bool.beq_eq_decide_eq]; exact h)
/-- is None -/
def tIsN (ta : TE) : TE := fun σ H Q => ta σ H fun x H1 => Q (.bl (decide (x = .non))) H1
def tNotN (ta : TE) : TE := fun σ H Q => ta σ H fun x H1 => Q (.bl (!decide (x = .non))) H1
theorem RelV.none_iff {x : V} {v : Value} (r : RelV x v) : (v == Value.none) = decide (x = .non) := by
  cases x with
  | non => cases r; rfl
  | bl _ => cases r; rfl
  | int _ => obtain ⟨t, rfl⟩ := r; rfl
  | str _ => obtain ⟨t, rfl⟩ := r; rfl
  | byt _ => obtain ⟨t, rfl⟩ := r; rfl
  | flt _ => obtain ⟨t, rfl⟩ := r; rfl
  | ref _ => cases r; rfl
  | ty _ => cases r; rfl
theorem pc_isN {j pos'} (ha : PE X a ta) : PC X .Is a (.Constant .none j pos') (tIsN ta) := by
  intro pins s σ H Q I h
  refine thn (ha pins s σ H _ I h) fun v s1 ⟨x, H1, I1, r1, q1⟩ => ?_
  exact Constant_none (is_none_gen ⟨.bl _, H1, I1, by rw [r1.none_iff]; rfl, q1⟩)
theorem pc_notN {j pos'} (ha : PE X a ta) : PC X .IsNot a (.Constant .none j pos') (tNotN ta) := by
  intro pins s σ H Q I h
  refine thn (ha pins s σ H _ I h) fun v s1 ⟨x, H1, I1, r1, q1⟩ => ?_
  exact Constant_none (isnot_none_gen ⟨.bl _, H1, I1, by rw [r1.none_iff]; rfl, q1⟩)
/-- a comparison as a value, as a test -/
def tB (t : TE) : TT := fun σ H Q => t σ H fun x H1 => ∃ c, x = .bl c ∧ Q c H1
theorem pe_cmp {op : CmpOp} {t : TE} (h : PC X op a b t) (h1 : behindInMarks op b = false := by first | exact nobehind _ (by decide) (by decide) | rfl) : PE X (.Compare a [op] [b] pos) t := fun pins s σ H Q I hw => wpAny_Compare1 (h pins s σ H Q I hw) h1
theorem pt_cmp {op : CmpOp} {t : TE} (h : PC X op a b t) (h1 : behindInMarks op b = false := by first | exact nobehind _ (by decide) (by decide) | rfl) : PT X (.Compare a [op] [b] pos) (tB t) := by
  intro pins s σ H Q I hw
  refine wpAny_isTrue_Compare1 (thn (h pins s σ H _ I hw) fun v s1 h1 => thn h1 fun u s2 h2 => thn h2 fun c s3 ⟨x, H1, I1, r1, q1⟩ => ?_) h1
  obtain ⟨d, rfl, q⟩ := q1
  cases r1
  exact wpAny_truthy_bool ⟨H1, I1, q⟩
/-- an expression whose value is a bool, as a test -/
theorem pt_val {e : Expr} {t : TE} (h : PE X e t) (he : ∀ whole, isTrue e X.env whole = (do let v ← whole; standAt e.pos; holding [v] (truthy v)) := by intro _; rfl) : PT X e (tB t) := by
  intro pins s σ H Q I hw
  refine isTrue_plain (thn (h pins s σ H _ I hw) fun v s1 ⟨x, H1, I1, r1, q1⟩ => ?_) (he _)
  obtain ⟨d, rfl, q⟩ := q1
  cases r1
  exact wpAny_truthy_bool ⟨H1, I1, q⟩

/-! ### and, or, not -/
variable {tA tB' : TT} {rest : List Expr}
def tAnd (t u : TT) : TT := fun σ H Q => t σ H fun c H1 => if c = true then u σ H1 Q else Q false H1
def tOr (t u : TT) : TT := fun σ H Q => t σ H fun c H1 => if c = true then Q true H1 else u σ H1 Q
def tNot (t : TT) : TT := fun σ H Q => t σ H fun c H1 => Q (!c) H1
theorem pw_and1 (ha : PT X a tA) : PW X (.BoolOp .And [a] pos) tA := by
  intro wh pins s σ H Q I h
  refine isTrue_and (thn (ha pins s σ H Q I h) fun c s1 e => ?_)
  cases c with
  | true => exact isTrue_and_nil e
  | false => exact e
theorem pw_or1 (ha : PT X a tA) : PW X (.BoolOp .Or [a] pos) tA := by
  intro wh pins s σ H Q I h
  refine isTrue_or (thn (ha pins s σ H Q I h) fun c s1 e => ?_)
  cases c with
  | false => exact isTrue_or_nil e
  | true => exact e
theorem pw_and (ha : PT X a tA) (hb : PW X (.BoolOp .And (b :: rest) pos) tB') : PW X (.BoolOp .And (a :: b :: rest) pos) (tAnd tA tB') := by
  intro wh pins s σ H Q I h
  refine isTrue_and (thn (ha pins s σ H _ I h) fun c s1 ⟨H1, I1, q1⟩ => ?_)
  cases c with
  | true => exact hb wh pins s1 σ H1 Q I1 q1
  | false => exact ⟨H1, I1, q1⟩
theorem pw_or (ha : PT X a tA) (hb : PW X (.BoolOp .Or (b :: rest) pos) tB') : PW X (.BoolOp .Or (a :: b :: rest) pos) (tOr tA tB') := by
  intro wh pins s σ H Q I h
  refine isTrue_or (thn (ha pins s σ H _ I h) fun c s1 ⟨H1, I1, q1⟩ => ?_)
  cases c with
  | true => exact ⟨H1, I1, q1⟩
  | false => exact hb wh pins s1 σ H1 Q I1 q1
theorem pt_not (ha : PT X a tA) : PT X (.UnaryOp .Not a pos) (tNot tA) := by
  intro pins s σ H Q I h
  exact isTrue_not (ha pins s σ H (fun c H1 => Q (!c) H1) I h)
/-- .. as values (bools) -/
def tAndV (ta tb : TE) : TE := fun σ H Q => ta σ H fun x H1 => ∃ c, x = .bl c ∧ if c = true then tb σ H1 Q else Q (.bl false) H1
def tOrV (ta tb : TE) : TE := fun σ H Q => ta σ H fun x H1 => ∃ c, x = .bl c ∧ if c = true then Q (.bl true) H1 else tb σ H1 Q
def tNotV (ta : TE) : TE := fun σ H Q => ta σ H fun x H1 => ∃ c, x = .bl c ∧ Q (.bl (!c)) H1
theorem pe_one {op} {t : TE} (h : PE X a t) : PE X (.BoolOp op [a] pos) t := fun pins s σ H Q I hw => BoolOp_one (h pins s σ H Q I hw)
theorem pe_and (ha : PE X a ta) (hb : PE X (.BoolOp .And (b :: rest) pos) tb) : PE X (.BoolOp .And (a :: b :: rest) pos) (tAndV ta tb) := by
  intro pins s σ H Q I h
  refine BoolOp_and (thn (ha pins s σ H _ I h) fun v s1 ⟨x, H1, I1, r1, q1⟩ => ?_)
  obtain ⟨c, rfl, q1⟩ := q1
  cases r1
  refine wpAny_truthy_bool ?_
  cases c with
  | true => exact hb pins s1 σ H1 Q I1 q1
  | false => exact ⟨.bl false, H1, I1, rfl, q1⟩
theorem pe_or (ha : PE X a ta) (hb : PE X (.BoolOp .Or (b :: rest) pos) tb) : PE X (.BoolOp .Or (a :: b :: rest) pos) (tOrV ta tb) := by
  intro pins s σ H Q I h
  refine BoolOp_or (thn (ha pins s σ H _ I h) fun v s1 ⟨x, H1, I1, r1, q1⟩ => ?_)
  obtain ⟨c, rfl, q1⟩ := q1
  cases r1
  refine wpAny_truthy_bool ?_
  cases c with
  | false => exact hb pins s1 σ H1 Q I1 q1
  | true => exact ⟨.bl true, H1, I1, rfl, q1⟩
theorem pe_not (ha : PE X a ta) : PE X (.UnaryOp .Not a pos) (tNotV ta) := by
  intro pins s σ H Q I h
  refine UnaryOp_ (thn (ha pins s σ H _ I h) fun v s1 ⟨x, H1, I1, r1, q1⟩ => ?_)
  obtain ⟨c, rfl, q1⟩ := q1
  cases r1
  exact not_of (wpAny_truthy_bool ⟨.bl (!c), H1, I1, rfl, q1⟩)
/-- a if t else b -/
def tIf (t : TT) (ta tb : TE) : TE := fun σ H Q => t σ H fun c H1 => if c = true then ta σ H1 Q else tb σ H1 Q
theorem pe_ifExp {c : Expr} (hc : PT X c tA) (ha : PE X a ta) (hb : PE X b tb) : PE X (.IfExp c a b pos) (tIf tA ta tb) := by
  intro pins s σ H Q I h
  refine wpAny_IfExp (thn (hc pins s σ H _ I h) fun d s1 ⟨H1, I1, q1⟩ => ?_)
  cases d with
  | true => exact ha pins s1 σ H1 Q I1 q1
  | false => exact hb pins s1 σ H1 Q I1 q1
end
end L2

namespace L2
open PySem PySem.Spec PyProof.Rows

/-! ### a list, a tuple that is read: tracked, frozen, or an object of the module -/
def SqL (K : PySem.W.Frag) (H : Hp) (a : Addr) (xs : List V) : Prop :=
  Rd H a (.lst xs) ∨
    ∃ (o : Obj) (its : Array Value) (n : Nat), K.lookup a = some o ∧ o.cls = .type "list" ∧ o.dict = none ∧ o.data = .seq its n ∧ its.size ≤ sizeLine ∧ Vals xs its.toList
def SqT (K : PySem.W.Frag) (H : Hp) (a : Addr) (xs : List V) : Prop :=
  Rd H a (.tup xs) ∨
    ∃ (o : Obj) (its : Array Value) (n : Nat), K.lookup a = some o ∧ o.cls = .type "tuple" ∧ o.data = .seq its n ∧ its.size ≤ sizeLine ∧ Vals xs its.toList
def absV : Value → Option V
  | .none => some .non
  | .bool b => some (.bl b)
  | .int i _ => some (.int i)
  | .str x _ => some (.str x)
  | .bytes b _ => some (.byt b)
  | .float b _ => some (.flt b)
  | .ref a => some (.ref a)
  | .type n => some (.ty n)
  | _ => none
theorem RelV.abs {x : V} {u : Value} (r : RelV x u) : absV u = some x := by
  cases x with
  | non => cases r; rfl
  | bl _ => cases r; rfl
  | int _ => obtain ⟨t, rfl⟩ := r; rfl
  | str _ => obtain ⟨t, rfl⟩ := r; rfl
  | byt _ => obtain ⟨t, rfl⟩ := r; rfl
  | flt _ => obtain ⟨t, rfl⟩ := r; rfl
  | ref _ => cases r; rfl
  | ty _ => cases r; rfl
theorem RelV.inj {x y : V} {u : Value} (r : RelV x u) (q : RelV y u) : x = y := Option.some.inj (r.abs.symm.trans q.abs)
theorem Vals.inj : ∀ {xs ys : List V} {us : List Value}, Vals xs us → Vals ys us → xs = ys
  | _, _, _, .nil, .nil => rfl
  | _, _, _, .cons r t, .cons r' t' => by rw [r.inj r', Vals.inj t t']
section
variable {X : Cx} {pins : List (Addr × Obj)} {σ : St} {H : Hp} {s : Shared} {a : Addr} {xs ys : List V}
theorem SqL.of {K : PySem.W.Frag} (h : H a = some (.lst xs)) : SqL K H a xs := .inl (.inl h)
theorem SqT.of {K : PySem.W.Frag} (h : H a = some (.tup xs)) : SqT K H a xs := .inl (.inl h)
theorem Inv.list (I : Inv X pins σ H s) (h : SqL X.K H a xs) : ∃ its : List Value, Vals xs its ∧ PlainL s.heap a its.toArray ∧ xs.length ≤ sizeLine := by
  rcases h with h | ⟨o, its, n, hk, hc, hd, hs, hz, r⟩
  · obtain ⟨z, its, n, r, e⟩ := h.ok I.hok
    exact ⟨its, r, ⟨_, n, e, rfl, rfl, rfl⟩, z⟩
  · refine ⟨its.toList, r, ⟨o, n, I.kIn a o hk, hc, hd, by simpa using hs⟩, ?_⟩
    have e := r.length
    simp only [Array.length_toList] at e
    omega
theorem Inv.tuple (I : Inv X pins σ H s) (h : SqT X.K H a xs) : ∃ its : List Value, Vals xs its ∧ IsTup s.heap a its.toArray ∧ xs.length ≤ sizeLine := by
  rcases h with h | ⟨o, its, n, hk, hc, hs, hz, r⟩
  · obtain ⟨z, its, r, p⟩ := h.ok I.hok
    exact ⟨its, r, p.1, z⟩
  · refine ⟨its.toList, r, ⟨o, I.kIn a o hk, hc, n, by simpa using hs⟩, ?_⟩
    have e := r.length
    simp only [Array.length_toList] at e
    omega
theorem Inv.list_inj (I : Inv X pins σ H s) (h : SqL X.K H a xs) (h' : SqL X.K H a ys) : xs = ys := by
  obtain ⟨its, r, ⟨o, n, e, _, _, d⟩, _⟩ := I.list h
  obtain ⟨its', r', ⟨o', n', e', _, _, d'⟩, _⟩ := I.list h'
  rw [e] at e'; cases e'
  rw [d] at d'
  injection d' with d1 _
  have : its = its' := by simpa using congrArg Array.toList d1
  subst this
  exact r.inj r'
theorem Inv.tuple_inj (I : Inv X pins σ H s) (h : SqT X.K H a xs) (h' : SqT X.K H a ys) : xs = ys := by
  obtain ⟨its, r, ⟨o, e, _, n, d⟩, _⟩ := I.tuple h
  obtain ⟨its', r', ⟨o', e', _, n', d'⟩, _⟩ := I.tuple h'
  rw [e] at e'; cases e'
  rw [d] at d'
  injection d' with d1 _
  have : its = its' := by simpa using congrArg Array.toList d1
  subst this
  exact r.inj r'
end

/-! ### another wish about exceptions -/
abbrev Cx.wish (X : Cx) (E : Value → Shared → Prop) : Cx := { X with xe := E }
/-- no exception leaves -/
abbrev Cx.nox (X : Cx) : Cx := X.wish fun _ _ => False
theorem Cx.Ok.wish {X : Cx} (ok : X.Ok) (E : Value → Shared → Prop) : (X.wish E).Ok :=
  ⟨ok.mod, ok.kind, ok.glob, ok.blt, ok.above, ok.inj, ok.has, ok.cab, ok.hd, ok.frames, ok.stk, ok.exf, ok.bs, ok.bsz, ok.noex, ok.exfs, ok.funs, ok.frf⟩
theorem Cx.Ok.unwish {X : Cx} {E : Value → Shared → Prop} (ok : (X.wish E).Ok) : X.Ok :=
  ⟨ok.mod, ok.kind, ok.glob, ok.blt, ok.above, ok.inj, ok.has, ok.cab, ok.hd, ok.frames, ok.stk, ok.exf, ok.bs, ok.bsz, ok.noex, ok.exfs, ok.funs, ok.frf⟩
section
variable {X : Cx} {pins : List (Addr × Obj)} {σ : St} {H : Hp} {s : Shared} {E : Value → Shared → Prop}
theorem Inv.wish (I : Inv X pins σ H s) (E : Value → Shared → Prop) : Inv (X.wish E) pins σ H s := ⟨I.ok.wish E, I.os, I.bare, I.base, I.loc, I.cell, I.free, I.freeC, I.pin, I.hok, I.len⟩
theorem Inv.unwish (I : Inv (X.wish E) pins σ H s) : Inv X pins σ H s := ⟨I.ok.unwish, I.os, I.bare, I.base, I.loc, I.cell, I.free, I.freeC, I.pin, I.hok, I.len⟩
theorem SP.unwish {D : Ends} {f : Flow} {s' : Shared} (h : SP (X.wish E) pins D f s') : SP X pins D f s' := by
  cases f with
  | next => obtain ⟨σ', H', I, q⟩ := h; exact ⟨σ', H', I.unwish, q⟩
  | brk => obtain ⟨σ', H', I, q⟩ := h; exact ⟨σ', H', I.unwish, q⟩
  | cont => obtain ⟨σ', H', I, q⟩ := h; exact ⟨σ', H', I.unwish, q⟩
  | ret u => obtain ⟨v, σ', H', I, r, q⟩ := h; exact ⟨v, σ', H', I.unwish, r, q⟩
theorem PE.nox {e : Expr} {t : TE} (h : PE X.nox e t) : PE X e t := fun pins s σ H Q I hw =>
  wpAny_mono (h pins s σ H Q (I.wish _) hw) (fun _ _ ⟨v, H', I', r, q⟩ => ⟨v, H', I'.unwish, r, q⟩) fun _ _ z => False.elim z
theorem PT.nox {e : Expr} {t : TT} (h : PT X.nox e t) : PT X e t := fun pins s σ H Q I hw =>
  wpAny_mono (h pins s σ H Q (I.wish _) hw) (fun _ _ ⟨H', I', q⟩ => ⟨H', I'.unwish, q⟩) fun _ _ z => False.elim z
theorem PSs.nox {st : List Stmt} {t : TS} (h : PSs X.nox st t) : PSs X st t := fun pins s σ H D I hw =>
  wpAny_mono (h pins s σ H D (I.wish _) hw) (fun _ _ q => q.unwish) fun _ _ z => False.elim z
end

/-! ### blocks and small statements -/
section
variable {X : Cx} {st : Stmt} {rest : List Stmt} {t u : TS} {e : Expr} {te : TE} {pos : Pos}
def tNext : TS := fun D σ H => D.nx σ H
def tSeq (t u : TS) : TS := fun D σ H => t { D with nx := u D } σ H
theorem pss_nil : PSs X [] tNext := fun _ _ σ H _ I h => wpAny_execs_nil ⟨σ, H, I, h⟩
theorem pss_cons (h1 : PS X st t) (h2 : PSs X rest u) : PSs X (st :: rest) (tSeq t u) := by
  intro pins s σ H D I h
  refine wpAny_execs_cons (thn (h1 pins s σ H { D with nx := u D } I h) fun f s1 q => ?_)
  cases f with
  | next =>
    obtain ⟨σ', H', I', q⟩ := q
    exact h2 pins s1 σ' H' D I' q
  | ret v => exact q
  | brk => exact q
  | cont => exact q
theorem pss_one (h1 : PS X st t) : PSs X [st] t := by
  intro pins s σ H D I h
  refine wpAny_execs_cons (thn (h1 pins s σ H D I h) fun f s1 q => ?_)
  cases f with
  | next => exact wpAny_execs_nil q
  | ret v => exact q
  | brk => exact q
  | cont => exact q
def tBreak : TS := fun D σ H => D.bk σ H
def tCont : TS := fun D σ H => D.ct σ H
theorem ps_pass : PS X (.Pass pos) tNext := fun _ _ σ H _ I h => wpAny_Pass ⟨σ, H, I, h⟩
theorem ps_break : PS X (.Break pos) tBreak := fun _ _ σ H _ I h => wpAny_Break ⟨σ, H, I, h⟩
theorem ps_continue : PS X (.Continue pos) tCont := fun _ _ σ H _ I h => wpAny_Continue ⟨σ, H, I, h⟩
/-- in a def's body nothing is shown -/
theorem Inv.quiet {pins : List (Addr × Obj)} {σ : St} {H : Hp} {s : Shared} (I : Inv X pins σ H s) : interactive X.env = false := by simp [interactive, I.ok.kind]
/-- a docstring -/
theorem ps_doc {x j pos pos'} : PS X (.Expr (.Constant (.str x) j pos) pos') tNext := fun _ s σ H _ I h => wpAny_Expr (Calls.Constant_str (show SP X _ _ .next { s with toks := s.toks + 1 } from ⟨σ, H, I.tok _, h⟩)) I.quiet
/-- an expression whose value is dropped -/
def tDrop (te : TE) : TS := fun D σ H => te σ H fun _ H1 => D.nx σ H1
theorem ps_expr (he : PE X e te) (hs : swapsWith e none pos.line X.env = pure false := by rfl) : PS X (.Expr e pos) (tDrop te) := by
  intro pins s σ H D I h
  exact wpAny_Expr_any (thn (he pins s σ H _ I h) fun v s1 ⟨x, H1, I1, r1, q1⟩ => ⟨σ, H1, I1, q1⟩) I.quiet hs
def tRet (te : TE) : TS := fun D σ H => te σ H D.rt
theorem ps_ret (he : PE X e te) : PS X (.Return (some e) pos) (tRet te) := by
  intro pins s σ H D I h
  exact wpAny_Return_some (thn (he pins s σ H _ I h) fun v s1 ⟨x, H1, I1, r1, q1⟩ => ⟨x, σ, H1, I1, r1, q1⟩)
def tRetN : TS := fun D _ H => D.rt .non H
theorem ps_retN : PS X (.Return none pos) tRetN := fun _ _ σ H _ I h => wpAny_Return_none ⟨.non, σ, H, I, rfl, h⟩
def tIfS (c : TT) (t u : TS) : TS := fun D σ H => c σ H fun b H1 => if b = true then t D σ H1 else u D σ H1
theorem ps_if {c : Expr} {a b : List Stmt} {tc : TT} (hc : PT X c tc) (ha : PSs X a t) (hb : PSs X b u) : PS X (.If c a b pos) (tIfS tc t u) := by
  intro pins s σ H D I h
  refine wpAny_If (thn (hc pins s σ H _ I h) fun d s1 ⟨H1, I1, q1⟩ => ?_)
  cases d with
  | true => exact ha pins s1 σ H1 D I1 q1
  | false => exact hb pins s1 σ H1 D I1 q1
/-- code that the proof never comes to -/
def tNever : TS := fun _ _ _ => False
theorem ps_never : PS X st tNever := fun _ _ _ _ _ _ h => h.elim
theorem pss_never {sts : List Stmt} : PSs X sts tNever := fun _ _ _ _ _ _ h => h.elim
end

/-! ### targets -/
abbrev TG := V → St → Hp → (St → Hp → Prop) → Prop
abbrev TGs := List V → St → Hp → (St → Hp → Prop) → Prop
def PG (X : Cx) (target : Expr) (t : TG) : Prop :=
  ∀ (pins : List (Addr × Obj)) (s : Shared) (σ : St) (H : Hp) (v : V) (u : Value) (Q : St → Hp → Prop), Inv X pins σ H s → RelV v u → t v σ H Q →
    wpAny (model X.prog X.w) X.A (assign target X.env u) (fun _ s' => ∃ σ' H', Inv X pins σ' H' s' ∧ Q σ' H') X.xe s
/-- several targets, one after another -/
def PGs (X : Cx) (ts : List Expr) (t : TGs) : Prop :=
  ∀ (pins : List (Addr × Obj)) (s : Shared) (σ : St) (H : Hp) (vs : List V) (us : List Value) (Q : St → Hp → Prop), Inv X pins σ H s → Vals vs us → t vs σ H Q →
    wpAny (model X.prog X.w) X.A (assignInOrder ((assignEach ts X.env).map (·.2)) us) (fun _ s' => ∃ σ' H', Inv X pins σ' H' s' ∧ Q σ' H') X.xe s
/-- o[i] = v, by values -/
abbrev TSet := V → V → V → Hp → (Hp → Prop) → Prop
def PSet (X : Cx) (t : TSet) : Prop :=
  ∀ (pins : List (Addr × Obj)) (s : Shared) (σ : St) (H : Hp) (o i v : V) (ov iv u : Value) (Q : Hp → Prop), Inv X pins σ H s → RelV o ov → RelV i iv → RelV v u → t o i v H Q →
    wpAny (model X.prog X.w) X.A (setItem ov iv u) (fun _ s' => ∃ H', Inv X pins σ H' s' ∧ Q H') X.xe s
/-- a op= b, by values -/
abbrev TIp := V → V → Hp → VK → Prop
def PIp (X : Cx) (op : Operator) (t : TIp) : Prop :=
  ∀ (pins : List (Addr × Obj)) (s : Shared) (σ : St) (H : Hp) (x y : V) (v u : Value) (Q : VK), Inv X pins σ H s → RelV x v → RelV y u → t x y H Q →
    wpAny (model X.prog X.w) X.A (inplaceOp op v u) (EP X pins σ Q) X.xe s
section
variable {X : Cx} {pos : Pos}
def gName (i : Nat) : TG := fun v σ H Q => Q (σ.set i (some v)) H
theorem pg_name {i : Nat} {x : Str} (hN : X.N.Nodup) (hi : X.N[i]? = some x) (hx : Loc X.env.scope x) (hf : X.fn x = true ∨ X.env.scope.names.lookup x = some .local := by first | exact .inl rfl | exact .inr rfl | assumption) : PG X (.Name x pos) (gName i) := by
  intro pins s σ H v u Q I r h
  exact wpAny_assign_Name (store_ok I hN hi hx r (fun s' I' => ⟨_, H, I', h⟩) hf)
def gNil : TGs := fun vs σ H Q => vs = [] ∧ Q σ H
def gCons (t : TG) (u : TGs) : TGs := fun vs σ H Q => ∃ v r, vs = v :: r ∧ t v σ H fun σ' H' => u r σ' H' Q
theorem pgs_nil : PGs X [] gNil := by
  intro pins s σ H vs us Q I r h
  obtain ⟨e, h⟩ := h
  subst e
  cases r
  exact assignInOrder_nil ⟨σ, H, I, h⟩
theorem pgs_cons {e : Expr} {es : List Expr} {t : TG} {u : TGs} (h1 : PG X e t) (h2 : PGs X es u)
    (hs : (assignEach (e :: es) X.env).map (·.2) = assign e X.env :: (assignEach es X.env).map (·.2) := by rfl) : PGs X (e :: es) (gCons t u) := by
  intro pins s σ H vs us Q I r h
  obtain ⟨v, vr, e1, h⟩ := h
  subst e1
  cases r with
  | cons r rr =>
    rw [hs]
    refine assignInOrder_cons (thn (h1 pins s σ H _ _ _ I r h) fun _ s1 ⟨σ1, H1, I1, q1⟩ => ?_)
    exact h2 pins s1 σ1 H1 _ _ Q I1 rr q1
/-- (a, b, ..) = a tuple of that length -/
def gTup (K : PySem.W.Frag) (n : Nat) (t : TGs) : TG := fun v σ H Q => ∃ a xs, v = .ref a ∧ SqT K H a xs ∧ xs.length = n ∧ t xs σ H Q
theorem pg_tup {es : List Expr} {k : Nat} {t : TGs} {n : Nat} (hc : X.calm = true) (h : PGs X es t)
    (hn : (assignEach es X.env).length = n := by rfl) (hst : (assignEach es X.env).findIdx? (·.1) = none := by rfl) : PG X (.Tuple es k pos) (gTup X.K n t) := by
  intro pins s σ H v u Q I r hw
  obtain ⟨a, xs, e1, hq, hl, hw⟩ := hw
  subst e1
  cases r
  obtain ⟨its, rv, ht, hz⟩ := I.tuple hq
  refine assign_Tuple_tuple (I.ok.hd hc) ht (by simp [hn, ← hl, rv.length]) hst fun h' hx => ?_
  have I1 : Inv X pins σ H { s with heap := h' } := I.kept (t' := s.toks) fun b o e => hx b o (Nat.ne_of_lt (Heap.lt_size e)) e
  exact h pins _ σ H xs _ Q I1 (by simpa using rv) hw
/-- o[i] = .. -/
def gSub (to ti : TE) (t : TSet) : TG := fun v σ H Q => to σ H fun o H1 => ti σ H1 fun i H2 => t o i v H2 fun H3 => Q σ H3
theorem pg_sub {o i : Expr} {to ti : TE} {t : TSet} (ho : PE X o to) (hi : PE X i ti) (hs : PSet X t)
    (ha : ∀ v, assign (.Subscript o i pos) X.env v = (do
      let ov ← holding [v] (eval o X.env)
      let iv ← holding [v, ov] (eval i X.env)
      standAt pos
      holding [v, ov, iv] (setItem ov iv v)
      release [v, ov, iv] []) := by intro _; rfl) : PG X (.Subscript o i pos) (gSub to ti t) := by
  intro pins s σ H v u Q I r h
  rw [ha]
  refine wpAny_bind (wpAny_holding (thn (ho pins s σ H _ I h) fun ov s1 ⟨x, H1, I1, r1, q1⟩ => ?_))
  refine wpAny_bind (wpAny_holding (thn (hi pins s1 σ H1 _ I1 q1) fun iv s2 ⟨y, H2, I2, r2, q2⟩ => ?_))
  refine wpAny_bind (wpAny_standAt (wpAny_bind (wpAny_holding (thn (hs pins s2 σ H2 x y v ov iv u _ I2 r1 r2 r q2) fun _ s3 ⟨H3, I3, q3⟩ => ?_))))
  exact wpAny_release ⟨σ, H3, I3, q3⟩
/-- target = value -/
def tAsg (te : TE) (g : TG) : TS := fun D σ H => te σ H fun x H1 => g x σ H1 D.nx
theorem ps_asg {tg e : Expr} {te : TE} {g : TG} (he : PE X e te) (hg : PG X tg g) (hs : swapsWithSole [tg] e pos.line X.env = pure false := by rfl) (hw : swappedStores [tg] e X.env = pure none := by rfl)
    (h1 : (assignEach [tg] X.env).map (·.2) = [assign tg X.env] := by rfl) : PS X (.Assign [tg] e pos) (tAsg te g) := by
  intro pins s σ H D I h
  refine wpAny_Assign_stores (thn (he pins s σ H _ I h) fun v s1 ⟨x, H1, I1, r1, q1⟩ => ?_) hs hw
  rw [h1]
  exact thn (hg pins s1 σ H1 x v _ I1 r1 q1) fun _ s2 q => q
/-- name = value -/
theorem ps_set {i : Nat} {x : Str} {e : Expr} {te : TE} {pos' : Pos} (hN : X.N.Nodup) (hi : X.N[i]? = some x) (hx : Loc X.env.scope x) (he : PE X e te) (hs : swapsWith e (some (.Name x pos')) pos.line X.env = pure false := by rfl) (hf : X.fn x = true ∨ X.env.scope.names.lookup x = some .local := by first | exact .inl rfl | exact .inr rfl | assumption) :
    PS X (.Assign [.Name x pos'] e pos) (tAsg te (gName i)) := by
  intro pins s σ H D I h
  refine wpAny_Assign_Name (thn (he pins s σ H _ I h) fun v s1 ⟨y, H1, I1, r1, q1⟩ => ?_) hs
  exact store_ok I1 hN hi hx r1 (fun s2 I2 => ⟨_, H1, I2, q1⟩) hf
/-- a, b = x, y with plain local names: stored from the right; the pair itself is not tracked (the opening rows as in PyProof/Rows/TupAssign.lean:23) -/
def tPar (i j : Nat) (ta : TA) : TS := fun D σ H => ta σ H fun vs H1 => ∃ v w, vs = [v, w] ∧ D.nx ((σ.set i (some v)).set j (some w)) H1
theorem ps_par {i j : Nat} {x y : Str} {a b : Expr} {ta : TA} {px py pt : Pos} {kt k2 pt2} (hc : X.calm = true) (hN : X.N.Nodup) (hi : X.N[i]? = some x) (hj : X.N[j]? = some y) (hij : i ≠ j)
    (hx : X.env.scope.names.lookup x = some .local) (hy : X.env.scope.names.lookup y = some .local) (ha : PA X [a, b] ta)
    (hw : swappedStores [.Tuple [.Name x px, .Name y py] kt pt] (.Tuple [a, b] k2 pt2) X.env = pure (some [x, y]))
    (hs : swapsWithSole [.Tuple [.Name x px, .Name y py] kt pt] (.Tuple [a, b] k2 pt2) pos.line X.env = pure false := by rfl) :
    PS X (.Assign [.Tuple [.Name x px, .Name y py] kt pt] (.Tuple [a, b] k2 pt2) pos) (tPar i j ta) := by
  intro pins s σ H D I h
  rw [exec_Assign_arm]
  refine wpAny_bind (wpAny_standAt ?_)
  rw [hs]
  refine wpAny_bind (wpAny_pure ?_)
  rw [if_neg (by decide)]
  refine wpAny_bind (Tuple_ (thn (ha _ pins s σ H _ I h) fun us s1 ⟨vs, H1, I1, r1, q1⟩ => ?_))
  obtain ⟨v, w, e1, q1⟩ := q1
  subst e1
  obtain ⟨u1, u2, rfl, rv, rw'⟩ : ∃ u1 u2, us = [u1, u2] ∧ RelV v u1 ∧ RelV w u2 := by
    cases r1 with
    | cons p q =>
      cases q with
      | cons p' q' =>
        cases q'
        exact ⟨_, _, rfl, p, p'⟩
  refine wpAny_newObj_type ?_ (by show 2 ≤ sizeLine; decide)
  have I2 : Inv X pins σ H1 { s1 with heap := s1.heap.push { cls := .type "tuple", data := .seq [u1, u2].toArray } } := I1.kept (t' := s1.toks) fun b o e => Heap.get?_push_of_some _ e
  rw [hw]
  refine wpAny_bind (wpAny_pure ?_)
  show wpAny (model X.prog X.w) X.A (do rule "assign.swapped-stores"; let items ← unpackItems (.ref s1.heap.objs.size) 2 none; assignInOrder [fun v => bindName X.env y v, fun v => bindName X.env x v] items.reverse; pure Flow.next) _ _ _
  refine wpAny_bind (wpAny_rule (wpAny_bind (unpackItems_tuple (items := #[u1, u2]) (I.ok.hd hc) (IsTup.new s1.heap _) fun h' hx' => ?_)))
  have I3 := I2.kept (h' := h') (t' := s1.toks) fun b o e => hx' b o (Nat.ne_of_lt (Heap.lt_size e)) e
  show wpAny _ _ (assignInOrder [fun v => bindName X.env y v, fun v => bindName X.env x v] [u2, u1] >>= fun _ => pure Flow.next) _ _ _
  refine wpAny_bind (assignInOrder_cons (wpAny_bindName (store_ok I3 hN hj (.inl hy) rw' (fun s2 I4 => ?_) (.inr hy))))
  refine assignInOrder_cons (wpAny_bindName (store_ok I4 hN hi (.inl hx) rv (fun s3 I5 => assignInOrder_nil (wpAny_pure ?_)) (.inr hx)))
  rw [List.set_comm _ _ (Ne.symm hij)] at I5
  exact ⟨_, H1, I5, q1⟩
/-- name op= e -/
def tAug (i : Nat) (te : TE) (ti : TIp) : TS := fun D σ H => ∃ x, σ[i]? = some (some x) ∧ te σ H fun y H1 => ti x y H1 fun z H2 => D.nx (σ.set i (some z)) H2
theorem ps_aug {i : Nat} {x : Str} {e : Expr} {te : TE} {op : Operator} {ti : TIp} {pos' : Pos} (hN : X.N.Nodup) (hi : X.N[i]? = some x) (hx : Loc X.env.scope x) (he : PE X e te) (ho : PIp X op ti) (hf : X.fn x = true ∨ X.env.scope.names.lookup x = some .local := by first | exact .inl rfl | exact .inr rfl | assumption) :
    PS X (.AugAssign (.Name x pos') op e pos) (tAug i te ti) := by
  intro pins s σ H D I h
  obtain ⟨v, e1, h⟩ := h
  obtain ⟨m, hn, hl⟩ := I.loc
  have vis : Vis X.env.scope x := by rcases hx with k | k; exact .inl k; exact .inr (.inl k)
  obtain ⟨u, r, l⟩ := hl i x v hi e1 vis
  refine wpAny_AugAssign_Name ?_
  have go : wpAny (model X.prog X.w) X.A (eval e X.env) (fun w s₂ => wpAny (model X.prog X.w) X.A (inplaceOp op u w) (fun r s₃ => wpAny (model X.prog X.w) X.A (storeName X.env x r) (fun _ => SP X pins D .next) X.xe s₃) X.xe s₂) X.xe s := by
    refine thn (he pins s σ H _ I h) fun w s1 ⟨y, H1, I1, r1, q1⟩ => ?_
    refine thn (ho pins s1 σ H1 v y u w _ I1 r r1 q1) fun z s2 ⟨zv, H2, I2, r2, q2⟩ => ?_
    exact store_ok I2 hN hi hx r2 (fun s3 I3 => ⟨_, H2, I3, q2⟩) hf
  rcases l with ⟨hk, hm⟩ | ⟨hk, c, hc, hcell⟩
  · exact wpAny_loadName_local I.ok.kind hk hn hm go
  · rcases hk with hk | hk
    · exact wpAny_loadName_cell I.ok.kind hk hc hcell go
    · rcases hx with k | k
      · have : X.env.scope.names.lookup x = some .free := hk
        rw [k] at this; cases this
      · have : X.env.scope.names.lookup x = some .free := hk
        rw [k] at this; cases this
/-- o[i] op= e -/
def tAugS (to ti te : TE) (tget : V → V → Hp → VK → Prop) (tip : TIp) (tset : TSet) : TS := fun D σ H => to σ H fun o H1 => ti σ H1 fun i H2 => tget o i H2 fun x H3 => te σ H3 fun y H4 => tip x y H4 fun z H5 => tset o i z H5 fun H6 => D.nx σ H6
/-- o[i], by values -/
def PGet (X : Cx) (t : V → V → Hp → VK → Prop) : Prop :=
  ∀ (pins : List (Addr × Obj)) (s : Shared) (σ : St) (H : Hp) (o i : V) (ov iv : Value) (Q : VK), Inv X pins σ H s → RelV o ov → RelV i iv → t o i H Q →
    wpAny (model X.prog X.w) X.A (getItem ov iv) (EP X pins σ Q) X.xe s
theorem ps_augS {o i e : Expr} {to ti te : TE} {tget : V → V → Hp → VK → Prop} {tip : TIp} {tset : TSet} {op : Operator} {tpos : Pos} (ho : PE X o to) (hi : PE X i ti) (hg : PGet X tget) (he : PE X e te) (hp : PIp X op tip) (hs : PSet X tset)
    (ha : ∀ ov iv new, augStore i ov iv new = (do holding [new, ov, iv] (setItem ov iv new); release [new, ov, iv] []; pure .next) := by intros; rfl) : PS X (.AugAssign (.Subscript o i tpos) op e pos) (tAugS to ti te tget tip tset) := by
  intro pins s σ H D I h
  refine wpAny_AugAssign_SubscriptAny (thn (ho pins s σ H _ I h) fun ov s1 ⟨x1, H1, I1, r1, q1⟩ => ?_) ha
  refine thn (hi pins s1 σ H1 _ I1 q1) fun iv s2 ⟨x2, H2, I2, r2, q2⟩ => ?_
  refine thn (hg pins s2 σ H2 x1 x2 ov iv _ I2 r1 r2 q2) fun old s3 ⟨x3, H3, I3, r3, q3⟩ => ?_
  refine thn (he pins s3 σ H3 _ I3 q3) fun v s4 ⟨x4, H4, I4, r4, q4⟩ => ?_
  refine thn (hp pins s4 σ H4 x3 x4 old v _ I4 r3 r4 q4) fun new s5 ⟨x5, H5, I5, r5, q5⟩ => ?_
  exact thn (hs pins s5 σ H5 x1 x2 x5 ov iv new _ I5 r1 r2 r5 q5) fun _ s6 ⟨H6, I6, q6⟩ => ⟨σ, H6, I6, q6⟩
/-- ints -/
def ipI (f : Int → Int → Int) : TIp := fun x y H Q => ∃ i j, x = .int i ∧ y = .int j ∧ Q (.int (f i j)) H
theorem ip_add : PIp X .Add (ipI fun i j => i + j) := by
  intro pins s σ H x y v u Q I r1 r2 h
  obtain ⟨i, j, e1, e2, q⟩ := h
  subst e1; subst e2
  obtain ⟨t, rfl⟩ := r1
  obtain ⟨t', rfl⟩ := r2
  exact iadd_int ⟨.int _, H, I.tok _, ⟨_, rfl⟩, q⟩
theorem ip_sub : PIp X .Sub (ipI fun i j => i - j) := by
  intro pins s σ H x y v u Q I r1 r2 h
  obtain ⟨i, j, e1, e2, q⟩ := h
  subst e1; subst e2
  obtain ⟨t, rfl⟩ := r1
  obtain ⟨t', rfl⟩ := r2
  exact isub_int ⟨.int _, H, I.tok _, ⟨_, rfl⟩, q⟩
end

/-! ### while -/
section
variable {X : Cx} {pos : Pos}
/-- the invariant W with its measure -/
def tWhile (c : TT) (tb : TS) : TS := fun D σ H => ∃ W : Nat → St → Hp → Prop, (∃ m, W m σ H) ∧ ∀ m σ H, W m σ H →
  c σ H fun b H1 => if b = true then ∃ N : St → Hp → Prop, (∀ σ' H', N σ' H' → ∃ m', m' < m ∧ W m' σ' H') ∧ tb { D with nx := N, ct := N, bk := D.nx } σ H1 else D.nx σ H1
theorem ps_while {c : Expr} {body : List Stmt} {tc : TT} {tb : TS} (hp : PassesOwn (model X.prog X.w) X.A X.env X.xe) (hc : PT X c tc) (hb : PSs X body tb) : PS X (.While c body [] pos) (tWhile tc tb) := by
  intro pins s σ H D I h
  obtain ⟨W, ⟨m0, w0⟩, turn⟩ := h
  refine wpAny_While (codeAny_whileLoop (fun n s' => ∃ σ' H', Inv X pins σ' H' s' ∧ W n σ' H') ?_ m0 ⟨σ, H, I, w0⟩)
  rintro n s1 ⟨σ1, H1, I1, w1⟩
  refine wpAny_passesOwn hp (thn (hc pins s1 σ1 H1 _ I1 (turn n σ1 H1 w1)) fun b s2 ⟨H2, I2, q2⟩ => ?_)
  cases b with
  | true =>
    obtain ⟨N, hN, q2⟩ := q2
    rw [if_pos rfl]
    refine wpAny_passesOwn hp (thn (hb pins s2 σ1 H2 _ I2 q2) fun f s3 q3 => ?_)
    cases f with
    | next =>
      obtain ⟨σ3, H3, I3, n3⟩ := q3
      obtain ⟨m', hm, w3⟩ := hN σ3 H3 n3
      exact ⟨m', hm, σ3, H3, I3, w3⟩
    | cont =>
      obtain ⟨σ3, H3, I3, n3⟩ := q3
      obtain ⟨m', hm, w3⟩ := hN σ3 H3 n3
      exact ⟨m', hm, σ3, H3, I3, w3⟩
    | brk => exact q3
    | ret v => exact q3
  | false =>
    rw [if_neg Bool.false_ne_true]
    exact wpAny_execs_nil ⟨σ1, H2, I2, q2⟩
end

/-! ### what a loop or a comprehension walks -/
/-- at turn i: it yields x (the heap may grow), or it stops -/
structure It where
  go : Nat → Hp → Prop
  yld : Nat → Hp → V → Hp → Prop
  stop : Nat → Hp → Prop
/-- the iterator's own objects may turn: they are not the frame's, not pinned, younger than the entry (or a comprehension's own) -/
def FpOk (X : Cx) (pins : List (Addr × Obj)) (H : Hp) (b : Addr) : Prop :=
  H b = none ∧ b ≠ X.env.locals ∧ b ∉ X.fs ∧ (b ∈ X.ex ∨ X.s₀.heap.objs.size ≤ b) ∧ (∀ x c, X.env.cells.lookup x = some c → c ≠ b) ∧ ∀ p ∈ X.pn ++ pins, p.1 ≠ b
theorem Inv.fpOk {X : Cx} {pins : List (Addr × Obj)} {σ : St} {H H' : Hp} {s : Shared} {b : Addr} (I : Inv X pins σ H s) (hb : s.heap.objs.size ≤ b) (hn : H' b = none) : FpOk X pins H' b := by
  refine ⟨hn, Nat.ne_of_gt (Nat.lt_of_lt_of_le I.lt hb), I.nofs hb, .inr (Nat.le_trans I.sz hb), fun x c e z => ?_, fun p hp z => ?_⟩
  · obtain ⟨v, q⟩ := I.cell x c e
    exact absurd (Nat.lt_of_lt_of_le q.lt (by rw [z]; exact hb)) (Nat.lt_irrefl _)
  · exact absurd (Nat.lt_of_lt_of_le (Heap.lt_size (I.pin p hp).1) (by rw [z]; exact hb)) (Nat.lt_irrefl _)
structure Turn (P : Program) (w : World) (K : PySem.W.Frag) (tg : Expr) (J : It) (fp : List Addr) (it : Addr) (tn : Nat → Heap → Prop) : Prop where
  mem : it ∈ fp
  obj : ∀ i h, tn i h → ∀ b ∈ fp, ∃ o, h.get? b = some o ∧ ∀ v, o.data ≠ .cell v
  keep : ∀ i h h', tn i h → (∀ b ∈ fp, ∀ o, h.get? b = some o → h'.get? b = some o) → tn i h'
  item : ∀ (X : Cx), X.prog = P → X.w = w → X.K = K → X.calm = true → ∀ (i : Nat) (pins : List (Addr × Obj)) (s : Shared) (σ : St) (H : Hp) (E : Value → Shared → Prop), Inv X pins σ H s → (∀ b ∈ fp, FpOk X pins H b) → tn i s.heap → J.go i H →
    wpAny (model P w) X.A (pyNext (.ref it)) (fun r s1 => ∃ u, r = some u ∧
      wpAny (model P w) X.A (letOwnedTupleGo tg (.ref it) u) (fun _ s2 => ∃ x H', Inv X pins σ H' s2 ∧ RelV x u ∧ J.yld i H x H' ∧ tn (i + 1) s2.heap ∧ ∀ b ∈ fp, H' b = none) E s1) E s
  done : ∀ (X : Cx), X.prog = P → X.w = w → X.K = K → X.calm = true → ∀ (i : Nat) (pins : List (Addr × Obj)) (s : Shared) (σ : St) (H : Hp) (E : Value → Shared → Prop), Inv X pins σ H s → (∀ b ∈ fp, FpOk X pins H b) → tn i s.heap → J.stop i H →
    wpAny (model P w) X.A (pyNext (.ref it)) (fun r s1 => r = none ∧ Inv X pins σ H s1) E s
  self : ∀ (A : Around) (i : Nat) (s : Shared) (Q : Value → Shared → Prop) (E : Value → Shared → Prop), tn i s.heap → Q (.ref it) s → wpAny (model P w) A (pyIter (.ref it)) Q E s
abbrev TI := St → Hp → (It → Hp → Prop) → Prop
/-- an iterator has come -/
def PIE (X : Cx) (pins : List (Addr × Obj)) (σ : St) (tg : Expr) (R : It → Hp → Prop) (itv : Value) (s2 : Shared) : Prop :=
  ∃ (it : Addr) (fp : List Addr) (tn : Nat → Heap → Prop) (J : It) (H' : Hp), itv = .ref it ∧ Inv X pins σ H' s2 ∧ Turn X.prog X.w X.K tg J fp it tn ∧ tn 0 s2.heap ∧ (∀ b ∈ fp, FpOk X pins H' b) ∧ R J H'
def PI (X : Cx) (tg iter : Expr) (wi : TI) : Prop :=
  ∀ (pins : List (Addr × Obj)) (s : Shared) (σ : St) (H : Hp) (R : It → Hp → Prop), Inv X pins σ H s → wi σ H R →
    wpAny (model X.prog X.w) X.A (eval iter X.env) (fun v s1 => wpAny (model X.prog X.w) X.A (pyIter v) (PIE X pins σ tg R) X.xe s1) X.xe s

/-- the step ahead of the store is nothing for an iterator that keeps no tuple -/
theorem go_of {M : Model} {A : Around} {E : Value → Shared → Prop} {s : Shared} {tg : Expr} {it : Addr} {u : Value} {o : Obj} {n : String} {vs : Array Value} {Q : Unit → Shared → Prop} (ho : s.heap.get? it = some o) (hc : o.cls = .type n) (hd : o.data = .fields vs)
    (hn : ["enumerate", "zip", "dict_itemiterator", "dict_reverseitemiterator", "odict_iterator", "itertools.zip_longest", "itertools.pairwise"].contains n = false) (hQ : Q () s) : wpAny M A (letOwnedTupleGo tg (.ref it) u) Q E s := by
  unfold letOwnedTupleGo
  cases tg <;> first
    | exact wpAny_pure hQ
    | (cases u <;> first
        | exact wpAny_pure hQ
        | (refine wpAny_bind (wpAny_load ho ?_)
           rw [hc, hd]
           show wpAny M A (if (["enumerate", "zip", "dict_itemiterator", "dict_reverseitemiterator", "odict_iterator", "itertools.zip_longest", "itertools.pairwise"].contains n && vs[0]? == some (rawInt _)) = true then _ else _) Q E s
           rw [if_neg (by intro h; rw [hn, Bool.false_and] at h; cases h)]
           exact wpAny_pure hQ))

/-- the list at a, as it stands at each turn (a loop may append to it) -/
def Itl (K : PySem.W.Frag) (a : Addr) : It :=
  ⟨fun i H => ∃ xs x, SqL K H a xs ∧ xs[i]? = some x, fun i H x H' => H' = H ∧ ∀ xs, SqL K H a xs → xs[i]? = some x, fun i H => ∃ xs, SqL K H a xs ∧ xs.length ≤ i⟩
def Itt (K : PySem.W.Frag) (a : Addr) : It :=
  ⟨fun i H => ∃ xs x, SqT K H a xs ∧ xs[i]? = some x, fun i H x H' => H' = H ∧ ∀ xs, SqT K H a xs → xs[i]? = some x, fun i H => ∃ xs, SqT K H a xs ∧ xs.length ≤ i⟩
/-- lo, lo + 1, .. (n of them) -/
def Itr (lo : Int) (n : Nat) : It := ⟨fun i _ => i < n, fun i H x H' => H' = H ∧ x = .int (lo + i), fun i _ => n ≤ i⟩
theorem turn_list {P : Program} {w : World} {K : PySem.W.Frag} {tg : Expr} (a it : Addr) : Turn P w K tg (Itl K a) [it] it (fun i h => h.IsListIter it a i) where
  mem := by simp
  obj := fun i h st b hb => by
    have e : b = it := by simpa using hb
    subst e
    obtain ⟨o, e, c, d⟩ := st
    exact ⟨o, e, fun v z => by rw [d] at z; cases z⟩
  keep := fun i h h' st k => st.at fun o e => k it (by simp) o e
  item := by
    intro X hP hw hK hc i pins s σ H E I hf st hg
    subst hP hw hK
    obtain ⟨xs, x, hq, hx⟩ := hg
    obtain ⟨its, rv, p, hz⟩ := I.list hq
    obtain ⟨u, hu, ru⟩ := rv.get hx
    obtain ⟨f0, f1, f2, f3, f4, f5⟩ := hf it (by simp)
    refine wpAny_pyNext_list_item st p.isList (x := u) (by simpa using hu) fun h' st' sb => ?_
    have I1 : Inv X pins σ H { s with heap := h' } := I.turned (t' := s.toks) (fun b o hb e => (sb.2 b hb).trans e) f0 f1 f3 f4 f5
    obtain ⟨o, e, c, d⟩ := id st'
    exact ⟨u, rfl, go_of (s := { s with heap := h' }) e c d (by decide) ⟨x, H, I1, ru, ⟨rfl, fun ys hy => by rw [I.list_inj hy hq]; exact hx⟩, st', fun b hb => (hf b hb).1⟩⟩
  done := by
    intro X hP hw hK hc i pins s σ H E I hf st hg
    subst hP hw hK
    obtain ⟨xs, hq, hx⟩ := hg
    obtain ⟨its, rv, p, hz⟩ := I.list hq
    obtain ⟨f0, f1, f2, f3, f4, f5⟩ := hf it (by simp)
    have hl := rv.length
    exact wpAny_pyNext_list_end (I.ok.hd hc) st p.isList (by simp; omega) fun h' eb => ⟨rfl, I.turned (t' := s.toks) (fun b o hb e => eb b o hb e) f0 f1 f3 f4 f5⟩
  self := fun _ _ _ _ _ st h => wpAny_pyIter_listiter st h
theorem turn_tuple {P : Program} {w : World} {K : PySem.W.Frag} {tg : Expr} (a it : Addr) : Turn P w K tg (Itt K a) [it] it (fun i h => h.IsTupleIter it a i) where
  mem := by simp
  obj := fun i h st b hb => by
    have e : b = it := by simpa using hb
    subst e
    obtain ⟨o, e, c, d⟩ := st
    exact ⟨o, e, fun v z => by rw [d] at z; cases z⟩
  keep := fun i h h' st k => st.at fun o e => k it (by simp) o e
  item := by
    intro X hP hw hK hc i pins s σ H E I hf st hg
    subst hP hw hK
    obtain ⟨xs, x, hq, hx⟩ := hg
    obtain ⟨its, rv, p, hz⟩ := I.tuple hq
    obtain ⟨u, hu, ru⟩ := rv.get hx
    obtain ⟨f0, f1, f2, f3, f4, f5⟩ := hf it (by simp)
    refine wpAny_pyNext_tuple_item st (show s.heap.IsTuple a its.toArray from p) (x := u) (by simpa using hu) fun h' st' sb => ?_
    have I1 : Inv X pins σ H { s with heap := h' } := I.turned (t' := s.toks) (fun b o hb e => (sb.2 b hb).trans e) f0 f1 f3 f4 f5
    obtain ⟨o, e, c, d⟩ := id st'
    exact ⟨u, rfl, go_of (s := { s with heap := h' }) e c d (by decide) ⟨x, H, I1, ru, ⟨rfl, fun ys hy => by rw [I.tuple_inj hy hq]; exact hx⟩, st', fun b hb => (hf b hb).1⟩⟩
  done := by
    intro X hP hw hK hc i pins s σ H E I hf st hg
    subst hP hw hK
    obtain ⟨xs, hq, hx⟩ := hg
    obtain ⟨its, rv, p, hz⟩ := I.tuple hq
    obtain ⟨f0, f1, f2, f3, f4, f5⟩ := hf it (by simp)
    have hl := rv.length
    exact wpAny_pyNext_tuple_end (I.ok.hd hc) st (show s.heap.IsTuple a its.toArray from p) (by simp; omega) fun h' eb => ⟨rfl, I.turned (t' := s.toks) (fun b o hb e => eb b o hb e) f0 f1 f3 f4 f5⟩
  self := fun _ _ _ _ _ st h => wpAny_pyIter_tupleiter st h
theorem turn_range {P : Program} {w : World} {K : PySem.W.Frag} {tg : Expr} (it : Addr) (lo : Int) (n : Nat) : Turn P w K tg (Itr lo n) [it] it (fun i h => IsRangeIter h it (lo + (i : Nat) * 1) ((n : Int) - (i : Nat)) 1) where
  mem := by simp
  obj := fun i h st b hb => by
    have e : b = it := by simpa using hb
    subst e
    exact ⟨_, st, fun v z => by
      have z' : Data.fields _ = Data.cell v := z
      cases z'⟩
  keep := fun i h h' st k => k it (by simp) _ st
  item := by
    intro X hP hw hK hc i pins s σ H E I hf st hg
    subst hP hw hK
    obtain ⟨f0, f1, f2, f3, f4, f5⟩ := hf it (by simp)
    have W := Walks.range (prog := X.prog) (w := X.w) (I.ok.hd hc) it lo 1 n
    refine W.item i s _ _ hg st fun v h' tk hv st' kk => ?_
    obtain ⟨t, rfl⟩ := hv
    have I1 : Inv X pins σ H { s with heap := h', toks := tk } := I.turned (fun b o hb e => kk b o (by simpa using hb) e) f0 f1 f3 f4 f5
    refine ⟨_, rfl, go_of (s := { s with heap := h', toks := tk }) (n := "range_iterator") st' rfl rfl (by decide) ⟨.int (lo + i), H, I1, ⟨t, ?_⟩, ⟨rfl, rfl⟩, st', fun b hb => (hf b hb).1⟩⟩
    rw [Int.mul_one]
  done := by
    intro X hP hw hK hc i pins s σ H E I hf st hg
    subst hP hw hK
    obtain ⟨f0, f1, f2, f3, f4, f5⟩ := hf it (by simp)
    exact wpAny_pyNext_range_end (I.ok.hd hc) st (by have : n ≤ i := hg; omega) fun h' eb => ⟨rfl, I.turned (t' := s.toks) (fun b o hb e => eb b o hb e) f0 f1 f3 f4 f5⟩
  self := fun _ _ _ _ _ st h => wpAny_pyIter_rangeiter st h
end L2

namespace L2
open PySem PySem.Spec PyProof.Rows
section
variable {X : Cx} {tg : Expr}
def iList (K : PySem.W.Frag) (tl : TE) : TI := fun σ H R => tl σ H fun x H1 => ∃ a, x = .ref a ∧ (∃ xs, SqL K H1 a xs) ∧ R (Itl K a) H1
def iTup (K : PySem.W.Frag) (tl : TE) : TI := fun σ H R => tl σ H fun x H1 => ∃ a, x = .ref a ∧ (∃ xs, SqT K H1 a xs) ∧ R (Itt K a) H1
theorem pi_list {l : Expr} {tl : TE} (hl : PE X l tl) : PI X tg l (iList X.K tl) := by
  intro pins s σ H R I h
  refine thn (hl pins s σ H _ I h) fun v s1 ⟨x, H1, I1, r1, q1⟩ => ?_
  obtain ⟨a, e, ⟨xs, hq⟩, q⟩ := q1
  subst e
  cases r1
  obtain ⟨its, rv, p, hz⟩ := I1.list hq
  refine wpAny_pyIter_list p.isList ?_
  refine ⟨s1.heap.objs.size, [s1.heap.objs.size], _, _, H1, rfl, I1.kept (t' := s1.toks) fun b o e => Heap.get?_push_of_some _ e, turn_list a _, ⟨_, Heap.get?_push_size _ rfl, rfl, rfl⟩, fun b hb => ?_, q⟩
  have e : b = s1.heap.objs.size := by simpa using hb
  subst e
  exact I1.fpOk (Nat.le_refl _) (I1.hok.fresh (Nat.le_refl _))
theorem pi_tup {l : Expr} {tl : TE} (hl : PE X l tl) : PI X tg l (iTup X.K tl) := by
  intro pins s σ H R I h
  refine thn (hl pins s σ H _ I h) fun v s1 ⟨x, H1, I1, r1, q1⟩ => ?_
  obtain ⟨a, e, ⟨xs, hq⟩, q⟩ := q1
  subst e
  cases r1
  obtain ⟨its, rv, p, hz⟩ := I1.tuple hq
  refine wpAny_pyIter_tuple (show s1.heap.IsTuple a its.toArray from p) ?_
  refine ⟨s1.heap.objs.size, [s1.heap.objs.size], _, _, H1, rfl, I1.kept (t' := s1.toks) fun b o e => Heap.get?_push_of_some _ e, turn_tuple a _, ⟨_, Heap.get?_push_size _ rfl, rfl, rfl⟩, fun b hb => ?_, q⟩
  have e : b = s1.heap.objs.size := by simpa using hb
  subst e
  exact I1.fpOk (Nat.le_refl _) (I1.hok.fresh (Nat.le_refl _))
/-- a range object just made, walked -/
theorem range_it {pins : List (Addr × Obj)} {σ : St} {H : Hp} {s : Shared} {R : It → Hp → Prop} {E : Value → Shared → Prop} {lo hi : Int} {t u v : Tok} {tk : Nat} (I : Inv X pins σ H s) (h1 : -(2 ^ 62) ≤ lo) (h2 : lo < 2 ^ 62) (h3 : -(2 ^ 62) ≤ hi) (h4 : hi < 2 ^ 62)
    (q : R (Itr lo (hi - lo).toNat) H) : wpAny (model X.prog X.w) X.A (pyIter (.ref s.heap.objs.size)) (PIE X pins σ tg R) E { s with heap := s.heap.push { cls := .type "range", data := .fields #[.int lo t, .int hi u, .int 1 v] }, toks := tk } := by
  refine wpAny_pyIter_range (IsRange.new ..) (small_one h1 h2 h3 h4) ?_
  have I1 : Inv X pins σ H { s with heap := s.heap.push { cls := .type "range", data := .fields #[.int lo t, .int hi u, .int 1 v] }, toks := tk } := I.kept fun b o e => Heap.get?_push_of_some _ e
  refine ⟨(s.heap.push { cls := .type "range", data := .fields #[.int lo t, .int hi u, .int 1 v] }).objs.size, [(s.heap.push { cls := .type "range", data := .fields #[.int lo t, .int hi u, .int 1 v] }).objs.size], _, _, H, rfl,
    I1.kept (t' := tk) fun b o e => Heap.get?_push_of_some _ e, turn_range _ lo (hi - lo).toNat, ?_, fun b hb => ?_, q⟩
  · have e1 : lo + ((0 : Nat) : Int) * 1 = lo := by simp
    have e2 : (((hi - lo).toNat : Nat) : Int) - ((0 : Nat) : Int) = Builtin.Range.rangeSize lo hi 1 := by rw [rangeSize_one]; split <;> omega
    show IsRangeIter _ _ (lo + ((0 : Nat) : Int) * 1) ((((hi - lo).toNat : Nat) : Int) - ((0 : Nat) : Int)) 1
    rw [e1, e2]
    exact Heap.get?_push_size _ rfl
  · have e : b = (s.heap.push { cls := .type "range", data := .fields #[.int lo t, .int hi u, .int 1 v] }).objs.size := by simpa using hb
    subst e
    exact I1.fpOk (Nat.le_refl _) (I1.hok.fresh (Nat.le_refl _))
def iRng1 (ta : TA) : TI := fun σ H R => ta σ H fun vs H1 => ∃ j : Int, vs = [.int j] ∧ -(2 ^ 62) ≤ j ∧ j < 2 ^ 62 ∧ R (Itr 0 j.toNat) H1
def iRng2 (ta : TA) : TI := fun σ H R => ta σ H fun vs H1 => ∃ i j : Int, vs = [.int i, .int j] ∧ (-(2 ^ 62) ≤ i ∧ i < 2 ^ 62 ∧ -(2 ^ 62) ≤ j ∧ j < 2 ^ 62) ∧ R (Itr i (j - i).toNat) H1
theorem pi_range1 {a : Expr} {ta : TA} {p pos : Pos} (hg : Gl X "range") (hm : X.mg "range" = none) (ha : PA X [a] ta) (hs : starEach [a] X.env = [(false, eval a X.env)] := by rfl) : PI X tg (.Call (.Name "range" p) [a] [] pos) (iRng1 ta) := by
  intro pins s σ H R I h
  refine Call_ (ld_blt I hg hm boot_range (PyProof.Rows.callWith_type1 (thn (ha pos pins s σ H _ I h) fun us s1 ⟨vs, H1, I1, r1, q1⟩ => ?_) hs rfl))
  obtain ⟨j, e, q1, q2, q⟩ := q1
  subst e
  cases r1 with
  | cons r rr =>
    cases rr
    obtain ⟨t, rfl⟩ := r
    exact call_range_1 (range_it I1 (by omega) (by omega) q1 q2 (by simpa using q))
theorem pi_range2 {a b : Expr} {ta : TA} {p pos : Pos} (hg : Gl X "range") (hm : X.mg "range" = none) (ha : PA X [a, b] ta) (hs : starEach [a, b] X.env = [(false, eval a X.env), (false, eval b X.env)] := by rfl) (hs2 : starEach [b] X.env = [(false, eval b X.env)] := by rfl) :
    PI X tg (.Call (.Name "range" p) [a, b] [] pos) (iRng2 ta) := by
  intro pins s σ H R I h
  refine Call_ (ld_blt I hg hm boot_range (PyProof.Rows.callWith_type1 (thn (ha pos pins s σ H _ I h) fun us s1 ⟨vs, H1, I1, r1, q1⟩ => ?_) (by rw [hs, hs2]) (by rw [hs2]; rfl)))
  obtain ⟨i, j, e, ⟨q1, q2, q3, q4⟩, q⟩ := q1
  subst e
  cases r1 with
  | cons r rr =>
    cases rr with
    | cons r' rr =>
      cases rr
      obtain ⟨t, rfl⟩ := r
      obtain ⟨t', rfl⟩ := r'
      exact call_range_2 (range_it I1 q1 q2 q3 q4 q)

/-! ### for -/
/-- W: the invariant by the turn and a measure; N: what the body is to reach -/
def tFor (wi : TI) (g : TG) (tb : TS) : TS := fun D σ H => wi σ H fun J H1 => ∃ W : Nat → Nat → St → Hp → Prop, (∃ m, W 0 m σ H1) ∧ ∀ i m σ H, W i m σ H →
  (J.stop i H ∧ D.nx σ H) ∨ (J.go i H ∧ ∃ N : St → Hp → Prop, (∀ σ' H', N σ' H' → ∃ m', m' < m ∧ W (i + 1) m' σ' H') ∧ ∀ x H', J.yld i H x H' → g x σ H' fun σ2 H2 => tb { D with nx := N, ct := N, bk := D.nx } σ2 H2)
/-- the records at fp as they stand -/
def pinsAt (fp : List Addr) (h : Heap) : List (Addr × Obj) := fp.filterMap fun b => (h.get? b).map fun o => (b, o)
theorem mem_pinsAt {fp : List Addr} {h : Heap} {b : Addr} {o : Obj} (hb : b ∈ fp) (e : h.get? b = some o) : (b, o) ∈ pinsAt fp h := List.mem_filterMap.mpr ⟨b, hb, by rw [e]; rfl⟩
theorem of_pinsAt {fp : List Addr} {h : Heap} {p : Addr × Obj} (hp : p ∈ pinsAt fp h) : p.1 ∈ fp ∧ h.get? p.1 = some p.2 := by
  obtain ⟨b, hb, e⟩ := List.mem_filterMap.mp hp
  cases q : h.get? b with
  | none => rw [q] at e; cases e
  | some o =>
    rw [q] at e
    have e' : (b, o) = p := Option.some.inj e
    subst e'
    exact ⟨hb, q⟩
theorem Inv.pinned {pins : List (Addr × Obj)} {σ : St} {H : Hp} {s : Shared} {fp : List Addr} (I : Inv X pins σ H s) (hf : ∀ b ∈ fp, FpOk X pins H b) (ho : ∀ b ∈ fp, ∃ o, s.heap.get? b = some o ∧ ∀ v, o.data ≠ .cell v) : Inv X (pins ++ pinsAt fp s.heap) σ H s :=
  I.pins_of fun p hp => (List.mem_append.mp hp).elim (fun z => I.pin p (List.mem_append_right _ z)) fun z => by
    obtain ⟨hb, e⟩ := of_pinsAt z
    obtain ⟨f0, f1, f2, _⟩ := hf p.1 hb
    obtain ⟨o, e', d⟩ := ho p.1 hb
    rw [e] at e'; cases e'
    exact ⟨e, f0, f1, f2, d⟩
theorem Inv.unpinned {pins pl : List (Addr × Obj)} {σ : St} {H : Hp} {s : Shared} (I : Inv X (pins ++ pl) σ H s) : Inv X pins σ H s := I.pins_of fun p hp => I.pin p (List.mem_append_right _ (List.mem_append_left _ hp))
theorem ps_for {iter : Expr} {body : List Stmt} {wi : TI} {g : TG} {tb : TS} {pos : Pos} (hp : PassesOwn (model X.prog X.w) X.A X.env X.xe) (hc : X.calm = true) (hi : PI X tg iter wi) (hg : PG X tg g) (hb : PSs X body tb)
    (hs : ∀ x, foldedSetIterable iter X.env x = pure x := by intro _; rfl) : PS X (.For tg iter body [] pos) (tFor wi g tb) := by
  intro pins s σ H D I h
  refine wpAny_For (thn (hi pins s σ H _ I h) fun v s1 h1 => thn h1 fun itv s2 h2 => ?_) hs
  obtain ⟨it, fp, tn, J, H2, e, I2, T, st2, f2, W, ⟨m0, w0⟩, turn⟩ := h2
  subst e
  -- what stays true of the iterator's objects through the loop
  have stat : ∀ {H' : Hp}, (∀ b ∈ fp, H' b = none) → ∀ b ∈ fp, FpOk X pins H' b := fun hn b hb => ⟨hn b hb, (f2 b hb).2⟩
  refine codeAny_forLoop_any (fun n s' => ∃ i σ' H', Inv X pins σ' H' s' ∧ tn i s'.heap ∧ (∀ b ∈ fp, H' b = none) ∧ W i n σ' H') ?_ m0 ⟨0, σ, H2, I2, st2, fun b hb => (f2 b hb).1, w0⟩
  rintro n s3 ⟨i, σ3, H3, I3, st3, fr3, w3⟩
  rcases turn i n σ3 H3 w3 with ⟨stop, qn⟩ | ⟨go, N, hN, step⟩
  · refine wpAny_passesOwn hp (thn (T.done X rfl rfl rfl hc i pins s3 σ3 H3 X.xe I3 (stat fr3) st3 stop) fun r s4 ⟨hr, I4⟩ => ?_)
    subst hr
    exact wpAny_execs_nil ⟨σ3, H3, I4, qn⟩
  · refine wpAny_passesOwn hp (thn (T.item X rfl rfl rfl hc i pins s3 σ3 H3 X.xe I3 (stat fr3) st3 go) fun r s4 ⟨u, hr, h4⟩ => ?_)
    subst hr
    refine wpAny_passesOwn hp (thn h4 fun _ s5 ⟨x, H5, I5, r5, y5, st5, fr5⟩ => ?_)
    have I5' := I5.pinned (stat fr5) (T.obj _ _ st5)
    refine wpAny_passesOwn hp (thn (hg _ s5 σ3 H5 x u _ I5' r5 (step x H5 y5)) fun _ s6 ⟨σ6, H6, I6, q6⟩ => ?_)
    refine wpAny_passesOwn hp (thn (hb _ s6 σ6 H6 _ I6 q6) fun f s7 q7 => ?_)
    have again : ∀ {σ7 : St} {H7 : Hp}, Inv X (pins ++ pinsAt fp s5.heap) σ7 H7 s7 → N σ7 H7 → ∃ m, m < n ∧ ∃ i σ' H', Inv X pins σ' H' s7 ∧ tn i s7.heap ∧ (∀ b ∈ fp, H' b = none) ∧ W i m σ' H' := fun {σ7 H7} I7 n7 => by
      obtain ⟨m', hm, w7⟩ := hN σ7 H7 n7
      refine ⟨m', hm, i + 1, σ7, H7, I7.unpinned, T.keep _ _ _ st5 fun b hb o e => (I7.pin (b, o) (List.mem_append_right _ (List.mem_append_right _ (mem_pinsAt hb e)))).1, fun b hb => ?_, w7⟩
      obtain ⟨o, e, d⟩ := T.obj _ _ st5 b hb
      exact (I7.pin (b, o) (List.mem_append_right _ (List.mem_append_right _ (mem_pinsAt hb e)))).2.1
    cases f with
    | next => obtain ⟨σ7, H7, I7, n7⟩ := q7; exact again I7 n7
    | cont => obtain ⟨σ7, H7, I7, n7⟩ := q7; exact again I7 n7
    | brk => obtain ⟨σ7, H7, I7, q7⟩ := q7; exact ⟨σ7, H7, I7.unpinned, q7⟩
    | ret v => obtain ⟨x7, σ7, H7, I7, r7, q7⟩ := q7; exact ⟨x7, σ7, H7, I7.unpinned, r7, q7⟩
end

/-! ### the forms one uses -/
/-- over a list that the body leaves as it is -/
theorem for_list {K : PySem.W.Frag} {a : Addr} {xs : List V} {g : TG} {tb : TS} {D : Ends} {σ : St} {H : Hp} (Pv : Nat → St → Hp → Prop) (h0 : Pv 0 σ H) (hl : ∀ i σ H, i ≤ xs.length → Pv i σ H → SqL K H a xs)
    (hs : ∀ i x σ H, xs[i]? = some x → Pv i σ H → g x σ H fun σ2 H2 => tb { D with nx := Pv (i + 1), ct := Pv (i + 1), bk := D.nx } σ2 H2) (hd : ∀ σ H, Pv xs.length σ H → D.nx σ H) :
    ∃ W : Nat → Nat → St → Hp → Prop, (∃ m, W 0 m σ H) ∧ ∀ i m σ H, W i m σ H →
      ((Itl K a).stop i H ∧ D.nx σ H) ∨ ((Itl K a).go i H ∧ ∃ N : St → Hp → Prop, (∀ σ' H', N σ' H' → ∃ m', m' < m ∧ W (i + 1) m' σ' H') ∧ ∀ x H', (Itl K a).yld i H x H' → g x σ H' fun σ2 H2 => tb { D with nx := N, ct := N, bk := D.nx } σ2 H2) := by
  refine ⟨fun i m σ H => m = xs.length - i ∧ i ≤ xs.length ∧ Pv i σ H, ⟨xs.length, by simp, Nat.zero_le _, h0⟩, ?_⟩
  rintro i m σ H ⟨rfl, hi, p⟩
  have q := hl i σ H hi p
  by_cases hlt : i < xs.length
  · refine .inr ⟨⟨xs, xs[i], q, by simp [hlt]⟩, Pv (i + 1), fun σ' H' p' => ⟨xs.length - (i + 1), by omega, rfl, hlt, p'⟩, fun x H' y => ?_⟩
    obtain ⟨e, y⟩ := y
    subst e
    exact hs i x σ _ (y xs q) p
  · have e : i = xs.length := by omega
    subst e
    exact .inl ⟨⟨xs, q, Nat.le_refl _⟩, hd σ H p⟩
theorem for_tup {K : PySem.W.Frag} {a : Addr} {xs : List V} {g : TG} {tb : TS} {D : Ends} {σ : St} {H : Hp} (Pv : Nat → St → Hp → Prop) (h0 : Pv 0 σ H) (hl : ∀ i σ H, i ≤ xs.length → Pv i σ H → SqT K H a xs)
    (hs : ∀ i x σ H, xs[i]? = some x → Pv i σ H → g x σ H fun σ2 H2 => tb { D with nx := Pv (i + 1), ct := Pv (i + 1), bk := D.nx } σ2 H2) (hd : ∀ σ H, Pv xs.length σ H → D.nx σ H) :
    ∃ W : Nat → Nat → St → Hp → Prop, (∃ m, W 0 m σ H) ∧ ∀ i m σ H, W i m σ H →
      ((Itt K a).stop i H ∧ D.nx σ H) ∨ ((Itt K a).go i H ∧ ∃ N : St → Hp → Prop, (∀ σ' H', N σ' H' → ∃ m', m' < m ∧ W (i + 1) m' σ' H') ∧ ∀ x H', (Itt K a).yld i H x H' → g x σ H' fun σ2 H2 => tb { D with nx := N, ct := N, bk := D.nx } σ2 H2) := by
  refine ⟨fun i m σ H => m = xs.length - i ∧ i ≤ xs.length ∧ Pv i σ H, ⟨xs.length, by simp, Nat.zero_le _, h0⟩, ?_⟩
  rintro i m σ H ⟨rfl, hi, p⟩
  have q := hl i σ H hi p
  by_cases hlt : i < xs.length
  · refine .inr ⟨⟨xs, xs[i], q, by simp [hlt]⟩, Pv (i + 1), fun σ' H' p' => ⟨xs.length - (i + 1), by omega, rfl, hlt, p'⟩, fun x H' y => ?_⟩
    obtain ⟨e, y⟩ := y
    subst e
    exact hs i x σ _ (y xs q) p
  · have e : i = xs.length := by omega
    subst e
    exact .inl ⟨⟨xs, q, Nat.le_refl _⟩, hd σ H p⟩
theorem for_range {lo : Int} {n : Nat} {g : TG} {tb : TS} {D : Ends} {σ : St} {H : Hp} (Pv : Nat → St → Hp → Prop) (h0 : Pv 0 σ H)
    (hs : ∀ i σ H, i < n → Pv i σ H → g (.int (lo + i)) σ H fun σ2 H2 => tb { D with nx := Pv (i + 1), ct := Pv (i + 1), bk := D.nx } σ2 H2) (hd : ∀ σ H, Pv n σ H → D.nx σ H) :
    ∃ W : Nat → Nat → St → Hp → Prop, (∃ m, W 0 m σ H) ∧ ∀ i m σ H, W i m σ H →
      ((Itr lo n).stop i H ∧ D.nx σ H) ∨ ((Itr lo n).go i H ∧ ∃ N : St → Hp → Prop, (∀ σ' H', N σ' H' → ∃ m', m' < m ∧ W (i + 1) m' σ' H') ∧ ∀ x H', (Itr lo n).yld i H x H' → g x σ H' fun σ2 H2 => tb { D with nx := N, ct := N, bk := D.nx } σ2 H2) := by
  refine ⟨fun i m σ H => m = n - i ∧ i ≤ n ∧ Pv i σ H, ⟨n, by simp, Nat.zero_le _, h0⟩, ?_⟩
  rintro i m σ H ⟨rfl, hi, p⟩
  by_cases hlt : i < n
  · refine .inr ⟨hlt, Pv (i + 1), fun σ' H' p' => ⟨n - (i + 1), by omega, rfl, hlt, p'⟩, fun x H' y => ?_⟩
    obtain ⟨e, y⟩ := y
    subst e y
    exact hs i σ _ hlt p
  · have e : i = n := by omega
    subst e
    exact .inl ⟨Nat.le_refl _, hd σ H p⟩
/-- while, by a word and a measure of the state -/
theorem while_by {c : TT} {tb : TS} {D : Ends} {σ : St} {H : Hp} (Pv : St → Hp → Prop) (μ : St → Hp → Nat) (h0 : Pv σ H)
    (hs : ∀ σ H, Pv σ H → c σ H fun b H1 => if b = true then tb { D with nx := fun σ' H' => Pv σ' H' ∧ μ σ' H' < μ σ H, ct := fun σ' H' => Pv σ' H' ∧ μ σ' H' < μ σ H, bk := D.nx } σ H1 else D.nx σ H1)
    (mono : ∀ σ H Q Q', (∀ b H1, Q b H1 → Q' b H1) → c σ H Q → c σ H Q') : tWhile c tb D σ H := by
  refine ⟨fun m σ H => m = μ σ H ∧ Pv σ H, ⟨_, rfl, h0⟩, ?_⟩
  rintro m σ H ⟨rfl, p⟩
  refine mono σ H _ _ (fun b H1 q => ?_) (hs σ H p)
  cases b with
  | true => exact ⟨_, fun σ' H' ⟨p', l⟩ => ⟨_, l, rfl, p'⟩, q⟩
  | false => exact q
end L2

namespace L2
open PySem PySem.Spec PyProof.Rows

abbrev R2 := V → V → Hp → VK → Prop
/-- a two-place operation on values: f is binaryOp op, inplaceOp op or compareOp op -/
def OpR (X : Cx) (f : Value → Value → Sem Value) (r : R2) : Prop :=
  ∀ (pins : List (Addr × Obj)) (s : Shared) (σ : St) (H : Hp) (x y : V) (v u : Value) (Q : VK), Inv X pins σ H s → RelV x v → RelV y u → r x y H Q →
    wpAny (model X.prog X.w) X.A (f v u) (EP X pins σ Q) X.xe s
/-- a one-place operation -/
def UnR (X : Cx) (f : Value → Sem Value) (r : V → Hp → VK → Prop) : Prop :=
  ∀ (pins : List (Addr × Obj)) (s : Shared) (σ : St) (H : Hp) (x : V) (v : Value) (Q : VK), Inv X pins σ H s → RelV x v → r x H Q →
    wpAny (model X.prog X.w) X.A (f v) (EP X pins σ Q) X.xe s
/-- a call of a value that is known (a builtin, a type) with values -/
def CallR (X : Cx) (f : Value) (r : List V → Hp → VK → Prop) : Prop :=
  ∀ (pins : List (Addr × Obj)) (s : Shared) (σ : St) (H : Hp) (xs : List V) (us : List Value) (Q : VK), Inv X pins σ H s → Vals xs us → r xs H Q →
    wpAny (model X.prog X.w) X.A (call f us) (EP X pins σ Q) X.xe s
/-- a value's truth -/
def TruR (X : Cx) (r : V → Hp → (Bool → Hp → Prop) → Prop) : Prop :=
  ∀ (pins : List (Addr × Obj)) (s : Shared) (σ : St) (H : Hp) (x : V) (v : Value) (Q : Bool → Hp → Prop), Inv X pins σ H s → RelV x v → r x H Q →
    wpAny (model X.prog X.w) X.A (truthy v) (TP X pins σ Q) X.xe s

def tOp (r : R2) (ta tb : TE) : TE := fun σ H Q => ta σ H fun x H1 => tb σ H1 fun y H2 => r x y H2 Q
def tUn (r : V → Hp → VK → Prop) (ta : TE) : TE := fun σ H Q => ta σ H fun x H1 => r x H1 Q
/-- ints in, under C, and a value out -/
def rI (C : Int → Int → Prop) (g : Int → Int → V) : R2 := fun x y H Q => ∃ i j, x = .int i ∧ y = .int j ∧ C i j ∧ Q (g i j) H
def rI0 (g : Int → Int → V) : R2 := fun x y H Q => ∃ i j, x = .int i ∧ y = .int j ∧ Q (g i j) H
def rU (g : Int → V) : V → Hp → VK → Prop := fun x H Q => ∃ i, x = .int i ∧ Q (g i) H

section
variable {X : Cx} {a b c : Expr} {ta tb tc : TE} {pos : Pos}

theorem binT (ha : PE X a ta) (hb : PE X b tb) {pins : List (Addr × Obj)} {s : Shared} {σ : St} {H : Hp} {R : V → V → Hp → Prop} (I : Inv X pins σ H s)
    (h : ta σ H fun x H1 => tb σ H1 fun y H2 => R x y H2) {Q : Value → Shared → Prop} {f : Value → Value → Sem Value}
    (hf : ∀ v u s2 x y H2, Inv X pins σ H2 s2 → RelV x v → RelV y u → R x y H2 → wpAny (model X.prog X.w) X.A (f v u) Q X.xe s2) :
    wpAny (model X.prog X.w) X.A (eval a X.env) (fun v s₁ => wpAny (model X.prog X.w) X.A (eval b X.env) (fun u s₂ => wpAny (model X.prog X.w) X.A (f v u) Q X.xe s₂) X.xe s₁) X.xe s := by
  refine thn (ha pins s σ H _ I h) fun v s1 ⟨x, H1, I1, r1, q1⟩ => ?_
  refine thn (hb pins s1 σ H1 _ I1 q1) fun u s2 ⟨y, H2, I2, r2, q2⟩ => ?_
  exact hf v u s2 x y H2 I2 r1 r2 q2

theorem pe_op {op : Operator} {r : R2} (ho : OpR X (binaryOp op) r) (ha : PE X a ta) (hb : PE X b tb) : PE X (.BinOp a op b pos) (tOp r ta tb) := by
  intro pins s σ H Q I h
  exact wpAny_BinOp (binT ha hb I h fun v u s2 x y H2 I2 rx ry q => ho pins s2 σ H2 x y v u Q I2 rx ry q)
theorem pe_un {op : UnaryOp} {r : V → Hp → VK → Prop} (ho : UnR X (unaryOp op) r) (ha : PE X a ta) : PE X (.UnaryOp op a pos) (tUn r ta) := by
  intro pins s σ H Q I h
  exact UnaryOp_ (thn (ha pins s σ H _ I h) fun v s1 ⟨x, H1, I1, r1, q1⟩ => ho pins s1 σ H1 x v Q I1 r1 q1)
/-- a op= e at a name: the name's slot i -/
theorem augR {op : Operator} {r : R2} (ho : OpR X (inplaceOp op) r) {pins : List (Addr × Obj)} {s : Shared} {σ : St} {H : Hp} {x y : V} {v u : Value} {Q : VK} (I : Inv X pins σ H s)
    (rx : RelV x v) (ry : RelV y u) (q : r x y H Q) : wpAny (model X.prog X.w) X.A (inplaceOp op v u) (EP X pins σ Q) X.xe s := ho pins s σ H x y v u Q I rx ry q

/-! ### ints -/
theorem opI {f : Value → Value → Sem Value} {C : Int → Int → Prop} {g : Int → Int → Int}
    (rule : ∀ (i j : Int) (t u : Tok) (s : Shared) (Q : Value → Shared → Prop) (E : Value → Shared → Prop), C i j → Q (.int (g i j) s.toks) { s with toks := s.toks + 1 } → wpAny (model X.prog X.w) X.A (f (.int i t) (.int j u)) Q E s) :
    OpR X f (rI C fun i j => .int (g i j)) := by
  intro pins s σ H x y v u Q I rx ry h
  obtain ⟨i, j, rfl, rfl, hc, q⟩ := h
  obtain ⟨t, rfl⟩ := rx
  obtain ⟨t', rfl⟩ := ry
  exact rule i j t t' s _ _ hc ⟨.int (g i j), H, I.tok _, ⟨_, rfl⟩, q⟩
theorem opI0 {f : Value → Value → Sem Value} {g : Int → Int → Int}
    (rule : ∀ (i j : Int) (t u : Tok) (s : Shared) (Q : Value → Shared → Prop) (E : Value → Shared → Prop), Q (.int (g i j) s.toks) { s with toks := s.toks + 1 } → wpAny (model X.prog X.w) X.A (f (.int i t) (.int j u)) Q E s) :
    OpR X f (rI0 fun i j => .int (g i j)) := by
  intro pins s σ H x y v u Q I rx ry h
  obtain ⟨i, j, rfl, rfl, q⟩ := h
  obtain ⟨t, rfl⟩ := rx
  obtain ⟨t', rfl⟩ := ry
  exact rule i j t t' s _ _ ⟨.int (g i j), H, I.tok _, ⟨_, rfl⟩, q⟩
theorem opB0 {f : Value → Value → Sem Value} {g : Int → Int → Bool}
    (rule : ∀ (i j : Int) (t u : Tok) (s : Shared) (Q : Value → Shared → Prop) (E : Value → Shared → Prop), Q (.bool (g i j)) s → wpAny (model X.prog X.w) X.A (f (.int i t) (.int j u)) Q E s) :
    OpR X f (rI0 fun i j => .bl (g i j)) := by
  intro pins s σ H x y v u Q I rx ry h
  obtain ⟨i, j, rfl, rfl, q⟩ := h
  obtain ⟨t, rfl⟩ := rx
  obtain ⟨t', rfl⟩ := ry
  exact rule i j t t' s _ _ ⟨.bl (g i j), H, I, rfl, q⟩

def CDiv (i j : Int) : Prop := 0 < j ∧ j < 1073741824
def CDivN (i j : Int) : Prop := j ≠ 0 ∧ j.natAbs < 1073741824
def CPow (i j : Int) : Prop := 0 ≤ j ∧ j ≤ 1000000 ∧ i.natAbs < 2 ^ 64
def CMul (i j : Int) : Prop := (-(2 ^ 64) < i ∧ i < 2 ^ 64) ∨ (-(2 ^ 64) < j ∧ j < 2 ^ 64)
theorem CMul.ok {i j : Int} (h : CMul i j) : IntMulOk i j := by
  rcases h with ⟨h1, h2⟩ | ⟨h1, h2⟩
  · exact .of_left (intBits_le_64 h1 h2)
  · exact .of_right (intBits_le_64 h1 h2)
theorem two_pow_nn (k : Nat) : (0 : Int) ≤ 2 ^ k := by
  rw [two_pow_cast]
  exact Int.natCast_nonneg _

theorem op_add : OpR X (binaryOp .Add) (rI0 fun i j => .int (i + j)) := opI0 fun _ _ _ _ _ _ _ q => add_int q
theorem op_sub : OpR X (binaryOp .Sub) (rI0 fun i j => .int (i - j)) := opI0 fun _ _ _ _ _ _ _ q => sub_int q
theorem op_mul : OpR X (binaryOp .Mult) (rI CMul fun i j => .int (i * j)) := opI fun _ _ _ _ _ _ _ hc q => mul_int q hc.ok
/-- // by a positive divisor -/
theorem op_fdiv : OpR X (binaryOp .FloorDiv) (rI CDiv fun i j => .int (i / j)) := opI fun i j _ _ _ _ _ hc q => by
  have h1 : (0 : Int) < j := hc.1
  have h2 : j < 1073741824 := hc.2
  exact floordiv_int (by omega) (by rw [Int.fdiv_eq_ediv_of_nonneg i (by omega)]; exact q) (.inl (PyProof.noPylong_small (by omega)))
theorem op_fdivN : OpR X (binaryOp .FloorDiv) (rI CDivN fun i j => .int (i.fdiv j)) := opI fun _ _ _ _ _ _ _ hc q => floordiv_int hc.1 q (.inl (PyProof.noPylong_small hc.2))
/-- % by a positive divisor of any size -/
theorem op_mod : OpR X (binaryOp .Mod) (rI (fun _ j => 0 < j) fun i j => .int (i % j)) := opI fun i j _ _ _ _ _ hc q => by
  have h1 : (0 : Int) < j := hc
  exact mod_int' (by omega) (by rw [Int.fmod_eq_emod_of_nonneg i (by omega)]; exact q)
theorem op_modN : OpR X (binaryOp .Mod) (rI (fun _ j => j ≠ 0) fun i j => .int (i.fmod j)) := opI fun _ _ _ _ _ _ _ hc q => mod_int' hc q
theorem op_pow : OpR X (binaryOp .Pow) (rI CPow fun i j => .int (i ^ j.toNat)) := opI fun _ _ _ _ _ _ _ hc q => pow_int_small hc.1 hc.2.1 hc.2.2 q
theorem op_shl : OpR X (binaryOp .LShift) (rI CPow fun i j => .int (i * 2 ^ j.toNat)) := opI fun _ _ _ _ _ _ _ hc q => lshift_int_small hc.1 hc.2.1 hc.2.2 q
theorem op_shr : OpR X (binaryOp .RShift) (rI (fun _ j => 0 ≤ j) fun i j => .int (i / 2 ^ j.toNat)) := opI fun i j _ _ _ _ _ hc q =>
  rshift_int hc (by rw [Int.fdiv_eq_ediv_of_nonneg i (two_pow_nn _)]; exact q)
theorem op_and : OpR X (binaryOp .BitAnd) (rI0 fun i j => .int (Builtin.bitAnd i j)) := opI0 fun _ _ _ _ _ _ _ q => and_int q
theorem op_or : OpR X (binaryOp .BitOr) (rI0 fun i j => .int (Builtin.bitOr i j)) := opI0 fun _ _ _ _ _ _ _ q => or_int q
theorem op_xor : OpR X (binaryOp .BitXor) (rI0 fun i j => .int (Builtin.bitXor i j)) := opI0 fun _ _ _ _ _ _ _ q => xor_int q

theorem iop_add : OpR X (inplaceOp .Add) (rI0 fun i j => .int (i + j)) := opI0 fun _ _ _ _ _ _ _ q => iadd_int q
theorem iop_sub : OpR X (inplaceOp .Sub) (rI0 fun i j => .int (i - j)) := opI0 fun _ _ _ _ _ _ _ q => isub_int q
theorem iop_mul : OpR X (inplaceOp .Mult) (rI CMul fun i j => .int (i * j)) := opI fun _ _ _ _ _ _ _ hc q => imul_int q hc.ok
theorem iop_fdiv : OpR X (inplaceOp .FloorDiv) (rI CDiv fun i j => .int (i / j)) := opI fun i j _ _ _ _ _ hc q => by
  have h1 : (0 : Int) < j := hc.1
  have h2 : j < 1073741824 := hc.2
  exact ifloordiv_int (by omega) (by rw [Int.fdiv_eq_ediv_of_nonneg i (by omega)]; exact q) (.inl (PyProof.noPylong_small (by omega)))
theorem iop_mod : OpR X (inplaceOp .Mod) (rI (fun _ j => 0 < j) fun i j => .int (i % j)) := opI fun i j _ _ _ _ _ hc q => by
  have h1 : (0 : Int) < j := hc
  exact imod_int (by omega) (by rw [Int.fmod_eq_emod_of_nonneg i (by omega)]; exact q)
theorem iop_shl : OpR X (inplaceOp .LShift) (rI CPow fun i j => .int (i * 2 ^ j.toNat)) := opI fun _ _ _ _ _ _ _ hc q => ilshift_int_small hc.1 hc.2.1 hc.2.2 q
theorem iop_shr : OpR X (inplaceOp .RShift) (rI (fun _ j => 0 ≤ j) fun i j => .int (i / 2 ^ j.toNat)) := opI fun i j _ _ _ _ _ hc q =>
  irshift_int hc (by rw [Int.fdiv_eq_ediv_of_nonneg i (two_pow_nn _)]; exact q)
theorem iop_and : OpR X (inplaceOp .BitAnd) (rI0 fun i j => .int (Builtin.bitAnd i j)) := opI0 fun _ _ _ _ _ _ _ q => iand_int q
theorem iop_or : OpR X (inplaceOp .BitOr) (rI0 fun i j => .int (Builtin.bitOr i j)) := opI0 fun _ _ _ _ _ _ _ q => ior_int q
theorem iop_xor : OpR X (inplaceOp .BitXor) (rI0 fun i j => .int (Builtin.bitXor i j)) := opI0 fun _ _ _ _ _ _ _ q => ixor_int q

theorem unI {f : Value → Sem Value} {g : Int → Int}
    (rule : ∀ (i : Int) (t : Tok) (s : Shared) (Q : Value → Shared → Prop) (E : Value → Shared → Prop), Q (.int (g i) s.toks) { s with toks := s.toks + 1 } → wpAny (model X.prog X.w) X.A (f (.int i t)) Q E s) :
    UnR X f (rU fun i => .int (g i)) := by
  intro pins s σ H x v Q I rx h
  obtain ⟨i, rfl, q⟩ := h
  obtain ⟨t, rfl⟩ := rx
  exact rule i t s _ _ ⟨.int (g i), H, I.tok _, ⟨_, rfl⟩, q⟩
theorem un_neg : UnR X (unaryOp .USub) (rU fun i => .int (-i)) := unI fun _ _ _ _ _ q => neg_int q
theorem un_inv : UnR X (unaryOp .Invert) (rU fun i => .int (Builtin.bitNot i)) := unI fun _ _ _ _ _ q => invert_int q

/-! ### bools among ints: n += (a < b) -/
theorem op_add_ib : OpR X (binaryOp .Add) (fun x y H Q => ∃ i k, x = .int i ∧ y = .bl k ∧ Q (.int (i + b2i k)) H) := by
  intro pins s σ H x y v u Q I rx ry h
  obtain ⟨i, k, rfl, rfl, q⟩ := h
  obtain ⟨t, rfl⟩ := rx
  cases ry
  exact add_int_bool ⟨.int (i + b2i k), H, I.tok _, ⟨_, rfl⟩, q⟩
end

/-! ### comparisons -/
/-- the scalars that == tells apart as data does -/
def scal : V → V → Bool
  | .non, .non => true | .non, .int _ => true | .int _, .non => true | .non, .bl _ => true | .bl _, .non => true | .non, .str _ => true | .str _, .non => true
  | .int _, .int _ => true | .bl _, .bl _ => true | .str _, .str _ => true | .byt _, .byt _ => true
  | .int _, .str _ => true | .str _, .int _ => true | .bl _, .str _ => true | .str _, .bl _ => true
  | _, _ => false
def rEq : R2 := fun x y H Q => scal x y = true ∧ Q (.bl (decide (x = y))) H
def rNe : R2 := fun x y H Q => scal x y = true ∧ Q (.bl (!decide (x = y))) H

theorem dec_int {i j : Int} : decide (V.int i = V.int j) = (i == j) := by
  rw [Bool.eq_iff_iff]
  simp
theorem dec_bl {i j : Bool} : decide (V.bl i = V.bl j) = (i == j) := by
  rw [Bool.eq_iff_iff]
  simp
theorem dec_str {i j : Str} : decide (V.str i = V.str j) = (i == j) := by
  rw [Bool.eq_iff_iff]
  simp
theorem dec_byt {i j : Array UInt8} : decide (V.byt i = V.byt j) = (i.toList == j.toList) := by
  rw [Bool.eq_iff_iff]
  cases i
  cases j
  simp

section
variable {X : Cx} {a b c : Expr} {ta tb tc : TE} {pos : Pos}
theorem fin_bl {pins : List (Addr × Obj)} {σ : St} {H : Hp} {s : Shared} {Q : VK} {k k' : Bool} (I : Inv X pins σ H s) (q : Q (.bl k) H) (e : k = k') : EP X pins σ Q (.bool k') s := by
  subst e
  exact ⟨.bl k, H, I, rfl, q⟩
theorem op_eq : OpR X (compareOp .Eq) rEq := by
  intro pins s σ H x y v u Q I rx ry h
  obtain ⟨hs, q⟩ := h
  cases x with
  | non =>
    cases rx
    cases y with
    | non => cases ry; exact PySem.EqNone.eq_none_none (fin_bl I q (by simp))
    | bl j => cases ry; exact PySem.EqNone.eq_none_bool (fin_bl I q (by simp))
    | int j => obtain ⟨t', rfl⟩ := ry; exact PySem.EqNone.eq_none_int (fin_bl I q (by simp))
    | str j => obtain ⟨t', rfl⟩ := ry; exact PySem.EqNone.eq_none_str (fin_bl I q (by simp))
    | _ => exact absurd (show false = true from hs) Bool.false_ne_true
  | bl i =>
    cases rx
    cases y with
    | non => cases ry; exact PySem.EqNone.eq_bool_none (fin_bl I q (by simp))
    | bl j => cases ry; exact eq_bool (fin_bl I q dec_bl)
    | str j => obtain ⟨t', rfl⟩ := ry; exact PySem.EqMixed.eq_bool_str (fin_bl I q (by simp))
    | _ => exact absurd (show false = true from hs) Bool.false_ne_true
  | int i =>
    obtain ⟨t, rfl⟩ := rx
    cases y with
    | non => cases ry; exact PySem.EqNone.eq_int_none (fin_bl I q (by simp))
    | int j => obtain ⟨t', rfl⟩ := ry; exact eq_int (fin_bl I q dec_int)
    | str j => obtain ⟨t', rfl⟩ := ry; exact PySem.EqMixed.eq_int_str (fin_bl I q (by simp))
    | _ => exact absurd (show false = true from hs) Bool.false_ne_true
  | str i =>
    obtain ⟨t, rfl⟩ := rx
    cases y with
    | non => cases ry; exact PySem.EqNone.eq_str_none (fin_bl I q (by simp))
    | bl j => cases ry; exact PySem.EqMixed.eq_str_bool (fin_bl I q (by simp))
    | int j => obtain ⟨t', rfl⟩ := ry; exact PySem.EqMixed.eq_str_int (fin_bl I q (by simp))
    | str j => obtain ⟨t', rfl⟩ := ry; exact eq_str (fin_bl I q dec_str)
    | _ => exact absurd (show false = true from hs) Bool.false_ne_true
  | byt i =>
    obtain ⟨t, rfl⟩ := rx
    cases y with
    | byt j => obtain ⟨t', rfl⟩ := ry; exact PySem.W.eq_bytes (fin_bl I q dec_byt)
    | _ => exact absurd (show false = true from hs) Bool.false_ne_true
  | _ => cases y <;> exact absurd (show false = true from hs) Bool.false_ne_true
theorem op_ne : OpR X (compareOp .NotEq) rNe := by
  intro pins s σ H x y v u Q I rx ry h
  obtain ⟨hs, q⟩ := h
  cases x with
  | non =>
    cases rx
    cases y with
    | non => cases ry; exact PySem.EqNone.ne_none_none (fin_bl I q (by simp))
    | bl j => cases ry; exact PySem.EqNone.ne_none_bool (fin_bl I q (by simp))
    | int j => obtain ⟨t', rfl⟩ := ry; exact PySem.EqNone.ne_none_int (fin_bl I q (by simp))
    | str j => obtain ⟨t', rfl⟩ := ry; exact PySem.EqNone.ne_none_str (fin_bl I q (by simp))
    | _ => exact absurd (show false = true from hs) Bool.false_ne_true
  | bl i =>
    cases rx
    cases y with
    | non => cases ry; exact PySem.EqNone.ne_bool_none (fin_bl I q (by simp))
    | bl j => cases ry; exact ne_bool (fin_bl I q (congrArg not dec_bl))
    | str j => obtain ⟨t', rfl⟩ := ry; exact PySem.EqMixed.ne_bool_str (fin_bl I q (by simp))
    | _ => exact absurd (show false = true from hs) Bool.false_ne_true
  | int i =>
    obtain ⟨t, rfl⟩ := rx
    cases y with
    | non => cases ry; exact PySem.EqNone.ne_int_none (fin_bl I q (by simp))
    | int j => obtain ⟨t', rfl⟩ := ry; exact ne_int (fin_bl I q (congrArg not dec_int))
    | str j => obtain ⟨t', rfl⟩ := ry; exact PySem.EqMixed.ne_int_str (fin_bl I q (by simp))
    | _ => exact absurd (show false = true from hs) Bool.false_ne_true
  | str i =>
    obtain ⟨t, rfl⟩ := rx
    cases y with
    | non => cases ry; exact PySem.EqNone.ne_str_none (fin_bl I q (by simp))
    | bl j => cases ry; exact PySem.EqMixed.ne_str_bool (fin_bl I q (by simp))
    | int j => obtain ⟨t', rfl⟩ := ry; exact PySem.EqMixed.ne_str_int (fin_bl I q (by simp))
    | str j => obtain ⟨t', rfl⟩ := ry; exact ne_str (fin_bl I q (congrArg not dec_str))
    | _ => exact absurd (show false = true from hs) Bool.false_ne_true
  | byt i =>
    obtain ⟨t, rfl⟩ := rx
    cases y with
    | byt j => obtain ⟨t', rfl⟩ := ry; exact PySem.W.ne_bytes (fin_bl I q (congrArg not dec_byt))
    | _ => exact absurd (show false = true from hs) Bool.false_ne_true
  | _ => cases y <;> exact absurd (show false = true from hs) Bool.false_ne_true

theorem op_lt : OpR X (compareOp .Lt) (rI0 fun i j => .bl (decide (i < j))) := opB0 fun _ _ _ _ _ _ _ q => lt_int q
theorem op_le : OpR X (compareOp .LtE) (rI0 fun i j => .bl (decide (i ≤ j))) := opB0 fun _ _ _ _ _ _ _ q => le_int q
theorem op_gt : OpR X (compareOp .Gt) (rI0 fun i j => .bl (decide (j < i))) := opB0 fun _ _ _ _ _ _ _ q => gt_int q
theorem op_ge : OpR X (compareOp .GtE) (rI0 fun i j => .bl (decide (j ≤ i))) := opB0 fun _ _ _ _ _ _ _ q => ge_int q
theorem op_lt_str : OpR X (compareOp .Lt) (fun x y H Q => ∃ i j, x = .str i ∧ y = .str j ∧ Q (.bl (decide (i.cps.toList < j.cps.toList))) H) := by
  intro pins s σ H x y v u Q I rx ry h
  obtain ⟨i, j, rfl, rfl, q⟩ := h
  obtain ⟨t, rfl⟩ := rx
  obtain ⟨t', rfl⟩ := ry
  exact lt_str (fin_bl I q rfl)
/-- the one string within the other -/
theorem op_in_str : OpR X (compareOp .In) (fun x y H Q => ∃ i j, x = .str i ∧ y = .str j ∧ Q (.bl (!(Builtin.Str.occurrences j i 0 j.length 1).isEmpty)) H) := by
  intro pins s σ H x y v u Q I rx ry h
  obtain ⟨i, j, rfl, rfl, q⟩ := h
  obtain ⟨t, rfl⟩ := rx
  obtain ⟨t', rfl⟩ := ry
  exact in_str (fin_bl I q rfl)

/-- is None, is not None: the right side a value none -/
theorem op_isN : OpR X (compareOp .Is) (fun x y H Q => y = .non ∧ Q (.bl (decide (x = .non))) H) := by
  intro pins s σ H x y v u Q I rx ry h
  obtain ⟨rfl, q⟩ := h
  cases ry
  refine is_none_gen (fin_bl I q ?_)
  cases x <;> first
    | (cases rx; rfl)
    | (obtain ⟨t, rfl⟩ := rx; rfl)
theorem op_notN : OpR X (compareOp .IsNot) (fun x y H Q => y = .non ∧ Q (.bl (!decide (x = .non))) H) := by
  intro pins s σ H x y v u Q I rx ry h
  obtain ⟨rfl, q⟩ := h
  cases ry
  refine isnot_none_gen (fin_bl I q ?_)
  cases x <;> first
    | (cases rx; rfl)
    | (obtain ⟨t, rfl⟩ := rx; rfl)

theorem op_notin_str : OpR X (compareOp .NotIn) (fun x y H Q => ∃ i j, x = .str i ∧ y = .str j ∧ Q (.bl (!(!(Builtin.Str.occurrences j i 0 j.length 1).isEmpty))) H) := by
  intro pins s σ H x y v u Q I rx ry h
  obtain ⟨i, j, rfl, rfl, q⟩ := h
  obtain ⟨t, rfl⟩ := rx
  obtain ⟨t', rfl⟩ := ry
  exact notIn_str (fin_bl I q rfl)
/-- is, is not of two objects that are tracked lists or instances -/
def isObj : HO → Bool
  | .lst _ => true
  | .ins _ _ _ => true
  | _ => false
theorem obj_there {pins : List (Addr × Obj)} {s : Shared} {σ : St} {H : Hp} {a : Addr} {o : HO} (I : Inv X pins σ H s) (h : H a = some o) (p : isObj o = true) : ∃ ob, s.heap.get? a = some ob ∧ ob.cls ≠ .type "tuple" := by
  cases o with
  | lst xs =>
    obtain ⟨_, its, n, _, e⟩ : xs.length ≤ sizeLine ∧ ∃ (its : List Value) (n : Nat), Vals xs its ∧ s.heap.get? a = some { cls := .type "list", data := .seq its.toArray n } := I.hok a _ h
    exact ⟨_, e, (by show Value.type "list" ≠ .type "tuple"; decide +kernel)⟩
  | ins C dx fs =>
    have x := I.hok a _ h
    obtain ⟨_, _, _, e, _⟩ := x
    exact ⟨_, e, (by show Value.ref C ≠ .type "tuple"; exact fun z => by cases z)⟩
  | _ => exact absurd (show false = true from p) Bool.false_ne_true
theorem op_is_ref : OpR X (compareOp .Is) (fun x y H Q => ∃ a b oa ob, x = .ref a ∧ y = .ref b ∧ H a = some oa ∧ isObj oa = true ∧ H b = some ob ∧ isObj ob = true ∧ Q (.bl (decide (a = b))) H) := by
  intro pins s σ H x y v u Q I rx ry h
  obtain ⟨a, b, oa, ob, rfl, rfl, ha, pa, hb, pb, q⟩ := h
  cases rx
  cases ry
  obtain ⟨o1, e1, n1⟩ := obj_there I ha pa
  obtain ⟨o2, e2, _⟩ := obj_there I hb pb
  by_cases z : a = b
  · subst z
    exact wpAny_is_ref_self (fin_bl I q (by simp))
  · exact wpAny_is_ref_other z e1 e2 n1 (fin_bl I q (by simp [z]))
theorem op_isnot_ref : OpR X (compareOp .IsNot) (fun x y H Q => ∃ a b oa ob, x = .ref a ∧ y = .ref b ∧ H a = some oa ∧ isObj oa = true ∧ H b = some ob ∧ isObj ob = true ∧ Q (.bl (!decide (a = b))) H) := by
  intro pins s σ H x y v u Q I rx ry h
  obtain ⟨a, b, oa, ob, rfl, rfl, ha, pa, hb, pb, q⟩ := h
  cases rx
  cases ry
  obtain ⟨o1, e1, n1⟩ := obj_there I ha pa
  obtain ⟨o2, e2, _⟩ := obj_there I hb pb
  by_cases z : a = b
  · subst z
    exact wpAny_isNot_ref_self (fin_bl I q (by simp))
  · exact wpAny_isNot_ref_other z e1 e2 n1 (fin_bl I q (by simp [z]))

/-- two rules for one operation: by cases -/
theorem OpR.or {f : Value → Value → Sem Value} {r r' : R2} (h : OpR X f r) (h' : OpR X f r') : OpR X f (fun x y H Q => r x y H Q ∨ r' x y H Q) := by
  intro pins s σ H x y v u Q I rx ry q
  rcases q with q | q
  · exact h pins s σ H x y v u Q I rx ry q
  · exact h' pins s σ H x y v u Q I rx ry q

theorem nomark (b : Expr) {op : CmpOp} (h : op ≠ .In := by decide) (h2 : op ≠ .NotIn := by decide) : behindInMarks op b = false := by
  have e1 : (op == CmpOp.In) = false := by cases op <;> first | rfl | exact absurd rfl h
  have e2 : (op == CmpOp.NotIn) = false := by cases op <;> first | rfl | exact absurd rfl h2
  cases b <;> simp [behindInMarks, e1, e2]
/-- a comparison as a value; hm: nomark b, or (for in, not in) by with_unfolding_all rfl -/
theorem pe_cmpR {op : CmpOp} {r : R2} (ho : OpR X (compareOp op) r) (ha : PE X a ta) (hb : PE X b tb) (hm : behindInMarks op b = false) : PE X (.Compare a [op] [b] pos) (tOp r ta tb) := by
  intro pins s σ H Q I h
  exact wpAny_Compare1 (binT ha hb I h fun v u s2 x y H2 I2 rx ry q => ho pins s2 σ H2 x y v u Q I2 rx ry q) hm
/-- a reading of a value as a test -/
def tTest (t : TE) : TT := fun σ H Q => t σ H fun x H' => ∃ k, x = .bl k ∧ Q k H'
theorem pt_cmpR {op : CmpOp} {r : R2} (ho : OpR X (compareOp op) r) (ha : PE X a ta) (hb : PE X b tb) (hm : behindInMarks op b = false) : PT X (.Compare a [op] [b] pos) (tTest (tOp r ta tb)) := by
  intro pins s σ H Q I h
  refine wpAny_isTrue_Compare1 (thn (ha pins s σ H _ I h) fun v s1 ⟨x, H1, I1, r1, q1⟩ => thn (hb pins s1 σ H1 _ I1 q1) fun u s2 ⟨y, H2, I2, r2, q2⟩ =>
    thn (ho pins s2 σ H2 x y v u _ I2 r1 r2 q2) fun c s3 ⟨z, H3, I3, r3, k, e, q3⟩ => ?_) hm
  subst e
  cases r3
  exact wpAny_truthy_bool ⟨H3, I3, q3⟩
/-- a op1 b op2 c -/
def tChain (r r' : R2) (ta tb tc : TE) : TE := fun σ H Q => ta σ H fun x H1 => tb σ H1 fun y H2 => r x y H2 fun z H3 => ∃ k, z = .bl k ∧
  (if k = true then tc σ H3 fun w' H4 => r' y w' H4 Q else Q (.bl false) H3)
theorem pe_chain {op op' : CmpOp} {r r' : R2} (ho : OpR X (compareOp op) r) (ho' : OpR X (compareOp op') r') (ha : PE X a ta) (hb : PE X b tb) (hc : PE X c tc)
    (hm : lastMarks [op, op'] [b, c] = false := by with_unfolding_all rfl) : PE X (.Compare a [op, op'] [b, c] pos) (tChain r r' ta tb tc) := by
  intro pins s σ H Q I h
  refine Compare_chain (thn (ha pins s σ H _ I h) fun v s1 ⟨x, H1, I1, r1, q1⟩ => chain_link (thn (hb pins s1 σ H1 _ I1 q1) fun u s2 ⟨y, H2, I2, r2, q2⟩ =>
    thn (ho pins s2 σ H2 x y v u _ I2 r1 r2 q2) fun d s3 ⟨z, H3, I3, r3, k, e, q3⟩ => ?_)) hm
  subst e
  cases r3
  refine wpAny_truthy_bool ?_
  cases k with
  | false => exact ite_ff ⟨.bl false, H3, I3, rfl, q3⟩
  | true => exact ite_tt (chain_last (thn (hc pins s3 σ H3 _ I3 q3) fun w' s4 ⟨z', H4, I4, r4, q4⟩ => ho' pins s4 σ H4 y z' u w' Q I4 r2 r4 q4))
theorem pt_chain {op op' : CmpOp} {r r' : R2} (ho : OpR X (compareOp op) r) (ho' : OpR X (compareOp op') r') (ha : PE X a ta) (hb : PE X b tb) (hc : PE X c tc)
    (hm : lastMarks [op, op'] [b, c] = false := by with_unfolding_all rfl) : PT X (.Compare a [op, op'] [b, c] pos) (tTest (tChain r r' ta tb tc)) := by
  intro pins s σ H Q I h
  refine isTrue_chain (thn (ha pins s σ H _ I h) fun v s1 ⟨x, H1, I1, r1, q1⟩ => test_link (thn (hb pins s1 σ H1 _ I1 q1) fun u s2 ⟨y, H2, I2, r2, q2⟩ =>
    thn (ho pins s2 σ H2 x y v u _ I2 r1 r2 q2) fun d s3 ⟨z, H3, I3, r3, k, e, q3⟩ => ?_)) hm
  subst e
  cases r3
  refine wpAny_truthy_bool ?_
  cases k with
  | false =>
    obtain ⟨k', e', q'⟩ := q3
    cases e'
    exact ite_ff ⟨H3, I3, q'⟩
  | true =>
    refine ite_tt (test_last (thn (hc pins s3 σ H3 _ I3 q3) fun w' s4 ⟨z', H4, I4, r4, q4⟩ => thn (ho' pins s4 σ H4 y z' u w' _ I4 r2 r4 q4) fun d' s5 ⟨z2, H5, I5, r5, k2, e2, q5⟩ => ?_))
    subst e2
    cases r5
    exact wpAny_truthy_bool ⟨H5, I5, q5⟩

/-! ### truth -/
/-- a value's truth by the abstract heap -/
def TruV (K : PySem.W.Frag) (x : V) (H : Hp) (k : Bool) : Prop :=
  match x with
  | .non => k = false
  | .bl b => k = b
  | .int i => k = (i != 0)
  | .str y => y.length ≤ sizeLine ∧ k = ((y.length : Int) != 0)
  | .byt y => y.size ≤ sizeLine ∧ k = ((y.size : Int) != 0)
  | .ref p => (∃ xs, SqL K H p xs ∧ k = !xs.isEmpty) ∨ (∃ xs, SqT K H p xs ∧ k = !xs.isEmpty) ∨ ∃ kvs, H p = some (.dK kvs) ∧ k = !kvs.isEmpty
  | _ => False
theorem isEmpty_kv {κ : Type} {kvs : List (κ × V)} {vs : List (κ × Value)} (r : KV kvs vs) : (!vs.isEmpty) = !kvs.isEmpty := by
  cases r <;> rfl
theorem isEmpty_of {xs : List V} {its : List Value} (r : Vals xs its) : (!its.toArray.isEmpty) = !xs.isEmpty := by
  cases r <;> simp
theorem line63 : (sizeLine : Nat) < 2 ^ 63 := by rw [sizeLine_eq]; decide
theorem tru_ok : TruR X (fun x H Q => ∃ k, TruV X.K x H k ∧ Q k H) := by
  intro pins s σ H x v Q I rx h
  obtain ⟨k, e, q⟩ := h
  have hl := line63
  have hs : sizeLine = 16777216 := sizeLine_eq
  cases x with
  | non =>
    cases rx
    have e' : k = false := e
    subst e'
    exact truthy_none ⟨H, I, q⟩
  | bl b =>
    cases rx
    have e' : k = b := e
    subst e'
    exact wpAny_truthy_bool ⟨H, I, q⟩
  | int i =>
    obtain ⟨t, rfl⟩ := rx
    have e' : k = (i != 0) := e
    subst e'
    exact PySem.P.truthy_int ⟨H, I, q⟩
  | str y =>
    obtain ⟨t, rfl⟩ := rx
    obtain ⟨hy, e'⟩ : y.length ≤ sizeLine ∧ k = ((y.length : Int) != 0) := e
    subst e'
    exact PySem.P.truthy_str (by omega) ⟨H, I.tok _, q⟩
  | byt y =>
    obtain ⟨t, rfl⟩ := rx
    obtain ⟨hy, e'⟩ : y.size ≤ sizeLine ∧ k = ((y.size : Int) != 0) := e
    subst e'
    exact PySem.W.truthy_bytes (by omega) ⟨H, I.tok _, q⟩
  | ref p =>
    cases rx
    have e' : (∃ xs, SqL X.K H p xs ∧ k = !xs.isEmpty) ∨ (∃ xs, SqT X.K H p xs ∧ k = !xs.isEmpty) ∨ ∃ kvs, H p = some (.dK kvs) ∧ k = !kvs.isEmpty := e
    rcases e' with ⟨xs, hx, e'⟩ | ⟨xs, hx, e'⟩ | ⟨kvs, hx, e'⟩
    · subst e'
      obtain ⟨its, r, pl, hz⟩ := I.list hx
      have hlen := r.length
      exact wpAny_truthy_list pl.isList (by simp only [List.size_toArray]; omega) ⟨H, I.tok _, by rw [isEmpty_of r]; exact q⟩
    · subst e'
      obtain ⟨its, r, pl, hz⟩ := I.tuple hx
      have hlen := r.length
      exact truthy_tuple pl (by simp only [List.size_toArray]; omega) ⟨H, I.tok _, by rw [isEmpty_of r]; exact q⟩
    · subst e'
      obtain ⟨hz, hS, vs, r, m⟩ : kvs.length ≤ sizeLine ∧ (p == sysModules) = false ∧ ∃ vs, KV kvs vs ∧ s.heap.DictOf (mixKind X.prog X.w) p vs := I.hok p _ hx
      have hlen : kvs.length = vs.length := Paired.length r
      exact wpAny_truthy_dict hS m (by omega) ⟨H, I.tok _, by rw [isEmpty_kv r]; exact q⟩
  | _ => exact (show False from e).elim
/-- any expression whose test is its value's truth (a name, a call, a subscript, a field ..: he by fun _ => rfl) -/
theorem pt_truth (ha : PE X a ta) (he : ∀ whole, isTrue a X.env whole = (do let v ← whole; standAt a.pos; holding [v] (truthy v))) :
    PT X a (fun σ H Q => ta σ H fun x H' => ∃ k, TruV X.K x H' k ∧ Q k H') := by
  intro pins s σ H Q I h
  exact isTrue_plain (thn (ha pins s σ H _ I h) fun v s1 ⟨x, H1, I1, r1, q1⟩ => tru_ok pins s1 σ H1 x v Q I1 r1 q1) (he _)

/-! ### strs and bytes -/
theorem pe_byt {x : List UInt8} {k : Nat} : PE X (.Constant (.bytes x) k pos) (fun _ H Q => Q (.byt x.toArray) H) := fun _ _ _ H _ I h => PySem.W.Constant_bytes ⟨.byt x.toArray, H, I.tok _, ⟨_, rfl⟩, h⟩
theorem op_add_str : OpR X (binaryOp .Add) (fun x y H Q => ∃ i j, x = .str i ∧ y = .str j ∧ i.length + j.length ≤ sizeLine ∧ Q (.str (i ++ j)) H) := by
  intro pins s σ H x y v u Q I rx ry h
  obtain ⟨i, j, rfl, rfl, hz, q⟩ := h
  obtain ⟨t, rfl⟩ := rx
  obtain ⟨t', rfl⟩ := ry
  exact add_str (fun t' tk => ⟨.str (i ++ j), H, I.tok _, ⟨_, rfl⟩, q⟩) hz
theorem iop_add_str : OpR X (inplaceOp .Add) (fun x y H Q => ∃ i j, x = .str i ∧ y = .str j ∧ i.length + j.length ≤ sizeLine ∧ Q (.str (i ++ j)) H) := by
  intro pins s σ H x y v u Q I rx ry h
  obtain ⟨i, j, rfl, rfl, hz, q⟩ := h
  obtain ⟨t, rfl⟩ := rx
  obtain ⟨t', rfl⟩ := ry
  exact iadd_str (fun t' tk => ⟨.str (i ++ j), H, I.tok _, ⟨_, rfl⟩, q⟩) hz
theorem op_add_byt : OpR X (binaryOp .Add) (fun x y H Q => ∃ i j, x = .byt i ∧ y = .byt j ∧ i.size + j.size ≤ 16777216 ∧ Q (.byt (i ++ j)) H) := by
  intro pins s σ H x y v u Q I rx ry h
  obtain ⟨i, j, rfl, rfl, hz, q⟩ := h
  obtain ⟨t, rfl⟩ := rx
  obtain ⟨t', rfl⟩ := ry
  exact PySem.W.KBy.add_bytes hz (fun t' tk => ⟨.byt (i ++ j), H, I.tok _, ⟨_, rfl⟩, q⟩)

def PlainIxT (b : Expr) : Prop := ∀ o i, subscripted b false o i = operate [o, i] (getItem o i)
/-- s[i], 0 ≤ i < len -/
theorem pe_item_str (ha : PE X a ta) (hb : PE X b tb) (hs : PlainIxT b) :
    PE X (.Subscript a b pos) (tOp (fun x y H Q => ∃ z i c, x = .str z ∧ y = .int i ∧ 0 ≤ i ∧ i < 2 ^ 63 ∧ i < z.length ∧ z.cps[i.toNat]? = some c ∧ Q (.str ⟨#[c]⟩) H) ta tb) := by
  intro pins s σ H Q I h
  refine Subscript_ (binT ha hb I h fun v u s2 x y H2 I2 rx ry q => ?_)
  obtain ⟨z, i, c, rfl, rfl, h0, h63, h1, hc, q⟩ := q
  obtain ⟨t, rfl⟩ := rx
  obtain ⟨t', rfl⟩ := ry
  have e : seqIndex? i z.length = some i.toNat := PySem.StrLaws.seqIndex_nonneg h0 h1
  exact tail_any (typeIs_str s2 z t) slot_str_getitem.lookup (getItem_str (c := c) (by
    have e1 : decide (i < -(2 ^ 63 : Int)) = false := decide_eq_false (by omega)
    have e2 : decide (i ≥ 2 ^ 63) = false := decide_eq_false (by omega)
    rw [e1, e2] <;> rfl) (by rw [e]; exact hc) ⟨.str ⟨#[c]⟩, H2, I2.tok _, ⟨_, rfl⟩, q⟩) (hs _ _)
/-- b[i], 0 ≤ i < len -/
theorem pe_item_byt (ha : PE X a ta) (hb : PE X b tb) (hs : PlainIxT b) :
    PE X (.Subscript a b pos) (tOp (fun x y H Q => ∃ (z : List UInt8) (i : Int), x = .byt z.toArray ∧ y = .int i ∧ z.length ≤ sizeLine ∧ 0 ≤ i ∧ i < z.length ∧ Q (.int ((z.getD i.toNat 0).toNat : Nat)) H) ta tb) := by
  intro pins s σ H Q I h
  refine Subscript_ (binT ha hb I h fun v u s2 x y H2 I2 rx ry q => ?_)
  obtain ⟨z, i, rfl, rfl, hz, h0, h1, q⟩ := q
  obtain ⟨t, rfl⟩ := rx
  obtain ⟨t', rfl⟩ := ry
  have hl : sizeLine = 16777216 := sizeLine_eq
  exact tail_any (PySem.W.typeIs_bytes s2 z.toArray t) PySem.W.FB.slot_bytes_getitem.lookup (PySem.W.getItem_bytes (by omega) h0 h1 ⟨.int ((z.getD i.toNat 0).toNat : Nat), H2, I2.tok _, ⟨_, rfl⟩, q⟩) (hs _ _)

/-! ### scalar builtins, by CallR -/
theorem vals1 {x : V} {us : List Value} (r : Vals [x] us) : ∃ u, us = [u] ∧ RelV x u := by
  cases r with
  | cons r1 r2 => cases r2; exact ⟨_, rfl, r1⟩
theorem vals2 {x y : V} {us : List Value} (r : Vals [x, y] us) : ∃ u w', us = [u, w'] ∧ RelV x u ∧ RelV y w' := by
  cases r with
  | cons r1 r2 =>
    cases r2 with
    | cons r3 r4 => cases r4; exact ⟨_, _, rfl, r1, r3⟩
theorem call_abs : CallR X (.builtin "abs") (fun xs H Q => ∃ i, xs = [.int i] ∧ Q (.int (if i < 0 then -i else i)) H) := by
  intro pins s σ H xs us Q I r h
  obtain ⟨i, rfl, q⟩ := h
  obtain ⟨u, rfl, t, rfl⟩ := vals1 r
  exact call_abs_int fun u tk => ⟨.int (if i < 0 then -i else i), H, I.tok _, ⟨_, rfl⟩, q⟩
theorem call_max2 (hc : X.calm = true) : CallR X (.builtin "max") (fun xs H Q => ∃ i j, xs = [.int i, .int j] ∧ Q (.int (if j > i then j else i)) H) := by
  intro pins s σ H xs us Q I r h
  obtain ⟨i, j, rfl, q⟩ := h
  obtain ⟨u, w', rfl, ⟨t, rfl⟩, ⟨t', rfl⟩⟩ := vals2 r
  refine max_two_ints (I.ok.hd hc) fun h' tk k => ⟨_, H, I.kept k, ?_, q⟩
  by_cases hj : j > i
  · rw [if_pos hj, if_pos hj]; exact ⟨_, rfl⟩
  · rw [if_neg hj, if_neg hj]; exact ⟨_, rfl⟩
theorem call_min2 (hc : X.calm = true) : CallR X (.builtin "min") (fun xs H Q => ∃ i j, xs = [.int i, .int j] ∧ Q (.int (if j < i then j else i)) H) := by
  intro pins s σ H xs us Q I r h
  obtain ⟨i, j, rfl, q⟩ := h
  obtain ⟨u, w', rfl, ⟨t, rfl⟩, ⟨t', rfl⟩⟩ := vals2 r
  refine min_two_ints (I.ok.hd hc) fun h' tk k => ⟨_, H, I.kept k, ?_, q⟩
  by_cases hj : j < i
  · rw [if_pos hj, if_pos hj]; exact ⟨_, rfl⟩
  · rw [if_neg hj, if_neg hj]; exact ⟨_, rfl⟩
theorem call_int1 : CallR X (.type "int") (fun xs H Q => (∃ i, xs = [.int i] ∧ Q (.int i) H) ∨ ∃ k, xs = [.bl k] ∧ Q (.int (if k then 1 else 0)) H) := by
  intro pins s σ H xs us Q I r h
  rcases h with ⟨i, rfl, q⟩ | ⟨k, rfl, q⟩
  · obtain ⟨u, rfl, t, rfl⟩ := vals1 r
    exact call_int_int ⟨.int i, H, I, ⟨_, rfl⟩, q⟩
  · obtain ⟨u, rfl, r1⟩ := vals1 r
    cases r1
    exact call_int_bool ⟨.int (if k then 1 else 0), H, I.tok _, ⟨_, rfl⟩, q⟩
theorem call_bool1 : CallR X (.type "bool") (fun xs H Q => (∃ i, xs = [.int i] ∧ Q (.bl (i != 0)) H) ∨ ∃ k, xs = [.bl k] ∧ Q (.bl k) H) := by
  intro pins s σ H xs us Q I r h
  rcases h with ⟨i, rfl, q⟩ | ⟨k, rfl, q⟩
  · obtain ⟨u, rfl, t, rfl⟩ := vals1 r
    exact call_bool_int ⟨.bl (i != 0), H, I, rfl, q⟩
  · obtain ⟨u, rfl, r1⟩ := vals1 r
    cases r1
    exact call_bool_bool ⟨.bl k, H, I, rfl, q⟩
theorem call_str_int : CallR X (.type "str") (fun xs H Q => ∃ i, xs = [.int i] ∧ i.natAbs.log2 < 1920 ∧ Q (.str (toString i)) H) := by
  intro pins s σ H xs us Q I r h
  obtain ⟨i, rfl, hz, q⟩ := h
  obtain ⟨u, rfl, t, rfl⟩ := vals1 r
  exact PySem.P.str_of_int hz ⟨.str _, H, I.tok _, ⟨_, rfl⟩, q⟩
theorem call_ord : CallR X (.builtin "ord") (fun xs H Q => ∃ x, xs = [.str x] ∧ x.length = 1 ∧ Q (.int (x.cps.getD 0 0 : Nat)) H) := by
  intro pins s σ H xs us Q I r h
  obtain ⟨x, rfl, hz, q⟩ := h
  obtain ⟨u, rfl, t, rfl⟩ := vals1 r
  exact ord_of_one hz ⟨.int _, H, I.tok _, ⟨_, rfl⟩, q⟩
theorem call_chr : CallR X (.builtin "chr") (fun xs H Q => ∃ i, xs = [.int i] ∧ 0 ≤ i ∧ i ≤ 1114111 ∧ Q (.str ⟨#[i.toNat]⟩) H) := by
  intro pins s σ H xs us Q I r h
  obtain ⟨i, rfl, h0, h1, q⟩ := h
  obtain ⟨u, rfl, t, rfl⟩ := vals1 r
  exact chr_of_range h0 h1 ⟨.str _, H, I.tok _, ⟨_, rfl⟩, q⟩
/-- len of a str, a bytes, a list, a tuple -/
def LenV (K : PySem.W.Frag) (x : V) (H : Hp) (n : Nat) : Prop :=
  match x with
  | .str y => y.length ≤ sizeLine ∧ n = y.length
  | .byt y => y.size ≤ sizeLine ∧ n = y.size
  | .ref p => (∃ xs, SqL K H p xs ∧ n = xs.length) ∨ ∃ xs, SqT K H p xs ∧ n = xs.length
  | _ => False
theorem call_len : CallR X (.builtin "len") (fun xs H Q => ∃ x n, xs = [x] ∧ LenV X.K x H n ∧ Q (.int n) H) := by
  intro pins s σ H xs us Q I r h
  obtain ⟨x, n, rfl, e, q⟩ := h
  obtain ⟨u, rfl, rx⟩ := vals1 r
  have hl := line63
  have hs : sizeLine = 16777216 := sizeLine_eq
  cases x with
  | str y =>
    obtain ⟨t, rfl⟩ := rx
    obtain ⟨hy, e'⟩ : y.length ≤ sizeLine ∧ n = y.length := e
    subst e'
    exact len_str (by omega) ⟨.int _, H, I.tok _, ⟨_, rfl⟩, q⟩
  | byt y =>
    obtain ⟨t, rfl⟩ := rx
    obtain ⟨hy, e'⟩ : y.size ≤ sizeLine ∧ n = y.size := e
    subst e'
    exact PySem.W.len_bytes (by omega) ⟨.int _, H, I.tok _, ⟨_, rfl⟩, q⟩
  | ref p =>
    cases rx
    have e' : (∃ xs, SqL X.K H p xs ∧ n = xs.length) ∨ ∃ xs, SqT X.K H p xs ∧ n = xs.length := e
    rcases e' with ⟨xs, hx, e'⟩ | ⟨xs, hx, e'⟩
    · subst e'
      obtain ⟨its, r', pl, hz⟩ := I.list hx
      have hlen := r'.length
      exact Calls.call_len_list pl.isList (by simp only [List.size_toArray]; omega) ⟨.int xs.length, H, I.tok _, ⟨_, by simp only [List.size_toArray]; rw [hlen]⟩, q⟩
    · subst e'
      obtain ⟨its, r', pl, hz⟩ := I.tuple hx
      have hlen := r'.length
      exact len_tuple pl (by simp only [List.size_toArray]; omega) ⟨.int xs.length, H, I.tok _, ⟨_, by simp only [List.size_toArray]; rw [hlen]⟩, q⟩
  | _ => exact (show False from e).elim
/-- divmod: a new tuple -/
theorem call_divmod : CallR X (.builtin "divmod") (fun xs H Q => ∃ i j, xs = [.int i, .int j] ∧ CDiv i j ∧ ∀ p, H p = none → Q (.ref p) (upd H p (.tup [.int (i / j), .int (i % j)]))) := by
  intro pins s σ H xs us Q I r h
  obtain ⟨i, j, rfl, ⟨h1, h2⟩, q⟩ := h
  obtain ⟨u, w', rfl, ⟨t, rfl⟩, ⟨t', rfl⟩⟩ := vals2 r
  refine divmod_int (by omega) ?_ (.inl (PyProof.noPylong_small (by omega)))
  rw [Int.fdiv_eq_ediv_of_nonneg i (by omega), Int.fmod_eq_emod_of_nonneg i (by omega)]
  have hn : H s.heap.objs.size = none := I.hok.fresh (Nat.le_refl _)
  refine ⟨.ref s.heap.objs.size, _, ?_, rfl, q _ hn⟩
  refine I.laid (fun b o e => Heap.get?_push_of_some _ e) (Nat.le_refl _) ⟨by simp only [List.length_cons, List.length_nil]; rw [sizeLine_eq]; decide, [.int (i / j) s.toks, .int (i % j) (s.toks + 1)], .cons ⟨_, rfl⟩ (.cons ⟨_, rfl⟩ .nil), ?_⟩
  exact ⟨⟨_, Heap.get?_push_size s.heap rfl, rfl, 0, rfl⟩, fun ob' e' => by rw [Heap.get?_push_size _ rfl] at e'; cases e'; rfl⟩
end
end L2

namespace L2
open PySem PySem.Spec PyProof.Rows

/-! ### an instance, its attributes a map -/
structure ObjM (h : Heap) (x dx C : Addr) (mA : Str → Option Value) : Prop where
  obj : h.get? x = some (PySem.W.instObj C dx)
  ns : h.Ns1 dx mA
  ne : dx ≠ x

theorem lookIn_ns {h : Heap} {dx : Addr} {mA : Str → Option Value} (n : h.Ns1 dx mA) : ∃ od, h.get? dx = some od ∧ ∀ name, PySem.W.lookIn name od = some (mA name) := by
  obtain ⟨o, es, ep, ho, hd, hk, _, hm⟩ := n
  refine ⟨o, ho, fun name => ?_⟩
  have e := hm name
  unfold nsFind findBy at e
  rw [← Array.find?_toList] at e
  unfold PySem.W.lookIn
  rw [hd]
  dsimp only
  split
  · rename_i y q
    rw [q] at e
    exact congrArg some e
  · rename_i q
    rw [q] at e
    have a : es.toList.any (·.refKey) = false := by
      rw [List.any_eq_false]
      intro y hy
      obtain ⟨z, t, hkey⟩ := hk y (Array.mem_toList_iff.mp hy)
      simp [DictEntry.refKey, hkey]
    have a' : ¬ es.toList.any (·.refKey) = true := by rw [a]; exact Bool.false_ne_true
    rw [if_neg a']
    exact congrArg some e

theorem ObjM.look {h : Heap} {x dx C : Addr} {mA : Str → Option Value} (I : ObjM h x dx C mA) : ∃ od, PySem.W.InstAt h x (PySem.W.instObj C dx) C (some od) ∧ ∀ name, PySem.W.lookIn name od = some (mA name) :=
  let ⟨od, ho, hl⟩ := lookIn_ns I.ns
  ⟨od, ⟨I.obj, rfl, rfl, ho⟩, hl⟩

section
variable {prog : Program} {w : World} {A : Around} {E : Value → Shared → Prop} {s : Shared} {K : PySem.W.Frag} {x dx C f : Addr} {mA : Str → Option Value} {name : Str} {v : Value}

theorem get_map {expr : Bool} {Q : Value → Shared → Prop} (X : K.In s.heap) (I : ObjM s.heap x dx C mA) (hg : PySem.W.plainGet K C name = true) (hh : PySem.W.hasDictIn K C = true)
    (ha : PySem.W.findIn K (.ref C) name = some none) (hv : mA name = some v) (hv' : PySem.W.handedIn v = true) (h : Q v { s with toks := s.toks + 1 }) :
    wpAny (model prog w) A (getAttr (.ref x) name expr) Q E s := by
  obtain ⟨od, J, hl⟩ := I.look
  exact PySem.W.get_value X J (PySem.W.plainGet_of hg).1 (PySem.W.findObj_own hh ha rfl (by rw [hl, hv])) hv' h

theorem get_const {expr : Bool} {a : Value} {Q : Value → Shared → Prop} (X : K.In s.heap) (I : ObjM s.heap x dx C mA) (hg : PySem.W.plainGet K C name = true) (hh : PySem.W.hasDictIn K C = true)
    (ha : PySem.W.findIn K (.ref C) name = some (some a)) (hn : PySem.W.specialIn K a "__get__" = some none) (hc : PySem.W.copiedNames.contains name = false) (hv : mA name = none) (hv' : PySem.W.handedIn a = true)
    (h : Q a { s with toks := s.toks + 1 }) : wpAny (model prog w) A (getAttr (.ref x) name expr) Q E s := by
  obtain ⟨od, J, hl⟩ := I.look
  exact PySem.W.get_value X J (PySem.W.plainGet_of hg).1 (PySem.W.findObj_cls hh ha hn hv' hc (by rw [hl, hv])) hv' h

theorem get_meth {pl : Sem Bool} {Q : Value × List Value → Shared → Prop} (X : K.In s.heap) (I : ObjM s.heap x dx C mA) (hg : PySem.W.plainGet K C name = true)
    (hf : PySem.W.findIn K (.ref C) name = some (some (.ref f))) (ht : PySem.W.isFn K (.ref f) = true) (hv : mA name = none) (h : Q (.ref f, [.ref x]) s) :
    wpAny (model prog w) A (getMethod (.ref x) name pl) Q E s := by
  obtain ⟨od, J, hl⟩ := I.look
  exact PySem.W.method_fn X J (PySem.W.plainGet_of hg).1 (PySem.W.plainGet_of hg).2 hf (beq_iff_eq.mp ht) (by show (PySem.W.lookIn name od).map (·.isSome) = some false; rw [hl, hv]; rfl) h

theorem set_map {ns : List Str} {Q : Unit → Shared → Prop} (X : K.In s.heap) (I : ObjM s.heap x dx C mA)
    (hs : PySem.W.findIn K (.ref C) "__setattr__" = some (some (.builtin "object.__setattr__"))) (hp : PySem.W.plainOver K C = true) (ht : PySem.W.takerIn K C name = some none) (hh : PySem.W.hasDictIn K C = true)
    (hw : PySem.Within mA ns) (hsz : ns.length ≤ sizeLine)
    (h : ∀ h', ObjM h' x dx C (fun y => if y = name then some v else mA y) → Heap.SameBut dx s.heap h' → Q () { s with heap := h', toks := s.toks + 2 }) :
    wpAny (model prog w) A (setAttr (.ref x) name v) Q E s := by
  obtain ⟨od, J, hl⟩ := I.look
  refine PySem.W.set_plain X J hs (PySem.W.osa_open (s := { s with toks := s.toks + 1 }) (r := none) X J hp ht fun b => ?_)
  obtain ⟨cd, hc, hd'⟩ := PySem.W.any_some hh
  have hx : s.heap.get? x = some ⟨.ref C, some dx, .plain, #[]⟩ := I.obj
  refine wpAny_bind (wpAny_pure (wpAny_bind (wpAny_bind (wpAny_loadPart hx (wpAny_bind (PySem.W.Looks.here (s := { s with toks := s.toks + 1 }) (PySem.W.looks_clsIn X hc) ?_))))))
  rw [hd']
  refine wpAny_pure (a := some dx) (wpAny_bind (wpAny_pure (wpAny_bind ?_)))
  refine wpAny_nsSet1 (s := { s with toks := s.toks + 1 }) I.ns fun h' hn2 hs2 => ?_
  obtain ⟨oD, esD, epD, hoD, hdD, hcD⟩ := hn2.count (PySem.Within.cons name v hw)
  refine wpAny_bind (wpAny_lookBehind hoD (by rw [hdD]; exact pastItsLine_dict (Nat.le_trans hcD (by rw [List.length_cons]; omega))) ?_)
  exact wpAny_pure (h _ ⟨(hs2.2 _ (Ne.symm I.ne)).trans I.obj, hn2, I.ne⟩ hs2)

/-- C(..): the dict at the heap's end, the instance behind it; then its __init__ -/
theorem make_map {R : Result → Shared → Prop} {vs : List Value} {kw : List (Str × Value)} (X : K.In s.heap) (hm : PySem.W.makesIn K C = true)
    (hi : PySem.W.findIn K (.ref C) "__init__" = some (some (.ref f))) (hf : PySem.W.typeIn K (.ref f) = some (.type "function"))
    (h : codeAny (model prog w) (A.under (.builtin "type.__call__" ⟨.ref C :: vs, kw⟩)) (.call (.ref f) ⟨.ref (s.heap.objs.size + 1) :: vs, kw⟩) (PySem.W.InitBack (s.heap.objs.size + 1) R)
      { s with heap := (s.heap.push PySem.W.emptyDict).push (PySem.W.instObj C s.heap.objs.size) }) :
    codeAny (model prog w) A (.call (.ref C) ⟨vs, kw⟩) R s := by
  obtain ⟨hh, g, d, t, os⟩ := s
  exact PySem.W.make_core (PySem.W.makes_of X hm) (PySem.W.looks_findIn X hi) (fun self => PySem.W.bind_fn X self hf) (.inl rfl) h
/-- C() where there is no __init__ but object's -/
theorem make_map0 {R : Result → Shared → Prop} (X : K.In s.heap) (hm : PySem.W.makesIn K C = true)
    (hi : PySem.W.findIn K (.ref C) "__init__" = some (some (.builtin "object.__init__")))
    (hb : ∀ self, PySem.W.Looks (model prog w) s.heap (bindSpecial (.builtin "object.__init__") self) (.builtin "object.__init__", [self]))
    (h : codeAny (model prog w) (A.under (.builtin "type.__call__" ⟨[.ref C], []⟩)) (.call (.builtin "object.__init__") ⟨[.ref (s.heap.objs.size + 1)], []⟩) (PySem.W.InitBack (s.heap.objs.size + 1) R)
      { s with heap := (s.heap.push PySem.W.emptyDict).push (PySem.W.instObj C s.heap.objs.size) }) :
    codeAny (model prog w) A (.call (.ref C) ⟨[], []⟩) R s := by
  obtain ⟨hh, g, d, t, os⟩ := s
  exact PySem.W.make_core (PySem.W.makes_of X hm) (PySem.W.looks_findIn X hi) hb (.inr ⟨rfl, rfl⟩) h
end

/-! ### the attributes as a list of pairs -/
def putF (f : Str) (v : V) : List (Str × V) → List (Str × V)
  | [] => [(f, v)]
  | (g, x) :: r => if g = f then (g, v) :: r else (g, x) :: putF f v r
theorem lookup_putF (f g : Str) (v : V) : ∀ fs : List (Str × V), (putF f v fs).lookup g = if g = f then some v else fs.lookup g
  | [] => by
    show List.lookup g [(f, v)] = _
    by_cases h : g = f
    · have hb : (g == f) = true := beq_iff_eq.mpr h
      simp only [List.lookup, hb, if_pos h]
    · have hb : (g == f) = false := beq_eq_false_iff_ne.mpr h
      simp only [List.lookup, hb, if_neg h]
  | (k, x) :: r => by
    have ih := lookup_putF f g v r
    rw [show putF f v ((k, x) :: r) = (if k = f then (k, v) :: r else (k, x) :: putF f v r) from rfl]
    by_cases hk : k = f
    · rw [if_pos hk]
      by_cases h : g = k
      · have hb : (g == k) = true := beq_iff_eq.mpr h
        simp only [List.lookup, hb, if_pos (h.trans hk)]
      · have hb : (g == k) = false := beq_eq_false_iff_ne.mpr h
        simp only [List.lookup, hb, if_neg (fun e : g = f => h (e.trans hk.symm))]
    · rw [if_neg hk]
      by_cases h : g = k
      · have hb : (g == k) = true := beq_iff_eq.mpr h
        simp only [List.lookup, hb, if_neg (fun e : g = f => hk (h.symm.trans e))]
      · have hb : (g == k) = false := beq_eq_false_iff_ne.mpr h
        simp only [List.lookup, hb]
        exact ih
theorem keys_putF (f : Str) (v : V) : ∀ fs : List (Str × V), f ∈ (putF f v fs).map (·.1) ∧ ∀ g, g ∈ fs.map (·.1) → g ∈ (putF f v fs).map (·.1)
  | [] => ⟨by simp [putF], fun g h => by simp at h⟩
  | (k, x) :: r => by
    obtain ⟨i1, i2⟩ := keys_putF f v r
    rw [show putF f v ((k, x) :: r) = (if k = f then (k, v) :: r else (k, x) :: putF f v r) from rfl]
    by_cases hk : k = f
    · rw [if_pos hk]
      subst hk
      exact ⟨by simp, fun g h => by simpa using h⟩
    · rw [if_neg hk]
      refine ⟨?_, fun g h => ?_⟩
      · rw [List.map_cons]
        exact List.mem_cons_of_mem _ i1
      · rw [List.map_cons] at h ⊢
        rcases List.mem_cons.mp h with e | e
        · exact List.mem_cons.mpr (.inl e)
        · exact List.mem_cons_of_mem _ (i2 g e)
theorem length_putF (f : Str) (v : V) : ∀ fs : List (Str × V), (putF f v fs).length ≤ fs.length + 1
  | [] => by simp [putF]
  | (k, x) :: r => by
    have ih := length_putF f v r
    rw [show putF f v ((k, x) :: r) = (if k = f then (k, v) :: r else (k, x) :: putF f v r) from rfl]
    by_cases hk : k = f
    · rw [if_pos hk, List.length_cons, List.length_cons]; omega
    · rw [if_neg hk, List.length_cons, List.length_cons]; omega

theorem RelO.some_of {v : V} {o : Option Value} (r : RelO (some v) o) : ∃ u, o = some u ∧ RelV v u := by
  cases o with
  | none => exact (show False from r).elim
  | some u => exact ⟨u, rfl, r⟩
theorem RelO.none_of {o : Option Value} (r : RelO none o) : o = none := by
  cases o with
  | none => rfl
  | some u => exact (show False from r).elim
theorem handed_of {v : V} {u : Value} (r : RelV v u) : PySem.W.handedIn u = true := by
  cases v with
  | non => cases (show u = Value.none from r); rfl
  | bl b => cases (show u = Value.bool b from r); rfl
  | int i => obtain ⟨t, e⟩ := (show ∃ t, u = Value.int i t from r); cases e; rfl
  | str x => obtain ⟨t, e⟩ := (show ∃ t, u = Value.str x t from r); cases e; rfl
  | byt b => obtain ⟨t, e⟩ := (show ∃ t, u = Value.bytes b t from r); cases e; rfl
  | flt b => obtain ⟨t, e⟩ := (show ∃ t, u = Value.float b t from r); cases e; rfl
  | ref a => cases (show u = Value.ref a from r); rfl
  | ty n => cases (show u = Value.type n from r); rfl

section
variable {P : Program} {w : World} {H H' : Hp} {h h' : Heap} {a C dx : Addr} {fs fs' : List (Str × V)}
theorem ins_get (hok : HOk P w H h) (e : H a = some (.ins C dx fs)) : ∃ mA, ObjM h a dx C mA ∧ (∀ f, RelO (fs.lookup f) (mA f)) ∧ PySem.Within mA (fs.map (·.1)) ∧ fs.length ≤ 1000 ∧ H dx = some (.own a) := by
  obtain ⟨d, z, ne, ob, mA, n, r, q⟩ := (show ObjOk P w H h a (.ins C dx fs) from hok a _ e)
  exact ⟨mA, ⟨ob, n, ne⟩, r, q, z, d⟩
end

/-! ### what of the text a class must have -/
structure Cls (K : PySem.W.Frag) (C : Addr) : Prop where
  pg : PySem.W.plainGet K C Str.empty = true
  hd : PySem.W.hasDictIn K C = true
  po : PySem.W.plainOver K C = true
  sa : PySem.W.findIn K (.ref C) "__setattr__" = some (some (.builtin "object.__setattr__"))
theorem Cls.get {K : PySem.W.Frag} {C : Addr} (c : Cls K C) (f : Str) : PySem.W.plainGet K C f = true := c.pg
/-- no class of it has the name -/
def NoAttr (K : PySem.W.Frag) (C : Addr) (f : Str) : Prop := PySem.W.findIn K (.ref C) f = some none
theorem NoAttr.taker {K : PySem.W.Frag} {C : Addr} {f : Str} (n : NoAttr K C f) : PySem.W.takerIn K C f = some none := by
  unfold PySem.W.takerIn
  rw [show PySem.W.findIn K (.ref C) f = some none from n]
  rfl
/-- a constant of the class -/
structure Con (K : PySem.W.Frag) (C : Addr) (f : Str) (v : V) (u : Value) : Prop where
  at_ : PySem.W.findIn K (.ref C) f = some (some u)
  rel : RelV v u
  get : PySem.W.specialIn K u "__get__" = some none
  cp : PySem.W.copiedNames.contains f = false
/-- a method: a plain def of the class or of one above it -/
structure Meth (K : PySem.W.Frag) (C : Addr) (m : Str) (f : Addr) : Prop where
  at_ : PySem.W.findIn K (.ref C) m = some (some (.ref f))
  fn : PySem.W.isFn K (.ref f) = true
  kp : PySem.W.keepIn K (.ref f) = true

section
variable {X : Cx} {pins : List (Addr × Obj)} {σ : St} {H : Hp} {s : Shared} {a C dx : Addr} {fs : List (Str × V)} {f : Str} {v : V} {A : Around} {E : Value → Shared → Prop}

theorem getattr_ok {b : Bool} {Q : Value → Shared → Prop} (I : Inv X pins σ H s) (e : H a = some (.ins C dx fs)) (c : Cls X.K C) (n : NoAttr X.K C f) (l : fs.lookup f = some v)
    (h : ∀ u s', Inv X pins σ H s' → RelV v u → Q u s') : wpAny (model X.prog X.w) A (getAttr (.ref a) f b) Q E s := by
  obtain ⟨mA, O, r, _, _, _⟩ := ins_get I.hok e
  obtain ⟨u, hu, ru⟩ := RelO.some_of (v := v) (o := mA f) (by rw [← l]; exact r f)
  exact get_map I.kIn O (c.get f) c.hd n hu (handed_of ru) (h u _ (I.tok _) ru)

theorem getcon_ok {b : Bool} {u : Value} {Q : Value → Shared → Prop} (I : Inv X pins σ H s) (e : H a = some (.ins C dx fs)) (c : Cls X.K C) (k : Con X.K C f v u) (l : fs.lookup f = none)
    (h : ∀ s', Inv X pins σ H s' → Q u s') : wpAny (model X.prog X.w) A (getAttr (.ref a) f b) Q E s := by
  obtain ⟨mA, O, r, _, _, _⟩ := ins_get I.hok e
  have hn : mA f = none := RelO.none_of (by rw [← l]; exact r f)
  exact get_const I.kIn O (c.get f) c.hd k.at_ k.get k.cp hn (handed_of k.rel) (h _ (I.tok _))

theorem getmeth_ok {m : Str} {g : Addr} {pl : Sem Bool} {Q : Value × List Value → Shared → Prop} (I : Inv X pins σ H s) (e : H a = some (.ins C dx fs)) (c : Cls X.K C) (k : Meth X.K C m g) (l : fs.lookup m = none)
    (h : Q (.ref g, [.ref a]) s) : wpAny (model X.prog X.w) A (getMethod (.ref a) m pl) Q E s := by
  obtain ⟨mA, O, r, _, _, _⟩ := ins_get I.hok e
  have hn : mA m = none := RelO.none_of (by rw [← l]; exact r m)
  exact get_meth I.kIn O (c.get m) k.at_ k.fn hn h

theorem setattr_ok {y : V} {u : Value} {Q : Unit → Shared → Prop} (I : Inv X pins σ H s) (e : H a = some (.ins C dx fs)) (c : Cls X.K C) (n : NoAttr X.K C f) (hl : fs.length < 1000) (ry : RelV y u)
    (h : ∀ s', Inv X pins σ (upd H a (.ins C dx (putF f y fs))) s' → Q () s') : wpAny (model X.prog X.w) A (setAttr (.ref a) f u) Q E s := by
  obtain ⟨mA, O, r, wi, _, ho⟩ := ins_get I.hok e
  have hz : (fs.map (·.1)).length ≤ sizeLine := by rw [List.length_map, sizeLine_eq]; omega
  refine set_map I.kIn O c.sa c.po n.taker c.hd wi hz fun h' O' sb => h _ ?_
  have hd : ∃ o, h'.get? dx = some o := let ⟨o, _, _, e', _⟩ := O'.ns; ⟨o, e'⟩
  refine I.write (x := a) (e := dx) (by rw [e]; exact True.intro) (.inr ho) (fun b q hb z => (sb.2 b hb).trans z) hd ?_
  refine ⟨by rw [upd_ne O.ne]; exact ho, ?_, O.ne, O'.obj, _, O'.ns, fun g => ?_, fun g hg => ?_⟩
  · have := length_putF f y fs; omega
  · show RelO ((putF f y fs).lookup g) (if g = f then some u else mA g)
    rw [lookup_putF]
    by_cases q : g = f
    · rw [if_pos q, if_pos q]; exact ry
    · rw [if_neg q, if_neg q]; exact r g
  · by_cases q : g = f
    · rw [q]; exact (keys_putF f y fs).1
    · refine (keys_putF f y fs).2 g (wi g fun z => hg ?_)
      show (if g = f then some u else mA g) = none
      rw [if_neg q]; exact z

/-- a new instance, tracked, without attributes -/
theorem Inv.made (I : Inv X pins σ H s) : Inv X pins σ (upd (upd H s.heap.objs.size (.own (s.heap.objs.size + 1))) (s.heap.objs.size + 1) (.ins C s.heap.objs.size []))
    { s with heap := (s.heap.push PySem.W.emptyDict).push (PySem.W.instObj C s.heap.objs.size) } := by
  have e1 : (s.heap.push PySem.W.emptyDict).get? s.heap.objs.size = some PySem.W.emptyDict := Heap.get?_push_size s.heap rfl
  have e2 : ((s.heap.push PySem.W.emptyDict).push (PySem.W.instObj C s.heap.objs.size)).get? (s.heap.objs.size + 1) = some (PySem.W.instObj C s.heap.objs.size) := by
    have := Heap.get?_push_size (s.heap.push PySem.W.emptyDict) (o := PySem.W.instObj C s.heap.objs.size) rfl
    rwa [Heap.size_push] at this
  have e3 : (s.heap.push PySem.W.emptyDict).Ns s.heap.objs.size (fun _ => none) := ⟨PySem.W.emptyDict, #[], _, e1, rfl, (fun e he => absurd he (by simp)), fun _ => rfl⟩
  have I1 := I.laid (a := s.heap.objs.size) (o := .own (s.heap.objs.size + 1)) (h' := s.heap.push PySem.W.emptyDict) (t' := s.toks) (fun b u q => Heap.get?_push_of_some _ q) (Nat.le_refl _) ⟨_, e1⟩
  refine I1.laid (a := s.heap.objs.size + 1) (o := .ins C s.heap.objs.size []) (t' := s.toks) (fun b u q => Heap.get?_push_of_some _ q) (Nat.le_of_eq (Heap.size_push _ _)) ?_
  have ne : s.heap.objs.size ≠ s.heap.objs.size + 1 := Nat.ne_of_lt (Nat.lt_succ_self _)
  refine ⟨by rw [upd_ne ne, upd_same], Nat.zero_le _, ne, e2, fun _ => none, (Heap.Ns1.of_empty e3).at fun o q => Heap.get?_push_of_some _ q, fun _ => True.intro, fun y hy => absurd rfl hy⟩

/-- e.f where nothing but the object is asked: through attributeBase (super) and the last hold -/
theorem attr_of {prog : Program} {w : World} {env : Env} {e : Expr} {f : Str} {pos : Pos} {s : Shared} {Q : Value → Shared → Prop} (hb : attributeBase e f env (eval e env) = eval e env)
    (h : wpAny (model prog w) A (eval e env) (fun o s₁ => wpAny (model prog w) A (getAttr o f true) Q E s₁) E s) : wpAny (model prog w) A (eval (.Attribute e f pos) env) Q E s :=
  Attribute_any_ h (by rw [arm_eval_Attribute, hb])
end

/-! ### readings and rules -/
/-- e.f, an attribute of the instance -/
def tFld (K : PySem.W.Frag) (ta : TE) (f : Str) : TE := fun σ H Q => ta σ H fun x H1 => ∃ a C dx fs v, x = .ref a ∧ H1 a = some (.ins C dx fs) ∧ Cls K C ∧ NoAttr K C f ∧ fs.lookup f = some v ∧ Q v H1
/-- e.f, a constant of the class -/
def tCon (K : PySem.W.Frag) (ta : TE) (f : Str) : TE := fun σ H Q => ta σ H fun x H1 => ∃ a C dx fs v u, x = .ref a ∧ H1 a = some (.ins C dx fs) ∧ Cls K C ∧ Con K C f v u ∧ fs.lookup f = none ∧ Q v H1
/-- e.f = value -/
def sFld (K : PySem.W.Frag) (ta tv : TE) (f : Str) : TS := fun D σ H => tv σ H fun y H1 => ta σ H1 fun x H2 => ∃ a C dx fs, x = .ref a ∧ H2 a = some (.ins C dx fs) ∧ Cls K C ∧ NoAttr K C f ∧ fs.length < 1000 ∧
  D.nx σ (upd H2 a (.ins C dx (putF f y fs)))
/-- an augmented operator on two values -/
def InOp (X : Cx) (op : Operator) (rd : V → V → Hp → VK → Prop) : Prop :=
  ∀ (pins : List (Addr × Obj)) (s : Shared) (σ : St) (H : Hp) (x y : V) (u v : Value) (Q : VK), Inv X pins σ H s → RelV x u → RelV y v → rd x y H Q → wpAny (model X.prog X.w) X.A (inplaceOp op u v) (EP X pins σ Q) X.xe s
/-- e.f op= value -/
def sFldAug (K : PySem.W.Frag) (ta tv : TE) (rd : V → V → Hp → VK → Prop) (f : Str) : TS := fun D σ H => ta σ H fun x H1 => ∃ a C dx fs v, x = .ref a ∧ H1 a = some (.ins C dx fs) ∧ Cls K C ∧ NoAttr K C f ∧ fs.lookup f = some v ∧
  tv σ H1 fun y H2 => rd v y H2 fun z H3 => ∃ dx' fs', H3 a = some (.ins C dx' fs') ∧ fs'.length < 1000 ∧ D.nx σ (upd H3 a (.ins C dx' (putF f z fs')))

section
variable {X : Cx} {o e value : Expr} {f : Str} {pos pos' tpos : Pos} {ta tv : TE}
theorem pe_fld (he : PE X e ta) (hb : attributeBase e f X.env (eval e X.env) = eval e X.env) : PE X (.Attribute e f pos) (tFld X.K ta f) := by
  intro pins s σ H Q I h
  refine attr_of hb (thn (he pins s σ H _ I h) fun u s1 ⟨x, H1, I1, rx, a, C, dx, fs, v, ex, ea, c, n, l, q⟩ => ?_)
  subst ex
  obtain rfl : u = Value.ref a := rx
  exact getattr_ok I1 ea c n l fun u' s2 I2 ru => ⟨v, H1, I2, ru, q⟩
theorem pe_con (he : PE X e ta) (hb : attributeBase e f X.env (eval e X.env) = eval e X.env) : PE X (.Attribute e f pos) (tCon X.K ta f) := by
  intro pins s σ H Q I h
  refine attr_of hb (thn (he pins s σ H _ I h) fun u s1 ⟨x, H1, I1, rx, a, C, dx, fs, v, u0, ex, ea, c, k, l, q⟩ => ?_)
  subst ex
  obtain rfl : u = Value.ref a := rx
  exact getcon_ok I1 ea c k l fun s2 I2 => ⟨v, H1, I2, k.rel, q⟩
theorem ps_fld (ha : PE X o ta) (hv : PE X value tv) (hs : swapsWith value (some (.Attribute o f pos')) pos.line X.env = pure false) : PS X (.Assign [.Attribute o f pos'] value pos) (sFld X.K ta tv f) := by
  intro pins s σ H D I h
  refine plainObj_wpAny_Assign_Attribute (thn (hv pins s σ H _ I h) fun u s1 ⟨y, H1, I1, ry, q⟩ => thn (ha pins s1 σ H1 _ I1 q) fun ov s2 ⟨x, H2, I2, rx, a, C, dx, fs, ex, ea, c, n, l, q2⟩ => ?_) hs
  subst ex
  obtain rfl : ov = Value.ref a := rx
  exact setattr_ok I2 ea c n l ry fun s3 I3 => ⟨σ, _, I3, q2⟩
theorem ps_fldaug {op : Operator} {rd : V → V → Hp → VK → Prop} (ha : PE X o ta) (hv : PE X value tv) (hop : InOp X op rd) : PS X (.AugAssign (.Attribute o f tpos) op value pos) (sFldAug X.K ta tv rd f) := by
  intro pins s σ H D I h
  refine wpAny_AugAssign_AttributeAny (thn (ha pins s σ H _ I h) fun ov s1 ⟨x, H1, I1, rx, a, C, dx, fs, v, ex, ea, c, n, l, q⟩ => ?_)
  subst ex
  obtain rfl : ov = Value.ref a := rx
  refine getattr_ok I1 ea c n l fun u s2 I2 ru => thn (hv pins s2 σ H1 _ I2 q) fun w3 s3 ⟨y, H2, I3, ry, q3⟩ => thn (hop pins s3 σ H2 v y u w3 _ I3 ru ry q3) fun w4 s4 ⟨z, H3, I4, rz, dx', fs', ea', l', q4⟩ => ?_
  exact setattr_ok I4 ea' c n l' rz fun s5 I5 => ⟨σ, _, I5, q4⟩
def rAdd : V → V → Hp → VK → Prop := fun x y H Q => ∃ i j, x = .int i ∧ y = .int j ∧ Q (.int (i + j)) H
def rSub : V → V → Hp → VK → Prop := fun x y H Q => ∃ i j, x = .int i ∧ y = .int j ∧ Q (.int (i - j)) H
theorem in_add : InOp X .Add rAdd := by
  rintro pins s σ H x y u v Q I rx ry ⟨i, j, rfl, rfl, q⟩
  obtain ⟨t, rfl⟩ := (show ∃ t, u = Value.int i t from rx)
  obtain ⟨t', rfl⟩ := (show ∃ t', v = Value.int j t' from ry)
  exact PyProof.Rows.iadd_int ⟨.int (i + j), H, I.tok _, ⟨_, rfl⟩, q⟩
theorem in_sub : InOp X .Sub rSub := by
  rintro pins s σ H x y u v Q I rx ry ⟨i, j, rfl, rfl, q⟩
  obtain ⟨t, rfl⟩ := (show ∃ t, u = Value.int i t from rx)
  obtain ⟨t', rfl⟩ := (show ∃ t', v = Value.int j t' from ry)
  exact PyProof.Rows.isub_int ⟨.int (i - j), H, I.tok _, ⟨_, rfl⟩, q⟩

/-- what is between an instance and its method: the tree of a method call -/
theorem methcall_of {pl : Sem Bool} {m : Str} {apos : Pos} {args : List Expr} {pins : List (Addr × Obj)} {s : Shared} {σ : St} {H : Hp} {Q : Value → Shared → Prop} {te : TE} (he : PE X e te) (I : Inv X pins σ H s)
    (h : te σ H fun x H1 => ∃ a C dx fs g, x = .ref a ∧ H1 a = some (.ins C dx fs) ∧ Cls X.K C ∧ Meth X.K C m g ∧ fs.lookup m = none ∧
      ∀ s1, Inv X pins σ H1 s1 → wpAny (model X.prog X.w) X.A (callWith pos (.ref g) [.ref a] (backTo pos (starEach args X.env)) (backToKw pos (keywordEach [] X.env))) Q X.xe s1)
    (ht : eval (.Call (.Attribute e m apos) args [] pos) X.env = (do
      let ov ← eval e X.env
      standAt apos.atName
      let (f, first) ← holding [ov] (getMethod ov m pl)
      callWith pos f first (backTo pos (starEach args X.env)) (backToKw pos (keywordEach [] X.env)))) :
    wpAny (model X.prog X.w) X.A (eval (.Call (.Attribute e m apos) args [] pos) X.env) Q X.xe s := by
  refine PySem.W.methodCall_KW (pl := pl) (thn (he pins s σ H _ I h) fun u s1 ⟨x, H1, I1, rx, a, C, dx, fs, g, ex, ea, c, k, l, q⟩ => ?_) ht
  subst ex
  obtain rfl : u = Value.ref a := rx
  exact getmeth_ok I1 ea c k l (q s1 I1)
end

/-! ### isinstance -/
section
variable {X : Cx} {pins : List (Addr × Obj)} {σ : St} {H : Hp} {s : Shared} {A : Around} {E : Value → Shared → Prop} {Q : Value → Shared → Prop} {c : Value} {b : Bool}
/-- the type of a value, as the fragment's deciders take it; for an instance its class -/
inductive TyOf (K : PySem.W.Frag) (H : Hp) : V → Value → Prop where
  | non : TyOf K H .non (.type "NoneType")
  | bl (x : Bool) : TyOf K H (.bl x) (.type "bool")
  | int (i : Int) : TyOf K H (.int i) (.type "int")
  | str (x : Str) : TyOf K H (.str x) (.type "str")
  | flt (x : UInt64) : TyOf K H (.flt x) (.type "float")
  | lst {a : Addr} {xs : List V} (e : H a = some (.lst xs)) : TyOf K H (.ref a) (.type "list")
  | frz {a : Addr} {o : Obj} {xs : List V} (e : H a = some (.frz o (.lst xs))) : TyOf K H (.ref a) (.type "list")
  | tup {a : Addr} {xs : List V} (e : H a = some (.tup xs)) : TyOf K H (.ref a) (.type "tuple")
  | dK {a : Addr} {kvs : List (Key × V)} (e : H a = some (.dK kvs)) : TyOf K H (.ref a) (.type "dict")
  | dT {a : Addr} {kvs : List (List Key × V)} (e : H a = some (.dT kvs)) : TyOf K H (.ref a) (.type "dict")
  | ins {a C dx : Addr} {fs : List (Str × V)} (e : H a = some (.ins C dx fs)) (cl : Cls K C) (ha : PySem.W.findIn K (.ref C) "__class__" = some (some (.builtin "object.__class__")))
      (hn : PySem.W.specialIn K (.builtin "object.__class__") "__get__" = some (some (.builtin "getset_descriptor.__get__"))) (htk : PySem.W.takesIn K (.builtin "object.__class__") = some true)
      (hm : PySem.W.mroIn K C (.type "object") = some true) : TyOf K H (.ref a) (.ref C)
/-- isinstance(x, c) for one class c, a built-in or an own one: kitOne's answer -/
theorem isinst_ok {x : V} {u t : Value} (I : Inv X pins σ H s) (rx : RelV x u) (ty : TyOf X.K H x t) (e : PySem.W.kitOne X.K t c = some b) (h : ∀ tk, Q (.bool b) { s with toks := tk }) :
    wpAny (model X.prog X.w) A (call (.builtin "isinstance") [u, c]) Q E s := by
  cases ty with
  | non => cases (show u = Value.none from rx); exact PySem.W.kia_one PySem.W.kitx_none I.kIn True.intro e (fun z => nomatch z) h
  | bl y => cases (show u = Value.bool y from rx); exact PySem.W.kia_one PySem.W.kitx_bool I.kIn True.intro e (fun z => nomatch z) h
  | int i => obtain ⟨t, q⟩ := (show ∃ t, u = Value.int i t from rx); cases q; exact PySem.W.kia_one PySem.W.kitx_int I.kIn True.intro e (fun z => nomatch z) h
  | str y => obtain ⟨t, q⟩ := (show ∃ t, u = Value.str y t from rx); cases q; exact PySem.W.kia_one PySem.W.kitx_str I.kIn True.intro e (fun z => nomatch z) h
  | flt y => obtain ⟨t, q⟩ := (show ∃ t, u = Value.float y t from rx); cases q; exact PySem.W.kia_one PySem.W.kitx_float I.kIn True.intro e (fun z => nomatch z) h
  | @lst a xs ea =>
    cases (show u = Value.ref a from rx)
    obtain ⟨_, _, n, _, h1⟩ := (show ObjOk X.prog X.w H s.heap a (.lst xs) from I.hok a _ ea)
    exact PySem.W.kia_one PySem.W.kitx_list I.kIn ⟨_, h1, rfl⟩ e (fun z => nomatch z) h
  | @frz a ob xs ea =>
    cases (show u = Value.ref a from rx)
    obtain ⟨_, _, _, n, _, h1⟩ := (show ObjOk X.prog X.w H s.heap a (.frz ob (.lst xs)) from I.hok a _ ea)
    exact PySem.W.kia_one PySem.W.kitx_list I.kIn ⟨_, h1, rfl⟩ e (fun z => nomatch z) h
  | @tup a xs ea =>
    cases (show u = Value.ref a from rx)
    obtain ⟨_, _, _, p⟩ := (show ObjOk X.prog X.w H s.heap a (.tup xs) from I.hok a _ ea)
    obtain ⟨o, h1, h2, _⟩ := p.1
    exact PySem.W.kia_one PySem.W.kitx_tuple I.kIn ⟨o, h1, h2⟩ e (fun z => nomatch z) h
  | @dK a kvs ea =>
    cases (show u = Value.ref a from rx)
    obtain ⟨_, _, vs, _, p⟩ := (show ObjOk X.prog X.w H s.heap a (.dK kvs) from I.hok a _ ea)
    obtain ⟨o, es, ep, h1, h2, _⟩ := p
    exact PySem.W.kia_one PySem.W.kitx_dict I.kIn ⟨o, h1, h2.1⟩ e (fun z => nomatch z) h
  | @dT a kvs ea =>
    cases (show u = Value.ref a from rx)
    obtain ⟨_, _, xs, _, o, es, ep, h1, h2, _⟩ := (show ObjOk X.prog X.w H s.heap a (.dT kvs) from I.hok a _ ea)
    exact PySem.W.kia_one PySem.W.kitx_dict I.kIn ⟨o, h1, h2.1⟩ e (fun z => nomatch z) h
  | @ins a C dx fs ea cl ha hn htk hm =>
    cases (show u = Value.ref a from rx)
    obtain ⟨mA, O, _⟩ := ins_get I.hok ea
    obtain ⟨od, J, _⟩ := O.look
    exact PySem.W.kia_one (PySem.W.kitx_own (cl.get _) cl.hd ha hn htk hm) I.kIn J e (fun z => nomatch z) h
end
end L2

namespace L2
open PySem PySem.Spec PyProof.Rows

/-! ### room -/
structure Room (k : Nat) (A : Around) : Prop where
  hd : A.handled = none
  dp : A.depth + 3 * k + 5 < recursionLimit
  un : A.units + 16 * k + 200 < cLine
theorem Room.mono {j k : Nat} {A : Around} (r : Room k A) (h : j ≤ k) : Room j A := ⟨r.hd, by have := r.dp; omega, by have := r.un; omega⟩
theorem Room.deeper {k : Nat} {A : Around} (r : Room (k + 1) A) (env : Env) : Room k (A.deeper env) :=
  ⟨r.hd, by have := r.dp; show A.depth + 1 + 3 * k + 5 < _; omega, by have := r.un; show A.units + 3 + 16 * k + 200 < _; omega⟩
theorem Room.in1 {k : Nat} {A : Around} (r : Room (k + 1) A) : Room k A.in1 :=
  ⟨r.hd, by have := r.dp; show A.depth + 3 * k + 5 < _; omega, by have := r.un; show A.units + 1 + 16 * k + 200 < _; omega⟩
theorem make_depth {A : Around} {C : Addr} {us : List Value} {kw : List (Str × Value)} : (A.under (.builtin "type.__call__" ⟨.ref C :: us, kw⟩)).depth = A.depth + 1 := by
  first | rfl | simp [Around.under, Code.weight, Code.isCreation, Code.isGuard, Code.isCaller, Code.frames, Code.isFrame, guardIds]
theorem make_units {A : Around} {C : Addr} {us : List Value} {kw : List (Str × Value)} : (A.under (.builtin "type.__call__" ⟨.ref C :: us, kw⟩)).units = A.units + 1 := by
  first | rfl | simp [Around.under, Code.cUnits, Code.frames, Code.isFrame]
theorem Room.make {k : Nat} {A : Around} (r : Room (k + 1) A) (C : Addr) (us : List Value) (kw : List (Str × Value)) : Room k (A.under (.builtin "type.__call__" ⟨.ref C :: us, kw⟩)) :=
  ⟨r.hd, by have := r.dp; rw [make_depth]; omega, by have := r.un; rw [make_units]; omega⟩
theorem Room.depth {k : Nat} {A : Around} (r : Room k A) : A.depth < recursionLimit := by have := r.dp; omega
theorem Room.units {k : Nat} {A : Around} (r : Room k A) : A.units + 64 < cLine := by have := r.un; omega
theorem Room.units0 {k : Nat} {A : Around} (r : Room k A) : A.units < cLine := by have := r.un; omega

/-! ### argument lists and displays -/
def tNil : TA := fun _ H Q => Q [] H
def tCons (ta : TE) (tr : TA) : TA := fun σ H Q => ta σ H fun x H1 => tr σ H1 fun xs H2 => Q (x :: xs) H2
section
variable {X : Cx} {e : Expr} {es : List Expr} {te : TE} {t : TA} {pos : Pos}
theorem pa_nil : PA X [] tNil := fun _ _ _ _ H Q I h => Calls.spliced_nil ⟨[], H, I, .nil, h⟩
theorem pa_cons (ha : PE X e te) (hr : PA X es t) (hs : starEach (e :: es) X.env = (false, eval e X.env) :: starEach es X.env := by rfl) : PA X (e :: es) (tCons te t) := by
  intro pos pins s σ H Q I h
  rw [hs]
  show wpAny _ _ (spliced ((false, eval e X.env) :: backTo pos (starEach es X.env))) _ _ s
  refine Calls.spliced_cons (thn (ha pins s σ H _ I h) fun u s1 ⟨x, H1, I1, r1, q1⟩ => ?_)
  exact thn (hr pos pins s1 σ H1 _ I1 q1) fun us s2 ⟨xs, H2, I2, r2, q2⟩ => ⟨x :: xs, H2, I2, .cons r1 r2, q2⟩

/-- a tuple, a list of written items -/
def tTup (t : TA) : TE := fun σ H Q => t σ H fun xs H1 => xs.length ≤ sizeLine ∧ ∀ p, H1 p = none → Q (.ref p) (upd H1 p (.tup xs))
def tLst (t : TA) : TE := fun σ H Q => t σ H fun xs H1 => xs.length ≤ sizeLine ∧ ∀ p, H1 p = none → Q (.ref p) (upd H1 p (.lst xs))
theorem pe_tup {x1} (h : PA X es t) : PE X (.Tuple es x1 pos) (tTup t) := by
  intro pins s σ H Q I hq
  refine wpAny_Tuple_spliced (thn (h pos pins s σ H _ I hq) fun us s1 ⟨xs, H1, I1, r, z, q⟩ => ⟨by rw [← r.length]; exact z, ?_⟩)
  have hf : H1 s1.heap.objs.size = none := I1.hok.fresh (Nat.le_refl _)
  refine ⟨.ref s1.heap.objs.size, upd H1 s1.heap.objs.size (.tup xs), I1.laid (t' := s1.toks) (fun b u e => Heap.get?_push_of_some _ e) (Nat.le_refl _) ?_, rfl, q _ hf⟩
  exact ⟨z, us, r, ⟨_, Heap.get?_push_size _ rfl, rfl, _, rfl⟩, fun ob' e' => by rw [Heap.get?_push_size _ rfl] at e'; cases e'; rfl⟩
theorem pe_lst (h : PA X es t) : PE X (.List es pos) (tLst t) := by
  intro pins s σ H Q I hq
  refine wpAny_List_spliced (thn (h pos pins s σ H _ I hq) fun us s1 ⟨xs, H1, I1, r, z, q⟩ => ⟨by rw [← r.length]; exact z, ?_⟩)
  have hf : H1 s1.heap.objs.size = none := I1.hok.fresh (Nat.le_refl _)
  refine ⟨.ref s1.heap.objs.size, upd H1 s1.heap.objs.size (.lst xs), I1.laid (t' := s1.toks) (fun b u e => Heap.get?_push_of_some _ e) (Nat.le_refl _) ?_, rfl, q _ hf⟩
  exact ⟨z, us, 0, r, Heap.get?_push_size _ rfl⟩
end

/-! ### what a def promises -/
/-- a def's promise: the bound arguments in the parameters' order, the heap, the wanted end, the wanted exception -/
abbrev Sp := List V → Hp → VK → XK → Prop
/-- how an exception lies behind a call (file 08 gives it): the callers' frames, abstract heap and state ahead of the call, the wish, the exception, the state -/
abbrev CXT := List Env → Hp → Shared → XK → Value → Shared → Prop

/-- the state at a call -/
structure Env0 (P : Program) (w : World) (K : PySem.W.Frag) (mg : Str → Option Value) (base : Heap) (A : Around) (outer : List Env) (s : Shared) (H : Hp) : Prop where
  frames : A.frames = some outer
  mod : Mod K mg base
  bs : ∀ b o, base.get? b = some o → s.heap.get? b = some o ∧ H b = none
  bsz : base.objs.size ≤ s.heap.objs.size
  funs : s.heap.FunFrames base outer
  frf : ∀ b ∈ frs outer, H b = none
  hok : HOk P w H s.heap
  bare : AllBare s.gens
/-- a call's end -/
def CE (outer : List Env) (P : Program) (w : World) (H : Hp) (s : Shared) (Q : VK) (u : Value) (s' : Shared) : Prop :=
  ∃ v H', s'.os = s.os ∧ AllBare s'.gens ∧ Un (frs outer) [] H H' s.heap s'.heap ∧ HOk P w H' s'.heap ∧ RelV v u ∧ Q v H'
def CR (CX : CXT) (outer : List Env) (P : Program) (w : World) (H : Hp) (s : Shared) (Q : VK) (E : XK) (r : Result) (s' : Shared) : Prop :=
  match r with
  | .ok (.ret u) => CE outer P w H s Q u s'
  | .ok _ => False
  | .error e => CX outer H s E e s'
structure FnOk (P : Program) (w : World) (K : PySem.W.Frag) (mg : Str → Option Value) (base : Heap) (CX : CXT) (k : Nat) (f : Addr) (fd : FuncData) (ps : List Str) (sp : Sp) : Prop where
  len : ∀ vs H Q E, sp vs H Q E → vs.length = ps.length
  run : ∀ (A : Around) (outer : List Env) (s : Shared) (H : Hp) (args : Args) (us : List Value) (vs : List V) (Q : VK) (E : XK), Room k A → Env0 P w K mg base A outer s H → BindsTo s fd args (ps.zip us) → Vals vs us → sp vs H Q E →
    codeAny (model P w) A (.call (.ref f) args) (CR CX outer P w H s Q E) s
theorem FnOk.mono {P : Program} {w : World} {K : PySem.W.Frag} {mg : Str → Option Value} {base : Heap} {CX : CXT} {j k : Nat} {f : Addr} {fd : FuncData} {ps : List Str} {sp : Sp} (F : FnOk P w K mg base CX j f fd ps sp) (h : j ≤ k) :
    FnOk P w K mg base CX k f fd ps sp := ⟨F.len, fun A outer s H args us vs Q E hr => F.run A outer s H args us vs Q E (hr.mono h)⟩
/-- a weaker promise -/
theorem FnOk.imp {P : Program} {w : World} {K : PySem.W.Frag} {mg : Str → Option Value} {base : Heap} {CX : CXT} {k : Nat} {f : Addr} {fd : FuncData} {ps : List Str} {sp sp' : Sp} (F : FnOk P w K mg base CX k f fd ps sp)
    (h : ∀ vs H Q E, sp' vs H Q E → sp vs H Q E) : FnOk P w K mg base CX k f fd ps sp' :=
  ⟨fun vs H Q E q => F.len vs H Q E (h _ _ _ _ q), fun A outer s H args us vs Q E hr he hb hv hs => F.run A outer s H args us vs Q E hr he hb hv (h _ _ _ _ hs)⟩

theorem Env0.make {P : Program} {w : World} {K : PySem.W.Frag} {mg : Str → Option Value} {base : Heap} {A : Around} {outer : List Env} {s : Shared} {H : Hp} (e : Env0 P w K mg base A outer s H) (C : Addr) (us : List Value) (kw : List (Str × Value)) :
    Env0 P w K mg base (A.under (.builtin "type.__call__" ⟨.ref C :: us, kw⟩)) outer s H := ⟨by first | exact e.frames | (simpa [Around.under, Code.envs, Code.isFrame, pushEnvs] using e.frames), e.mod, e.bs, e.bsz, e.funs, e.frf, e.hok, e.bare⟩
theorem Env0.in1 {P : Program} {w : World} {K : PySem.W.Frag} {mg : Str → Option Value} {base : Heap} {A : Around} {outer : List Env} {s : Shared} {H : Hp} (e : Env0 P w K mg base A outer s H) :
    Env0 P w K mg base A.in1 outer s H := ⟨e.frames, e.mod, e.bs, e.bsz, e.funs, e.frf, e.hok, e.bare⟩

section
variable {X : Cx} {pins : List (Addr × Obj)} {σ : St} {H : Hp} {s s' : Shared}
/-- from a body: what a callee wants -/
theorem Inv.env0 (I : Inv X pins σ H s) : Env0 X.prog X.w X.K X.mg X.base X.A X.stack s H :=
  ⟨I.ok.frames, I.ok.mod, I.bs, Nat.le_trans I.ok.bsz I.sz, I.stack, I.stkFree, I.hok, I.bare⟩
/-- behind a call -/
theorem Inv.after {Q : VK} {u : Value} (I : Inv X pins σ H s) (h : CE X.stack X.prog X.w H s Q u s') : EP X pins σ Q u s' := by
  obtain ⟨v, H', os, bare, un, hok, r, q⟩ := h
  obtain ⟨hh, g, d, t, os'⟩ := s'
  obtain rfl : os' = s.os := os
  exact ⟨v, H', I.call (h' := hh) (g' := g) (d' := d) (t' := t) (ch := []) un hok bare (fun b z => absurd z (by simp)), r, q⟩
end

/-! ### calls -/
/-- f(..): the written arguments, then the defaults dvs; E: what is wanted of an exception -/
def tCall (sp : Sp) (dvs : List V) (E : XK) (t : TA) : TE := fun σ H Q => t σ H fun vs H1 => sp (vs ++ dvs) H1 Q E
/-- o.m(..) of an instance of the class at C -/
def tMeth (C : Addr) (m : Str) (sp : Sp) (dvs : List V) (E : XK) (ta : TE) (t : TA) : TE := fun σ H Q => ta σ H fun x H1 => ∃ a dx fs, x = .ref a ∧ H1 a = some (.ins C dx fs) ∧ fs.lookup m = none ∧
  t σ H1 fun vs H2 => sp (x :: (vs ++ dvs)) H2 Q E
/-- C(..): a new instance and its dict, then __init__ -/
def tMake (C : Addr) (sp : Sp) (dvs : List V) (E : XK) (t : TA) : TE := fun σ H Q => t σ H fun vs H1 => ∀ x dx, H1 x = none → H1 dx = none → dx ≠ x →
  sp (.ref x :: (vs ++ dvs)) (upd (upd H1 dx (.own x)) x (.ins C dx [])) (fun v H2 => v = .non ∧ Q (.ref x) H2) E

/-- how the parameters are bound: us the positional arguments, kw the keywords' values by name, ds the defaults that fill up -/
def Binds (K : PySem.W.Frag) (fd : FuncData) (ps : List Str) (ds : List Value) : Prop :=
  ∀ (s : Shared) (us : List Value), K.In s.heap → (us ++ ds).length = ps.length → BindsTo s fd ⟨us, []⟩ (ps.zip (us ++ ds))
/-- every parameter is given -/
theorem Binds.all {K : PySem.W.Frag} {fd : FuncData} {ps : List Str} (h : ∀ us : List Value, us.length = ps.length → bindArgs fd ⟨us, []⟩ = pure (ps.zip us)) : Binds K fd ps [] := fun s us _ hl => by
  rw [List.append_nil] at hl ⊢
  exact .of_eq (h us hl)

/-- an exception of a callee reaches what this body wants of exceptions -/
def Passes (CX : CXT) (X : Cx) (E : XK) : Prop := ∀ (pins : List (Addr × Obj)) (σ : St) (H : Hp) (s : Shared) (e : Value) (s' : Shared), Inv X pins σ H s → CX X.stack H s E e s' → X.xe e s'

section
variable {X : Cx} {CX : CXT} {k : Nat} {f C : Addr} {fd : FuncData} {ps : List Str} {sp : Sp} {dvs : List V} {ds : List Value} {E : XK} {x m : Str} {p pos apos : Pos} {e o : Expr} {es : List Expr} {ta : TE} {t : TA}

/-- the callee runs -/
theorem run_fn {pins : List (Addr × Obj)} {σ : St} {H : Hp} {s : Shared} {Q : VK} {us : List Value} {vs : List V} (F : FnOk X.prog X.w X.K X.mg X.base CX k f fd ps sp) (hr : Room k X.A) (hb : Binds X.K fd ps ds) (hd : Vals dvs ds) (hx : Passes CX X E)
    (I : Inv X pins σ H s) (r : Vals vs us) (h : sp (vs ++ dvs) H Q E) : wpAny (model X.prog X.w) X.A (call (.ref f) us) (EP X pins σ Q) X.xe s := by
  have r2 : Vals (vs ++ dvs) (us ++ ds) := r.append hd
  have hl : (us ++ ds).length = ps.length := by rw [← r2.length]; exact F.len _ _ _ _ h
  refine wpAny_call (codeAny_mono (F.run X.A X.stack s H ⟨us, []⟩ (us ++ ds) (vs ++ dvs) Q E hr I.env0 (hb s us I.kIn hl) r2 h) fun r s' hq => ?_)
  cases r with
  | error e => exact hx pins σ H s e s' I hq
  | ok fl =>
    cases fl with
    | ret u => exact I.after hq
    | next => exact False.elim hq
    | brk => exact False.elim hq
    | cont => exact False.elim hq

theorem pe_call (F : FnOk X.prog X.w X.K X.mg X.base CX k f fd ps sp) (hr : Room k X.A) (hg : Gl X x) (hm : X.mg x = some (.ref f)) (hk : PySem.W.keepIn X.K (.ref f) = true) (hb : Binds X.K fd ps ds) (hd : Vals dvs ds) (hx : Passes CX X E)
    (ha : PA X (e :: es) t) (hdb : (x == ("__debug__" : Str)) = false := by decide) (he : starEach (e :: es) X.env = (false, eval e X.env) :: starEach es X.env := by rfl) (hpl : (backTo pos (starEach es X.env)).any (·.1) = false := by rfl) :
    PE X (.Call (.Name x p) (e :: es) [] pos) (tCall sp dvs E t) := by
  intro pins s σ H Q I h
  refine wpAny_Call_Name_kw (ld_glob I hg hm ?_ hdb)
  refine PySem.W.callWith_K (h₀ := X.base) I.ok.mod.kin hk (thn (ha pos pins s σ H _ I h) fun us s1 ⟨vs, H1, I1, r, q⟩ => ⟨I1.kIn, ?_⟩) he hpl
  exact run_fn F hr hb hd hx I1 r q
theorem pe_call0 (F : FnOk X.prog X.w X.K X.mg X.base CX k f fd ps sp) (hr : Room k X.A) (hg : Gl X x) (hm : X.mg x = some (.ref f)) (hk : PySem.W.keepIn X.K (.ref f) = true) (hb : Binds X.K fd ps ds) (hd : Vals dvs ds) (hx : Passes CX X E)
    (hdb : (x == ("__debug__" : Str)) = false := by decide) : PE X (.Call (.Name x p) [] [] pos) (tCall sp dvs E tNil) := by
  intro pins s σ H Q I h
  refine wpAny_Call_Name_kw (ld_glob I hg hm ?_ hdb)
  exact PySem.W.callWith_K0 I.kIn hk (run_fn (us := []) F hr hb hd hx I .nil h)

/-- o.m(e, ..) -/
theorem pe_meth {pl : Sem Bool} (he : PE X o ta) (c : Cls X.K C) (hm : Meth X.K C m f) (F : FnOk X.prog X.w X.K X.mg X.base CX k f fd ps sp) (hr : Room k X.A) (hb : Binds X.K fd ps ds) (hd : Vals dvs ds) (hx : Passes CX X E) (ha : PA X (e :: es) t)
    (hst : starEach (e :: es) X.env = (false, eval e X.env) :: starEach es X.env := by rfl) (hpl : (backTo pos (starEach es X.env)).any (·.1) = false := by rfl)
    (ht : eval (.Call (.Attribute o m apos) (e :: es) [] pos) X.env = (do
      let ov ← eval o X.env
      standAt apos.atName
      let (f, first) ← holding [ov] (getMethod ov m pl)
      callWith pos f first (backTo pos (starEach (e :: es) X.env)) (backToKw pos (keywordEach [] X.env))) := by rfl) :
    PE X (.Call (.Attribute o m apos) (e :: es) [] pos) (tMeth C m sp dvs E ta t) := by
  intro pins s σ H Q I h
  refine PySem.W.methodCall_KW (pl := pl) (thn (he pins s σ H _ I h) fun u s1 ⟨x, H1, I1, rx, a, dx, fs, ex, ea, l, q⟩ => ?_) ht
  subst ex
  obtain rfl : u = Value.ref a := rx
  refine getmeth_ok I1 ea c hm l ?_
  refine PySem.W.callWith_K (first := [.ref a]) (h₀ := X.base) I.ok.mod.kin hm.kp (thn (ha pos pins s1 σ H1 _ I1 q) fun us s2 ⟨vs, H2, I2, r, q2⟩ => ⟨I2.kIn, ?_⟩) hst hpl
  exact run_fn (us := .ref a :: us) (vs := .ref a :: vs) F hr hb hd hx I2 (.cons rfl r) q2
/-- o.m() -/
theorem pe_meth0 {pl : Sem Bool} (he : PE X o ta) (c : Cls X.K C) (hm : Meth X.K C m f) (F : FnOk X.prog X.w X.K X.mg X.base CX k f fd ps sp) (hr : Room k X.A) (hb : Binds X.K fd ps ds) (hd : Vals dvs ds) (hx : Passes CX X E)
    (ht : eval (.Call (.Attribute o m apos) [] [] pos) X.env = (do
      let ov ← eval o X.env
      standAt apos.atName
      let (f, first) ← holding [ov] (getMethod ov m pl)
      callWith pos f first (backTo pos (starEach [] X.env)) (backToKw pos (keywordEach [] X.env))) := by rfl) :
    PE X (.Call (.Attribute o m apos) [] [] pos) (tMeth C m sp dvs E ta tNil) := by
  intro pins s σ H Q I h
  refine PySem.W.methodCall_KW (pl := pl) (thn (he pins s σ H _ I h) fun u s1 ⟨x, H1, I1, rx, a, dx, fs, ex, ea, l, q⟩ => ?_) ht
  subst ex
  obtain rfl : u = Value.ref a := rx
  refine getmeth_ok I1 ea c hm l ?_
  exact PySem.W.callWith_K0 (first := [.ref a]) I1.kIn hm.kp (run_fn (us := [.ref a]) (vs := [.ref a]) F hr hb hd hx I1 (.cons rfl .nil) q)

/-- what a class must have to be made -/
structure Mk (K : PySem.W.Frag) (C f : Addr) : Prop where
  makes : PySem.W.makesIn K C = true
  init : PySem.W.findIn K (.ref C) "__init__" = some (some (.ref f))
  fn : PySem.W.isFn K (.ref f) = true
  kp : PySem.W.keepIn K (.ref C) = true

theorem run_make {pins : List (Addr × Obj)} {σ : St} {H : Hp} {s : Shared} {Q : VK} {us : List Value} {vs : List V} (M : Mk X.K C f) (F : FnOk X.prog X.w X.K X.mg X.base CX k f fd ps sp) (hr : Room (k + 1) X.A) (hb : Binds X.K fd ps ds) (hd : Vals dvs ds)
    (hx : Passes CX X E) (I : Inv X pins σ H s) (r : Vals vs us)
    (h : ∀ x dx, H x = none → H dx = none → dx ≠ x → sp (.ref x :: (vs ++ dvs)) (upd (upd H dx (.own x)) x (.ins C dx [])) (fun v H2 => v = .non ∧ Q (.ref x) H2) E) :
    wpAny (model X.prog X.w) X.A (call (.ref C) us) (EP X pins σ Q) X.xe s := by
  have hq := h (s.heap.objs.size + 1) s.heap.objs.size (I.hok.fresh (Nat.le_succ _)) (I.hok.fresh (Nat.le_refl _)) (Nat.ne_of_lt (Nat.lt_succ_self _))
  have I2 := Inv.made (C := C) I
  have r2 : Vals (V.ref (s.heap.objs.size + 1) :: (vs ++ dvs)) (Value.ref (s.heap.objs.size + 1) :: (us ++ ds)) := .cons rfl (r.append hd)
  have hl : (Value.ref (s.heap.objs.size + 1) :: us ++ ds).length = ps.length := by
    have e := r2.length
    rw [F.len _ _ _ _ hq] at e
    exact e.symm
  refine wpAny_call (make_map (f := f) I.kIn M.makes M.init (beq_iff_eq.mp M.fn) (codeAny_mono (F.run _ X.stack _ _ ⟨Value.ref (s.heap.objs.size + 1) :: us, []⟩ (Value.ref (s.heap.objs.size + 1) :: (us ++ ds)) _ _ E (hr.make C us [])
    (I2.env0.make C us []) (hb _ (Value.ref (s.heap.objs.size + 1) :: us) I2.kIn hl) r2 hq) fun r s' hq' => ?_))
  cases r with
  | error e => exact hx pins σ _ _ e s' I2 hq'
  | ok fl =>
    cases fl with
    | ret u =>
      obtain ⟨v, H', I3, rv, ev, q3⟩ := I2.after hq'
      subst ev
      exact ⟨rv, ⟨V.ref (s.heap.objs.size + 1), H', I3, rfl, q3⟩⟩
    | next => exact False.elim hq'
    | brk => exact False.elim hq'
    | cont => exact False.elim hq'
theorem pe_make (M : Mk X.K C f) (F : FnOk X.prog X.w X.K X.mg X.base CX k f fd ps sp) (hr : Room (k + 1) X.A) (hg : Gl X x) (hm : X.mg x = some (.ref C)) (hb : Binds X.K fd ps ds) (hd : Vals dvs ds) (hx : Passes CX X E)
    (ha : PA X (e :: es) t) (hdb : (x == ("__debug__" : Str)) = false := by decide) (he : starEach (e :: es) X.env = (false, eval e X.env) :: starEach es X.env := by rfl) (hpl : (backTo pos (starEach es X.env)).any (·.1) = false := by rfl) :
    PE X (.Call (.Name x p) (e :: es) [] pos) (tMake C sp dvs E t) := by
  intro pins s σ H Q I h
  refine wpAny_Call_Name_kw (ld_glob I hg hm ?_ hdb)
  refine PySem.W.callWith_K (h₀ := X.base) I.ok.mod.kin M.kp (thn (ha pos pins s σ H _ I h) fun us s1 ⟨vs, H1, I1, r, q⟩ => ⟨I1.kIn, ?_⟩) he hpl
  exact run_make M F hr hb hd hx I1 r q
theorem pe_make0 (M : Mk X.K C f) (F : FnOk X.prog X.w X.K X.mg X.base CX k f fd ps sp) (hr : Room (k + 1) X.A) (hg : Gl X x) (hm : X.mg x = some (.ref C)) (hb : Binds X.K fd ps ds) (hd : Vals dvs ds) (hx : Passes CX X E)
    (hdb : (x == ("__debug__" : Str)) = false := by decide) : PE X (.Call (.Name x p) [] [] pos) (tMake C sp dvs E tNil) := by
  intro pins s σ H Q I h
  refine wpAny_Call_Name_kw (ld_glob I hg hm ?_ hdb)
  exact PySem.W.callWith_K0 I.kIn M.kp (run_make (us := []) M F hr hb hd hx I .nil h)
end

/-! ### keywords -/
/-- the values of the keywords, from the left -/
def PK (X : Cx) (kws : List Keyword) (t : TA) : Prop :=
  ∀ (pos : Pos) (pins : List (Addr × Obj)) (s : Shared) (σ : St) (H : Hp) (Q : List V → Hp → Prop), Inv X pins σ H s → t σ H Q → wpAny (model X.prog X.w) X.A (evalAll ((backToKw pos (keywordEach kws X.env)).map (·.2))) (AP X pins σ Q) X.xe s
section
variable {X : Cx} {CX : CXT} {k : Nat} {f C : Addr} {fd : FuncData} {ps ks : List Str} {sp : Sp} {E : XK} {x m : Str} {p pos apos kpos : Pos} {e o : Expr} {es : List Expr} {kws : List Keyword} {te ta : TE} {t tk : TA} {nm : Option Str}
theorem pk_nil : PK X [] tNil := fun _ _ _ _ H Q I h => wpAny_evalAll_nil ⟨[], H, I, .nil, h⟩
theorem pk_cons (ha : PE X e te) (hr : PK X kws t) : PK X (⟨nm, e, kpos⟩ :: kws) (tCons te t) := by
  intro pos pins s σ H Q I h
  show wpAny _ _ (evalAll ((do let v ← eval e X.env; standAt pos; pure v) :: (backToKw pos (keywordEach kws X.env)).map (·.2))) _ _ s
  refine wpAny_evalAll_cons (wpAny_bind (thn (ha pins s σ H _ I h) fun u s1 ⟨x, H1, I1, r1, q1⟩ => wpAny_bind (wpAny_standAt (wpAny_pure ?_))))
  exact thn (hr pos pins s1 σ H1 _ I1 q1) fun us s2 ⟨xs, H2, I2, r2, q2⟩ => ⟨x :: xs, H2, I2, .cons r1 r2, q2⟩

/-- how a call with keywords binds: g puts the positional values us and the keywords' values ws (names ks) in the parameters' order, defaults among them -/
structure KBinds (K : PySem.W.Frag) (fd : FuncData) (ps ks : List Str) (g : List Value → List Value → List Value) (gV : List V → List V → List V) : Prop where
  to : ∀ (s : Shared) (us ws : List Value), K.In s.heap → (g us ws).length = ps.length → BindsTo s fd ⟨us, ks.zip ws⟩ (ps.zip (g us ws))
  rel : ∀ {vs : List V} {us : List Value} {zs : List V} {ws : List Value}, Vals vs us → Vals zs ws → Vals (gV vs zs) (g us ws)
def tCallK (sp : Sp) (gV : List V → List V → List V) (E : XK) (t tk : TA) : TE := fun σ H Q => t σ H fun vs H1 => tk σ H1 fun zs H2 => sp (gV vs zs) H2 Q E
variable {g : List Value → List Value → List Value} {gV : List V → List V → List V}
theorem run_fnk {pins : List (Addr × Obj)} {σ : St} {H : Hp} {s : Shared} {Q : VK} {us ws : List Value} {vs zs : List V} (F : FnOk X.prog X.w X.K X.mg X.base CX k f fd ps sp) (hr : Room k X.A) (hb : KBinds X.K fd ps ks g gV) (hx : Passes CX X E)
    (I : Inv X pins σ H s) (r : Vals vs us) (rz : Vals zs ws) (h : sp (gV vs zs) H Q E) : wpAny (model X.prog X.w) X.A (call (.ref f) us (ks.zip ws)) (EP X pins σ Q) X.xe s := by
  have r2 := hb.rel r rz
  have hl : (g us ws).length = ps.length := by rw [← r2.length]; exact F.len _ _ _ _ h
  refine wpAny_call (codeAny_mono (F.run X.A X.stack s H ⟨us, ks.zip ws⟩ (g us ws) (gV vs zs) Q E hr I.env0 (hb.to s us ws I.kIn hl) r2 h) fun r s' hq => ?_)
  cases r with
  | error e => exact hx pins σ H s e s' I hq
  | ok fl =>
    cases fl with
    | ret u => exact I.after hq
    | next => exact False.elim hq
    | brk => exact False.elim hq
    | cont => exact False.elim hq
/-- f(e, .., k = v, ..) -/
theorem pe_callK (F : FnOk X.prog X.w X.K X.mg X.base CX k f fd ps sp) (hr : Room k X.A) (hg : Gl X x) (hm : X.mg x = some (.ref f)) (hk : PySem.W.keepIn X.K (.ref f) = true) (hb : KBinds X.K fd ps ks g gV) (hx : Passes CX X E)
    (ha : PA X (e :: es) t) (hkw : PK X kws tk) (hall : (backToKw pos (keywordEach kws X.env)).all (·.1.isSome) = true := by rfl) (hks : (backToKw pos (keywordEach kws X.env)).filterMap (·.1) = ks := by rfl)
    (hdb : (x == ("__debug__" : Str)) = false := by decide) (he : starEach (e :: es) X.env = (false, eval e X.env) :: starEach es X.env := by rfl)
    (hpl : ((backTo pos (starEach (e :: es) X.env)).any (·.1) || (backToKw pos (keywordEach kws X.env)).any (·.1.isNone)) = false := by rfl) :
    PE X (.Call (.Name x p) (e :: es) kws pos) (tCallK sp gV E t tk) := by
  intro pins s σ H Q I h
  refine wpAny_Call_Name_kw (ld_glob I hg hm ?_ hdb)
  refine PySem.W.callWith_KW (h₀ := X.base) I.ok.mod.kin hk hall (thn (ha pos pins s σ H _ I h) fun us s1 ⟨vs, H1, I1, r, q⟩ => ?_) hpl he
  refine thn (hkw pos pins s1 σ H1 _ I1 q) fun ws s2 ⟨zs, H2, I2, rz, q2⟩ => ⟨I2.kIn, ?_⟩
  rw [hks]
  exact run_fnk F hr hb hx I2 r rz q2
end

/-! ### a def's body keeps its promise -/
/-- names: the parameters first -/
structure FnScope (N P : List Str) (sc : Scope) : Prop where
  kind : sc.kind = .function
  co : sc.isCoroutine = false
  gen : sc.isGenerator = false
  nd : N.Nodup
  pre : N.take P.length = P
  par : ∀ x ∈ P, sc.names.lookup x = some .local ∨ sc.names.lookup x = some .cell
  nofree : ∀ y ∈ sc.names, y.2 ≠ .free

theorem bindL_out {kindOf : Str → Option NameKind} {x : Str} : ∀ {binds : List (Str × Value)} {m : Str → Option Value}, (∀ v, (x, v) ∉ binds) → bindL kindOf binds m x = m x
  | [], _, _ => rfl
  | (n, v) :: r, m, h => by
    unfold bindL
    rw [bindL_out fun w hw => h w (List.mem_cons_of_mem _ hw)]
    split
    · have : x ≠ n := by rintro rfl; exact h v List.mem_cons_self
      simp [this]
    · rfl
theorem bindC_out {kindOf : Str → Option NameKind} {x : Str} : ∀ {binds : List (Str × Value)} {m : Str → Option Value}, (∀ v, (x, v) ∉ binds) → bindC kindOf binds m x = m x
  | [], _, _ => rfl
  | (n, v) :: r, m, h => by
    unfold bindC
    rw [bindC_out fun w hw => h w (List.mem_cons_of_mem _ hw)]
    split
    · rfl
    · have : x ≠ n := by rintro rfl; exact h v List.mem_cons_self
      simp [this]
theorem bindL_get {kindOf : Str → Option NameKind} {x : Str} {v : Value} : ∀ {P : List Str} {vs : List Value} {i : Nat} {m : Str → Option Value}, P.Nodup → P[i]? = some x → vs[i]? = some v → kindOf x = some .local →
    bindL kindOf (P.zip vs) m x = some v
  | [], _, _, _, _, h, _, _ => by simp at h
  | _ :: _, [], _, _, _, _, h, _ => by simp at h
  | p :: P, w :: vs, 0, m, nd, h1, h2, hk => by
    simp at h1 h2; subst h1; subst h2
    show bindL kindOf ((p, w) :: P.zip vs) m p = _
    unfold bindL
    rw [bindL_out fun v hv => (List.nodup_cons.mp nd).1 (List.of_mem_zip hv).1, if_pos hk]
    simp
  | p :: P, w :: vs, i + 1, m, nd, h1, h2, hk => by
    show bindL kindOf ((p, w) :: P.zip vs) m x = _
    unfold bindL
    exact bindL_get (i := i) (List.nodup_cons.mp nd).2 (by simpa using h1) (by simpa using h2) hk
theorem bindC_get {kindOf : Str → Option NameKind} {x : Str} {v : Value} : ∀ {P : List Str} {vs : List Value} {i : Nat} {m : Str → Option Value}, P.Nodup → P[i]? = some x → vs[i]? = some v → kindOf x ≠ some .local →
    bindC kindOf (P.zip vs) m x = some v
  | [], _, _, _, _, h, _, _ => by simp at h
  | _ :: _, [], _, _, _, _, h, _ => by simp at h
  | p :: P, w :: vs, 0, m, nd, h1, h2, hk => by
    simp at h1 h2; subst h1; subst h2
    show bindC kindOf ((p, w) :: P.zip vs) m p = _
    unfold bindC
    rw [bindC_out fun v hv => (List.nodup_cons.mp nd).1 (List.of_mem_zip hv).1, if_neg hk]
    simp
  | p :: P, w :: vs, i + 1, m, nd, h1, h2, hk => by
    show bindC kindOf ((p, w) :: P.zip vs) m x = _
    unfold bindC
    exact bindC_get (i := i) (List.nodup_cons.mp nd).2 (by simpa using h1) (by simpa using h2) hk

/-- the names' values at the entry -/
def start (N : List Str) (vs : List V) : St := vs.map some ++ List.replicate (N.length - vs.length) none

/-- the context of a def's body, at its entry; an exception leaves the frame, then lies as CX says -/
def cxOf (CX : CXT) (P : Program) (w : World) (K : PySem.W.Frag) (mg : Str → Option Value) (base : Heap) (N : List Str) (qual : Str) (scope : Scope) (f : Addr) (cd : Value) (A : Around) (outer : List Env) (s : Shared) (H : Hp) (E : XK) : Cx where
  prog := P
  w := w
  K := K
  mg := mg
  base := base
  A := A.deeper (envOfC qual scope s.heap.objs.size f cd)
  N := N
  s₀ := s
  H₀ := H
  env := envOfC qual scope s.heap.objs.size f cd
  outer := outer
  stack := envOfC qual scope s.heap.objs.size f cd :: outer
  ex := []
  calm := true
  fn := fun _ => true
  pn := []
  xe := fun e s' => wpAny (model P w) (A.deeper (envOfC qual scope s.heap.objs.size f cd)) (leaving (envOfC qual scope s.heap.objs.size f cd) e) (fun _ s'' => CX outer H s E e s'') (fun e' s'' => CX outer H s E e' s'') s'

theorem cell_has {sc : Scope} {n : Nat} {x : Str} (h : sc.names.lookup x = some .cell) : ∃ c, (cellsFrom n sc.names []).lookup x = some c := by
  have q := PySem.W.cellsFrom_some sc.names n [] (.inl h)
  exact Option.isSome_iff_exists.mp q

theorem inv_start {CX : CXT} {P : Program} {w : World} {K : PySem.W.Frag} {mg : Str → Option Value} {base : Heap} {N ps : List Str} {qual : Str} {scope : Scope} {f : Addr} {cd : Value} {A : Around} {outer : List Env} {s s1 : Shared} {H : Hp} {E : XK} {us : List Value} {vs : List V}
    (S : FnScope N ps scope) (hd : A.handled = none) (e0 : Env0 P w K mg base A outer s H) (hl : vs.length = ps.length) (r : Vals vs us)
    (x : InCallC s s.heap.objs.size (bindL (envOfC qual scope s.heap.objs.size f cd).kindOf (ps.zip us) fun _ => none) (cellsFrom (s.heap.objs.size + 1) scope.names []) (bindC (envOfC qual scope s.heap.objs.size f cd).kindOf (ps.zip us) fun _ => none) s1) :
    Inv (cxOf CX P w K mg base N qual scope f cd A outer s H E) [] (start N vs) H s1 := by
  have hpl : ps.length ≤ N.length := by have := congrArg List.length S.pre; rw [List.length_take] at this; omega
  obtain ⟨h1, tk, rfl, hk⟩ := x.done
  have noA : ∀ b : Addr, b ∉ (cxOf CX P w K mg base N qual scope f cd A outer s H E).ex := fun b z => absurd (show b ∈ ([] : List Addr) from z) (by simp)
  refine ⟨⟨e0.mod, S.kind, rfl, rfl, Nat.le_refl _, fun y z c h1 h2 => ?_, fun y hy => ?_, fun y c _ h => ?_, fun _ => hd, Around.frames_deeper e0.frames, .inr ⟨rfl, rfl⟩, fun b z => absurd z (noA b), e0.bs, e0.bsz, fun b _ _ => noA b, fun b z => absurd z (noA b), e0.funs, e0.frf⟩,
    rfl, e0.bare, Un.kept hk, ⟨_, x.toInCall.ns, fun i y v h1 h2 h3 => ?_⟩, fun y c h => ⟨_, x.cell y c h⟩, e0.hok.fresh (Nat.le_refl _), fun y c h => ?_, fun p hp => absurd (show p ∈ ([] : List (Addr × Obj)) from hp) (by simp), e0.hok.kept hk, ?_⟩
  · exact name_of_addr x.apart (PySem.mem_of_lookup h1) (PySem.mem_of_lookup h2)
  · have hy : scope.names.lookup y = some .cell ∨ scope.names.lookup y = some .free := hy
    rcases hy with hy | hy
    · exact cell_has hy
    · exact absurd rfl (S.nofree _ (PySem.mem_of_lookup hy))
  · exact Nat.le_of_lt (x.above y c (PySem.mem_of_lookup h))
  · have hi : i < vs.length := by
      unfold start at h2
      by_cases hi : i < vs.length
      · exact hi
      · rw [List.getElem?_append_right (by simpa using hi)] at h2
        rw [List.getElem?_replicate] at h2
        split at h2 <;> cases h2
    have ha : vs[i]? = some v := by
      unfold start at h2
      rw [List.getElem?_append_left (by simpa using hi), List.getElem?_map] at h2
      cases e : vs[i]? with
      | none => rw [e] at h2; cases h2
      | some a => rw [e] at h2; cases h2; rfl
    obtain ⟨u, hu, rv⟩ := r.get ha
    have hp : ps[i]? = some y := by
      rw [← S.pre, List.getElem?_take_of_lt (by omega)]; exact h1
    have ndP : ps.Nodup := by rw [← S.pre]; exact S.nd.sublist (List.take_sublist _ _)
    refine ⟨u, rv, ?_⟩
    rcases S.par y (List.mem_of_getElem? hp) with k | k
    · exact .inl ⟨k, bindL_get ndP hp hu k⟩
    · obtain ⟨c, e⟩ := cell_has (n := s.heap.objs.size + 1) k
      refine .inr ⟨.inl k, c, e, ?_⟩
      have q := x.cell y c e
      rw [bindC_get ndP hp hu (by show scope.names.lookup y ≠ _; rw [k]; decide)] at q
      exact q
  · exact e0.hok.fresh (Nat.le_of_lt (x.above y c (PySem.mem_of_lookup h)))
  · unfold start
    show _ = N.length
    rw [List.length_append, List.length_map, List.length_replicate]
    omega

/-- THE RULE: a def (or a method) of the text, by its body. The body's reading t is chosen for each entry; it is run at the parameters' values -/
theorem fn_of {CX : CXT} {P : Program} {w : World} {K : PySem.W.Frag} {mg : Str → Option Value} {base : Heap} {k : Nat} {f : Addr} {name qual : Str} {params : Arguments} {body : List Stmt} {scope : Scope} {dV kV doc pm cdv ct oc : Value} {an od : Option Addr}
    {osl : Array (Option Value)} {N ps : List Str} {sp : Sp} (lk : K.lookup f = some ⟨oc, od, .func (PySem.W.fnOf name qual params body scope dV kV doc pm an cdv ct), osl⟩) (hcd : PySem.W.codeIn K cdv qual = true) (S : FnScope N ps scope)
    (len : ∀ vs H Q E, sp vs H Q E → vs.length = ps.length)
    (hbody : ∀ (A : Around) (outer : List Env) (s : Shared) (H : Hp) (vs : List V) (Q : VK) (E : XK), Room k (A.deeper (envOfC qual scope s.heap.objs.size f cdv)) → sp vs H Q E →
      ∃ t, PSs (cxOf CX P w K mg base N qual scope f cdv A outer s H E) body t ∧ t { nx := fun _ H' => Q .non H', rt := Q } (start N vs) H) :
    FnOk P w K mg base CX (k + 1) f (PySem.W.fnOf name qual params body scope dV kV doc pm an cdv ct) ps sp := by
  refine ⟨len, fun A outer s H args us vs Q E hr e0 hb r hsp => ?_⟩
  have hl := len _ _ _ _ hsp
  have KX : K.In s.heap := e0.mod.kin.keeps fun b o e => (e0.bs b o e).1
  have lim : s.heap.NoLimit := e0.mod.nolimit.keeps fun b o e => (e0.bs b o e).1
  have hkind : ∀ y ∈ ps.zip us, scope.names.lookup y.1 = some .local ∨ (scope.names.lookup y.1 = some .cell ∧ ((cellsFrom (s.heap.objs.size + 1) scope.names []).lookup y.1).isSome = true) := fun ⟨n, v⟩ hy => by
    rcases S.par n (List.of_mem_zip hy).1 with q | q
    · exact .inl q
    · exact .inr ⟨q, PySem.W.cellsFrom_some _ _ _ (.inl q)⟩
  refine codeAny_call_function hr.depth (KX _ _ lk) rfl S.co S.gen rfl (PySem.W.codeRec_of KX hcd) (hb _ _ _ _ ?_)
  refine wpAny_newFunctionEnv_cells S.kind hkind fun env he s1 x => ?_
  subst he
  refine ⟨lim.keeps x.toInCall.keep, codeAny_func ?_⟩
  obtain ⟨t, ht, hq⟩ := hbody A outer s H vs Q E (hr.deeper _) hsp
  have I : Inv (cxOf CX P w K mg base N qual scope f cdv A outer s H E) [] (start N vs) H s1 := inv_start S hr.hd e0 hl r x
  refine wpAny_mono (ht [] s1 (start N vs) H _ I hq) (fun fl s' hs => ?_) fun e s' hs => hs
  have fin : ∀ {σ' : St} {H' : Hp} {v : V} {u : Value}, Inv (cxOf CX P w K mg base N qual scope f cdv A outer s H E) [] σ' H' s' → RelV v u → Q v H' → CE outer P w H s Q u s' :=
    fun {σ' H' v u} J rv q => ⟨v, H', J.os, J.bare, J.base, J.hok, rv, q⟩
  cases fl with
  | ret u =>
    obtain ⟨v, σ', H', J, rv, q⟩ := hs
    exact fin J rv q
  | next =>
    obtain ⟨σ', H', J, q⟩ := hs
    exact fin (v := V.non) (u := Value.none) J rfl q
  | brk =>
    obtain ⟨_, _, _, q⟩ := hs
    exact False.elim q
  | cont =>
    obtain ⟨_, _, _, q⟩ := hs
    exact False.elim q
end L2

namespace L2
open PySem PySem.Spec PyProof.Rows
section
variable {X : Cx} {x : Str} {p pos : Pos} {e : Expr} {es : List Expr} {t : TA} {id T : String} {r : List V → Hp → VK → Prop}

def tCB (r : List V → Hp → VK → Prop) (t : TA) : TE := fun σ H Q => t σ H fun vs H1 => r vs H1 Q
/-- f(e, ..), f a built-in function -/
theorem pe_callB (hc : CallR X (.builtin id) r) (hg : Gl X x) (hm : X.mg x = none) (hv : bootBuiltins x = some (.builtin id)) (ha : PA X (e :: es) t) (hn : x ≠ "__name__" := by decide) (hdb : (x == ("__debug__" : Str)) = false := by decide)
    (he : starEach (e :: es) X.env = (false, eval e X.env) :: starEach es X.env := by rfl) (hpl : (backTo pos (starEach es X.env)).any (·.1) = false := by rfl) : PE X (.Call (.Name x p) (e :: es) [] pos) (tCB r t) := by
  intro pins s σ H Q I h
  refine wpAny_Call_Name_kw (ld_blt I hg hm hv ?_ hn hdb)
  exact PyProof.Rows.callWith_builtin1 (thn (ha pos pins s σ H _ I h) fun us s1 ⟨vs, H1, I1, r1, q1⟩ => hc pins s1 σ H1 vs us Q I1 r1 q1) he hpl
/-- T(e, ..), T a built-in type -/
theorem pe_callTy (hc : CallR X (.type T) r) (hg : Gl X x) (hm : X.mg x = none) (hv : bootBuiltins x = some (.type T)) (ha : PA X (e :: es) t) (hn : x ≠ "__name__" := by decide) (hdb : (x == ("__debug__" : Str)) = false := by decide)
    (he : starEach (e :: es) X.env = (false, eval e X.env) :: starEach es X.env := by rfl) (hpl : (backTo pos (starEach es X.env)).any (·.1) = false := by rfl) : PE X (.Call (.Name x p) (e :: es) [] pos) (tCB r t) := by
  intro pins s σ H Q I h
  refine wpAny_Call_Name_kw (ld_blt I hg hm hv ?_ hn hdb)
  exact PyProof.Rows.callWith_type1 (thn (ha pos pins s σ H _ I h) fun us s1 ⟨vs, H1, I1, r1, q1⟩ => hc pins s1 σ H1 vs us Q I1 r1 q1) he hpl
/-- T() -/
theorem pe_callTy0 (hc : CallR X (.type T) r) (hg : Gl X x) (hm : X.mg x = none) (hv : bootBuiltins x = some (.type T)) (hn : x ≠ "__name__" := by decide) (hdb : (x == ("__debug__" : Str)) = false := by decide) :
    PE X (.Call (.Name x p) [] [] pos) (tCB r tNil) := by
  intro pins s σ H Q I h
  refine wpAny_Call_Name_kw (ld_blt I hg hm hv ?_ hn hdb)
  exact PyProof.Rows.callWith_type0 (hc pins s σ H [] [] Q I .nil h)
end
end L2

namespace HT
open PySem PyProof.Rows

/-- t < u of tuples of ints -/
def lexLt : List Int → List Int → Bool
  | [], [] => false
  | [], _ :: _ => true
  | _ :: _, [] => false
  | x :: xs, y :: ys => if x = y then lexLt xs ys else decide (x < y)
theorem lexLt_cons (x y : Int) (xs ys : List Int) : lexLt (x :: xs) (y :: ys) = if x = y then lexLt xs ys else decide (x < y) := rfl
theorem lexLt_nil_nil : lexLt [] [] = false := rfl
theorem lexLt_nil_cons (y : Int) (ys : List Int) : lexLt [] (y :: ys) = true := rfl
theorem lexLt_cons_nil (x : Int) (xs : List Int) : lexLt (x :: xs) [] = false := rfl

theorem eqAt_int (A : Around) (s : Shared) (a : Int) (t : Tok) (c : Int) (u : Tok) : ∃ e, SeqAt.EqAt A s (.int a t) (.int c u) e ∧ (e = true ↔ a = c) :=
  ⟨(a == c), SeqAt.EqAt.int_int a t c u, by simp⟩
theorem rcLt_int (A : Around) (s : Shared) (a : Int) (t : Tok) (c : Int) (u : Tok) (prog : Program) (w : World) (E : Value → Shared → Prop) (Q : Value → Shared → Prop) (h : Q (.bool (decide (a < c))) s) :
    wpAny (model prog w) A (richCompare .Lt (.int a t) (.int c u)) Q E s :=
  (PyProof.Rows.lt_int h : wpAny (model prog w) A (compareOp .Lt (.int a t) (.int c u)) Q E s)

section
open PySem.SeqAt
open PySem.AutoSeq1 (wpAny_loadPart')
open PySem.MeetsSeq PySem.MeetsSeq2 PySem.MeetsSeq3

theorem tuple_lt_ints (l b : Addr) (items items2 : Array Value) (n n2 : Nat) (dd dd2 : Option Addr) (sl sl2 : Array (Option Value)) (ns ms : List Int) (hi : IntsAre items.toList ns) (hj : IntsAre items2.toList ms) :
    Meets (Builtin.«tuple.__lt__» ⟨[.ref l, .ref b], []⟩)
      (fun _ R s => s.heap.get? l = some { cls := .type "tuple", dict := dd, data := .seq items n, slots := sl } ∧ s.heap.get? b = some { cls := .type "tuple", dict := dd2, data := .seq items2 n2, slots := sl2 } ∧
        R (.ok (.ret (.bool (lexLt ns ms)))) s) :=
  .of_wp fun prog w A R s h => by
    obtain ⟨hp, g, d, tk, os⟩ := s; obtain ⟨hl, hb, h⟩ := h
    have f2 := AutoSeq1.sub_tuple_tuple
    have z1 : items.size = ns.length := by rw [← hi.length]; simp
    have z2 : items2.size = ms.length := by rw [← hj.length]; simp
    wp_walk using wpAny_loadPart' hl, wpAny_loadPart' hb, wpAny_forIn_list _ (fun rest b s' => b.1 = none ∧ s' = ⟨hp, g, d, tk, os⟩ ∧ ∃ (vs ws : List Value) (ns' ms' : List Int), rest = vs.zip ws ∧
      IntsAre vs ns' ∧ IntsAre ws ms' ∧ ns'.length + items2.size = ms'.length + items.size ∧ R (.ok (.ret (.bool (lexLt ns' ms')))) ⟨hp, g, d, tk, os⟩) _
    case turn =>
      rintro ⟨y, x⟩ rest b s' ⟨hb', rfl, vs, ws, ns', ms', hz, hvi, hwi, hlen, hR⟩
      cases hvi with
      | nil => rw [List.zip_nil_left] at hz; cases hz
      | cons a t hvi' =>
        cases hwi with
        | nil => rw [List.zip_nil_right] at hz; cases hz
        | cons c u hwi' =>
          rw [List.zip_cons_cons] at hz
          injection hz with hyx hrest
          injection hyx with hy hx
          subst hy hx
          rw [lexLt_cons] at hR
          simp only [List.length_cons] at hlen
          obtain ⟨e, he, hiff⟩ := eqAt_int A.in1 ⟨hp, g, d, tk, os⟩ a t c u
          refine wpAny_bind (he prog w _ _ ?_)
          cases e with
          | true =>
            rw [if_pos (hiff.mp rfl)] at hR
            wp_walk
            exact ⟨rfl, rfl, _, _, _, _, hrest, hvi', hwi', by omega, hR⟩
          | false =>
            rw [if_neg (fun q => absurd (hiff.mpr q) Bool.false_ne_true)] at hR
            have hri := rcLt_int A.in1 ⟨hp, g, d, tk, os⟩ a t c u prog w
            wp_walk using hri
            exact ⟨_, rfl, by simpa using hR⟩
    case fin =>
      rintro ⟨b1, b2⟩ s' ⟨hb', rfl, vs, ws, ns', ms', hz, hvi, hwi, hlen, hR⟩
      simp only at hb'
      subst hb'
      have hv : lexLt ns' ms' = decide (items.size < items2.size) := by
        cases hvi with
        | nil =>
          cases hwi with
          | nil =>
            simp only [List.length_nil] at hlen
            rw [lexLt_nil_nil]
            exact (decide_eq_false (by omega)).symm
          | cons c u hw =>
            simp only [List.length_nil, List.length_cons] at hlen
            rw [lexLt_nil_cons]
            exact (decide_eq_true (by omega)).symm
        | cons a t hv =>
          cases hwi with
          | nil =>
            simp only [List.length_nil, List.length_cons] at hlen
            rw [lexLt_cons_nil]
            exact (decide_eq_false (by omega)).symm
          | cons c u hw =>
            rw [List.zip_cons_cons] at hz
            cases hz
      rw [hv] at hR
      wp_walk
      exact ⟨_, rfl, by simpa [Builtin.Tuple.tupleCompareSizes] using hR⟩
    case h =>
      exact ⟨rfl, rfl, items.toList, items2.toList, ns, ms, rfl, hi, hj, by omega, h⟩
end

section
variable {prog : Program} {w : World} {A : Around} {E : Value → Shared → Prop} {s : Shared}

theorem lt_tupInts {l b : Addr} {items items2 : Array Value} {ns ms : List Int} {Q : Value → Shared → Prop} (hl : IsTup s.heap l items) (hb : IsTup s.heap b items2) (hi : IntsAre items.toList ns) (hj : IntsAre items2.toList ms)
    (hu : A.units < cLine) (h : Q (.bool (lexLt ns ms)) s) : wpAny (model prog w) A (compareOp .Lt (.ref l) (.ref b)) Q E s := by
  obtain ⟨⟨cls, dd, data, sl⟩, ho, hc, n, hd⟩ := id hl
  obtain ⟨⟨cls2, dd2, data2, sl2⟩, ho2, hc2, n2, hd2⟩ := id hb
  simp only at hc hd hc2 hd2
  subst hc hd hc2 hd2
  exact richCompare_meets_room (op := .Lt) ⟨_, ho, rfl⟩ ⟨_, ho2, rfl⟩ PySem.F.slot_tuple_lt PySem.F.entry_tuple_lt (PySem.F.args_tuple_lt_2 _ _) (tuple_lt_ints l b items items2 n n2 dd dd2 sl sl2 ns ms hi hj)
    ⟨ho, ho2, show Value.bool (lexLt ns ms) ≠ Value.notImplemented ∧ Q (.bool (lexLt ns ms)) s from ⟨(fun x => nomatch x), h⟩⟩ hu

/-- t + u, t not empty -/
theorem cat_tup {t b : Addr} {vs ws : List Value} {Q : Value → Shared → Prop} (ht : IsTup s.heap t vs.toArray) (hb : IsTup s.heap b ws.toArray) (hv : vs ≠ [])
    (h1 : ws = [] → Q (.ref t) s) (h2 : ws ≠ [] → Q (.ref s.heap.objs.size) { s with heap := s.heap.push { cls := .type "tuple", data := .seq (vs ++ ws).toArray } })
    (hsz : vs.length + ws.length ≤ sizeLine) : wpAny (model prog w) A (binaryOp .Add (.ref t) (.ref b)) Q E s := by
  obtain ⟨⟨cls, dd, data, sl⟩, ho, hc, n, hd⟩ := id ht
  obtain ⟨⟨cls2, dd2, data2, sl2⟩, ho2, hc2, n2, hd2⟩ := id hb
  simp only at hc hd hc2 hd2
  subst hc hd hc2 hd2
  have e : vs.toArray ++ ws.toArray = (vs ++ ws).toArray := by simp
  by_cases hw : ws = []
  · exact concat_meets ⟨_, ho, rfl⟩ ⟨_, ho2, rfl⟩ noFill_tuple_add seq_tuple_add PySem.F.slot_tuple_add PySem.F.entry_tuple_add (PySem.F.args_tuple_add_2 _ _)
      (tuple_addW1 t b vs.toArray ws.toArray n n2 dd dd2 sl sl2 (by simpa using hv) (by simp [hw])) ⟨ho, ho2, h1 hw⟩
  · refine concat_meets ⟨_, ho, rfl⟩ ⟨_, ho2, rfl⟩ noFill_tuple_add seq_tuple_add PySem.F.slot_tuple_add PySem.F.entry_tuple_add (PySem.F.args_tuple_add_2 _ _)
      (tuple_addW2 t b vs.toArray ws.toArray n n2 dd dd2 sl sl2 (by simpa using hv) (by simpa using hw) (by rw [List.size_toArray, List.size_toArray]; exact hsz)) ⟨ho, ho2, ?_⟩
    rw [e]
    exact h2 hw

/-! ### t[a:b], not the whole -/
/-- a slice's bound as a place among n (d where it is left out) -/
def sIx (n d : Nat) : Option Int → Nat
  | none => d
  | some v => if v < 0 then (v + (n : Int)).toNat else min v.toNat n
theorem sIx_none (n d : Nat) : sIx n d none = d := rfl
theorem sIx_nat (n d k : Nat) : sIx n d (some (k : Int)) = min k n := by
  show (if (k : Int) < 0 then ((k : Int) + (n : Int)).toNat else min (k : Int).toNat n) = min k n
  rw [if_neg (by omega), Int.toNat_natCast]
theorem sIx_le (n d : Nat) (hd : d ≤ n) (o : Option Int) : sIx n d o ≤ n := by
  cases o with
  | none => exact hd
  | some v =>
    show (if v < 0 then (v + (n : Int)).toNat else min v.toNat n) ≤ n
    by_cases hv : v < 0
    · rw [if_pos hv]; omega
    · rw [if_neg hv]; exact Nat.min_le_right _ _
theorem clip_eq (v : Int) (n d : Nat) : (if v < 0 then max (v + (n : Int)) 0 else min v (n : Int)) = ((sIx n d (some v) : Nat) : Int) := by
  show (if v < 0 then max (v + (n : Int)) 0 else min v (n : Int)) = (((if v < 0 then (v + (n : Int)).toNat else min v.toNat n) : Nat) : Int)
  by_cases hv : v < 0
  · simp only [if_pos hv]; omega
  · simp only [if_neg hv]; omega
theorem adjust_gen (lo hi : Option Int) (n : Nat) : Builtin.Slice.sliceAdjust lo hi 1 (n : Int) = (((sIx n 0 lo : Nat) : Int), ((sIx n n hi : Nat) : Int)) := by
  have h1 : ¬ ((1 : Int) < 0) := by omega
  unfold Builtin.Slice.sliceAdjust
  simp only [h1, if_false]
  refine Prod.ext ?_ ?_
  · cases lo with
    | none => rfl
    | some v => exact clip_eq v n 0
  · cases hi with
    | none => rfl
    | some v => exact clip_eq v n n
theorem places_gen (i j : Nat) : Builtin.Slice.slicePlaces (i : Int) (j : Int) 1 = j - i := by
  unfold Builtin.Slice.slicePlaces
  have h1 : (1 : Int) > 0 := by omega
  simp only [h1, if_true, Int.ediv_one]
  split <;> omega
theorem slicePart_ {v : Value} {o : Option Int} {Q : Option Int → Shared → Prop} (p : IsPart v o) (h : Q o s) : wpAny (model prog w) A (Builtin.Slice.slicePartIndex v) Q E s := by
  cases p with
  | none => exact slicePart_none h
  | int i t => exact slicePart_int h
theorem sliceApplied_gen {sl : Addr} {vl vu : Value} {lo hi : Option Int} {n : Nat} {Q : Int × Int × Nat → Shared → Prop} (hs : s.heap.IsSliceOf sl vl vu .none) (pl : IsPart vl lo) (pu : IsPart vu hi)
    (h : Q (((sIx n 0 lo : Nat) : Int), 1, sIx n n hi - sIx n 0 lo) s) : wpAny (model prog w) A (Builtin.Slice.sliceApplied (.ref sl) (pure (n : Int))) Q E s := by
  obtain ⟨os, hos, hcs, hds⟩ := id hs
  unfold Builtin.Slice.sliceApplied Builtin.Slice.sliceFields
  refine wpAny_bind (wpAny_bind (wpAny_field hos hds (x := vl) rfl (wpAny_bind (wpAny_field hos hds (x := vu) rfl (wpAny_bind (wpAny_field hos hds (x := .none) rfl (wpAny_pure ?_)))))))
  refine wpAny_bind (slicePart_none ?_)
  show wpAny _ _ (if ((1 : Int) == 0) = true then _ else _) _ _ s
  rw [if_neg (by decide)]
  refine wpAny_bind (slicePart_ pl (wpAny_bind (slicePart_ pu (wpAny_bind (wpAny_pure ?_)))))
  show wpAny _ _ (match Builtin.Slice.sliceAdjust lo hi 1 (n : Int) with | (lo, hi) => pure (lo, (1 : Int), Builtin.Slice.slicePlaces lo hi 1)) _ _ s
  rw [adjust_gen lo hi n]
  show wpAny _ _ (pure (((sIx n 0 lo : Nat) : Int), (1 : Int), Builtin.Slice.slicePlaces ((sIx n 0 lo : Nat) : Int) ((sIx n n hi : Nat) : Int) 1)) _ _ s
  rw [places_gen]
  exact wpAny_pure h
theorem pick_gen (xs : Array Value) (i k : Nat) : ((List.range k).filterMap fun (m : Nat) => xs[((i : Int) + (m : Int) * 1).toNat]?).toArray = ((xs.toList.drop i).take k).toArray := by
  have e : (fun (m : Nat) => xs[((i : Int) + (m : Int) * 1).toNat]?) = fun m => xs[i + m]? := by
    funext m
    have : ((i : Int) + (m : Int) * 1).toNat = i + m := by omega
    rw [this]
  rw [e]
  have := pick_run xs i k
  rw [List.filterMap_map] at this
  have e2 : ((fun x => xs[x]?) ∘ fun x => i + x) = fun m => xs[i + m]? := rfl
  rw [e2] at this
  rw [this]

theorem getItem_tuple_cut {t sl : Addr} {items : Array Value} {vl vu : Value} {lo hi : Option Int} {Q : Value → Shared → Prop} (ht : IsTup s.heap t items) (hs : s.heap.IsSliceOf sl vl vu .none) (pl : IsPart vl lo) (pu : IsPart vu hi)
    (hw : ¬ (sIx items.size 0 lo = 0 ∧ sIx items.size items.size hi = items.size))
    (h : Q (.ref s.heap.objs.size) { s with heap := s.heap.push { cls := .type "tuple", data := .seq ((items.toList.drop (sIx items.size 0 lo)).take (sIx items.size items.size hi - sIx items.size 0 lo)).toArray } })
    (hsz : items.size ≤ sizeLine) : wpAny (model prog w) A (getItem (.ref t) (.ref sl)) Q E s := by
  have htake : sizeOk (.seq ((items.toList.drop (sIx items.size 0 lo)).take (sIx items.size items.size hi - sIx items.size 0 lo)).toArray) := by
    show ((items.toList.drop (sIx items.size 0 lo)).take (sIx items.size items.size hi - sIx items.size 0 lo)).toArray.size ≤ sizeLine
    rw [List.size_toArray, List.length_take, List.length_drop, Array.length_toList]
    omega
  have hj : sIx items.size items.size hi ≤ items.size := sIx_le _ _ (Nat.le_refl _) hi
  obtain ⟨os, hos, hcs, hds⟩ := id hs
  have hTs : s.TypeIs (.ref sl) "slice" := ⟨os, hos, hcs⟩
  unfold getItem
  try with_reducible refine wpAny_holding ?_
  first | refine wpAny_bind (wpAny_pure ?_) | skip
  refine wpAny_bind (wpAny_sequenceKey ht.typeIs (by decide) ?_)
  refine wpAny_bind (wpAny_callSpecial?_slot (name := Str.ofString "__getitem__") ht.typeIs PyProof.Rows.slot_tuple_getitem
    (wpAny_call_entry PyProof.Rows.slot_tuple_getitem ht.typeIs entry_tuple_getitem ?_ (args_tuple_getitem _ _)))
  show wpAny _ _ (Builtin.Tuple.tupleItemsOf (.ref t) >>= _) _ _ s
  refine wpAny_bind (tupleItemsOf_ ht ?_)
  refine wpAny_bind (wpAny_typeOf hTs ?_)
  rw [if_pos (by decide)]
  refine wpAny_bind (sliceApplied_gen hs pl pu ?_)
  have hno : ¬ ((((sIx items.size 0 lo : Nat) : Int) == 0 && (1 : Int) == 1 && (sIx items.size items.size hi - sIx items.size 0 lo) == items.size) = true) := by
    intro q
    rw [Bool.and_eq_true, Bool.and_eq_true] at q
    have q1 : ((sIx items.size 0 lo : Nat) : Int) = 0 := eq_of_beq q.1.1
    have q2 : sIx items.size items.size hi - sIx items.size 0 lo = items.size := eq_of_beq q.2
    exact hw ⟨by omega, by omega⟩
  show wpAny _ _ (if (((sIx items.size 0 lo : Nat) : Int) == 0 && (1 : Int) == 1 && (sIx items.size items.size hi - sIx items.size 0 lo) == items.size) = true then _ else _) _ _ s
  rw [if_neg hno, pick_gen]
  first
    | exact wpAny_bind (m := Builtin.Tuple.tupleExact _) (wpAny_newObj_type (wpAny_pure ⟨_, rfl, wpAny_pure h⟩) htake)
    | exact wpAny_bind (m := Builtin.Tuple.tupleExact _) (wpAny_newObj_type (wpAny_bind (wpAny_pure (wpAny_pure ⟨_, rfl, wpAny_pure h⟩))) htake)
    | exact wpAny_bind (wpAny_bind (m := Builtin.Tuple.tupleExact _) (wpAny_newObj_type (wpAny_pure (wpAny_pure ⟨_, rfl, wpAny_pure h⟩)) htake))
    | exact wpAny_bind (wpAny_bind (m := Builtin.Tuple.tupleExact _) (wpAny_newObj_type (wpAny_pure ⟨_, rfl, wpAny_pure h⟩) htake))
end
end HT

namespace L2
open PySem PySem.Spec PyProof.Rows

/-! ### the parts of a slice -/
abbrev TO := St → Hp → (Option Int → Hp → Prop) → Prop
/-- a slice's part (left out, or an int) -/
def PO (X : Cx) (e : Option Expr) (t : TO) : Prop :=
  ∀ (pins : List (Addr × Obj)) (s : Shared) (σ : St) (H : Hp) (Q : Option Int → Hp → Prop), Inv X pins σ H s → t σ H Q →
    wpAny (model X.prog X.w) X.A (evalPart e X.env) (fun u s' => ∃ o H', Inv X pins σ H' s' ∧ IsPart u o ∧ Q o H') X.xe s
def tNoPart : TO := fun _ H Q => Q none H
def tPart (t : TE) : TO := fun σ H Q => t σ H fun x H1 => ∃ i, x = .int i ∧ Q (some i) H1

theorem intsAre_of {ns : List Int} : ∀ {us : List Value}, Vals (ns.map V.int) us → IntsAre us ns := by
  induction ns with
  | nil => intro us r; rw [List.map_nil] at r; cases r; exact .nil
  | cons n ns ih =>
    intro us r
    rw [List.map_cons] at r
    cases r with
    | cons r1 r2 =>
      obtain ⟨t, e⟩ := r1
      subst e
      exact .cons n t (ih r2)

section
variable {X : Cx} {e : Expr} {te : TE} {lo hi : Option Expr} {tl th : TO} {pos p2 : Pos}

theorem po_none : PO X none tNoPart := by
  intro pins s σ H Q I h
  rw [evalPart_none]
  exact wpAny_pure ⟨none, H, I, .none, h⟩
theorem po_some (h : PE X e te) : PO X (some e) (tPart te) := by
  intro pins s σ H Q I hw
  rw [evalPart_some]
  refine thn (h pins s σ H _ I hw) fun u s1 ⟨x, H1, I1, r1, q1⟩ => ?_
  obtain ⟨i, rfl, q⟩ := q1
  obtain ⟨t, rfl⟩ := r1
  exact ⟨some i, H1, I1, .int i t, q⟩

/-- what a slice of a value is, by values: the slice object stands at sl -/
def SlR (X : Cx) (r : V → Option Int → Option Int → Hp → VK → Prop) : Prop :=
  ∀ (pins : List (Addr × Obj)) (s : Shared) (σ : St) (H : Hp) (x : V) (v vl vu : Value) (lo hi : Option Int) (sl : Addr) (Q : VK), Inv X pins σ H s → RelV x v → s.heap.IsSliceOf sl vl vu .none → IsPart vl lo → IsPart vu hi → r x lo hi H Q →
    ∃ T id, typeLookup (.type T) "__getitem__" = pure (some (.builtin id)) ∧ s.TypeIs v T ∧ wpAny (model X.prog X.w) X.A (getItem v (.ref sl)) (EP X pins σ Q) X.xe s
theorem SlR.or {r r' : V → Option Int → Option Int → Hp → VK → Prop} (h : SlR X r) (h' : SlR X r') : SlR X (fun x lo hi H Q => r x lo hi H Q ∨ r' x lo hi H Q) := by
  intro pins s σ H x v vl vu lo hi sl Q I rx hs pl pu q
  rcases q with q | q
  · exact h pins s σ H x v vl vu lo hi sl Q I rx hs pl pu q
  · exact h' pins s σ H x v vl vu lo hi sl Q I rx hs pl pu q
def tSl (r : V → Option Int → Option Int → Hp → VK → Prop) (te : TE) (tl th : TO) : TE := fun σ H Q => te σ H fun x H1 => tl σ H1 fun l H2 => th σ H2 fun u H3 => r x l u H3 Q
/-- a[lo:hi], any a -/
theorem pe_slice {r : V → Option Int → Option Int → Hp → VK → Prop} (hr : SlR X r) (he : PE X e te) (hl : PO X lo tl) (hu : PO X hi th) : PE X (.Subscript e (.Slice lo hi none p2) pos) (tSl r te tl th) := by
  intro pins s σ H Q I h
  refine Subscript_ (thn (he pins s σ H _ I h) fun v s1 ⟨x, H1, I1, r1, q1⟩ => ?_)
  refine wpAny_Slice (thn (hl pins s1 σ H1 _ I1 q1) fun vl s2 ⟨l, H2, I2, pl, q2⟩ => thn (hu pins s2 σ H2 _ I2 q2) fun vu s3 ⟨u, H3, I3, pu, q3⟩ => ?_)
  rw [evalPart_none]
  refine wpAny_pure ?_
  have I4 : Inv X pins σ H3 { s3 with heap := s3.heap.push { cls := .type "slice", data := .fields #[vl, vu, .none] } } := I3.kept (t' := s3.toks) fun b ob q => Heap.get?_push_of_some _ q
  obtain ⟨T, id, hT, ht, hg⟩ := hr pins { s3 with heap := s3.heap.push { cls := .type "slice", data := .fields #[vl, vu, .none] } } σ H3 x v vl vu l u s3.heap.objs.size Q I4 r1 (Heap.IsSliceOf.new ..) pl pu q3
  show wpAny (model X.prog X.w) X.A (subscriptTail e (.Slice lo hi none p2) v (.ref s3.heap.objs.size)) (EP X pins σ Q) X.xe { s3 with heap := s3.heap.push { cls := .type "slice", data := .fields #[vl, vu, .none] } }
  exact tail_any (ops := [.ref s3.heap.objs.size, v]) ht hT hg (by with_unfolding_all rfl)

/-- the items of xs[lo:hi] -/
def cutV (xs : List V) (lo hi : Option Int) : List V := (xs.drop (HT.sIx xs.length 0 lo)).take (HT.sIx xs.length xs.length hi - HT.sIx xs.length 0 lo)
theorem cutV_length (xs : List V) (lo hi : Option Int) : (cutV xs lo hi).length ≤ xs.length := by
  unfold cutV
  rw [List.length_take, List.length_drop]
  omega
/-- t[lo:hi], not the whole of it (the whole would be t itself) -/
def rSlT (K : PySem.W.Frag) : V → Option Int → Option Int → Hp → VK → Prop := fun x lo hi H Q => ∃ a xs, x = .ref a ∧ SqT K H a xs ∧
  ¬ (HT.sIx xs.length 0 lo = 0 ∧ HT.sIx xs.length xs.length hi = xs.length) ∧ ∀ p, H p = none → Q (.ref p) (upd H p (.tup (cutV xs lo hi)))
theorem sl_tup : SlR X (rSlT X.K) := by
  intro pins s σ H x v vl vu lo hi sl Q I rx hs pl pu h
  obtain ⟨a, xs, rfl, hx, hw, q⟩ := h
  cases rx
  obtain ⟨its, r, ht, hz⟩ := I.tuple hx
  have hlen : its.toArray.size = xs.length := by rw [List.size_toArray]; exact r.length.symm
  refine ⟨"tuple", _, PyProof.Rows.slot_tuple_getitem.lookup, ht.typeIs, ?_⟩
  refine HT.getItem_tuple_cut ht hs pl pu (by rw [hlen]; exact hw) ?_ (by rw [hlen]; exact hz)
  rw [hlen]
  refine ⟨.ref s.heap.objs.size, _, I.laid (t' := s.toks) (o := .tup (cutV xs lo hi)) (fun b ob q => Heap.get?_push_of_some _ q) (Nat.le_refl _) ?_, rfl, q _ (I.hok.fresh (Nat.le_refl _))⟩
  exact ⟨Nat.le_trans (cutV_length xs lo hi) hz, _, (r.drop (HT.sIx xs.length 0 lo)).take (HT.sIx xs.length xs.length hi - HT.sIx xs.length 0 lo), ⟨IsTup.new _ _, fun ob' e' => by rw [Heap.get?_push_size _ rfl] at e'; cases e'; rfl⟩⟩

/-! ### t < u, t + u -/
def rLtT (K : PySem.W.Frag) : R2 := fun x y H Q => ∃ a b ns ms, x = .ref a ∧ y = .ref b ∧ SqT K H a (ns.map V.int) ∧ SqT K H b (ms.map V.int) ∧ Q (.bl (HT.lexLt ns ms)) H
theorem op_ltT (hu : X.A.units < cLine) : OpR X (compareOp .Lt) (rLtT X.K) := by
  intro pins s σ H x y v u Q I rx ry h
  obtain ⟨a, b, ns, ms, rfl, rfl, ha, hb, q⟩ := h
  cases rx
  cases ry
  obtain ⟨its, r1, p1, _⟩ := I.tuple ha
  obtain ⟨its2, r2, p2, _⟩ := I.tuple hb
  have i1 : IntsAre its.toArray.toList ns := intsAre_of r1
  have i2 : IntsAre its2.toArray.toList ms := intsAre_of r2
  exact HT.lt_tupInts p1 p2 i1 i2 hu ⟨.bl (HT.lexLt ns ms), H, I, rfl, q⟩
/-- t + u, t not empty: u empty gives t itself -/
def rCatT (K : PySem.W.Frag) : R2 := fun x y H Q => ∃ a b xs ys, x = .ref a ∧ y = .ref b ∧ SqT K H a xs ∧ SqT K H b ys ∧ xs ≠ [] ∧ xs.length + ys.length ≤ sizeLine ∧
  (ys = [] → Q (.ref a) H) ∧ (ys ≠ [] → ∀ p, H p = none → Q (.ref p) (upd H p (.tup (xs ++ ys))))
theorem Vals.nil_iff {xs : List V} {us : List Value} (r : Vals xs us) : us = [] ↔ xs = [] := by
  cases r with
  | nil => simp
  | cons _ _ => simp
theorem op_catT : OpR X (binaryOp .Add) (rCatT X.K) := by
  intro pins s σ H x y v u Q I rx ry h
  obtain ⟨a, b, xs, ys, rfl, rfl, ha, hb, hx, hz, q1, q2⟩ := h
  cases rx
  cases ry
  obtain ⟨its, r1, p1, _⟩ := I.tuple ha
  obtain ⟨its2, r2, p2, _⟩ := I.tuple hb
  refine HT.cat_tup p1 p2 (fun z => hx (r1.nil_iff.mp z)) (fun z => ⟨.ref a, H, I, rfl, q1 (r2.nil_iff.mp z)⟩) (fun z => ?_) (by rw [← r1.length, ← r2.length]; exact hz)
  refine ⟨.ref s.heap.objs.size, _, I.laid (t' := s.toks) (o := .tup (xs ++ ys)) (fun b ob q => Heap.get?_push_of_some _ q) (Nat.le_refl _) ?_, rfl, q2 (fun w => z (r2.nil_iff.mpr w)) _ (I.hok.fresh (Nat.le_refl _))⟩
  exact ⟨by rw [List.length_append]; exact hz, _, r1.append r2, ⟨IsTup.new _ _, fun ob' e' => by rw [Heap.get?_push_size _ rfl] at e'; cases e'; rfl⟩⟩
/-- tuple(t) -/
theorem call_tupleT : CallR X (.type "tuple") (fun xs H Q => ∃ a ys, xs = [.ref a] ∧ SqT X.K H a ys ∧ Q (.ref a) H) := by
  intro pins s σ H xs us Q I r h
  obtain ⟨a, ys, rfl, ha, q⟩ := h
  obtain ⟨u, rfl, ru⟩ := vals1 r
  cases ru
  obtain ⟨its, _, p1, _⟩ := I.tuple ha
  exact call_tuple_same (items := its.toArray) p1 ⟨.ref a, H, I, rfl, q⟩
end
end L2

namespace L2
open PySem PySem.Spec PyProof.Rows

/-! ### places -/
/-- the place that an index of any sign means -/
def ixN (n : Nat) (i : Int) : Option Nat := if 0 ≤ i then (if i < n then some i.toNat else none) else if -(n : Int) ≤ i then some (i + n).toNat else none
def atI {α : Type} (xs : List α) (i : Int) : Option α := (ixN xs.length i).bind fun j => xs[j]?
theorem ixN_seq {n : Nat} {i : Int} {j : Nat} (h : ixN n i = some j) : seqIndex? i n = some j ∧ j < n ∧ -(n : Int) ≤ i ∧ i < n := by
  unfold ixN at h
  by_cases h0 : 0 ≤ i
  · rw [if_pos h0] at h
    by_cases h1 : i < n
    · rw [if_pos h1] at h
      have e : i.toNat = j := Option.some.inj h
      exact ⟨by rw [seqIndex_of h0 h1, e], by omega, by omega, h1⟩
    · rw [if_neg h1] at h; cases h
  · rw [if_neg h0] at h
    by_cases h1 : -(n : Int) ≤ i
    · rw [if_pos h1] at h
      have e : (i + n).toNat = j := Option.some.inj h
      exact ⟨by rw [seqIndex_neg (by omega) h1, e], by omega, h1, by omega⟩
    · rw [if_neg h1] at h; cases h
theorem atI_get {α : Type} {xs : List α} {i : Int} {v : α} (h : atI xs i = some v) : ∃ j, seqIndex? i xs.length = some j ∧ xs[j]? = some v ∧ j < xs.length ∧ -(xs.length : Int) ≤ i ∧ i < xs.length := by
  unfold atI at h
  cases e : ixN xs.length i with
  | none => rw [e] at h; cases h
  | some j =>
    rw [e] at h
    obtain ⟨h1, h2, h3, h4⟩ := ixN_seq e
    exact ⟨j, h1, h, h2, h3, h4⟩
theorem atI_nat {α : Type} {xs : List α} {j : Nat} {v : α} (h : xs[j]? = some v) : atI xs (j : Int) = some v := by
  have hj : j < xs.length := (List.getElem?_eq_some_iff.mp h).1
  have e : ixN xs.length (j : Int) = some j := by
    unfold ixN
    rw [if_pos (by omega), if_pos (by omega)]; simp
  unfold atI; rw [e]; exact h
theorem atI_last {α : Type} (xs : List α) (v : α) : atI (xs ++ [v]) (-1) = some v := by
  have hl : (xs ++ [v]).length = xs.length + 1 := by simp
  have e : ixN (xs ++ [v]).length (-1) = some xs.length := by
    unfold ixN
    rw [hl, if_neg (by decide), if_pos (by omega)]
    congr 1
    omega
  unfold atI
  rw [e]
  show (xs ++ [v])[xs.length]? = some v
  simp

/-! ### what may be subscripted -/
/-- what stands as an index of a plain subscript -/
def PlainIx (b : Expr) : Prop := ∀ o i, subscripted b false o i = operate [o, i] (getItem o i)
/-- a subscript by values -/
def IxR (X : Cx) (r : R2) : Prop :=
  ∀ (value slice : Expr) (pins : List (Addr × Obj)) (s : Shared) (σ : St) (H : Hp) (x y : V) (v u : Value) (Q : VK), Inv X pins σ H s → RelV x v → RelV y u → r x y H Q →
    subscripted slice false v u = operate [v, u] (getItem v u) → wpAny (model X.prog X.w) X.A (subscriptTail value slice v u) (EP X pins σ Q) X.xe s
/-- a call of a builtin's method by values: the receiver, the arguments -/
def MtR (X : Cx) (id : String) (r : V → List V → Hp → VK → Prop) : Prop :=
  ∀ (pins : List (Addr × Obj)) (s : Shared) (σ : St) (H : Hp) (x : V) (xs : List V) (v : Value) (us : List Value) (Q : VK), Inv X pins σ H s → RelV x v → Vals xs us → r x xs H Q →
    wpAny (model X.prog X.w) X.A (call (.builtin id) (v :: us)) (EP X pins σ Q) X.xe s
section
variable {X : Cx} {a b : Expr} {ta tb : TE} {pos : Pos}
theorem IxR.or {r r' : R2} (h : IxR X r) (h' : IxR X r') : IxR X (fun x y H Q => r x y H Q ∨ r' x y H Q) := by
  intro value slice pins s σ H x y v u Q I rx ry q hs
  rcases q with q | q
  · exact h value slice pins s σ H x y v u Q I rx ry q hs
  · exact h' value slice pins s σ H x y v u Q I rx ry q hs
theorem MtR.or {id : String} {r r' : V → List V → Hp → VK → Prop} (h : MtR X id r) (h' : MtR X id r') : MtR X id (fun x xs H Q => r x xs H Q ∨ r' x xs H Q) := by
  intro pins s σ H x xs v us Q I rx rs q
  rcases q with q | q
  · exact h pins s σ H x xs v us Q I rx rs q
  · exact h' pins s σ H x xs v us Q I rx rs q
/-- a[b] -/
theorem pe_ix {r : R2} (hr : IxR X r) (ha : PE X a ta) (hb : PE X b tb) (hs : PlainIx b) : PE X (.Subscript a b pos) (tOp r ta tb) := by
  intro pins s σ H Q I h
  exact Subscript_ (binT ha hb I h fun v u s2 x y H2 I2 rx ry q => hr a b pins s2 σ H2 x y v u Q I2 rx ry q (hs _ _))

def rIxL (K : PySem.W.Frag) : R2 := fun x y H Q => ∃ p xs i v, x = .ref p ∧ y = .int i ∧ SqL K H p xs ∧ atI xs i = some v ∧ Q v H
def rIxT (K : PySem.W.Frag) : R2 := fun x y H Q => ∃ p xs i v, x = .ref p ∧ y = .int i ∧ SqT K H p xs ∧ atI xs i = some v ∧ Q v H
def rIxS : R2 := fun x y H Q => ∃ z i c, x = .str z ∧ y = .int i ∧ z.length ≤ sizeLine ∧ atI z.cps.toList i = some c ∧ Q (.str ⟨#[c]⟩) H
theorem ix_list : IxR X (rIxL X.K) := by
  intro value slice pins s σ H x y v u Q I rx ry h hs
  obtain ⟨p, xs, i, z, rfl, rfl, hq, he, q⟩ := h
  cases rx
  obtain ⟨t, rfl⟩ := ry
  obtain ⟨its, r, pl, hz⟩ := I.list hq
  obtain ⟨j, h1, h2, h3, h4, h5⟩ := atI_get he
  obtain ⟨w, ew, rw'⟩ := r.get h2
  have hl := r.length
  have hn := line63
  have fin : EP X pins σ Q w s := ⟨z, H, I, rw', q⟩
  by_cases h0 : 0 ≤ i
  · have hj : i.toNat = j := by
      rw [seqIndex_of h0 h5] at h1
      exact Option.some.inj h1
    exact item_listR pl.isList h0 (by omega) (by rw [hj]; simpa using ew) fin hs
  · have hj : (i + (its.toArray.size : Int)).toNat = j := by
      rw [seqIndex_neg (by omega) h4] at h1
      rw [List.size_toArray, ← hl]
      exact Option.some.inj h1
    exact subscriptTail_builtinR (x := w) pl.isList.typeIs slot_list_getitem.lookup
      (wpAny_getItem_list_neg (Q := fun r s' => r = w ∧ EP X pins σ Q r s') pl.isList (by omega) (by rw [List.size_toArray] <;> omega) (by omega) (by rw [hj]; simpa using ew) ⟨rfl, fin⟩) hs
theorem ix_tup : IxR X (rIxT X.K) := by
  intro value slice pins s σ H x y v u Q I rx ry h hs
  obtain ⟨p, xs, i, z, rfl, rfl, hq, he, q⟩ := h
  cases rx
  obtain ⟨t, rfl⟩ := ry
  obtain ⟨its, r, pl, hz⟩ := I.tuple hq
  obtain ⟨j, h1, h2, h3, h4, h5⟩ := atI_get he
  obtain ⟨w, ew, rw'⟩ := r.get h2
  have hl := r.length
  have hn := line63
  have fin : EP X pins σ Q w s := ⟨z, H, I, rw', q⟩
  exact subscriptTail_builtinR (x := w) pl.typeIs slot_tuple_getitem.lookup
    (getItem_tuple (j := j) (Q := fun r s' => r = w ∧ EP X pins σ Q r s') pl (by omega) (by omega) (by rw [List.size_toArray, ← hl]; exact h1) (by simpa using ew) ⟨rfl, fin⟩) hs
theorem ix_str : IxR X rIxS := by
  intro value slice pins s σ H x y v u Q I rx ry h hs
  obtain ⟨z, i, c, rfl, rfl, hz, he, q⟩ := h
  obtain ⟨t, rfl⟩ := rx
  obtain ⟨t', rfl⟩ := ry
  obtain ⟨j, h1, h2, h3, h4, h5⟩ := atI_get he
  have hl : z.cps.toList.length = z.length := by simp [Str.length]
  rw [hl] at h1 h4 h5
  have hn := line63
  exact tail_any (typeIs_str s z t) slot_str_getitem.lookup (getItem_str (c := c) (by
    have e1 : decide (i < -(2 ^ 63 : Int)) = false := decide_eq_false (by omega)
    have e2 : decide (i ≥ 2 ^ 63) = false := decide_eq_false (by omega)
    rw [e1, e2, Bool.or_false]) (by rw [h1]; simpa using h2) ⟨.str ⟨#[c]⟩, H, I.tok _, ⟨_, rfl⟩, q⟩) hs
/-- list, tuple or str -/
def rIx (K : PySem.W.Frag) : R2 := fun x y H Q => rIxL K x y H Q ∨ rIxT K x y H Q ∨ rIxS x y H Q
theorem ix_seq : IxR X (rIx X.K) := ix_list.or (ix_tup.or ix_str)

/-! ### xs[i] = v, any sign -/
/-- the list's object behind a store -/
theorem mapSeq_set (its : List Value) (n j : Nat) (u : Value) : Obj.mapSeq (·.setIfInBounds j u) { cls := .type "list", data := .seq its.toArray n } = { cls := .type "list", data := .seq (its.set j u).toArray n } := by
  simp [Obj.mapSeq]
theorem Inv.lst {pins : List (Addr × Obj)} {σ : St} {H : Hp} {s : Shared} {p : Addr} {xs : List V} (I : Inv X pins σ H s) (h : H p = some (.lst xs)) :
    ∃ (its : List Value) (n : Nat), Vals xs its ∧ s.heap.get? p = some { cls := .type "list", data := .seq its.toArray n } ∧ xs.length ≤ sizeLine := by
  obtain ⟨z, its, n, r, e⟩ := I.hok p _ h
  exact ⟨its, n, r, e, z⟩
/-- the list at p is written by an update of its object -/
theorem Inv.lstUpd {pins : List (Addr × Obj)} {σ : St} {H : Hp} {s : Shared} {p : Addr} {xs ys : List V} {its its' : List Value} {n n' : Nat} {f : Obj → Obj} (I : Inv X pins σ H s) (h : H p = some (.lst xs))
    (ho : s.heap.get? p = some { cls := .type "list", data := .seq its.toArray n }) (hf : f { cls := .type "list", data := .seq its.toArray n } = { cls := .type "list", data := .seq its'.toArray n' }) (r : Vals ys its') (hz : ys.length ≤ sizeLine) (t : Nat) :
    Inv X pins σ (upd H p (.lst ys)) { s with heap := s.heap.update p f, toks := t } := by
  have e : (s.heap.update p f).get? p = some { cls := .type "list", data := .seq its'.toArray n' } := by
    rw [Heap.get?_update_self f ho (by rw [hf] <;> rfl), hf]
  refine I.write (x := p) (e := p) (by rw [h]; trivial) (.inl rfl) (fun b u hb q => (Heap.get?_update_other _ _ (Ne.symm hb)).trans q) ⟨_, e⟩ ?_
  exact ⟨hz, its', n', r, e⟩
def rSetL : V → V → V → Hp → (Hp → Prop) → Prop := fun o i v H Q => ∃ p xs k j, o = .ref p ∧ i = .int k ∧ H p = some (.lst xs) ∧ ixN xs.length k = some j ∧ Q (upd H p (.lst (xs.set j v)))
theorem set_list : PSet X rSetL := by
  intro pins s σ H o i v ov iv u Q I ro ri rv h
  obtain ⟨p, xs, k, j, rfl, rfl, hp, hj, q⟩ := h
  cases ro
  obtain ⟨t, rfl⟩ := ri
  obtain ⟨its, n, r, ho, hz⟩ := I.lst hp
  obtain ⟨h1, h2, h3, h4⟩ := ixN_seq hj
  have hl := r.length
  have hn := line63
  have I' : Inv X pins σ (upd H p (.lst (xs.set j v))) { s with heap := s.heap.update p (Obj.mapSeq (·.setIfInBounds j u)) } :=
    I.lstUpd hp ho (mapSeq_set its n j u) (r.set rv j) (by rw [List.length_set]; exact hz) s.toks
  by_cases h0 : 0 ≤ k
  · have hk : k.toNat = j := by
      rw [seqIndex_of h0 h4] at h1
      exact Option.some.inj h1
    exact PySem.W.ki_setAt ho h0 (by omega) (by rw [List.size_toArray, ← hl]; exact h4) (by rw [hk]; exact ⟨_, I', q⟩)
  · have hk : (k + (its.toArray.size : Int)).toNat = j := by
      rw [seqIndex_neg (by omega) h3] at h1
      rw [List.size_toArray, ← hl]
      exact Option.some.inj h1
    exact PySem.W.ki_setBack ho (by omega) (by rw [List.size_toArray, ← hl]; exact h3) (by omega) (by rw [hk]; exact ⟨_, I', q⟩)

/-! ### slices -/
theorem slice_bounds (lo hi : Option Int) (n : Nat) : (sliceBounds lo hi none n).1 = ((HT.sIx n 0 lo : Nat) : Int) ∧ (sliceBounds lo hi none n).2.1 = ((HT.sIx n n hi : Nat) : Int) ∧ (sliceBounds lo hi none n).2.2 = 1 := by
  refine ⟨?_, ?_, rfl⟩
  · cases lo with
    | none => simp [sliceBounds, HT.sIx]
    | some i =>
      simp only [sliceBounds, HT.sIx, Option.getD_none, show (1 : Int) > 0 by decide, if_true]
      by_cases h : i < 0
      · simp only [h, if_true] <;> omega
      · simp only [h, if_false] <;> omega
  · cases hi with
    | none => simp [sliceBounds, HT.sIx]
    | some i =>
      simp only [sliceBounds, HT.sIx, Option.getD_none, show (1 : Int) > 0 by decide, if_true]
      by_cases h : i < 0
      · simp only [h, if_true] <;> omega
      · simp only [h, if_false] <;> omega
theorem slicePick_cut (its : List Value) (lo hi : Option Int) : slicePick its.toArray lo hi none = ((its.drop (HT.sIx its.length 0 lo)).take (HT.sIx its.length its.length hi - HT.sIx its.length 0 lo)).toArray := by
  obtain ⟨h1, h2, h3⟩ := slice_bounds lo hi its.toArray.size
  unfold slicePick
  rw [h1, h2, h3]
  simp only [sliceRange_one, pick_run, List.size_toArray] <;> rfl
/-- xs[lo:hi] of a list: a new list -/
def rSlL (K : PySem.W.Frag) : V → Option Int → Option Int → Hp → VK → Prop := fun x lo hi H Q => ∃ a xs, x = .ref a ∧ SqL K H a xs ∧ ∀ p, H p = none → Q (.ref p) (upd H p (.lst (cutV xs lo hi)))
theorem sl_list : SlR X (rSlL X.K) := by
  intro pins s σ H x v vl vu lo hi sl Q I rx hs pl pu h
  obtain ⟨a, xs, rfl, hx, q⟩ := h
  cases rx
  obtain ⟨its, r, ht, hz⟩ := I.list hx
  have hlen := r.length
  refine ⟨"list", _, slot_list_getitem.lookup, ht.isList.typeIs, ?_⟩
  refine wpAny_getItem_list_slice ht.isList hs pl pu .none (by simp) ?_ (by rw [List.size_toArray] <;> omega)
  rw [slicePick_cut, ← hlen]
  refine ⟨.ref s.heap.objs.size, _, I.laid (t' := s.toks) (o := .lst (cutV xs lo hi)) (fun b ob q => Heap.get?_push_of_some _ q) (Nat.le_refl _) ?_, rfl, q _ (I.hok.fresh (Nat.le_refl _))⟩
  exact ⟨Nat.le_trans (cutV_length xs lo hi) hz, _, 0, (r.drop (HT.sIx xs.length 0 lo)).take (HT.sIx xs.length xs.length hi - HT.sIx xs.length 0 lo), Heap.get?_push_size _ rfl⟩

/-! ### in, not in: flat items -/
def flatV : V → Bool
  | .non => true
  | .bl _ => true
  | .int _ => true
  | .str _ => true
  | _ => false
/-- == of flat values -/
def eqV : V → V → Bool
  | .non, .non => true
  | .bl a, .bl b => a == b
  | .bl a, .int b => (if a then 1 else 0) == b
  | .int a, .bl b => a == (if b then 1 else 0)
  | .int a, .int b => a == b
  | .str a, .str b => a == b
  | _, _ => false
theorem eqAt_V {A : Around} {s : Shared} {y x : V} {u v : Value} (ry : RelV y u) (rx : RelV x v) (fy : flatV y = true) (fx : flatV x = true) : SeqAt.EqAt A s u v (eqV y x) := by
  cases y with
  | non =>
    cases ry
    cases x with
    | non => cases rx; exact SeqAt.EqAt.same _
    | bl b => cases rx; exact SeqAt.EqAt.none_bool b
    | int b => obtain ⟨t, rfl⟩ := rx; exact SeqAt.EqAt.none_int b t
    | str b => obtain ⟨t, rfl⟩ := rx; exact SeqAt.EqAt.none_str b t
    | _ => exact absurd (show false = true from fx) Bool.false_ne_true
  | bl a =>
    cases ry
    cases x with
    | non => cases rx; exact SeqAt.EqAt.bool_none a
    | bl b => cases rx; exact SeqAt.EqAt.bool_bool a b
    | int b => obtain ⟨t, rfl⟩ := rx; exact SeqAt.EqAt.bool_int a b t
    | str b => obtain ⟨t, rfl⟩ := rx; exact SeqAt.EqAt.bool_str a b t
    | _ => exact absurd (show false = true from fx) Bool.false_ne_true
  | int a =>
    obtain ⟨t', rfl⟩ := ry
    cases x with
    | non => cases rx; exact SeqAt.EqAt.int_none a t'
    | bl b => cases rx; exact SeqAt.EqAt.int_bool a t' b
    | int b => obtain ⟨t, rfl⟩ := rx; exact SeqAt.EqAt.int_int a t' b t
    | str b => obtain ⟨t, rfl⟩ := rx; exact SeqAt.EqAt.int_str a t' b t
    | _ => exact absurd (show false = true from fx) Bool.false_ne_true
  | str a =>
    obtain ⟨t', rfl⟩ := ry
    cases x with
    | non => cases rx; exact SeqAt.EqAt.str_none a t'
    | bl b => cases rx; exact SeqAt.EqAt.str_bool a t' b
    | int b => obtain ⟨t, rfl⟩ := rx; exact SeqAt.EqAt.str_int a t' b t
    | str b => obtain ⟨t, rfl⟩ := rx; exact SeqAt.EqAt.str_str a t' b t
    | _ => exact absurd (show false = true from fx) Bool.false_ne_true
  | _ => exact absurd (show false = true from fy) Bool.false_ne_true
/-- the items' answers, read off the values (a value's own answer does not lean on its token) -/
def eqU (x : V) (u : Value) : Bool := match u with
  | .none => eqV .non x
  | .bool b => eqV (.bl b) x
  | .int i _ => eqV (.int i) x
  | .str z _ => eqV (.str z) x
  | _ => false
theorem eqU_of {x y : V} {u : Value} (r : RelV y u) (f : flatV y = true) : eqU x u = eqV y x := by
  cases y with
  | non => cases r; rfl
  | bl b => cases r; rfl
  | int i => obtain ⟨t, rfl⟩ := r; rfl
  | str z => obtain ⟨t, rfl⟩ := r; rfl
  | _ => exact absurd (show false = true from f) Bool.false_ne_true
theorem any_eqU {x : V} : ∀ {xs : List V} {us : List Value}, Vals xs us → xs.all flatV = true → us.any (eqU x) = xs.any fun y => eqV y x
  | _, _, .nil, _ => rfl
  | y :: xs, u :: us, .cons r t, f => by
    rw [List.all_cons, Bool.and_eq_true] at f
    rw [List.any_cons, List.any_cons, eqU_of r f.1, any_eqU t f.2]
theorem mem_eqAt {A : Around} {s : Shared} {x : V} {v : Value} (rx : RelV x v) (fx : flatV x = true) : ∀ {xs : List V} {us : List Value}, Vals xs us → xs.all flatV = true → ∀ u ∈ us, SeqAt.EqAt A s u v (eqU x u)
  | _, _, .nil, _ => fun u hu => by cases hu
  | y :: xs, u :: us, .cons r t, f => fun u' hu => by
    rw [List.all_cons, Bool.and_eq_true] at f
    rcases List.mem_cons.mp hu with rfl | hu
    · rw [eqU_of r f.1]; exact eqAt_V r rx f.1 fx
    · exact mem_eqAt rx fx t f.2 u' hu
def inV (x : V) (xs : List V) : Bool := xs.any fun y => eqV y x
/-- x in a list or tuple of flat items -/
def rIn (K : PySem.W.Frag) (neg : Bool) : R2 := fun x y H Q => ∃ p xs, y = .ref p ∧ (SqL K H p xs ∨ SqT K H p xs) ∧ flatV x = true ∧ xs.all flatV = true ∧ Q (.bl (if neg then !inV x xs else inV x xs)) H
theorem op_in_seq : OpR X (compareOp .In) (rIn X.K false) := by
  intro pins s σ H x y v u Q I rx ry h
  obtain ⟨p, xs, rfl, hq, fx, fs, q⟩ := h
  cases ry
  rcases hq with hq | hq
  · obtain ⟨its, r, pl, hz⟩ := I.list hq
    refine SeqAt.in_listAt (eqU x) pl.isList (fun w hw => mem_eqAt rx fx r fs w (by simpa using hw)) ⟨.bl _, H, I, rfl, ?_⟩
    rw [show its.toArray.any (eqU x) = its.any (eqU x) by simp, any_eqU r fs]
    exact q
  · obtain ⟨its, r, pl, hz⟩ := I.tuple hq
    refine SeqAt.in_tupleAt (eqU x) pl (fun w hw => mem_eqAt rx fx r fs w (by simpa using hw)) ⟨.bl _, H, I, rfl, ?_⟩
    rw [show its.toArray.any (eqU x) = its.any (eqU x) by simp, any_eqU r fs]
    exact q
theorem op_notIn_seq : OpR X (compareOp .NotIn) (rIn X.K true) := by
  intro pins s σ H x y v u Q I rx ry h
  obtain ⟨p, xs, rfl, hq, fx, fs, q⟩ := h
  cases ry
  rcases hq with hq | hq
  · obtain ⟨its, r, pl, hz⟩ := I.list hq
    refine SeqAt.notIn_listAt (eqU x) pl.isList (fun w hw => mem_eqAt rx fx r fs w (by simpa using hw)) ⟨.bl _, H, I, rfl, ?_⟩
    rw [show its.toArray.any (eqU x) = its.any (eqU x) by simp, any_eqU r fs]
    exact q
  · obtain ⟨its, r, pl, hz⟩ := I.tuple hq
    refine SeqAt.notIn_tupleAt (eqU x) pl (fun w hw => mem_eqAt rx fx r fs w (by simpa using hw)) ⟨.bl _, H, I, rfl, ?_⟩
    rw [show its.toArray.any (eqU x) = its.any (eqU x) by simp, any_eqU r fs]
    exact q
theorem op_notIn_str : OpR X (compareOp .NotIn) (fun x y H Q => ∃ i j, x = .str i ∧ y = .str j ∧ Q (.bl (!(!(Builtin.Str.occurrences j i 0 j.length 1).isEmpty))) H) := by
  intro pins s σ H x y v u Q I rx ry h
  obtain ⟨i, j, rfl, rfl, q⟩ := h
  obtain ⟨t, rfl⟩ := rx
  obtain ⟨t', rfl⟩ := ry
  exact notIn_str ⟨.bl _, H, I, rfl, q⟩

/-! ### len, list(x), tuple(x) of any list or tuple that is read -/
theorem call_len_seq : CallR X (.builtin "len") (fun xs H Q => ∃ p ys, xs = [.ref p] ∧ (SqL X.K H p ys ∨ SqT X.K H p ys) ∧ Q (.int ys.length) H) := by
  intro pins s σ H xs us Q I r h
  obtain ⟨p, ys, rfl, hq, q⟩ := h
  obtain ⟨u, rfl, rx⟩ := vals1 r
  cases rx
  have hn := line63
  rcases hq with hq | hq
  · obtain ⟨its, r', pl, hz⟩ := I.list hq
    have hlen := r'.length
    exact Calls.call_len_list pl.isList (by simp only [List.size_toArray] <;> omega) ⟨.int ys.length, H, I.tok _, ⟨s.toks + 1, by rw [List.size_toArray, hlen]⟩, q⟩
  · obtain ⟨its, r', pl, hz⟩ := I.tuple hq
    have hlen := r'.length
    exact len_tuple pl (by simp only [List.size_toArray] <;> omega) ⟨.int ys.length, H, I.tok _, ⟨s.toks + 1, by rw [List.size_toArray, hlen]⟩, q⟩
theorem call_len_str : CallR X (.builtin "len") (fun xs H Q => ∃ z, xs = [.str z] ∧ z.length ≤ sizeLine ∧ Q (.int z.length) H) := by
  intro pins s σ H xs us Q I r h
  obtain ⟨z, rfl, hz, q⟩ := h
  obtain ⟨u, rfl, t, rfl⟩ := vals1 r
  have hn := line63
  exact len_str (by omega) ⟨.int z.length, H, I.tok _, ⟨_, rfl⟩, q⟩
theorem CallR.or {f : Value} {r r' : List V → Hp → VK → Prop} (h : CallR X f r) (h' : CallR X f r') : CallR X f (fun xs H Q => r xs H Q ∨ r' xs H Q) := by
  intro pins s σ H xs us Q I rs q
  rcases q with q | q
  · exact h pins s σ H xs us Q I rs q
  · exact h' pins s σ H xs us Q I rs q
theorem call_list_of : CallR X (.type "list") (fun xs H Q => ∃ p ys, xs = [.ref p] ∧ (SqL X.K H p ys ∨ SqT X.K H p ys) ∧ ∀ l, H l = none → Q (.ref l) (upd H l (.lst ys))) := by
  intro pins s σ H xs us Q I r h
  obtain ⟨p, ys, rfl, hq, q⟩ := h
  obtain ⟨u, rfl, rx⟩ := vals1 r
  cases rx
  have fin : ∀ (its : List Value), Vals ys its → ys.length ≤ sizeLine → ∀ (h' : Heap) (c' : Nat), (∀ b o', s.heap.get? b = some o' → h'.get? b = some o') →
      h'.get? s.heap.objs.size = some { cls := .type "list", dict := none, data := .seq its.toArray c', slots := #[] } → EP X pins σ Q (.ref s.heap.objs.size) { s with heap := h' } := fun its r' hz h' c' kp e =>
    ⟨.ref s.heap.objs.size, _, I.laid (t' := s.toks) kp (Nat.le_refl _) (show ObjOk X.prog X.w _ h' _ (.lst ys) from ⟨hz, its, c', r', e⟩), rfl, q _ (I.hok.fresh (Nat.le_refl _))⟩
  rcases hq with hq | hq
  · obtain ⟨its, r', pl, hz⟩ := I.list hq
    have hlen := r'.length
    obtain ⟨o, ho, hc, n, hd⟩ := pl.isList
    exact call_list_seq p (.inl rfl) ho hc hd (fun h' c' kp e => fin its r' hz h' c' kp e) (by simp only [List.size_toArray] <;> omega)
  · obtain ⟨its, r', pl, hz⟩ := I.tuple hq
    have hlen := r'.length
    obtain ⟨o, ho, hc, n, hd⟩ := pl
    exact call_list_seq p (.inr rfl) ho hc hd (fun h' c' kp e => fin its r' hz h' c' kp e) (by simp only [List.size_toArray] <;> omega)
theorem call_tuple_of : CallR X (.type "tuple") (fun xs H Q => ∃ p ys, xs = [.ref p] ∧ ((SqL X.K H p ys ∧ ∀ l, H l = none → Q (.ref l) (upd H l (.tup ys))) ∨ (SqT X.K H p ys ∧ Q (.ref p) H))) := by
  intro pins s σ H xs us Q I r h
  obtain ⟨p, ys, rfl, h⟩ := h
  obtain ⟨u, rfl, rx⟩ := vals1 r
  cases rx
  rcases h with ⟨hq, q⟩ | ⟨hq, q⟩
  · obtain ⟨its, r', pl, hz⟩ := I.list hq
    have hlen := r'.length
    refine call_tuple_list pl.isList (fun h' kp => ?_) (by simp only [List.size_toArray] <;> omega)
    have I1 : Inv X pins σ H { s with heap := h' } := I.kept (t' := s.toks) kp
    have I2 : Inv X pins σ (upd H h'.objs.size (.tup ys)) { s with heap := h'.push { cls := .type "tuple", data := .seq its.toArray } } :=
      I1.laid (t' := s.toks) (fun b o e => Heap.get?_push_of_some _ e) (Nat.le_refl _) (show ObjOk X.prog X.w _ _ _ (.tup ys) from ⟨hz, its, r', ⟨IsTup.new _ _, fun ob' e' => by rw [Heap.get?_push_size _ rfl] at e'; cases e'; rfl⟩⟩)
    exact ⟨.ref h'.objs.size, _, I2, rfl, q _ (I1.hok.fresh (Nat.le_refl _))⟩
  · obtain ⟨its, r', pl, hz⟩ := I.tuple hq
    exact call_tuple_same pl ⟨.ref p, H, I, rfl, q⟩

/-! ### the call of a builtin's method: o.m(..) -/
/-- the value is of that builtin type -/
def tyV (K : PySem.W.Frag) (T : String) (x : V) (H : Hp) : Prop := match x with
  | .str _ => T = "str"
  | .int _ => T = "int"
  | .ref p => (T = "list" ∧ ∃ xs, SqL K H p xs) ∨ (T = "tuple" ∧ ∃ o, K.lookup p = some o ∧ o.cls = .type "tuple" ∧ o.dict = none) ∨
      (T = "dict" ∧ ((∃ kvs, H p = some (.dK kvs)) ∨ ∃ kvs, H p = some (.dT kvs))) ∨ (T = "set" ∧ ∃ S n, H p = some (.set S n)) ∨ (T = "tuple" ∧ ∃ xs, H p = some (.tup xs))
  | _ => False
theorem tyV_is {pins : List (Addr × Obj)} {σ : St} {H : Hp} {s : Shared} {T : String} {x : V} {v : Value} (I : Inv X pins σ H s) (r : RelV x v) (ty : tyV X.K T x H) :
    s.TypeIs v T ∧ ∀ a, v = .ref a → ∃ ob, s.heap.get? a = some ob ∧ ob.dict = none := by
  cases x with
  | str z =>
    obtain ⟨t, rfl⟩ := r
    cases (show T = "str" from ty)
    exact ⟨typeIs_str s z t, fun _ e => nomatch e⟩
  | int i =>
    obtain ⟨t, rfl⟩ := r
    cases (show T = "int" from ty)
    exact ⟨typeIs_int s i t, fun _ e => nomatch e⟩
  | ref p =>
    cases r
    rcases ty with ⟨rfl, xs, hq⟩ | ⟨rfl, o, hk, hc, hd⟩ | ⟨rfl, hk⟩ | ⟨rfl, S, n, hk⟩ | ⟨rfl, xs, hk⟩
    · obtain ⟨its, _, pl, _⟩ := I.list hq
      refine ⟨pl.isList.typeIs, fun a e => ?_⟩
      cases e
      obtain ⟨o, n, e, c, hd, _⟩ := pl
      exact ⟨o, e, hd⟩
    · refine ⟨⟨o, I.kIn p o hk, hc⟩, fun a e => ?_⟩
      cases e
      exact ⟨o, I.kIn _ o hk, hd⟩
    · have z : ∃ o, s.heap.get? p = some o ∧ o.ExactDict := by
        rcases hk with ⟨kvs, hk⟩ | ⟨kvs, hk⟩
        · obtain ⟨_, _, _, _, o, _, _, e, ex, _⟩ := I.hok p _ hk
          exact ⟨o, e, ex⟩
        · obtain ⟨_, _, _, _, o, _, _, e, ex, _⟩ := I.hok p _ hk
          exact ⟨o, e, ex⟩
      obtain ⟨o, e, ex⟩ := z
      refine ⟨⟨o, e, ex.1⟩, fun a e2 => ?_⟩
      cases e2
      exact ⟨o, e, ex.2.1⟩
    · obtain ⟨o, _, _, _, e, ex, _⟩ := I.hok p _ hk
      refine ⟨⟨o, e, ex.1⟩, fun a e2 => ?_⟩
      cases e2
      exact ⟨o, e, ex.2.1⟩
    · obtain ⟨_, its, _, ⟨o, e, c, _⟩, dn⟩ := I.hok p _ hk
      refine ⟨⟨o, e, c⟩, fun a e2 => ?_⟩
      cases e2
      exact ⟨o, e, dn o e⟩
  | _ => exact False.elim ty
def tBM0 (K : PySem.W.Frag) (T : String) (r : V → List V → Hp → VK → Prop) (to : TE) : TE := fun σ H Q => to σ H fun x H1 => tyV K T x H1 ∧ r x [] H1 Q
def tBM (K : PySem.W.Frag) (T : String) (r : V → List V → Hp → VK → Prop) (to : TE) (t : TA) : TE := fun σ H Q => to σ H fun x H1 => tyV K T x H1 ∧ t σ H1 fun xs H2 => r x xs H2 Q
variable {o e : Expr} {es : List Expr} {to : TE} {t : TA} {name : Str} {apos cpos : Pos} {T id : String} {r : V → List V → Hp → VK → Prop}
theorem pe_bm0 (pa : PlainAttrs T) (slot : Slot T name id) (hty : typeOf (.builtin id) = pure (.type "method_descriptor")) (hm : MtR X id r) (ho : PE X o to)
    (hbase : attributeBase o name X.env (eval o X.env) = eval o X.env := by rfl) (hline : (apos.endLine == cpos.line) = true := by rfl) : PE X (.Call (.Attribute o name apos) [] [] cpos) (tBM0 X.K T r to) := by
  intro pins s σ H Q I h
  refine wpAny_Call_method0_late hbase hline (thn (ho pins s σ H _ I h) fun v s1 ⟨x, H1, I1, r1, ty, q1⟩ => ?_)
  obtain ⟨h1, h2⟩ := tyV_is I1 r1 ty
  exact ⟨T, id, pa, slot, hty, h1, h2, Calls.callWith_builtin rfl (PySem.evalArgs_none (hm pins s1 σ H1 x [] v [] Q I1 r1 .nil q1))⟩
theorem pe_bm (pa : PlainAttrs T) (slot : Slot T name id) (hty : typeOf (.builtin id) = pure (.type "method_descriptor")) (hm : MtR X id r) (ho : PE X o to) (ha : PA X (e :: es) t)
    (hbase : attributeBase o name X.env (eval o X.env) = eval o X.env := by rfl)
    (hfew : ((backTo cpos (starEach (e :: es) X.env)).all (fun x => !x.1) && (backToKw cpos (keywordEach [] X.env)).all (fun x => x.1.isSome)
      && decide ((e :: es).length + ([] : List Keyword).length + (if ([] : List Keyword).isEmpty then 0 else 1) < 30)) = true := by rfl)
    (hline : (apos.endLine == cpos.line) = true := by rfl) (hs : starEach (e :: es) X.env = (false, eval e X.env) :: starEach es X.env := by rfl) (hplain : (backTo cpos (starEach es X.env)).any (·.1) = false := by rfl) :
    PE X (.Call (.Attribute o name apos) (e :: es) [] cpos) (tBM X.K T r to t) := by
  intro pins s σ H Q I h
  refine wpAny_Call_method_late hbase hfew hline rfl (thn (ho pins s σ H _ I h) fun v s1 ⟨x, H1, I1, r1, ty, q1⟩ => ?_)
  obtain ⟨h1, h2⟩ := tyV_is I1 r1 ty
  refine ⟨T, id, pa, slot, hty, h1, h2, ?_⟩
  have hA := ha cpos pins s1 σ H1 _ I1 q1
  rw [hs] at hA ⊢
  refine Calls.callWith_builtin (by show (false || (backTo cpos (starEach es X.env)).any (·.1)) = false; rw [hplain] <;> rfl) (Calls.evalArgs_plain ?_)
  exact thn hA fun us s2 ⟨vs, H2, I2, r2, q2⟩ => hm pins s2 σ H2 x vs v us Q I2 r1 r2 q2
/- xs.append(e), list.index on a module's tuple .. are MtR facts of 06m -/
end
end L2

namespace L2
open PySem PySem.Spec PyProof.Rows

def MtM (X : Cx) (id : String) (r : V → List V → Hp → VK → Prop) : Prop :=
  ∀ (pins : List (Addr × Obj)) (s : Shared) (σ : St) (H : Hp) (x : V) (xs : List V) (v : Value) (us : List Value) (Q : VK), Inv X pins σ H s → RelV x v → Vals xs us → r x xs H Q →
    wpAny (model X.prog X.w) X.A (call (.builtin id) (v :: us)) (EP X pins σ Q) X.xe s

/-! ### lists of values -/
theorem Vals.one : ∀ {x : V} {us : List Value}, Vals [x] us → ∃ u, us = [u] ∧ RelV x u
  | _, _, .cons r .nil => ⟨_, rfl, r⟩
theorem Vals.two : ∀ {x y : V} {us : List Value}, Vals [x, y] us → ∃ u v, us = [u, v] ∧ RelV x u ∧ RelV y v
  | _, _, _, .cons r (.cons q .nil) => ⟨_, _, rfl, r, q⟩
theorem Vals.zero : ∀ {us : List Value}, Vals [] us → us = []
  | _, .nil => rfl
theorem Vals.dropLast {xs : List V} {us : List Value} (h : Vals xs us) : Vals xs.dropLast us.dropLast := by
  induction h with
  | nil => exact .nil
  | cons r t ih =>
    cases t with
    | nil => exact .nil
    | cons q t' => exact .cons r ih
theorem Vals.eraseIdx : ∀ {xs : List V} {us : List Value} (i : Nat), Vals xs us → Vals (xs.eraseIdx i) (us.eraseIdx i)
  | _, _, _, .nil => .nil
  | _, _, 0, .cons _ t => t
  | _, _, i + 1, .cons r t => .cons r (Vals.eraseIdx i t)
theorem Vals.reverse {xs : List V} {us : List Value} (h : Vals xs us) : Vals xs.reverse us.reverse := by
  induction h with
  | nil => exact .nil
  | cons r t ih => rw [List.reverse_cons, List.reverse_cons]; exact Vals.append ih (.cons r .nil)
theorem Vals.rep {xs : List V} {us : List Value} (h : Vals xs us) : ∀ k : Nat, Vals (List.replicate k xs).flatten (List.replicate k us).flatten
  | 0 => .nil
  | k + 1 => by
    rw [List.replicate_succ, List.replicate_succ, List.flatten_cons, List.flatten_cons]
    exact Vals.append h (Vals.rep h k)
theorem erase_last {α : Type} (l : List α) : l.eraseIdx (l.length - 1) = l.dropLast := by
  induction l with
  | nil => rfl
  | cons a r ih =>
    cases r with
    | nil => rfl
    | cons b r =>
      have e : (a :: b :: r).length - 1 = ((b :: r).length - 1) + 1 := by
        have h1 : (a :: b :: r).length = r.length + 2 := rfl
        have h2 : (b :: r).length = r.length + 1 := rfl
        omega
      rw [e, List.eraseIdx_cons_succ, ih]
      all_goals rfl
theorem len_erase {α : Type} : ∀ (l : List α) (i : Nat), (l.eraseIdx i).length ≤ l.length
  | [], _ => Nat.le_refl _
  | _ :: _, 0 => Nat.le_succ _
  | _ :: r, i + 1 => Nat.succ_le_succ (len_erase r i)
theorem foldl_rep (its : List Value) : ∀ (k : Nat) (acc : List Value),
    List.foldl (fun x1 x2 => x1 ++ x2) acc.toArray (List.replicate k its.toArray) = (acc ++ (List.replicate k its).flatten).toArray
  | 0, acc => by simp
  | k + 1, acc => by
    have e : acc.toArray ++ its.toArray = (acc ++ its).toArray := by simp
    have e2 : (acc ++ its) ++ (List.replicate k its).flatten = acc ++ (List.replicate (k + 1) its).flatten := by
      rw [List.replicate_succ, List.flatten_cons, List.append_assoc]
    rw [← e2, ← foldl_rep its k (acc ++ its), ← e, List.replicate_succ, List.foldl_cons]

section
variable {X : Cx} {pins : List (Addr × Obj)} {σ : St} {H : Hp} {s : Shared} {l b : Addr} {xs ys zs : List V}

/-! ### the two steps: a tracked list is rewritten, a new list is laid -/
theorem Inv.lset {its its' : List Value} {n : Nat} {f : Array Value → Array Value} {t' : Nat} (I : Inv X pins σ H s) (hH : H l = some (.lst xs))
    (e : s.heap.get? l = some { cls := .type "list", data := .seq its.toArray n }) (hf : f its.toArray = its'.toArray) (hv : Vals ys its') (hz : ys.length ≤ sizeLine) :
    Inv X pins σ (upd H l (.lst ys)) { s with heap := s.heap.update l (Obj.mapSeq f), toks := t' } := by
  have q := PySem.IsL.update e f
  rw [hf] at q
  refine I.write (x := l) (e := l) (by rw [hH]; exact trivial) (.inl rfl) (fun b' u hb hu => (Heap.get?_update_other s.heap (Obj.mapSeq f) (Ne.symm hb)).trans hu) ⟨_, q⟩ ?_
  exact ⟨hz, its', _, hv, q⟩
theorem Inv.lnew {its : List Value} {t' : Nat} (I : Inv X pins σ H s) (hv : Vals ys its) (hz : ys.length ≤ sizeLine) :
    Inv X pins σ (upd H s.heap.objs.size (.lst ys)) { s with heap := s.heap.push { cls := .type "list", data := .seq its.toArray }, toks := t' } :=
  I.laid (fun _ _ q => Heap.get?_push_of_some _ q) (Nat.le_refl _) ⟨hz, its, 0, hv, Heap.get?_push_size _ rfl⟩
theorem Inv.fresh (I : Inv X pins σ H s) : H s.heap.objs.size = none := I.hok.fresh (Nat.le_refl _)
theorem Inv.lstM (I : Inv X pins σ H s) (hH : H l = some (.lst xs)) : xs.length ≤ sizeLine ∧ ∃ (its : List Value) (n : Nat), Vals xs its ∧ xs.length = its.length ∧ s.heap.get? l = some { cls := .type "list", data := .seq its.toArray n } := by
  obtain ⟨z, its, n, r, e⟩ := I.hok l _ hH
  exact ⟨z, its, n, r, r.length, e⟩

theorem notLongL {n : Nat} (h : n ≤ sizeLine) : Builtin.List.listTooLong n = false := by
  unfold Builtin.List.listTooLong
  exact decide_eq_false (by omega)
end

section
variable {X : Cx}

/-! ### methods -/
def rAppend : V → List V → Hp → VK → Prop := fun x vs H Q => ∃ l xs y, x = .ref l ∧ vs = [y] ∧ H l = some (.lst xs) ∧ xs.length < sizeLine ∧ Q .non (upd H l (.lst (xs ++ [y])))
theorem mt_append : MtM X "list.append" rAppend := by
  intro pins s σ H x vs v us Q I rx rv h
  obtain ⟨l, xs, y, rfl, rfl, hH, hz, q⟩ := h
  cases rx
  obtain ⟨u, rfl, ru⟩ := rv.one
  obtain ⟨z, its, n, r, hl, e⟩ := I.lstM hH
  refine call_meets F.slot_list_append ⟨_, e, rfl⟩ F.entry_list_append (F.args_list_append_2 _ _) (PySem.list_append l its.toArray n u (by rw [List.size_toArray]; omega)) ⟨e, ?_⟩
  refine ⟨.non, _, I.lset (its' := its ++ [u]) hH e (by simp) (r.append (.cons ru .nil)) ?_, rfl, q⟩
  rw [List.length_append, List.length_singleton]
  omega

def rExtend : V → List V → Hp → VK → Prop := fun x vs H Q => ∃ l b xs zs, x = .ref l ∧ vs = [.ref b] ∧ H l = some (.lst xs) ∧ H b = some (.lst zs) ∧ xs.length + zs.length ≤ sizeLine ∧ Q .non (upd H l (.lst (xs ++ zs)))
theorem mt_extend : MtM X "list.extend" rExtend := by
  intro pins s σ H x vs v us Q I rx rv h
  obtain ⟨l, b, xs, zs, rfl, rfl, hH, hB, hz, q⟩ := h
  cases rx
  obtain ⟨u, rfl, ru⟩ := rv.one
  cases ru
  obtain ⟨z, its, n, r, hl, e⟩ := I.lstM hH
  obtain ⟨z2, its2, n2, r2, hl2, e2⟩ := I.lstM hB
  have hsz : its.toArray.size + its2.toArray.size ≤ sizeLine := by rw [List.size_toArray, List.size_toArray]; omega
  have hlong : ¬ (!its.toArray.isEmpty && Builtin.List.listTooLong (its.toArray.size + its2.toArray.size)) = true := by
    rw [notLongL hsz, Bool.and_false]
    exact Bool.false_ne_true
  refine call_meets F.slot_list_extend ⟨_, e, rfl⟩ F.entry_list_extend (F.args_list_extend_2 _ _)
    (AutoSeq1.list_extend_list_list_0 l its.toArray n b its2.toArray n2 hlong (by rw [List.size_toArray]; omega) (by omega)) ⟨e, e2, ?_⟩
  refine ⟨.non, _, I.lset (its' := its ++ its2) hH e (by simp) (r.append r2) ?_, rfl, q⟩
  rw [List.length_append]
  omega

def rPop : V → List V → Hp → VK → Prop := fun x vs H Q => ∃ l xs y, x = .ref l ∧ vs = [] ∧ H l = some (.lst xs) ∧ xs[xs.length - 1]? = some y ∧ Q y (upd H l (.lst xs.dropLast))
theorem mt_pop : MtM X "list.pop" rPop := by
  intro pins s σ H x vs v us Q I rx rv h
  obtain ⟨l, xs, y, rfl, rfl, hH, hy, q⟩ := h
  cases rx
  have hus := rv.zero
  subst hus
  obtain ⟨z, its, n, r, hl, e⟩ := I.lstM hH
  obtain ⟨u, hu, ru⟩ := r.get hy
  have hy' : its.toArray[its.toArray.size - 1]? = some u := by
    show its.toArray[its.length - 1]? = some u
    rw [← Array.getElem?_toList, ← hl]
    exact hu
  refine call_meets F.slot_list_pop ⟨_, e, rfl⟩ F.entry_list_pop (F.args_list_pop_1 _) (MeetsSeq.list_pop_last l its.toArray n u hy' (by rw [List.size_toArray]; omega)) ⟨e, ?_⟩
  refine ⟨y, _, I.lset (its' := its.dropLast) hH e ?_ r.dropLast ?_, ru, q⟩
  · show its.toArray.eraseIdxIfInBounds (its.toArray.size - 1) = its.dropLast.toArray
    rw [List.size_toArray, List.eraseIdxIfInBounds_toArray, erase_last]
  · rw [List.length_dropLast]
    omega

def rPopAt : V → List V → Hp → VK → Prop := fun x vs H Q => ∃ l xs i k y, x = .ref l ∧ vs = [.int i] ∧ H l = some (.lst xs) ∧ -(2 ^ 63) ≤ i ∧ i < 2 ^ 63 ∧ seqIndex? i xs.length = some k ∧ xs[k]? = some y ∧ Q y (upd H l (.lst (xs.eraseIdx k)))
theorem mt_popAt : MtM X "list.pop" rPopAt := by
  intro pins s σ H x vs v us Q I rx rv h
  obtain ⟨l, xs, i, k, y, rfl, rfl, hH, h1, h2, hk, hy, q⟩ := h
  cases rx
  obtain ⟨u, rfl, ru⟩ := rv.one
  obtain ⟨t, rfl⟩ := ru
  obtain ⟨z, its, n, r, hl, e⟩ := I.lstM hH
  obtain ⟨w, hw, rw'⟩ := r.get hy
  refine call_meets F.slot_list_pop ⟨_, e, rfl⟩ F.entry_list_pop (F.args_list_pop_2 _ _)
    (MeetsSeq.list_pop_at l its.toArray n i t k w (fitsIndex_both h1 h2) (by rw [List.size_toArray, ← hl]; exact hk) (by rw [← Array.getElem?_toList]; exact hw) (by rw [List.size_toArray]; omega)) ⟨e, ?_⟩
  refine ⟨y, _, I.lset (its' := its.eraseIdx k) hH e ?_ (r.eraseIdx k) ?_, rw', q⟩
  · show its.toArray.eraseIdxIfInBounds k = (its.eraseIdx k).toArray
    rw [List.eraseIdxIfInBounds_toArray]
  · have := len_erase xs k
    omega

def rReverse : V → List V → Hp → VK → Prop := fun x vs H Q => ∃ l xs, x = .ref l ∧ vs = [] ∧ H l = some (.lst xs) ∧ Q .non (upd H l (.lst xs.reverse))
theorem mt_reverse : MtM X "list.reverse" rReverse := by
  intro pins s σ H x vs v us Q I rx rv h
  obtain ⟨l, xs, rfl, rfl, hH, q⟩ := h
  cases rx
  have hus := rv.zero
  subst hus
  obtain ⟨z, its, n, r, hl, e⟩ := I.lstM hH
  refine call_meets F.slot_list_reverse ⟨_, e, rfl⟩ F.entry_list_reverse (F.args_list_reverse_1 _) (AutoSeq1.list_reverse_list_0 l its.toArray n (by rw [List.size_toArray]; omega)) ⟨e, ?_⟩
  refine ⟨.non, _, I.lset (its' := its.reverse) hH e (by simp) r.reverse ?_, rfl, q⟩
  rw [List.length_reverse]
  omega

def rClear : V → List V → Hp → VK → Prop := fun x vs H Q => ∃ l xs, x = .ref l ∧ vs = [] ∧ H l = some (.lst xs) ∧ Q .non (upd H l (.lst []))
theorem mt_clear : MtM X "list.clear" rClear := by
  intro pins s σ H x vs v us Q I rx rv h
  obtain ⟨l, xs, rfl, rfl, hH, q⟩ := h
  cases rx
  have hus := rv.zero
  subst hus
  obtain ⟨z, its, n, r, hl, e⟩ := I.lstM hH
  refine call_meets F.slot_list_clear ⟨_, e, rfl⟩ F.entry_list_clear (F.args_list_clear_1 _) (AutoSeq1.list_clear_list_0 l its.toArray n (by rw [List.size_toArray]; omega)) ⟨e, ?_⟩
  exact ⟨.non, _, I.lset (its' := []) (ys := []) hH e rfl .nil (Nat.zero_le _), rfl, q⟩

/-! ### list + list, list += list, list * int -/
def rCat : R2 := fun x y H Q => ∃ l b xs zs, x = .ref l ∧ y = .ref b ∧ H l = some (.lst xs) ∧ H b = some (.lst zs) ∧ xs.length + zs.length ≤ sizeLine ∧ ∀ p, H p = none → Q (.ref p) (upd H p (.lst (xs ++ zs)))
theorem op_cat : OpR X (binaryOp .Add) rCat := by
  intro pins s σ H x y v u Q I rx ry h
  obtain ⟨l, b, xs, zs, rfl, rfl, hH, hB, hz, q⟩ := h
  cases rx
  cases ry
  obtain ⟨z, its, n, r, hl, e⟩ := I.lstM hH
  obtain ⟨z2, its2, n2, r2, hl2, e2⟩ := I.lstM hB
  refine PySem.P.add_list e e2 ?_ (by rw [List.size_toArray, List.size_toArray]; omega)
  have ea : its.toArray ++ its2.toArray = (its ++ its2).toArray := by simp
  rw [ea]
  exact ⟨.ref _, _, I.lnew (t' := s.toks) (r.append r2) (by rw [List.length_append]; omega), rfl, q _ I.fresh⟩
/-- a list times an int (a negative one is nothing) -/
def rRep : R2 := fun x y H Q => ∃ l k xs, x = .ref l ∧ y = .int k ∧ H l = some (.lst xs) ∧ -(2 ^ 63) ≤ k ∧ k < 2 ^ 63 ∧ xs.length * k.toNat ≤ sizeLine ∧
  ∀ p, H p = none → Q (.ref p) (upd H p (.lst (List.replicate k.toNat xs).flatten))
theorem len_rep {α : Type} (xs : List α) (k : Nat) : (List.replicate k xs).flatten.length = k * xs.length := by
  induction k with
  | zero => simp
  | succ k ih => rw [List.replicate_succ, List.flatten_cons, List.length_append, ih, Nat.succ_mul, Nat.add_comm]
theorem op_rep : OpR X (binaryOp .Mult) rRep := by
  intro pins s σ H x y v u Q I rx ry h
  obtain ⟨l, k, xs, rfl, rfl, hH, h1, h2, hz, q⟩ := h
  cases rx
  obtain ⟨t, rfl⟩ := ry
  obtain ⟨z, its, n, r, hl, e⟩ := I.lstM hH
  have hlen : its.toArray.size * k.toNat ≤ sizeLine := by rw [List.size_toArray, ← hl]; exact hz
  have hcap : ¬ its.toArray.size * k.toNat > (2 ^ 63 - 1) / 8 := by
    have : (sizeLine : Nat) ≤ (2 ^ 63 - 1) / 8 := by decide
    omega
  have hfit : ¬ (!Builtin.List.listFitsIndex k) = true := by
    rw [fitsIndex_both h1 h2]
    exact Bool.false_ne_true
  have hlong : ¬ Builtin.List.listTooLong (its.toArray.size * k.toNat) = true := by
    rw [notLongL hlen]
    exact Bool.false_ne_true
  have hnew : List.foldl (fun x1 x2 => x1 ++ x2) #[] (List.replicate (if its.toArray.isEmpty = true then 0 else k.toNat) its.toArray) = (List.replicate k.toNat its).flatten.toArray := by
    have f0 : ∀ m : Nat, List.foldl (fun x1 x2 => x1 ++ x2) #[] (List.replicate m its.toArray) = (List.replicate m its).flatten.toArray := fun m => by
      have := foldl_rep its m []
      rw [List.nil_append] at this
      exact this
    rw [f0]
    cases its with
    | nil => simp
    | cons a r' => rw [if_neg (by simp)]
  refine wpAny_binaryOp_repeat_ref (T := "list") (U := "int") (by decide) ⟨_, e, rfl⟩ (fun s' => typeIs_int s' k t) noFill_list_mul F.fills_int_mul F.slot_int_rmul repeat_list F.slot_int_index.lookup
    (call_meets F.slot_int_rmul (typeIs_int s k t) F.entry_int_rmul (F.args_int_rmul_2 _ _) (int___rmul___int_list k t l its.toArray n)
      ⟨e, rfl, ⟨_, e, rfl⟩, call_meets F.slot_list_mul ⟨_, e, rfl⟩ F.entry_list_mul (F.args_list_mul_2 _ _) (AutoListH.list___mul___list_int_3 l its.toArray n k t hfit hcap hlong) ⟨e, ?_⟩⟩)
  rw [hnew]
  exact ⟨.ref _, _, I.lnew (t' := s.toks) (r.rep k.toNat) (by rw [len_rep, Nat.mul_comm]; exact hz), rfl, q _ I.fresh⟩

/-! ### del xs[i] -/
theorem del_list {pins : List (Addr × Obj)} {s : Shared} {σ : St} {H : Hp} {l : Addr} {xs : List V} {i : Int} {t : Tok} {k : Nat} {Q : Unit → Shared → Prop} (I : Inv X pins σ H s) (hH : H l = some (.lst xs))
    (h1 : -(2 ^ 63) ≤ i) (h2 : i < 2 ^ 63) (hk : seqIndex? i xs.length = some k) (h : ∀ s', Inv X pins σ (upd H l (.lst (xs.eraseIdx k))) s' → Q () s') :
    wpAny (model X.prog X.w) X.A (delItem (.ref l) (.int i t)) Q X.xe s := by
  obtain ⟨z, its, n, r, hl, e⟩ := I.lstM hH
  refine PySem.P.delItem_list (k := k) e (fitsIndex_both h1 h2) (by rw [List.size_toArray, ← hl]; exact hk) (h _ ?_) (by rw [List.size_toArray]; omega)
  refine I.lset (its' := its.eraseIdx k) (t' := s.toks) hH e ?_ (r.eraseIdx k) ?_
  · show its.toArray.eraseIdxIfInBounds k = (its.eraseIdx k).toArray
    rw [List.eraseIdxIfInBounds_toArray]
  · have := len_erase xs k
    omega
end

/-! ### xs[a:b] = ys -/
section
variable {prog : Program} {w : World} {A : Around} {E : Value → Shared → Prop} {s : Shared}
theorem splice_eq (its its2 : List Value) (a c : Nat) : its.toArray.extract 0 a ++ its2.toArray ++ its.toArray.extract c its.toArray.size = (its.take a ++ its2 ++ its.drop c).toArray := by
  apply Array.toList_inj.mp
  first
    | (simp
       exact List.take_of_length_le (by simp))
    | simp [List.take_of_length_le]
    | simp
theorem bounds_run {a c n : Nat} (hac : a ≤ c) (hc : c ≤ n) : sliceBounds (some (a : Int)) (some (c : Int)) none n = ((a : Int), (c : Int), 1) := by
  simp only [sliceBounds, Option.getD_none]
  have h1 : ¬ ((a : Int) < 0) := by omega
  have h2 : ¬ ((c : Int) < 0) := by omega
  simp only [h1, h2, if_false, show (1 : Int) > 0 by decide, if_true]
  congr 1
  · omega
  · congr 1; omega
set_option maxRecDepth 100000 in
/-- list.__setitem__ with a slice of step one and another list -/
theorem setItem_slice {l b sl : Addr} {items new : Array Value} {n n2 : Nat} {vl vu : Value} {a c : Nat} {Q : Unit → Shared → Prop}
    (e : s.heap.get? l = some { cls := .type "list", data := .seq items n }) (e2 : s.heap.get? b = some { cls := .type "list", data := .seq new n2 }) (hne : l ≠ b)
    (hs : s.heap.IsSliceOf sl vl vu .none) (pl : IsPart vl (some (a : Int))) (pu : IsPart vu (some (c : Int))) (hac : a ≤ c) (hc : c ≤ items.size)
    (hsz : items.size + new.size ≤ sizeLine) (h : Q () { s with heap := s.heap.update l (Obj.mapSeq fun xs => xs.extract 0 a ++ new ++ xs.extract c xs.size) }) :
    wpAny (model prog w) A (setItem (.ref l) (.ref sl) (.ref b)) Q E s := by
  have hl : s.heap.IsList l items := PySem.IsL.isList e
  have hb : s.heap.IsList b new := PySem.IsL.isList e2
  obtain ⟨os, hos, hcs, hds⟩ := id hs
  have hTs : s.TypeIs (.ref sl) "slice" := ⟨os, hos, hcs⟩
  have hstep : ¬ ((rawPart none == rawInt 0) = true) := Bool.false_ne_true
  have hsame : Builtin.List.listSameRef (.ref l) (.ref b) = false := by
    unfold Builtin.List.listSameRef
    exact beq_eq_false_iff_ne.mpr hne
  have hmax : (max (a : Int) (c : Int)).toNat = c := by omega
  have hz' : ((fun xs : Array Value => xs.extract 0 a ++ new ++ xs.extract c xs.size) items).size ≤ sizeLine + 1 := by
    simp only [Array.size_append, Array.size_extract]
    omega
  unfold setItem
  try with_reducible refine wpAny_holding ?_
  first | refine wpAny_bind (wpAny_pure ?_) | skip
  refine wpAny_bind (wpAny_sequenceKey hl.typeIs (by decide) ?_)
  refine wpAny_bind (wpAny_callSpecial?_slot (name := Str.ofString "__setitem__") hl.typeIs slot_list_setitem
    (wpAny_call_entry slot_list_setitem hl.typeIs entry_list_setitem ?_ (args_list_setitem _ _ _)))
  show wpAny _ _ (Builtin.List.listSubscript? (.ref sl) >>= _) _ _ s
  refine wpAny_bind ?_
  unfold Builtin.List.listSubscript?
  refine wpAny_bind (wpAny_specialOf hTs slice_no_index ?_)
  simp only [Option.isNone_none, if_true]
  refine wpAny_pure ?_
  show wpAny _ _ (typeOf (.ref sl) >>= _) _ _ s
  refine wpAny_bind (wpAny_typeOf hTs ?_)
  first
    | rw [if_neg (by decide)]
    | refine PySem.W.KFB.if_not (by decide) ?_
  rw [listSliceParts_eq]
  refine wpAny_bind (wpAny_bind (wpAny_field hos hds (x := .none) rfl (wpAny_bind (wpAny_listPart .none ?_))))
  rw [if_neg hstep]
  refine wpAny_bind (wpAny_field hos hds (x := vl) rfl (wpAny_bind (wpAny_listPart pl ?_)))
  refine wpAny_bind (wpAny_field hos hds (x := vu) rfl (wpAny_bind (wpAny_listPart pu (wpAny_pure ?_))))
  first
    | simp only [hsame, Bool.false_eq_true, if_false]
    | refine PySem.W.KFB.if_not hsame ?_
    | (dsimp only
       rw [if_neg (by rw [hsame]; exact Bool.false_ne_true)])
  refine wpAny_bind (m := Builtin.List.listAllItems (.ref b) "must assign iterable to extended slice") ?_
  unfold Builtin.List.listAllItems
  refine wpAny_bind (wpAny_typeOf hb.typeIs ?_)
  first
    | refine PySem.W.KFB.if_so (by decide) ?_
    | rw [if_pos (by decide)]
    | simp only [beq_self_eq_true, Bool.true_or, if_true]
  unfold Builtin.List.listItems
  refine wpAny_bind (wpAny_seqItems e2 rfl (wpAny_pure ?_))
  refine wpAny_bind (wpAny_bind (wpAny_seqItems e rfl (wpAny_pure ?_)))
  refine wpAny_bind (wpAny_of_eq ((sliceIndices_raw (some (a : Int)) (some (c : Int)) none items.size (by simp)).trans (congrArg (pure : Int × Int × Int → Sem (Int × Int × Int)) (bounds_run hac hc))) ?_)
  show wpAny _ _ (if ((1 : Int) == 1) = true then _ else _) _ _ s
  rw [if_pos (by decide)]
  refine wpAny_bind (wpAny_rule ?_)
  first
    | simp only [notLongL hsz, Bool.false_eq_true, if_false]
    | refine PySem.W.KFB.if_not (notLongL hsz) ?_
  first | refine wpAny_bind (wpAny_pure ?_) | skip
  show wpAny _ _ (updateSeq l (fun xs => xs.extract 0 ((a : Int)).toNat ++ new ++ xs.extract (max (a : Int) (c : Int)).toNat xs.size) >>= _) _ _ s
  rw [hmax, Int.toNat_natCast]
  refine wpAny_bind (wpAny_updateSeq (hz := Nat.le_trans (Nat.le_add_right _ _) hsz) (_hz' := hz') e rfl ?_)
  refine wpAny_bind (wpAny_letGo ?_)
  first
    | exact wpAny_bind (wpAny_pure (wpAny_pure ⟨.none, rfl, wpAny_pure h⟩))
    | exact wpAny_pure ⟨.none, rfl, wpAny_pure h⟩
end

section
variable {X : Cx}
/-- xs[a:c] = ys of another list, at the value level: sl is the slice object that was just made -/
theorem set_slice {pins : List (Addr × Obj)} {s : Shared} {σ : St} {H : Hp} {l b sl : Addr} {xs ys : List V} {a c : Int} {vl vu : Value} {Q : Unit → Shared → Prop} (I : Inv X pins σ H s)
    (hH : H l = some (.lst xs)) (hB : H b = some (.lst ys)) (hne : l ≠ b) (hs : s.heap.IsSliceOf sl vl vu .none) (ra : RelV (.int a) vl) (rc : RelV (.int c) vu) (h0 : 0 ≤ a) (hac : a ≤ c) (hc : c ≤ xs.length)
    (hz : xs.length + ys.length ≤ sizeLine) (h : ∀ s', Inv X pins σ (upd H l (.lst (xs.take a.toNat ++ ys ++ xs.drop c.toNat))) s' → Q () s') :
    wpAny (model X.prog X.w) X.A (setItem (.ref l) (.ref sl) (.ref b)) Q X.xe s := by
  obtain ⟨ta, rfl⟩ := ra
  obtain ⟨tc, rfl⟩ := rc
  obtain ⟨z, its, n, r, hl, e⟩ := I.lstM hH
  obtain ⟨z2, its2, n2, r2, hl2, e2⟩ := I.lstM hB
  obtain ⟨a', rfl⟩ := Int.eq_ofNat_of_zero_le h0
  obtain ⟨c', rfl⟩ := Int.eq_ofNat_of_zero_le (Int.le_trans h0 hac)
  simp only [Int.toNat_natCast] at h
  refine setItem_slice (a := a') (c := c') e e2 hne hs (.int _ _) (.int _ _) (by omega) (by rw [List.size_toArray]; omega) (by rw [List.size_toArray, List.size_toArray]; omega) (h _ ?_)
  refine I.lset (its' := its.take a' ++ its2 ++ its.drop c') (t' := s.toks) hH e ?_ (Vals.append (Vals.append (r.take _) r2) (r.drop _)) ?_
  · exact splice_eq its its2 a' c'
  · rw [List.length_append, List.length_append, List.length_take, List.length_drop]
    omega
end
end L2

namespace Att
open PySem PySem.W PySem.Calls PyProof.Rows

/-! ### the script -/
theorem ints_of_wellAll {P : Params} {h : Heap} : ∀ (ns : List Int) (vs : List Value), WellAll P h vs (ns.map WData.int) → IntsAre vs ns := by
  intro ns
  induction ns with
  | nil =>
    intro vs w
    rw [List.map_nil] at w
    cases w
    exact .nil
  | cons n ns ih =>
    intro vs w
    rw [List.map_cons] at w
    cases w with
    | cons a b =>
      cases a
      exact .cons _ _ (ih _ b)

theorem script_of {l : OpenLaw} {n : Nat} (hn : l.most = some n) {P : Params} {h : Heap} {args : List WData} {vals : List Value}
    (hpre : l.row.toRowW.claim.pre args = true) (hwl : WellAll P h vals args) :
    ∃ a vs ns, vals = [Value.ref a] ∧ args = [WData.list (ns.map WData.int)] ∧ h.get? a = some { cls := .type "list", data := .seq vs.toArray } ∧ IntsAre vs ns ∧ ns.length ≤ n := by
  have hsh : WShape.hasAll [] args [.list .int] = true := (pre_splitW hpre).1
  have hc : l.pre.holds [] { args := args } = true := (pre_splitW hpre).2
  obtain ⟨d, r, rfl, h1, h2⟩ := hasAllW_cons hsh
  obtain rfl := hasAllW_nil h2
  obtain ⟨xs, rfl, h3⟩ := hasW_list h1
  obtain ⟨ns, rfl⟩ := items_int h3
  have hlen : ns.length ≤ n := by
    unfold OpenLaw.pre at hc
    have h4 : (WTm.not (.lt (.lit (.int (n : Int))) (.len (.arg 0)))).holds [] { args := [.list (ns.map .int)] } = true := by
      have h4 := (holds_andW hc).1
      rw [hn] at h4
      exact h4
    have h5 := condW_of h4 (w_not (w_lt w_lit (w_len_list (w_arg rfl))))
    rw [List.length_map] at h5
    refine Nat.le_of_not_lt fun q => ?_
    have q' : (n : Int) < ((ns.length : Nat) : Int) := by omega
    first
      | (rw [decide_eq_true q'] at h5; exact absurd h5 (by decide))
      | (simp at h5; omega)
  cases hwl with
  | cons w1 w2 =>
    cases w2
    cases w1 with
    | list ho hall => exact ⟨_, _, ns, rfl, rfl, ho, ints_of_wellAll ns _ hall, hlen⟩

theorem post_true (l : OpenLaw) (args : List WData) : l.row.toRowW.claim.post args (.bool true) args = true :=
  postW_of (r := l.row.toRowW) (X := (true == true))
    (show WShape.has [] (.bool true) .bool = true by first | rfl | decide | simp [WShape.has, WShape.arms, WShape.armsAll])
    (show (WTm.eq .res (.lit (.bool true))).value [] { args := args, res := some (.bool true), after := args } = some (.bool (true == true)) from w_eq_bool (w_res rfl) w_lit) rfl

/-! ### the attachment: holds_open's last premise (the goal 'hc' behind k_head) from a wpAny of the law's body -/
theorem attach {l : OpenLaw} {n : Nat} {q : Program} {loose : List Str} {XP : (Str → Option Value) → Heap → Prop} {YP : World → Heap → Prop} {d : DefRec} {x : Str}
    (hn : l.most = some n) (hdf : d.params.defaults = [])
    (hbind : ∀ pm cd doc v : Value, bindArgs (docDef d.name d.params d.body d.scope pm cd doc) ⟨[v], []⟩ = pure [(x, v)])
    (hx : d.scope.names.lookup x = some .local ∨ d.scope.names.lookup x = some .cell)
    (hk : d.scope.kind = .function) (hco : d.scope.isCoroutine = false) (hgen : d.scope.isGenerator = false)
    (body : ∀ (w : World) (s₀ s₁ s : Shared) (mg mb : Str → Option Value) (fa : Addr) (o : Obj) (pm cd doc : Value) (a : Addr) (vs : List Value) (ns : List Int),
      Ground q loose [] XP w s₀ mg mb s₁.heap → YP w s₁.heap →
      s₁.heap.get? fa = some o → o.data = .func (docDef d.name d.params d.body d.scope pm cd doc) → s₁.heap.CodeRec cd d.name → mg d.name = some (.ref fa) →
      s₁.heap.get? a = some { cls := .type "list", data := .seq vs.toArray } → IntsAre vs ns → ns.length ≤ n →
      s.gens = #[] → s.os = s₁.os →
      Fr s₁.heap s₁.heap.objs.size s.heap (bindL (envOfC d.name d.scope s₁.heap.objs.size fa cd).kindOf [(x, .ref a)] fun _ => none) →
      Cl s₁.heap.objs.size (cellsFrom (s₁.heap.objs.size + 1) d.scope.names []) s.heap (bindC (envOfC d.name d.scope s₁.heap.objs.size fa cd).kindOf [(x, .ref a)] fun _ => none) →
      wpAny (model l.prog w) (callerA.deeper (envOfC d.name d.scope s₁.heap.objs.size fa cd)) (execs d.body (envOfC d.name d.scope s₁.heap.objs.size fa cd))
        (fun f s' => f = .ret (.bool true) ∧ OldK s₁.heap s'.heap ∧ s'.os = s₁.os ∧ AllBare s'.gens) (fun _ _ => False) s) :
    WalkO q loose XP YP l.row.toRowW d [] (fun f vs => PySem.call f vs) := by
  intro w s₀ s₁ mg mb G Y fa o pm cd doc dV kV ho hd hcd hD hmg hg args vals as hpre hlay hrd hwl hlo
  obtain rfl : dV = .none := Dflts.none hD hdf
  obtain rfl : kV = .none := Dflts.noKw hD
  obtain ⟨a, vs, ns, rfl, rfl, hobj, hints, hlen⟩ := script_of hn hpre hwl
  refine enter_call ?_
  refine call_cells_ret (o := o) (by rw [depth_caller]; decide) ho (fd_plain hd) G.T.nolimit hcd (hbind pm cd doc (.ref a)) (fun y hy => ?_) (fun h₁ tk F X => ?_) hco hgen hk
  · obtain rfl : y = (x, Value.ref a) := List.mem_singleton.mp hy
    rcases hx with e | e
    · exact .inl e
    · exact .inr ⟨e, cellsFrom_some _ _ _ (.inl e)⟩
  · refine wpAny_mono (body w s₀ s₁ { s₁ with heap := h₁, toks := tk } mg mb fa o pm cd doc a vs ns G Y ho (fd_plain hd) hcd hmg hobj hints hlen hg rfl F X) (fun f s' hq => ?_) (fun _ _ hq => hq)
    obtain ⟨rfl, h2, h3, h4⟩ := hq
    exact ⟨.inl ⟨.bool true, .bool true, [], rfl, fun _ => rfl, .bool true, post_true l _, fun _ => ⟨List.Pairwise.nil, fun _ hm => (nomatch hm)⟩⟩, h2, h3, h4⟩

/-- the same from a codeAny of the CALL (for a layer whose function contracts speak of calls) -/
theorem attach_call {l : OpenLaw} {n : Nat} {q : Program} {loose : List Str} {XP : (Str → Option Value) → Heap → Prop} {YP : World → Heap → Prop} {d : DefRec}
    (hn : l.most = some n) (hdf : d.params.defaults = [])
    (call : ∀ (w : World) (s₀ s₁ : Shared) (mg mb : Str → Option Value) (fa : Addr) (o : Obj) (pm cd doc : Value) (a : Addr) (vs : List Value) (ns : List Int),
      Ground q loose [] XP w s₀ mg mb s₁.heap → YP w s₁.heap →
      s₁.heap.get? fa = some o → o.data = .func (docDef d.name d.params d.body d.scope pm cd doc) → s₁.heap.CodeRec cd d.name → mg d.name = some (.ref fa) →
      s₁.heap.get? a = some { cls := .type "list", data := .seq vs.toArray } → IntsAre vs ns → ns.length ≤ n → s₁.gens = #[] →
      codeAny (model l.prog w) callerA (.call (.ref fa) ⟨[.ref a], []⟩) (fun r s' => r = .ok (.ret (.bool true)) ∧ OldK s₁.heap s'.heap ∧ s'.os = s₁.os ∧ AllBare s'.gens) s₁) :
    WalkO q loose XP YP l.row.toRowW d [] (fun f vs => PySem.call f vs) := by
  intro w s₀ s₁ mg mb G Y fa o pm cd doc dV kV ho hd hcd hD hmg hg args vals as hpre hlay hrd hwl hlo
  obtain rfl : dV = .none := Dflts.none hD hdf
  obtain rfl : kV = .none := Dflts.noKw hD
  obtain ⟨a, vs, ns, rfl, rfl, hobj, hints, hlen⟩ := script_of hn hpre hwl
  refine enter_call (codeAny_mono (call w s₀ s₁ mg mb fa o pm cd doc a vs ns G Y ho (fd_plain hd) hcd hmg hobj hints hlen hg) fun r s' hq => ?_)
  obtain ⟨rfl, h2, h3, h4⟩ := hq
  exact ⟨.inl ⟨.bool true, .bool true, [], rfl, fun _ => rfl, .bool true, post_true l _, fun _ => ⟨List.Pairwise.nil, fun _ hm => (nomatch hm)⟩⟩, h2, h3, h4⟩

/-- the same where the top left finished generators (o_head chose holds_openN): nothing may have changed at all and no generator may be left -/
theorem attachN {l : OpenLaw} {n : Nat} {q : Program} {loose : List Str} {XP : (Str → Option Value) → Heap → Prop} {YP : World → Heap → Prop} {d : DefRec} {x : Str}
    (hn : l.most = some n) (hdf : d.params.defaults = [])
    (hbind : ∀ pm cd doc v : Value, bindArgs (docDef d.name d.params d.body d.scope pm cd doc) ⟨[v], []⟩ = pure [(x, v)])
    (hx : d.scope.names.lookup x = some .local ∨ d.scope.names.lookup x = some .cell)
    (hk : d.scope.kind = .function) (hco : d.scope.isCoroutine = false) (hgen : d.scope.isGenerator = false)
    (body : ∀ (w : World) (s₀ s₁ s : Shared) (mg mb : Str → Option Value) (fa : Addr) (o : Obj) (pm cd doc : Value) (a : Addr) (vs : List Value) (ns : List Int),
      Ground q loose [] XP w s₀ mg mb s₁.heap → YP w s₁.heap →
      s₁.heap.get? fa = some o → o.data = .func (docDef d.name d.params d.body d.scope pm cd doc) → s₁.heap.CodeRec cd d.name → mg d.name = some (.ref fa) →
      s₁.heap.get? a = some { cls := .type "list", data := .seq vs.toArray } → IntsAre vs ns → ns.length ≤ n →
      s.gens = #[] → s.os = s₁.os →
      Fr s₁.heap s₁.heap.objs.size s.heap (bindL (envOfC d.name d.scope s₁.heap.objs.size fa cd).kindOf [(x, .ref a)] fun _ => none) →
      Cl s₁.heap.objs.size (cellsFrom (s₁.heap.objs.size + 1) d.scope.names []) s.heap (bindC (envOfC d.name d.scope s₁.heap.objs.size fa cd).kindOf [(x, .ref a)] fun _ => none) →
      wpAny (model l.prog w) (callerA.deeper (envOfC d.name d.scope s₁.heap.objs.size fa cd)) (execs d.body (envOfC d.name d.scope s₁.heap.objs.size fa cd))
        (fun f s' => f = .ret (.bool true) ∧ (∀ b o, s₁.heap.get? b = some o → s'.heap.get? b = some o) ∧ s'.os = s₁.os ∧ s'.gens = #[]) (fun _ _ => False) s) :
    WalkN q loose XP YP l.row.toRowW d [] (fun f vs => PySem.call f vs) := by
  intro w s₀ s₁ mg mb G Y fa o pm cd doc dV kV ho hd hcd hD hmg hg args vals as hpre hlay hrd hwl hlo
  obtain rfl : dV = .none := Dflts.none hD hdf
  obtain rfl : kV = .none := Dflts.noKw hD
  obtain ⟨a, vs, ns, rfl, rfl, hobj, hints, hlen⟩ := script_of hn hpre hwl
  refine enter_callW ?_
  refine call_cells_ret (o := o) (by rw [depth_caller]; decide) ho (fd_plain hd) G.T.nolimit hcd (hbind pm cd doc (.ref a)) (fun y hy => ?_) (fun h₁ tk F X => ?_) hco hgen hk
  · obtain rfl : y = (x, Value.ref a) := List.mem_singleton.mp hy
    rcases hx with e | e
    · exact .inl e
    · exact .inr ⟨e, cellsFrom_some _ _ _ (.inl e)⟩
  · refine wpAny_mono (body w s₀ s₁ { s₁ with heap := h₁, toks := tk } mg mb fa o pm cd doc a vs ns G Y ho (fd_plain hd) hcd hmg hobj hints hlen hg rfl F X) (fun f s' hq => ?_) (fun _ _ hq => hq)
    obtain ⟨rfl, h2, h3, h4⟩ := hq
    exact ⟨.inl ⟨.bool true, .bool true, [], rfl, fun _ => rfl, .bool true, post_true l _, fun _ => ⟨List.Pairwise.nil, fun _ hm => (nomatch hm)⟩⟩, h2, h3, h4⟩

/-! ### rules over ANY heap (no ledger) from facts about the written part K: the library's own take a ledger (News) for what they write -/
section
variable {prog : Program} {w : World} {A : Around} {E : Value → Shared → Prop} {s : Shared} {K : Frag}

/-- a def of the module, or a method (qual 'C.m'), entered: the frame is the next address; cells behind it -/
theorem call_fn {R : Result → Shared → Prop} {name qual : Str} {params : Arguments} {body : List Stmt} {scope : Scope} {dV kV doc pm cdv ct oc : Value} {an od : Option Addr} {osl : Array (Option Value)} {f : Addr} {args : Args} {binds : List (Str × Value)}
    (X : K.In s.heap) (hlim : s.heap.NoLimit) (ho : K.lookup f = some ⟨oc, od, .func (fnOf name qual params body scope dV kV doc pm an cdv ct), osl⟩) (hcd : codeIn K cdv qual = true) (hroom : A.depth < recursionLimit)
    (hbind : BindsTo s (fnOf name qual params body scope dV kV doc pm an cdv ct) args binds)
    (hkind : (binds.all fun y => scope.names.lookup y.1 == some .local || scope.names.lookup y.1 == some .cell) = true)
    (h : ∀ s₁, InCallC s s.heap.objs.size (bindL (envOfC qual scope s.heap.objs.size f cdv).kindOf binds fun _ => none) (cellsFrom (s.heap.objs.size + 1) scope.names [])
        (bindC (envOfC qual scope s.heap.objs.size f cdv).kindOf binds fun _ => none) s₁ →
      wpAny (model prog w) (A.deeper (envOfC qual scope s.heap.objs.size f cdv)) (execs body (envOfC qual scope s.heap.objs.size f cdv))
        (fun fl s' => R (.ok (.ret (match fl with | .ret v => v | _ => .none))) s')
        (fun e s' => wpAny (model prog w) (A.deeper (envOfC qual scope s.heap.objs.size f cdv)) (leaving (envOfC qual scope s.heap.objs.size f cdv) e) (fun _ s'' => R (.error e) s'') (fun e' s'' => R (.error e') s'') s') s₁)
    (hco : scope.isCoroutine = false) (hgen : scope.isGenerator = false) (hk : scope.kind = .function) : codeAny (model prog w) A (.call (.ref f) args) R s := by
  refine codeAny_call_function hroom (X _ _ ho) rfl hco hgen rfl (codeRec_of X hcd) (hbind _ _ _ _ ?_)
  refine wpAny_newFunctionEnv_cells hk (kindsX hkind _) fun env he s₁ x => ?_
  subst he
  exact ⟨hlim.keeps x.toInCall.keep, codeAny_func (h s₁ x)⟩

/-- C(..): dict at size, instance at size + 1, then __init__ -/
theorem make_obj {R : Result → Shared → Prop} {C fI : Addr} {rest : List Value} {kw : List (Str × Value)}
    (X : K.In s.heap) (hm : makesIn K C = true) (hi : findIn K (.ref C) "__init__" = some (some (.ref fI))) (hf : isFn K (.ref fI) = true)
    (h : codeAny (model prog w) (A.under (.builtin "type.__call__" ⟨.ref C :: rest, kw⟩)) (.call (.ref fI) ⟨.ref (s.heap.objs.size + 1) :: rest, kw⟩) (InitBack (s.heap.objs.size + 1) R)
      { s with heap := (s.heap.push emptyDict).push (instObj C s.heap.objs.size) }) : codeAny (model prog w) A (.call (.ref C) ⟨rest, kw⟩) R s := by
  obtain ⟨hh, g, d, t, os⟩ := s
  exact make_core (makes_of X hm) (looks_findIn X hi) (fun self => bind_fn X self (beq_iff_eq.mp hf)) (.inl rfl) h

/-- x.name where the instance's dict holds the name and the class does not -/
theorem get_field {x C : Addr} {ox : Obj} {es : List DictEntry} {n : Nat} {name : Str} {expr : Bool} {v : Value} {Q : Value → Shared → Prop}
    (X : K.In s.heap) (I : PySem.W.InstAt s.heap x ox C (some (dictOf es n))) (hg : plainGet K C name = true) (hh : hasDictIn K C = true) (ha : findIn K (.ref C) name = some none)
    (hl : getL name es = some (some v)) (hv : handedIn v = true) (h : Q v { s with toks := s.toks + 1 }) : wpAny (model prog w) A (getAttr (.ref x) name expr) Q E s :=
  get_value X I (plainGet_of hg).1 (findObj_own hh ha rfl hl) hv h

/-- x.m(..): the method found in the class -/
theorem get_method {x C f : Addr} {ox : Obj} {es : List DictEntry} {n : Nat} {name : Str} {pl : Sem Bool} {Q : Value × List Value → Shared → Prop}
    (X : K.In s.heap) (I : PySem.W.InstAt s.heap x ox C (some (dictOf es n))) (hg : plainGet K C name = true) (hf : findIn K (.ref C) name = some (some (.ref f))) (ht : isFn K (.ref f) = true)
    (hl : getL name es = some none) (h : Q (.ref f, [.ref x]) s) : wpAny (model prog w) A (getMethod (.ref x) name pl) Q E s :=
  method_fn X I (plainGet_of hg).1 (plainGet_of hg).2 hf (beq_iff_eq.mp ht) (by show (lookIn name (dictOf es n)).map _ = _; rw [lookIn_dict, hl]; rfl) h

/-! the whole heap as the ledger: makes every rule that writes through a ledger a rule over any heap -/
def noObjs (h : Heap) : Heap := { h with objs := #[] }
theorem noObjs_get (h : Heap) (b : Addr) : (noObjs h).get? b = none := by
  cases e : (noObjs h).get? b with
  | none => rfl
  | some o => exact absurd (Heap.lt_size e) (Nat.not_lt_zero _)
def ledger (h : Heap) (L d : Addr) : List (Addr × Obj) := (List.range h.objs.size).filterMap fun a => if a = L ∨ a = d then none else (h.get? a).map fun o => (a, o)
theorem mem_ledger {h : Heap} {L d a : Addr} {o : Obj} : (a, o) ∈ ledger h L d ↔ a ≠ L ∧ a ≠ d ∧ h.get? a = some o := by
  unfold ledger
  rw [List.mem_filterMap]
  constructor
  · rintro ⟨b, _, e⟩
    split at e
    · cases e
    · rename_i hb
      obtain ⟨o', ho, e'⟩ := Option.map_eq_some_iff.mp e
      cases e'
      exact ⟨fun q => hb (.inl q), fun q => hb (.inr q), ho⟩
  · rintro ⟨n1, n2, ho⟩
    refine ⟨a, List.mem_range.mpr (Heap.lt_size ho), ?_⟩
    rw [if_neg (show ¬ (a = L ∨ a = d) from fun q => q.elim n1 n2), ho] <;> rfl
theorem news_ledger {h : Heap} {L d : Addr} {od : Obj} (hne : d ≠ L) (ho : h.get? d = some od) : News (noObjs h) L h ([] ++ (d, od) :: ledger h L d) := by
  rintro ⟨a, o⟩ hp
  rcases List.mem_cons.mp hp with e | hp
  · cases e
    exact ⟨ho, hne, noObjs_get _ _⟩
  · obtain ⟨n1, n2, e⟩ := mem_ledger.mp hp
    exact ⟨e, n1, noObjs_get _ _⟩
theorem fr_all {h : Heap} {L : Addr} {m : Str → Option Value} (n : h.Ns L m) : Fr (noObjs h) L h m :=
  ⟨n, fun b o e => (by rw [noObjs_get] at e; cases e), Nat.zero_le _⟩
/-- Upd of the head entry (for append_K, setItem_K ..) -/
theorem upd_ledger {h : Heap} {L d : Addr} {o o' : Obj} : Upd d o o' ((d, o) :: ledger h L d) ((d, o') :: ledger h L d) :=
  .head fun ⟨_, _⟩ hp => (mem_ledger.mp hp).2.1

/-- x.name = v over any heap: L is any namespace of the heap (the frame's, say): its map stays, its object is not told; all else but the dict stays -/
theorem set_field {x C dx L : Addr} {ox : Obj} {m : Str → Option Value} {es es' : List DictEntry} {n n' : Nat} {name : Str} {v : Value} {Q : Unit → Shared → Prop}
    (X : K.In s.heap) (I : PySem.W.InstAt s.heap x ox C (some (dictOf es n))) (hd : ox.dict = some dx) (hL : s.heap.Ns L m) (hne : dx ≠ L)
    (hs : findIn K (.ref C) "__setattr__" = some (some (.builtin "object.__setattr__"))) (hp : plainOver K C = true) (ht : takerIn K C name = some none) (hh : hasDictIn K C = true) (hl : (getL name es).isSome = true)
    (e : (putL name (PyData.keyHash w.params name) (.str name (s.toks + 1)) v es, putN name es n) = (es', n')) (hz : es'.length ≤ 1000)
    (h : ∀ h' : Heap, h'.Ns L m → h'.get? dx = some (dictOf es' n') → (∀ b o, b ≠ dx → b ≠ L → s.heap.get? b = some o → h'.get? b = some o) → Q () { s with heap := h', toks := s.toks + 2 }) :
    wpAny (model prog w) A (setAttr (.ref x) name v) Q E s := by
  obtain ⟨e1, e2⟩ := Prod.mk.inj e
  have hdx : s.heap.get? dx = some (dictOf es n) := by
    have := I.dict
    rw [hd] at this
    exact this
  refine set_plain X I hs (osa_dict (s := { s with toks := s.toks + 1 }) (h₀ := noObjs s.heap) (L := L) (m := m) (od := dictOf es n) (od' := dictOf es' n') (es := es') (n := n') (pre := []) (post := ledger s.heap L dx)
    (fr_all hL) (news_ledger hne hdx) X I hd hp ht hh hl (fun _ q => nomatch q) (fun ⟨_, _⟩ q => (mem_ledger.mp q).2.1) (by rw [putName_dict, e1, e2]) rfl hz fun h' F' N' => ?_)
  exact h h' F'.ns (N'.get (List.Mem.head _)) fun b o n1 n2 ho => N'.get (List.Mem.tail _ (mem_ledger.mpr ⟨n2, n1, ho⟩))
end
end Att

namespace L2
open PySem PySem.Spec PyProof.Rows

theorem vals_ints : ∀ {vs : List Value} {ns : List Int}, IntsAre vs ns → Vals (ns.map V.int) vs
  | _, _, .nil => .nil
  | _, _, .cons n t h => .cons ⟨t, rfl⟩ (vals_ints h)

/-- nothing is tracked but the script, known to the object (or it is an object of the module) -/
def Only (H : Hp) : Prop := ∀ b, H b = none ∨ ∃ o xs, H b = some (.frz o (.lst xs))

/-- THE HEAD: the law's promise, at the heap behind the top. F, the promise of the law's def, may use that base is part of the heap (so K.In base, base.Ns mainGlobals mg stand in Mod) -/
theorem law_call {P : Program} {w : World} {K : PySem.W.Frag} {mg mb : Str → Option Value} {CX : CXT} {k : Nat} {fa a : Addr} {fd : FuncData} {x : Str} {sp : Sp} {s₁ : Shared} {vs : List Value} {ns : List Int}
    (KX : K.In s₁.heap) (hns : s₁.heap.Ns mainGlobals mg) (hb : s₁.heap.Ns builtinsNs mb) (hbb : ∀ x : Str, x ≠ "__name__" → mb x = bootBuiltins x) (hlim : s₁.heap.NoLimit) (hg : s₁.gens = #[])
    (ha : s₁.heap.get? a = some { cls := .type "list", data := .seq vs.toArray }) (hi : IntsAre vs ns) (hl : ns.length ≤ sizeLine) (hr : Room k callerA)
    (F : ∀ base : Heap, K.In base → base.Ns mainGlobals mg → FnOk P w K mg base CX k fa fd [x] sp) (hbind : ∀ (s : Shared) (u : Value), BindsTo s fd ⟨[u], []⟩ [(x, u)])
    (hsp : ∀ H : Hp, Only H → SqL K H a (ns.map V.int) → sp [.ref a] H (fun v _ => v = .bl true) fun _ _ _ => False)
    (hCX : ∀ H e s', CX [] H s₁ (fun _ _ _ => False) e s' → False) :
    codeAny (model P w) callerA (.call (.ref fa) ⟨[.ref a], []⟩) (fun r s' => r = .ok (.ret (.bool true)) ∧ OldK s₁.heap s'.heap ∧ s'.os = s₁.os ∧ AllBare s'.gens) s₁ := by
  have rv := vals_ints hi
  have lenV := hi.length
  -- from an abstract heap in which nothing but the script may be tracked
  have core : ∀ H : Hp, Only H → SqL K H a (ns.map V.int) → HOk P w H s₁.heap → (∀ b, H b ≠ none → b = a) → (H a ≠ none → K.lookup a = none) →
      codeAny (model P w) callerA (.call (.ref fa) ⟨[.ref a], []⟩) (fun r s' => r = .ok (.ret (.bool true)) ∧ OldK s₁.heap s'.heap ∧ s'.os = s₁.os ∧ AllBare s'.gens) s₁ := by
    intro H hO hS hok hA hK
    have base_of : ∀ {b : Addr} {o : Obj}, s₁.heap.get? b = some o → H b = none → (hidT s₁.heap H).get? b = some o := fun e n => hidT_get e n
    have noA : ∀ {b : Addr} {o : Obj} {es : Array DictEntry} {ep : Nat}, s₁.heap.get? b = some o → o.data = .dict es ep → H b = none := fun {b o es ep} e d => by
      cases q : H b with
      | none => rfl
      | some u =>
        have e' : b = a := hA b (by rw [q]; simp)
        subst e'
        rw [ha] at e; cases e
        have d' : Data.seq vs.toArray _ = Data.dict es ep := d
        cases d'
    have nsK : ∀ {b : Addr} {m : Str → Option Value}, s₁.heap.Ns b m → (hidT s₁.heap H).Ns b m := fun {b m} ⟨o, es, ep, e, d, r⟩ => ⟨o, es, ep, base_of e (noA e d), d, r⟩
    have hKb : K.In (hidT s₁.heap H) := fun b o e => base_of (KX b o e) (by
      cases q : H b with
      | none => rfl
      | some u =>
        have e' : b = a := hA b (by rw [q]; simp)
        subst e'
        rw [hK (by rw [q]; simp)] at e; cases e)
    have hM : Mod K mg (hidT s₁.heap H) := ⟨hKb, nsK hns, ⟨mb, nsK hb, hbb⟩, let ⟨mc, h1, h2⟩ := hlim; ⟨mc, nsK h1, h2⟩⟩
    have e0 : Env0 P w K mg (hidT s₁.heap H) callerA [] s₁ H := ⟨rfl, hM, fun b o e => of_hidT e, Nat.le_of_eq (hidT_size _ _), trivial, fun b hb => absurd (show b ∈ ([] : List Addr) from hb) (by simp), hok, .of_eq hg⟩
    refine codeAny_mono ((F _ hKb (nsK hns)).run callerA [] s₁ H ⟨[.ref a], []⟩ [.ref a] [.ref a] _ _ hr e0 (hbind s₁ (.ref a)) (.cons rfl .nil) (hsp H hO hS)) fun r s' h => ?_
    cases r with
    | error e => exact (hCX H e s' h).elim
    | ok fl =>
      cases fl with
      | next => exact False.elim h
      | brk => exact False.elim h
      | cont => exact False.elim h
      | ret u =>
        obtain ⟨v, H', os, bare, un, hok', r', q⟩ := h
        have q' : v = .bl true := q
        subst q'
        obtain rfl : u = Value.bool true := r'
        refine ⟨rfl, OldK.of_keep fun b o e => ?_, os, bare⟩
        cases q : H b with
        | none => exact un.keep b o e q (by intro z; exact absurd (show b ∈ ([] : List Addr) from z) (by simp)) (by simp)
        | some u =>
          rcases hO b with z | ⟨ob, xs, z⟩
          · rw [q] at z; cases z
          · have z2 := un.frzs b ob _ z
            obtain ⟨e1, _⟩ := hok b _ z
            obtain ⟨e2, _⟩ := hok' b _ z2
            rw [e] at e1; cases e1
            exact e2
  cases hk : K.lookup a with
  | some o =>
    -- the script is one of the module's own objects
    have e := KX a o hk
    rw [ha] at e
    cases e
    refine core (fun _ => none) (fun _ => .inl rfl) (.inr ⟨_, vs.toArray, _, hk, rfl, rfl, rfl, by rw [List.size_toArray, lenV]; exact hl, by simpa using rv⟩) (fun b u z => by have z' : (none : Option HO) = some u := z; cases z') (fun b z => absurd rfl z) fun z => absurd rfl z
  | none =>
    refine core (fun b => if b = a then some (.frz { cls := .type "list", data := .seq vs.toArray } (.lst (ns.map V.int))) else none) (fun b => ?_) (.inl (.inr ⟨{ cls := .type "list", data := .seq vs.toArray }, if_pos rfl⟩)) (fun b u z => ?_) (fun b z => ?_) fun _ => hk
    · by_cases hb : b = a
      · exact .inr ⟨_, _, if_pos hb⟩
      · exact .inl (if_neg hb)
    · by_cases hb : b = a
      · have z' := (if_pos hb).symm.trans z
        cases z'
        subst hb
        exact ⟨ha, by rw [List.length_map]; exact hl, vs, _, rv, ha⟩
      · have z' := (if_neg hb).symm.trans z
        cases z'
    · by_cases hb : b = a
      · exact hb
      · exact absurd (if_neg hb) z
end L2

namespace L2
open PySem PySem.Spec PyProof.Rows

abbrev KOf {K : PySem.W.Frag} {h : Heap} (_ : K.In h) : PySem.W.Frag := K

/-- the goal that k_head leaves (case hc), from the law's promise. F gives the function object fd (K's own) once, then the promise over every base -/
theorem walk_of {l : PySem.W.OpenLaw} {n k : Nat} {q : Program} {loose : List Str} {XP : (Str → Option Value) → Heap → Prop} {YP : World → Heap → Prop} {d : DefRec} {K : Params → PySem.W.Frag} {CX : World → CXT} {sp : World → Sp} {x : Str}
    (hn : l.most = some n) (hn2 : n ≤ sizeLine) (hdf : d.params.defaults = []) (hr : Room k callerA)
    (hY : ∀ (w : World) (h : Heap), YP w h → (K w.params).In h)
    (F : ∀ (w : World) (mg : Str → Option Value) (fa : Addr) (h : Heap), (K w.params).In h → h.Ns mainGlobals mg → mg d.name = some (.ref fa) →
      ∃ fd : FuncData, (∀ (s : Shared) (u : Value), BindsTo s fd ⟨[u], []⟩ [(x, u)]) ∧
        ∀ base : Heap, (K w.params).In base → base.Ns mainGlobals mg → FnOk l.prog w (K w.params) mg base (CX w) k fa fd [x] (sp w))
    (hsp : ∀ (w : World) (H : Hp) (a : Addr) (ns : List Int), ns.length ≤ n → Only H → SqL (K w.params) H a (ns.map V.int) → sp w [.ref a] H (fun v _ => v = .bl true) fun _ _ _ => False)
    (hCX : ∀ (w : World) (H : Hp) (s : Shared) (e : Value) (s' : Shared), CX w [] H s (fun _ _ _ => False) e s' → False) :
    PySem.W.WalkO q loose XP YP l.row.toRowW d [] (fun f vs => PySem.call f vs) := by
  refine Att.attach_call hn hdf fun w s₀ s₁ mg mb fa o pm cd doc a vs ns G Y ho hd hcd hmg hobj hints hlen hg => ?_
  have KX := hY w _ Y
  obtain ⟨fd, hb, hF⟩ := F w mg fa _ KX G.T.g hmg
  exact law_call KX G.T.g G.T.b G.T.builtins G.T.nolimit hg hobj hints (Nat.le_trans hlen hn2) hr hF hb (fun H hO hS => hsp w H a ns hlen hO hS) fun H e s' => hCX w H s₁ e s'
/-- the same where the promise hangs on the written part alone: (sp := My.sp_law), no hole under a binder -/
theorem walk_ofK {l : PySem.W.OpenLaw} {n k : Nat} {q : Program} {loose : List Str} {XP : (Str → Option Value) → Heap → Prop} {YP : World → Heap → Prop} {d : DefRec} {K : Params → PySem.W.Frag} {CX : CXT} {sp : PySem.W.Frag → Sp} {x : Str}
    (hn : l.most = some n) (hn2 : n ≤ sizeLine) (hdf : d.params.defaults = []) (hr : Room k callerA)
    (hY : ∀ (w : World) (h : Heap), YP w h → (K w.params).In h)
    (F : ∀ (w : World) (mg : Str → Option Value) (fa : Addr) (h : Heap), (K w.params).In h → h.Ns mainGlobals mg → mg d.name = some (.ref fa) →
      ∃ fd : FuncData, (∀ (s : Shared) (u : Value), BindsTo s fd ⟨[u], []⟩ [(x, u)]) ∧
        ∀ base : Heap, (K w.params).In base → base.Ns mainGlobals mg → FnOk l.prog w (K w.params) mg base CX k fa fd [x] (sp (K w.params)))
    (hsp : ∀ (K : PySem.W.Frag) (H : Hp) (a : Addr) (ns : List Int), ns.length ≤ n → Only H → SqL K H a (ns.map V.int) → sp K [.ref a] H (fun v _ => v = .bl true) fun _ _ _ => False)
    (hCX : ∀ (H : Hp) (s : Shared) (e : Value) (s' : Shared), CX [] H s (fun _ _ _ => False) e s' → False) :
    PySem.W.WalkO q loose XP YP l.row.toRowW d [] (fun f vs => PySem.call f vs) :=
  walk_of (K := K) (CX := fun _ => CX) (sp := fun w => sp (K w.params)) hn hn2 hdf hr hY F (fun w H a ns h1 h2 h3 => hsp (K w.params) H a ns h1 h2 h3) fun _ H s e s' => hCX H s e s'
end L2

/- THE LAST THEOREM (shape; LID, My.* are yours):
   My.Adr: a structure of the addresses that your layer names (classes, functions); My.Txt K t: a structure (Prop) of the equations over K;
   My.txt_mk : {K} {implicit addresses ..} (e1 : nsIn K mainGlobals "law" = some (some (.ref f))) (e2 : K.lookup f = some ⟨oc, od, .func (fnOf "law" "law" params body scope dV kV doc pm an cdv ct), sl⟩) (e3 : codeIn K cdv "law" = true) .. : ∃ t, My.Txt K t

set_option maxRecDepth 100000 in
set_option maxHeartbeats 0 in
theorem PySem.Challenge.cw_LID_holds : PySem.Challenge.rw_LID.Holds := by
  w_on; o_law; k_head; (case hw => w_witness2)
  k_fill
  refine L2.walk_of (l := PySem.Challenge.rw_LID) (n := 63) (k := 40) (x := "script") (CX := fun w => ..) (sp := fun _ => My.sp_law) rfl (by decide) rfl ⟨rfl, by decide, by decide⟩ (fun w h Y => PySem.W.kIn_of Y) ?F ?S ?C
  case F =>
    intro w mg fa h KX G hmg
    have T : ∃ t, My.Txt (L2.KOf KX) t := by
      dsimp only [L2.KOf]                          -- K must stand as «<heap const> w.params» for k_is
      refine' My.txt_mk ?e1 ?e2 ?e3 ..
      (case e1 => PySem.W.k_is)                    -- in the order: a name -> its address -> its object -> its parts
      (case e2 => PySem.W.k_is)
      ..
    obtain ⟨t, T⟩ := T
    have e0 := hmg.symm.trans (PySem.W.mg_of KX G T.law)
    cases e0                                       -- fa is the law's own address
    exact ⟨_, fun s u => .of_eq rfl, fun base kb nb => My.law_fn T kb nb⟩     -- if «.of_eq rfl» comes too early: refine' ⟨_, ?b, fun base kb nb => My.law_fn T kb nb⟩; exact fun s u => .of_eq rfl
  case S => exact fun w H a ns hl hO hS => ..
  case C => exact ..
(the tactic k_is has no namespace: write k_is) -/

/-! SHORT WORDS over the layer: a def of the text, its body, what a loop and a test want. -/
namespace L2
open PySem PySem.Spec PyProof.Rows

/-! ### the text by places -/
/-- the j-th statement of a class's body -/
def inClass (s : Stmt) (j : Nat) : Stmt := match s with
  | .ClassDef _ _ _ body _ _ _ _ _ _ _ => body.getD j (.Pass ⟨0, 0, 0, 0⟩)
  | _ => .Pass ⟨0, 0, 0, 0⟩
def defArgs (s : Stmt) : Arguments := match s with
  | .FunctionDef _ a _ _ _ _ _ _ _ _ => a
  | _ => { posonlyargs := [], args := [], vararg := none, kwonlyargs := [], kw_defaults := [], kwarg := none, defaults := [] }
def defBody (s : Stmt) : List Stmt := match s with
  | .FunctionDef _ _ b _ _ _ _ _ _ _ => b
  | _ => []
def defScope (s : Stmt) : Scope := match s with
  | .FunctionDef _ _ _ _ _ _ sc _ _ _ => sc
  | _ => { kind := .function, names := [], isGenerator := false, isCoroutine := false }

/-! ### no exception leaves a def -/
abbrev CX0 : CXT := fun _ _ _ _ _ _ => False
abbrev E0 : XK := fun _ _ _ => False
theorem pass0 {X : Cx} : Passes CX0 X E0 := fun _ _ _ _ _ _ _ h => h.elim

/-! ### a def (or method) of the text as it stands behind the top -/
structure Fun (K : PySem.W.Frag) (x qual : Str) (st : Stmt) (f : Addr) (fd : FuncData) : Prop where
  ex : ∃ (oc : Value) (od : Option Addr) (kV doc pm : Value) (an : Option Addr) (cdv ct : Value) (osl : Array (Option Value)),
    fd = PySem.W.fnOf x qual (defArgs st) (defBody st) (defScope st) .none kV doc pm an cdv ct ∧ K.lookup f = some ⟨oc, od, .func fd, osl⟩ ∧ PySem.W.codeIn K cdv qual = true
  kp : PySem.W.keepIn K (.ref f) = true
section
variable {P : Program} {w : World} {K : PySem.W.Frag} {mg : Str → Option Value} {base : Heap}
/-- THE RULE for a def: its body as a term of rules, and the reading of that term -/
theorem Fun.ok {x qual : Str} {st : Stmt} {f : Addr} {fd : FuncData} {N ps : List Str} {k : Nat} {sp : Sp} (F : Fun K x qual st f fd) (S : FnScope N ps (defScope st)) (len : ∀ vs H Q E, sp vs H Q E → vs.length = ps.length)
    (hbody : ∀ (cdv : Value) (A : Around) (outer : List Env) (s : Shared) (H : Hp) (vs : List V) (Q : VK) (E : XK), Room k (A.deeper (envOfC qual (defScope st) s.heap.objs.size f cdv)) → sp vs H Q E →
      ∃ t, PSs (cxOf CX0 P w K mg base N qual (defScope st) f cdv A outer s H E).nox (defBody st) t ∧ t { nx := fun _ H' => Q .non H', rt := Q } (start N vs) H) : FnOk P w K mg base CX0 (k + 1) f fd ps sp := by
  obtain ⟨oc, od, kV, doc, pm, an, cdv, ct, osl, rfl, lk, hcd⟩ := F.ex
  refine fn_of lk hcd S len fun A outer s H vs Q E hr hsp => ?_
  obtain ⟨t, h, q⟩ := hbody cdv A outer s H vs Q E hr hsp
  exact ⟨t, h.nox, q⟩
/-- how its arguments bind (no defaults): h is «fun _ _ _ _ _ _ us hl => match us, hl with | [_, _], _ => rfl», one _ a parameter -/
theorem Fun.binds {x qual : Str} {st : Stmt} {f : Addr} {fd : FuncData} {ps : List Str} (F : Fun K x qual st f fd)
    (h : ∀ (kV doc pm : Value) (an : Option Addr) (cdv ct : Value) (us : List Value), us.length = ps.length → bindArgs (PySem.W.fnOf x qual (defArgs st) (defBody st) (defScope st) .none kV doc pm an cdv ct) ⟨us, []⟩ = pure (ps.zip us)) : Binds K fd ps [] := by
  obtain ⟨oc, od, kV, doc, pm, an, cdv, ct, osl, rfl, lk, hcd⟩ := F.ex
  exact .all (h kV doc pm an cdv ct)
theorem fun_mk {x qual : Str} {st : Stmt} {f : Addr} {oc : Value} {od an : Option Addr} {osl : Array (Option Value)} {kV doc pm cdv ct : Value} (l : K.lookup f = some ⟨oc, od, .func (PySem.W.fnOf x qual (defArgs st) (defBody st) (defScope st) .none kV doc pm an cdv ct), osl⟩)
    (c : PySem.W.codeIn K cdv qual = true) (k : PySem.W.keepIn K (.ref f) = true) : Fun K x qual st f (PySem.W.fnOf x qual (defArgs st) (defBody st) (defScope st) .none kV doc pm an cdv ct) := ⟨⟨oc, od, kV, doc, pm, an, cdv, ct, osl, rfl, l, c⟩, k⟩
end
theorem hu_of {A : Around} {k : Nat} (hr : Room k A) : A.units + 1 < cLine := Nat.lt_of_le_of_lt (Nat.add_le_add_left (by decide : 1 ≤ 64) _) hr.units
theorem small1000 {n : Nat} (h : n ≤ 1000) : n < sizeLine := Nat.lt_of_le_of_lt h (by decide)

/-! ### expressions in short: the name that stands in the i-th slot -/
section
variable {X : Cx}
theorem pv (i : Nat) {x : Str} {pos : Pos} (hN : X.N[i]? = some x := by rfl) (hv : Vis X.env.scope x := by first | exact Or.inl rfl | exact Or.inr (Or.inl rfl) | exact Or.inr (Or.inr rfl)) (hd : (x == ("__debug__" : Str)) = false := by decide)
    (hcd : (x == ("__classdict__" : Str)) = false := by decide) : PE X (.Name x pos) (tVar i) := pe_var hN hv hd hcd
end

/-! ### tests -/
theorem iteF {A B : Prop} (h : B) : if false = true then A else B := by
  rw [if_neg Bool.false_ne_true]
  exact h
theorem iteT {A B : Prop} (h : A) : if true = true then A else B := by
  rw [if_pos rfl]
  exact h
theorem ite2 {c A B : Prop} [Decidable c] (h1 : c → A) (h2 : ¬ c → B) : if c then A else B := by
  by_cases h : c
  · rw [if_pos h]
    exact h1 h
  · rw [if_neg h]
    exact h2 h
theorem iteNS {c A B : Prop} [Decidable c] (hc : c) (h : B) : if (!decide c) = true then A else B := by
  rw [decide_eq_true hc]
  exact iteF h

/-! ### heaps -/
/-- all that was tracked is as it was -/
def Same (H H' : Hp) : Prop := ∀ b o, H b = some o → H' b = some o
theorem Same.refl (H : Hp) : Same H H := fun _ _ h => h
theorem Same.trans {H H1 H2 : Hp} (a : Same H H1) (b : Same H1 H2) : Same H H2 := fun c o h => b c o (a c o h)
theorem Same.free {H H' : Hp} (e : Same H H') {l : Addr} (h : H' l = Option.none) : H l = Option.none := by
  cases q : H l with
  | none => rfl
  | some o =>
    rw [e l o q] at h
    cases h
theorem Same.seq {K : PySem.W.Frag} {H H' : Hp} {a : Addr} {xs : List V} (e : Same H H') (h : SqL K H a xs) : SqL K H' a xs := by
  rcases h with (h | ⟨o, h⟩) | h
  · exact .inl (.inl (e _ _ h))
  · exact .inl (.inr ⟨o, e _ _ h⟩)
  · exact .inr h

end L2

set_option Elab.async false
set_option linter.all false
set_option maxRecDepth 100000
set_option maxHeartbeats 4000000
namespace L2
open PySem PySem.Spec PyProof.Rows

/-! ### a comprehension's block -/
theorem forIn_fold {α β : Type} {l : List α} {f : α → β → Sem (ForInStep β)} (g : β → α → β) (h : ∀ x ∈ l, ∀ c, f x c = pure (.yield (g c x))) : ∀ c, forIn l c f = pure (l.foldl g c) := by
  induction l with
  | nil => intro c; rfl
  | cons x l ih =>
    intro c
    rw [List.forIn_cons, h x List.mem_cons_self, pure_bind]
    exact ih (fun y hy => h y (List.mem_cons_of_mem _ hy)) (g c x)
/-- the cells that a block takes from the frame around it -/
def capStep (cells : List (Str × Addr)) (cs : List (Str × Addr)) (x : Str × NameKind) : List (Str × Addr) :=
  if x.2 = .free then (x.1, (cells.lookup x.1).getD 0) :: cs else cs
def capCells (cells : List (Str × Addr)) (names : List (Str × NameKind)) : List (Str × Addr) := names.foldl (capStep cells) []
theorem closure_caps {scope : Scope} {env : Env} (h : ∀ x ∈ scope.names, x.2 = .free → (env.cells.lookup x.1).isSome = true) : closureFor scope env = pure (capCells env.cells scope.names) := by
  simp only [closureFor]
  rw [forIn_fold (capStep env.cells) (fun x hx c => by
    obtain ⟨n, k⟩ := x
    unfold capStep
    by_cases hk : k = NameKind.free
    · subst hk
      have q := h _ hx rfl
      obtain ⟨a, ha⟩ := Option.isSome_iff_exists.mp q
      have ha' : env.cells.lookup n = some a := ha
      have hc : cellOf env n = pure a := by unfold cellOf; rw [ha']
      simp [hc, ha']
    · have : (k == NameKind.free) = false := by simpa using hk
      simp [this, hk])]
  rfl
theorem cap_of {cells : List (Str × Addr)} : ∀ (names : List (Str × NameKind)) (acc : List (Str × Addr)), (∀ y ∈ names, y.2 = .free → (cells.lookup y.1).isSome = true) →
    (∀ x c, acc.lookup x = some c → cells.lookup x = some c) → ∀ x c, (names.foldl (capStep cells) acc).lookup x = some c → cells.lookup x = some c
  | [], acc, _, ha, x, c, e => ha x c e
  | (n, k) :: r, acc, hs, ha, x, c, e => by
    rw [List.foldl_cons] at e
    refine cap_of r _ (fun y hy => hs y (List.mem_cons_of_mem _ hy)) (fun x c e => ?_) x c e
    unfold capStep at e
    by_cases hk : k = NameKind.free
    · rw [if_pos hk] at e
      have q := hs _ List.mem_cons_self hk
      obtain ⟨a, q⟩ := Option.isSome_iff_exists.mp q
      have q' : cells.lookup n = some a := q
      rw [List.lookup_cons] at e
      by_cases hx : x = n
      · subst hx
        simp only [beq_self_eq_true, q', Option.getD_some] at e
        rw [q', ← e]
      · have hb : (x == n) = false := by simpa using hx
        rw [hb] at e
        exact ha x c e
    · rw [if_neg hk] at e
      exact ha x c e
theorem cap_has {cells : List (Str × Addr)} {x : Str} : ∀ (names : List (Str × NameKind)) (acc : List (Str × Addr)), ((acc.lookup x).isSome = true ∨ (x, NameKind.free) ∈ names) →
    ((names.foldl (capStep cells) acc).lookup x).isSome = true
  | [], acc, h => by
    rcases h with h | h
    · exact h
    · cases h
  | (n, k) :: r, acc, h => by
    rw [List.foldl_cons]
    refine cap_has r _ ?_
    unfold capStep
    rcases h with h | h
    · refine .inl ?_
      split
      · rw [List.lookup_cons]
        split
        · rfl
        · exact h
      · exact h
    · rcases List.mem_cons.mp h with e | h
      · cases e
        refine .inl ?_
        rw [if_pos rfl, List.lookup_cons]
        simp
      · exact .inr h
theorem lookup_relabel {env : Env} : ∀ (names : List (Str × NameKind)) (x : Str),
    (names.map fun (n, k) => if (k == NameKind.free && env.scope.kind == .function && env.kindOf n == some .cell) then (n, NameKind.cell) else (n, k)).lookup x =
      (names.lookup x).map fun k => if (k == NameKind.free && env.scope.kind == .function && env.kindOf x == some .cell) then NameKind.cell else k
  | [], x => rfl
  | (n, k) :: r, x => by
    have ih := lookup_relabel (env := env) r x
    rw [List.map_cons]
    by_cases hc : (k == NameKind.free && env.scope.kind == .function && env.kindOf n == some .cell) = true
    · show List.lookup x ((if (k == NameKind.free && env.scope.kind == .function && env.kindOf n == some .cell) = true then (n, NameKind.cell) else (n, k)) :: _) = _
      rw [if_pos hc, List.lookup_cons, List.lookup_cons]
      by_cases hx : x = n
      · subst hx; simp only [beq_self_eq_true, Option.map_some]; rw [if_pos hc]
      · have hb : (x == n) = false := by simpa using hx
        rw [hb]; exact ih
    · show List.lookup x ((if (k == NameKind.free && env.scope.kind == .function && env.kindOf n == some .cell) = true then (n, NameKind.cell) else (n, k)) :: _) = _
      rw [if_neg hc, List.lookup_cons, List.lookup_cons]
      by_cases hx : x = n
      · subst hx; simp only [beq_self_eq_true, Option.map_some]; rw [if_neg hc]
      · have hb : (x == n) = false := by simpa using hx
        rw [hb]; exact ih

/-- the context of a comprehension's block: nothing may be raised in it -/
abbrev compCx (X : Cx) (N : List Str) (scope : Scope) (cl : List (Str × Addr)) (C : Addr) (s : Shared) (H : Hp) (fp : List Addr) : Cx :=
  { X with N := N, s₀ := s, H₀ := H, env := compEnvC scope cl C X.env, outer := X.stack, ex := fp, fn := fun _ => false, pn := [], xe := fun _ _ => False }
/-- what the block sees of the frame around it -/
def capSt (js : List Nat) (σ : St) : St := js.map fun j => (σ[j]?).join
/-- the form of a block's scope: x its loop's name, caps the names that it takes, js their places in the frame around it -/
structure CompScope (N : List Str) (outer scope : Scope) (x : Str) (caps : List Str) (js : List Nat) : Prop where
  kind : scope.kind = .function
  nocell : ∀ y ∈ scope.names, y.2 ≠ .cell
  loc : ∀ y ∈ scope.names, y.2 = .local → scope.names.lookup y.1 = some .local
  tgt : scope.names.lookup x = some .local
  at' : js.map (fun j => N[j]?) = caps.map some
  cell : ∀ y ∈ caps, outer.names.lookup y = some .cell
  free : ∀ y ∈ caps, scope.names.lookup y = some .free
  all : ∀ y ∈ scope.names, y.2 = .free → outer.names.lookup y.1 = some .cell
  nd : (caps ++ [x]).Nodup

def PIfs (X : Cx) (ifs : List Expr) (t : TT) : Prop :=
  ∀ (pins : List (Addr × Obj)) (s : Shared) (σ : St) (H : Hp) (Q : Bool → Hp → Prop), Inv X pins σ H s → t σ H Q →
    wpAny (model X.prog X.w) X.A (forIn ifs true fun c r => if r = true then do let ok ← isTrue c X.env (eval c X.env); pure (ForInStep.yield ok) else pure (ForInStep.yield r)) (TP X pins σ Q) X.xe s
def tTrue : TT := fun _ H Q => Q true H
theorem pif_nil {X : Cx} : PIfs X [] tTrue := fun pins s σ H Q I h => by
  rw [List.forIn_nil]; exact wpAny_pure ⟨H, I, h⟩
theorem pif_one {X : Cx} {c : Expr} {t : TT} (hc : PT X c t) : PIfs X [c] t := fun pins s σ H Q I h => by
  rw [List.forIn_cons]
  refine wpAny_bind ?_
  rw [if_pos rfl]
  refine wpAny_bind (thn (hc pins s σ H Q I h) fun b s1 q => wpAny_pure ?_)
  show wpAny _ _ (forIn [] b _) _ _ s1
  rw [List.forIn_nil]
  exact wpAny_pure q

/-- a list comprehension's reading -/
def CompW (J : It) (js : List Nat) (tt : TT) (te : TE) (σ : St) (H1 : Hp) (acc : Addr) (Q : VK) : Prop :=
  ∃ W : Nat → Nat → Hp → Prop, (∃ m, W 0 m (upd H1 acc (.lst []))) ∧ ∀ i m H2, W i m H2 →
    (J.stop i H2 ∧ Q (.ref acc) H2) ∨ (J.go i H2 ∧ ∀ x H3, J.yld i H2 x H3 → tt (capSt js σ ++ [some x]) H3 fun b H4 =>
      if b = true then te (capSt js σ ++ [some x]) H4 fun y H5 => ∃ ys, H5 acc = some (.lst ys) ∧ ys.length < sizeLine ∧ ∃ m', m' < m ∧ W (i + 1) m' (upd H5 acc (.lst (ys ++ [y])))
      else ∃ m', m' < m ∧ W (i + 1) m' H4)
def tComp (wi : TI) (js : List Nat) (tt : TT) (te : TE) : TE := fun σ H Q => wi σ H fun J H1 => ∀ acc, H1 acc = none → CompW J js tt te σ H1 acc Q

theorem set_last {α : Type} (l : List α) (a b : α) : (l ++ [a]).set l.length b = l ++ [b] := by
  induction l with
  | nil => rfl
  | cons x l ih => simp [ih]

section
variable {X : Cx} {pins : List (Addr × Obj)} {σ : St} {H2 : Hp} {s2 : Shared} {elt iter : Expr} {x : Str} {px pos : Pos} {ifs : List Expr} {scope : Scope} {caps : List Str} {js : List Nat} {tt : TT} {te : TE} {J : It} {fp : List Addr} {it : Addr}
  {tn : Nat → Heap → Prop}

theorem comp_inv (S : CompScope X.N X.env.scope scope x caps js) (I3 : Inv X pins σ H2 s2) (f2 : ∀ b ∈ fp, FpOk X pins H2 b) (lt2 : ∀ b ∈ fp, b < s2.heap.objs.size) {h1 : Heap}
    {m : Str → Option Value} (hns : h1.Ns s2.heap.objs.size m) (old : ∀ b o, s2.heap.get? b = some o → h1.get? b = some o) {t' : Nat} :
    Inv (compCx X (caps ++ [x]) scope (capCells X.env.cells scope.names) s2.heap.objs.size s2 H2 fp) [] (capSt js σ ++ [none]) H2 { s2 with heap := h1, toks := t' } := by
  have hsome : ∀ y ∈ scope.names, y.2 = .free → (X.env.cells.lookup y.1).isSome = true := fun y hy hk => by
    obtain ⟨c, e⟩ := I3.ok.has y.1 (.inl (S.all y hy hk))
    rw [e]; rfl
  have cof : ∀ y c, (capCells X.env.cells scope.names).lookup y = some c → X.env.cells.lookup y = some c := cap_of scope.names [] hsome (fun _ _ e => by cases e)
  have hrel : ∀ y k, (relabel scope X.env).names.lookup y = some k → k = .cell ∨ k = .free → scope.names.lookup y = some .free := fun y k e hk => by
    have e' := (lookup_relabel (env := X.env) scope.names y).symm.trans e
    cases q : scope.names.lookup y with
    | none => rw [q] at e'; cases e'
    | some k0 =>
      rw [q] at e'
      have hne := S.nocell _ (PySem.mem_of_lookup q)
      cases k0 with
      | free => rfl
      | cell => exact absurd rfl hne
      | _ => simp at e'; rcases hk with rfl | rfl <;> cases e'
  have hlen : js.length = caps.length := by have := congrArg List.length S.at'; simpa using this
  have clt : ∀ y c, X.env.cells.lookup y = some c → c < s2.heap.objs.size := fun y c e => by
    obtain ⟨v, o, ho, _⟩ := I3.cell y c e
    exact Heap.lt_size ho
  have cellK : ∀ c v, s2.heap.IsCell c v → h1.IsCell c v := fun c v ⟨o, ho, hd⟩ => ⟨o, old c o ho, hd⟩
  refine ⟨⟨I3.ok.mod, S.kind, I3.ok.glob, I3.ok.blt, Nat.le_refl _, fun y z c e1 e2 => I3.ok.inj y z c (cof y c e1) (cof z c e2), fun y hy => ?_, fun y c hf _ => (by cases hf), I3.ok.hd, I3.ok.frames, .inl rfl, fun b hb => ⟨Nat.ne_of_lt (lt2 b hb), fun y c e => (f2 b hb).2.2.2.2.1 y c (cof y c e)⟩,
    fun b o e => I3.bs b o e, Nat.le_trans I3.ok.bsz I3.sz, fun b o e hb => ?_, fun b hb hs => ?_, I3.stack, I3.stkFree⟩, rfl, I3.bare, Un.kept old, ⟨m, hns, fun i y v e1 e2 e3 => ?_⟩, fun y c e => ?_, I3.hok.fresh (Nat.le_refl _), fun y c e => I3.freeC y c (cof y c e), fun p hp => (by cases hp), I3.hok.kept old, ?_⟩
  · have hf : scope.names.lookup y = some .free := by
      rcases hy with hy | hy
      · exact hrel y _ hy (.inl rfl)
      · exact hrel y _ hy (.inr rfl)
    exact Option.isSome_iff_exists.mp (cap_has scope.names [] (.inr (PySem.mem_of_lookup hf)))
  · rcases (f2 b hb).2.2.2.1 with z | z
    · exact I3.ok.noex b o e z
    · exact absurd (Nat.lt_of_lt_of_le (Nat.lt_of_lt_of_le (Heap.lt_size e) I3.ok.bsz) z) (Nat.lt_irrefl _)
  · rcases List.mem_cons.mp (I3.stkSub b hs) with z | z
    · exact (f2 b hb).2.1 z
    · exact (f2 b hb).2.2.1 z
  · have hcl : (capSt js σ).length = caps.length := by unfold capSt; rw [List.length_map, hlen]
    have hi : i < caps.length := by
      by_cases hi : i < caps.length
      · exact hi
      · have e2' : (capSt js σ ++ [none])[i]? = some (some v) := e2
        rw [List.getElem?_append_right (by rw [hcl]; omega), hcl] at e2'
        cases hd : i - caps.length with
        | zero => rw [hd] at e2'; cases e2'
        | succ k => rw [hd] at e2'; simp at e2'
    have e1' : caps[i]? = some y := by
      have e1' : (caps ++ [x])[i]? = some y := e1
      rwa [List.getElem?_append_left hi] at e1'
    have e2' : (capSt js σ)[i]? = some (some v) := by
      have e2' : (capSt js σ ++ [none])[i]? = some (some v) := e2
      rwa [List.getElem?_append_left (by rw [hcl]; exact hi)] at e2'
    have hmem : y ∈ caps := List.mem_of_getElem? e1'
    unfold capSt at e2'
    rw [List.getElem?_map] at e2'
    cases hj : js[i]? with
    | none => rw [hj] at e2'; cases e2'
    | some j =>
      rw [hj] at e2'
      have hN : X.N[j]? = some y := by
        have q := congrArg (fun l => l[i]?) S.at'
        simp only [List.getElem?_map, hj, e1', Option.map_some] at q
        exact Option.some.inj q
      have hσ : σ[j]? = some (some v) := by
        simp only [Option.map_some, Option.some.injEq] at e2'
        cases q : σ[j]? with
        | none => rw [q] at e2'; cases e2'
        | some w => rw [q] at e2'; simp at e2'; rw [e2']
      obtain ⟨m0, hn0, hl0⟩ := I3.loc
      obtain ⟨u, r, l⟩ := hl0 j y v hN hσ (.inr (.inl (S.cell y hmem)))
      refine ⟨u, r, ?_⟩
      rcases l with ⟨k, _⟩ | ⟨_, c, e, z⟩
      · have k' : X.env.scope.names.lookup y = some .local := k
        rw [S.cell y hmem] at k'; cases k'
      · have hkc : X.env.kindOf y = some .cell := S.cell y hmem
        have hk : (relabel scope X.env).names.lookup y = some .cell := by
          refine (lookup_relabel (env := X.env) scope.names y).trans ?_
          rw [S.free y hmem]
          simp [I3.ok.kind, hkc]
        obtain ⟨c', e'⟩ := Option.isSome_iff_exists.mp (cap_has (cells := X.env.cells) scope.names [] (.inr (PySem.mem_of_lookup (S.free y hmem))))
        have e'' := cof y c' e'
        rw [e] at e''; cases e''
        exact .inr ⟨.inl hk, c, e', cellK c _ z⟩
  · obtain ⟨v, z⟩ := I3.cell y c (cof y c e)
    exact ⟨v, cellK c v z⟩
  · show (capSt js σ ++ [none]).length = (caps ++ [x]).length
    unfold capSt
    simp [hlen]
end
end L2

set_option Elab.async false
set_option linter.all false
set_option maxRecDepth 100000
set_option maxHeartbeats 4000000
namespace L2
open PySem PySem.Spec PyProof.Rows
section
variable {X : Cx} {pins : List (Addr × Obj)} {σ : St} {H2 : Hp} {s2 : Shared} {elt iter : Expr} {x : Str} {px pos : Pos} {ifs : List Expr} {scope : Scope} {caps : List Str} {js : List Nat} {tt : TT} {te : TE} {J : It} {fp : List Addr} {it : Addr}
  {tn : Nat → Heap → Prop}

/-- the block's turns -/
theorem comp_loop {acc C : Addr} {s3 : Shared} {H3 : Hp} {cl : List (Str × Addr)} {s4 : Shared} {w0 : Option V} {H4 : Hp} {R : Result → Shared → Prop} (hc : X.calm = true) (S : CompScope X.N X.env.scope scope x caps js)
    (hifs : PIfs (compCx X (caps ++ [x]) scope cl C s3 H3 fp) ifs tt) (helt : PE (compCx X (caps ++ [x]) scope cl C s3 H3 fp) elt te)
    (T : Turn X.prog X.w X.K (.Name x px) J fp it tn) (lt3 : ∀ b ∈ fp, (compCx X (caps ++ [x]) scope cl C s3 H3 fp).Ok → FpOk (compCx X (caps ++ [x]) scope cl C s3 H3 fp) [] (fun _ => none) b)
    (W : Nat → Nat → Hp → Prop) (Q : VK)
    (turn : ∀ i m H2, W i m H2 → (J.stop i H2 ∧ Q (.ref acc) H2) ∨ (J.go i H2 ∧ ∀ x H3, J.yld i H2 x H3 → tt (capSt js σ ++ [some x]) H3 fun b H4 =>
      if b = true then te (capSt js σ ++ [some x]) H4 fun y H5 => ∃ ys, H5 acc = some (.lst ys) ∧ ys.length < sizeLine ∧ ∃ m', m' < m ∧ W (i + 1) m' (upd H5 acc (.lst (ys ++ [y])))
      else ∃ m', m' < m ∧ W (i + 1) m' H4))
    (I4 : Inv (compCx X (caps ++ [x]) scope cl C s3 H3 fp) [] (capSt js σ ++ [w0]) H4 s4) (st4 : tn 0 s4.heap) (fr4 : ∀ b ∈ fp, H4 b = none) (m0 : Nat) (w4 : W 0 m0 H4)
    (hR : ∀ H' s' w, Inv (compCx X (caps ++ [x]) scope cl C s3 H3 fp) [] (capSt js σ ++ [w]) H' s' → Q (.ref acc) H' → R (.ok .next) s') :
    codeAny (model X.prog X.w) X.A (.compLoop (.ListComp elt [⟨.Name x px, iter, ifs, 0⟩] scope pos) 0 (.ref it) (.ref acc) (compEnvC scope cl C X.env)) R s4 := by
  have hlen : (capSt js σ).length = caps.length := by
    unfold capSt; rw [List.length_map]; have := congrArg List.length S.at'; simpa using this
  have hN : (caps ++ [x])[(capSt js σ).length]? = some x := by rw [hlen]; simp
  have hloc : Loc (relabel scope X.env) x := .inl (lookup_relabel_local S.tgt)
  have hok := I4.ok
  have stat : ∀ {H' : Hp}, (∀ b ∈ fp, H' b = none) → ∀ b ∈ fp, FpOk (compCx X (caps ++ [x]) scope cl C s3 H3 fp) [] H' b := fun hn b hb => ⟨hn b hb, (lt3 b hb hok).2⟩
  refine codeAny_compLoop_tests (fun n s' => ∃ i w H', Inv (compCx X (caps ++ [x]) scope cl C s3 H3 fp) [] (capSt js σ ++ [w]) H' s' ∧ tn i s'.heap ∧ (∀ b ∈ fp, H' b = none) ∧ W i n H') ?_ m0 ⟨0, w0, H4, I4, st4, fr4, w4⟩
  rintro n s5 ⟨i, w, H5, I5, st5, fr5, w5⟩
  rcases turn i n H5 w5 with ⟨stop, q⟩ | ⟨go, step⟩
  · refine wpAny_mono (T.done (compCx X (caps ++ [x]) scope cl C s3 H3 fp) rfl rfl rfl hc i [] s5 _ H5 (fun _ _ => False) I5 (stat fr5) st5 stop) (fun r s6 ⟨hr, I6⟩ => ?_) fun _ _ z => z.elim
    subst hr
    exact hR H5 s6 w I6 q
  · refine wpAny_mono (T.item (compCx X (caps ++ [x]) scope cl C s3 H3 fp) rfl rfl rfl hc i [] s5 _ H5 (fun _ _ => False) I5 (stat fr5) st5 go) (fun r s6 ⟨u, hr, h6⟩ => ?_) fun _ _ z => z.elim
    subst hr
    have key : ∀ (Q' : Unit → Shared → Prop) (E' : Value → Shared → Prop) (f : Unit → Sem Unit), wpAny (model X.prog X.w) X.A (letOwnedTupleGo (.Name x px) (.ref it) u >>= f) Q' E' s6 → wpAny (model X.prog X.w) X.A (f ()) Q' E' s6 := fun Q' E' f h => h
    refine key _ _ (fun _ => assign (.Name x px) (compEnvC scope cl C X.env) u) (wpAny_bind (wpAny_mono h6 (fun _ s7 ⟨v, H7, I7, r7, y7, st7, fr7⟩ => ?_) fun _ _ z => z.elim))
    have I7' := I7.pinned (stat fr7) (T.obj _ _ st7)
    refine wpAny_mono (pg_name (X := compCx X (caps ++ [x]) scope cl C s3 H3 fp) (pos := px) S.nd hN hloc (.inr (lookup_relabel_local S.tgt)) _ s7 _ H7 v u
      (fun σ8 H8 => σ8 = capSt js σ ++ [some v] ∧ H8 = H7) I7' r7 ⟨set_last _ _ _, rfl⟩) (fun _ s8 ⟨σ8, H8, I8, e8, e8'⟩ => ?_) fun _ _ z => z.elim
    subst e8; subst e8'
    refine wpAny_mono (hifs _ s8 _ H8 _ I8 (step v H8 y7)) (fun b s9 ⟨H9, I9, q9⟩ => ?_) fun _ _ z => z.elim
    have again : ∀ {σa : St} {Ha : Hp} {sa : Shared}, Inv (compCx X (caps ++ [x]) scope cl C s3 H3 fp) ([] ++ pinsAt fp s7.heap) σa Ha sa → tn (i + 1) sa.heap ∧ (∀ b ∈ fp, Ha b = none) := fun {σa Ha sa} Ia => by
      refine ⟨T.keep _ _ _ st7 fun b hb o e => (Ia.pin (b, o) (List.mem_append_right _ (List.mem_append_right _ (mem_pinsAt hb e)))).1, fun b hb => ?_⟩
      obtain ⟨o, e, d⟩ := T.obj _ _ st7 b hb
      exact (Ia.pin (b, o) (List.mem_append_right _ (List.mem_append_right _ (mem_pinsAt hb e)))).2.1
    cases b with
    | false =>
      have q9' : ∃ m', m' < n ∧ W (i + 1) m' H9 := q9
      obtain ⟨m', hm, w9⟩ := q9'
      rw [if_neg (by decide)]
      exact ⟨m', hm, i + 1, _, H9, I9.unpinned, (again I9).1, (again I9).2, w9⟩
    | true =>
      rw [if_pos rfl]
      rw [if_pos rfl] at q9
      refine wpAny_mono (helt _ s9 _ H9 _ I9 q9) (fun yv s10 ⟨y, H10, I10, r10, ys, hacc, hz, m', hm, w10⟩ => ?_) fun _ _ z => z.elim
      refine wpAny_mono (mt_append (X := compCx X (caps ++ [x]) scope cl C s3 H3 fp) _ s10 _ H10 (.ref acc) [y] (.ref acc) [yv] (fun _ H11 => H11 = upd H10 acc (.lst (ys ++ [y]))) I10 rfl (.cons r10 .nil) ⟨acc, ys, y, rfl, rfl, hacc, hz, rfl⟩)
        (fun _ s11 ⟨_, H11, I11, _, e11⟩ => ?_) fun _ _ z => z.elim
      subst e11
      exact ⟨m', hm, i + 1, _, _, I11.unpinned, (again I11).1, (again I11).2, w10⟩

/-- the block, from the iterator on -/
theorem comp_block {RR : Value → Addr → Result → Shared → Prop} {E : Value → Shared → Prop} (hc : X.calm = true) (S : CompScope X.N X.env.scope scope x caps js)
    (hifs : ∀ C s H, PIfs (compCx X (caps ++ [x]) scope (capCells X.env.cells scope.names) C s H fp) ifs tt) (helt : ∀ C s H, PE (compCx X (caps ++ [x]) scope (capCells X.env.cells scope.names) C s H fp) elt te)
    (T : Turn X.prog X.w X.K (.Name x px) J fp it tn) (I2 : Inv X pins σ H2 s2) (st2 : tn 0 s2.heap) (f2 : ∀ b ∈ fp, FpOk X pins H2 b) (Q : VK) (hW : ∀ acc, H2 acc = none → CompW J js tt te σ H2 acc Q)
    (hRR : ∀ acc C H' s' m, Inv X pins σ H' s' → FpOk X pins H' C → s'.heap.Ns C m → Q (.ref acc) H' → RR (.ref acc) C (.ok .next) s') :
    wpAny (model X.prog X.w) X.A (newList []) (fun acc s3 => wpAny (model X.prog X.w) X.A (newFunctionEnv scope X.env.globals (capCells X.env.cells scope.names) [] X.env.qual none .none (some X.env)) (fun cenv s4 =>
      codeAny (model X.prog X.w) X.A (.compStart (.ListComp elt [⟨.Name x px, iter, ifs, 0⟩] scope pos) 0 (.ref it) acc { cenv with scope := relabel scope X.env }) (RR acc cenv.locals) s4) E s3) E s2 := by
  refine wpAny_newObj_type (wpAny_newFunctionEnv S.nocell (fun y hy => by cases hy) (fun h1 hns hsb => ?_) S.kind)
  have I3 : Inv X pins σ (upd H2 s2.heap.objs.size (.lst [])) { s2 with heap := s2.heap.push { cls := .type "list", data := .seq ([] : List Value).toArray } } := I2.lnew (t' := s2.toks) .nil (Nat.zero_le _)
  have hlt : ∀ b ∈ fp, b < s2.heap.objs.size := fun b hb => by
    obtain ⟨o, e, _⟩ := T.obj _ _ st2 b hb
    exact Heap.lt_size e
  have hsz : (s2.heap.push { cls := .type "list", data := .seq ([] : List Value).toArray }).objs.size = s2.heap.objs.size + 1 := Heap.size_push ..
  have f3 : ∀ b ∈ fp, FpOk X pins (upd H2 s2.heap.objs.size (.lst [])) b := fun b hb => ⟨by rw [upd_ne (Nat.ne_of_lt (hlt b hb))]; exact (f2 b hb).1, (f2 b hb).2⟩
  generalize hs3 : ({ s2 with heap := s2.heap.push { cls := .type "list", data := .seq ([] : List Value).toArray } } : Shared) = s3 at I3 hns hsb ⊢
  have hs3h : s3.heap = s2.heap.push { cls := .type "list", data := .seq ([] : List Value).toArray } := by rw [← hs3]
  have hlt3 : ∀ b ∈ fp, b < s3.heap.objs.size := fun b hb => by rw [hs3h, hsz]; exact Nat.lt_succ_of_lt (hlt b hb)
  have old : ∀ b o, s3.heap.get? b = some o → h1.get? b = some o := fun b o e => hsb.extBut b o (Nat.ne_of_lt (Heap.lt_size e)) (Heap.get?_push_of_some _ e)
  have old2 : ∀ b o, s2.heap.get? b = some o → h1.get? b = some o := fun b o e => old b o (by rw [hs3h]; exact Heap.get?_push_of_some _ e)
  have I4 := comp_inv S I3 f3 hlt3 hns old (t' := s3.toks + ([] : List (Str × Value)).length)
  have st4 : tn 0 h1 := T.keep _ _ _ st2 fun b _ o e => old2 b o e
  obtain ⟨W, ⟨m0, w0⟩, turn⟩ := hW s2.heap.objs.size (I2.hok.fresh (Nat.le_refl _))
  have loop : codeAny (model X.prog X.w) X.A (.compLoop (.ListComp elt [⟨.Name x px, iter, ifs, 0⟩] scope pos) 0 (.ref it) (.ref s2.heap.objs.size) (compEnvC scope (capCells X.env.cells scope.names) s3.heap.objs.size X.env))
      (RR (.ref s2.heap.objs.size) s3.heap.objs.size) { s3 with heap := h1, toks := s3.toks + ([] : List (Str × Value)).length } := by
    refine comp_loop (acc := s2.heap.objs.size) (Q := Q) hc S (hifs _ _ _) (helt _ _ _) T (fun b hb ok => ⟨rfl, (ok.exf b hb).1, ok.exfs b hb, .inl hb, (ok.exf b hb).2, fun p hp => by cases hp⟩) W turn I4 st4 (fun b hb => (f3 b hb).1) m0 w0 fun H' s' w I' q => ?_
    obtain ⟨m, hn, _⟩ := I'.loc
    exact hRR _ _ H' s' m (I3.call' (ch := fp) I'.os I'.base I'.hok I'.bare fun b hb => ⟨(f3 b hb).2.2.2.1, (f3 b hb).2.1, (f3 b hb).2.2.2.2.1, (f3 b hb).2.2.2.2.2⟩) (I3.fpOk (Nat.le_refl _) I'.free) hn q
  exact codeAny_compStart_list loop (T.self X.A 0 _ _ _ st4 loop)

theorem comp_closed {σ : St} {H : Hp} {s : Shared} (S : CompScope X.N X.env.scope scope x caps js) (I : Inv X pins σ H s) : closureFor scope X.env = pure (capCells X.env.cells scope.names) := closure_caps fun y hy hk => by
  obtain ⟨c, e⟩ := I.ok.has y.1 (.inl (S.all y hy hk))
  rw [e]; rfl

/-- [elt for x in iter if ..] -/
theorem pe_comp {wi : TI} (hc : X.calm = true) (S : CompScope X.N X.env.scope scope x caps js) (hi : PI X (.Name x px) iter wi)
    (hifs : ∀ fp C s H, PIfs (compCx X (caps ++ [x]) scope (capCells X.env.cells scope.names) C s H fp) ifs tt) (helt : ∀ fp C s H, PE (compCx X (caps ++ [x]) scope (capCells X.env.cells scope.names) C s H fp) elt te)
    (hs : ∀ v, foldedSetIterable iter X.env v = pure v := by intro _; rfl) : PE X (.ListComp elt [⟨.Name x px, iter, ifs, 0⟩] scope pos) (tComp wi js tt te) := by
  intro pins s σ H Q I h
  rw [eval_ListComp]
  refine wpAny_comprehension_free (use := none) rfl hs (comp_closed S I) S.kind S.loc (thn (hi pins s σ H _ I h) fun v s1 h1 => thn h1 fun itv s2 h2 => ?_)
  obtain ⟨it, fp, tn, J, H2, e, I2, T, st2, f2, hW⟩ := h2
  subst e
  refine comp_block (RR := fun acc C => compPost (model X.prog X.w) X.A X.xe none (EP X pins σ Q) acc C) hc S (hifs fp) (helt fp) T I2 st2 f2 Q hW fun acc C H' s' m I' fC hn q => ⟨m, hn, fun h' hsb => ?_⟩
  exact ⟨.ref acc, H', I'.turned (t' := s'.toks) (fun b o hb e => (hsb.2 b hb).trans e) fC.1 fC.2.1 fC.2.2.2.1 fC.2.2.2.2.1 fC.2.2.2.2.2, rfl, q⟩

/-- y = [elt for x in iter if ..] -/
theorem ps_comp {wi : TI} {i : Nat} {y : Str} {py spos : Pos} (hN : X.N.Nodup) (hi' : X.N[i]? = some y) (hy : Loc X.env.scope y) (hc : X.calm = true) (S : CompScope X.N X.env.scope scope x caps js) (hi : PI X (.Name x px) iter wi)
    (hifs : ∀ fp C s H, PIfs (compCx X (caps ++ [x]) scope (capCells X.env.cells scope.names) C s H fp) ifs tt) (helt : ∀ fp C s H, PE (compCx X (caps ++ [x]) scope (capCells X.env.cells scope.names) C s H fp) elt te)
    (hsw : swapsWith (.ListComp elt [⟨.Name x px, iter, ifs, 0⟩] scope pos) (some (.Name y py)) spos.line X.env = pure true := by rfl)
    (hf : X.fn y = true ∨ X.env.scope.names.lookup y = some .local := by first | exact .inl rfl | exact .inr rfl | assumption)
    (hs : ∀ v, foldedSetIterable iter X.env v = pure v := by intro _; rfl) : PS X (.Assign [.Name y py] (.ListComp elt [⟨.Name x px, iter, ifs, 0⟩] scope pos) spos) (tAsg (tComp wi js tt te) (gName i)) := by
  intro pins s σ H D I h
  rw [exec_Assign_Name_used _ _ _ _ hsw]
  refine wpAny_bind (wpAny_standAt (wpAny_bind ?_))
  show wpAny _ X.A (do let _ ← comprehension (.ListComp elt [⟨.Name x px, iter, ifs, 0⟩] scope pos) scope X.env _ (newList []) false (eval iter X.env) (some (assign (.Name y py) X.env))) _ _ s
  refine wpAny_bind (wpAny_mono (wpAny_comprehension_free (use := some (assign (.Name y py) X.env)) (Q := fun _ s' => SP X pins D .next s') rfl hs (comp_closed S I) S.kind S.loc
    (thn (hi pins s σ H _ I h) fun v s1 h1 => thn h1 fun itv s2 h2 => ?_)) (fun _ s' hq => wpAny_pure (wpAny_pure hq)) fun _ _ e => e)
  obtain ⟨it, fp, tn, J, H2, e, I2, T, st2, f2, hW⟩ := h2
  subst e
  refine comp_block (RR := fun acc C => compPost (model X.prog X.w) X.A X.xe (some (assign (.Name y py) X.env)) (fun _ s' => SP X pins D .next s') acc C) hc S (hifs fp) (helt fp) T I2 st2 f2 _ hW fun acc C H' s' m I' fC hn q => ?_
  show wpAny _ X.A (assign (.Name y py) X.env (.ref acc)) _ _ s'
  refine wpAny_assign_Name (store_ok2 (v := .ref acc) I' hN hi' hy rfl (fun s'' I'' ⟨a, hsa, ha⟩ => ?_) hf)
  have hne : C ≠ a := by
    rcases ha with z | z
    · rw [z]; exact fC.2.1
    · exact (fC.2.2.2.2.1 y a z).symm
  refine ⟨m, hn.sameBut hsa hne, fun h' hsb => ?_⟩
  exact ⟨_, H', I''.turned (t' := s''.toks) (fun b o hb e => (hsb.2 b hb).trans e) fC.1 fC.2.1 fC.2.2.2.1 fC.2.2.2.2.1 fC.2.2.2.2.2, q⟩
end
end L2

set_option Elab.async false
set_option linter.all false
set_option maxRecDepth 100000
set_option maxHeartbeats 4000000
namespace L2
open PySem PySem.Spec PyProof.Rows

/-! ### a list or a tuple that is walked, whichever it is -/
def SqB (K : PySem.W.Frag) (tp : Bool) (H : Hp) (a : Addr) (xs : List V) : Prop := match tp with
  | false => SqL K H a xs
  | true => SqT K H a xs
theorem SqB.or {K : PySem.W.Frag} {tp : Bool} {H : Hp} {a : Addr} {xs : List V} (h : SqB K tp H a xs) : SqL K H a xs ∨ SqT K H a xs := by
  cases tp
  · exact .inl h
  · exact .inr h
def Its (K : PySem.W.Frag) (tp : Bool) (a : Addr) (xs : List V) : It :=
  ⟨fun i H => SqB K tp H a xs ∧ i < xs.length, fun i H x H' => H' = H ∧ xs[i]? = some x, fun i H => SqB K tp H a xs ∧ xs.length ≤ i⟩
section
variable {X : Cx} {tg : Expr}
theorem turn_sqL {P : Program} {w : World} {K : PySem.W.Frag} (a it : Addr) (xs : List V) : Turn P w K tg (Its K false a xs) [it] it (fun i h => h.IsListIter it a i) where
  mem := by simp
  obj := (turn_list (P := P) (w := w) (K := K) (tg := tg) a it).obj
  keep := (turn_list (P := P) (w := w) (K := K) (tg := tg) a it).keep
  item := by
    intro X hP hw hK hc i pins s σ H E I hf st hg
    obtain ⟨hq, hi⟩ := hg
    refine thn ((turn_list (P := P) (w := w) (K := K) (tg := tg) a it).item X hP hw hK hc i pins s σ H E I hf st ⟨xs, xs[i], hq, by simp [hi]⟩) fun r s1 ⟨u, e, h⟩ => ⟨u, e, thn h fun _ s2 ⟨x, H', I', rx, y, st', f'⟩ => ⟨x, H', I', rx, ⟨y.1, y.2 xs hq⟩, st', f'⟩⟩
  done := by
    intro X hP hw hK hc i pins s σ H E I hf st hg
    exact (turn_list (P := P) (w := w) (K := K) (tg := tg) a it).done X hP hw hK hc i pins s σ H E I hf st ⟨xs, hg.1, hg.2⟩
  self := (turn_list (P := P) (w := w) (K := K) (tg := tg) a it).self
theorem turn_sqT {P : Program} {w : World} {K : PySem.W.Frag} (a it : Addr) (xs : List V) : Turn P w K tg (Its K true a xs) [it] it (fun i h => h.IsTupleIter it a i) where
  mem := by simp
  obj := (turn_tuple (P := P) (w := w) (K := K) (tg := tg) a it).obj
  keep := (turn_tuple (P := P) (w := w) (K := K) (tg := tg) a it).keep
  item := by
    intro X hP hw hK hc i pins s σ H E I hf st hg
    obtain ⟨hq, hi⟩ := hg
    refine thn ((turn_tuple (P := P) (w := w) (K := K) (tg := tg) a it).item X hP hw hK hc i pins s σ H E I hf st ⟨xs, xs[i], hq, by simp [hi]⟩) fun r s1 ⟨u, e, h⟩ => ⟨u, e, thn h fun _ s2 ⟨x, H', I', rx, y, st', f'⟩ => ⟨x, H', I', rx, ⟨y.1, y.2 xs hq⟩, st', f'⟩⟩
  done := by
    intro X hP hw hK hc i pins s σ H E I hf st hg
    exact (turn_tuple (P := P) (w := w) (K := K) (tg := tg) a it).done X hP hw hK hc i pins s σ H E I hf st ⟨xs, hg.1, hg.2⟩
  self := (turn_tuple (P := P) (w := w) (K := K) (tg := tg) a it).self
def iSq (K : PySem.W.Frag) (tl : TE) : TI := fun σ H R => tl σ H fun x H1 => ∃ tp a xs, x = .ref a ∧ SqB K tp H1 a xs ∧ R (Its K tp a xs) H1
theorem pi_sq {l : Expr} {tl : TE} (hl : PE X l tl) : PI X tg l (iSq X.K tl) := by
  intro pins s σ H R I h
  refine thn (hl pins s σ H _ I h) fun v s1 ⟨x, H1, I1, r1, q1⟩ => ?_
  obtain ⟨tp, a, xs, e, hq, q⟩ := q1
  subst e
  cases r1
  have fin : ∀ b ∈ [s1.heap.objs.size], FpOk X pins H1 b := fun b hb => by
    have e : b = s1.heap.objs.size := by simpa using hb
    subst e
    exact I1.fpOk (Nat.le_refl _) (I1.hok.fresh (Nat.le_refl _))
  cases tp with
  | false =>
    obtain ⟨its, rv, p, hz⟩ := I1.list hq
    refine wpAny_pyIter_list p.isList ?_
    exact ⟨s1.heap.objs.size, [s1.heap.objs.size], _, _, H1, rfl, I1.kept (t' := s1.toks) fun b o e => Heap.get?_push_of_some _ e, turn_sqL a _ xs, ⟨_, Heap.get?_push_size _ rfl, rfl, rfl⟩, fin, q⟩
  | true =>
    obtain ⟨its, rv, p, hz⟩ := I1.tuple hq
    refine wpAny_pyIter_tuple (show s1.heap.IsTuple a its.toArray from p) ?_
    exact ⟨s1.heap.objs.size, [s1.heap.objs.size], _, _, H1, rfl, I1.kept (t' := s1.toks) fun b o e => Heap.get?_push_of_some _ e, turn_sqT a _ xs, ⟨_, Heap.get?_push_size _ rfl, rfl, rfl⟩, fin, q⟩
/-- the signs of a text -/
def Itc (z : Str) : It := ⟨fun i _ => i < z.cps.size, fun i H x H' => H' = H ∧ ∃ c, z.cps[i]? = some c ∧ x = .str ⟨#[c]⟩, fun i _ => i = z.cps.size⟩
theorem turn_str {P : Program} {w : World} {K : PySem.W.Frag} {it : Addr} {z : Str} {t : Tok} {ty : String}
    (hn : ["enumerate", "zip", "dict_itemiterator", "dict_reverseitemiterator", "odict_iterator", "itertools.zip_longest", "itertools.pairwise"].contains ty = false)
    (W : ∀ A : Around, A.handled = none → Walks P w A it [it] [it] z.cps.size (SignAt z) (fun i h => h.IsStrIter it ty z t i))
    (self : ∀ (A : Around) (i : Nat) (s : Shared) (Q : Value → Shared → Prop) (E : Value → Shared → Prop), s.heap.IsStrIter it ty z t i → Q (.ref it) s → wpAny (model P w) A (pyIter (.ref it)) Q E s) :
    Turn P w K tg (Itc z) [it] it (fun i h => h.IsStrIter it ty z t i) where
  mem := by simp
  obj := fun i h st b hb => by
    have e : b = it := by simpa using hb
    subst e
    obtain ⟨o, e, c, d⟩ := st
    exact ⟨o, e, fun v z => by rw [d] at z; cases z⟩
  keep := fun i h h' st k => let ⟨o, e, r⟩ := st; ⟨o, k it (by simp) o e, r⟩
  item := by
    intro X hP hw hK hc i pins s σ H E I hf st hg
    subst hP hw hK
    obtain ⟨f0, f1, f2, f3, f4, f5⟩ := hf it (by simp)
    refine (W X.A (I.ok.hd hc)).item i s _ _ hg st fun v h' tk ⟨c, u, hcc, hv⟩ st' kp => ?_
    subst hv
    have I1 : Inv X pins σ H { s with heap := h', toks := tk } := I.turned (t' := tk) (fun b o hb e => kp b o (by simpa using hb) e) f0 f1 f3 f4 f5
    obtain ⟨o, e, cl, d⟩ := id st'
    exact ⟨_, rfl, go_of (s := { s with heap := h', toks := tk }) e cl d hn ⟨.str ⟨#[c]⟩, H, I1, ⟨u, rfl⟩, ⟨rfl, c, hcc, rfl⟩, st', fun b hb => (hf b hb).1⟩⟩
  done := by
    intro X hP hw hK hc i pins s σ H E I hf st hg
    subst hP hw hK
    obtain ⟨f0, f1, f2, f3, f4, f5⟩ := hf it (by simp)
    have hg' : i = z.cps.size := hg
    subst hg'
    exact (W X.A (I.ok.hd hc)).done s _ _ st fun h' tk kp => ⟨rfl, I.turned (t' := tk) (fun b o hb e => kp b o (by simpa using hb) e) f0 f1 f3 f4 f5⟩
  self := self
def iStr (tl : TE) : TI := fun σ H R => tl σ H fun x H1 => ∃ z, x = .str z ∧ R (Itc z) H1
theorem pi_str {l : Expr} {tl : TE} (hl : PE X l tl) : PI X tg l (iStr tl) := by
  intro pins s σ H R I h
  refine thn (hl pins s σ H _ I h) fun v s1 ⟨x, H1, I1, r1, q1⟩ => ?_
  obtain ⟨z, e, q⟩ := q1
  subst e
  obtain ⟨t, rfl⟩ := r1
  have fin : ∀ b ∈ [s1.heap.objs.size], FpOk X pins H1 b := fun b hb => by
    have e : b = s1.heap.objs.size := by simpa using hb
    subst e
    exact I1.fpOk (Nat.le_refl _) (I1.hok.fresh (Nat.le_refl _))
  have kp : ∀ (ob : Obj), Inv X pins σ H1 { s1 with heap := s1.heap.push ob } := fun ob => I1.kept (t' := s1.toks) fun b o e => Heap.get?_push_of_some _ e
  cases ha : z.cps.all (· < 128)
  · refine wpAny_pyIter_wide ha ?_
    exact ⟨s1.heap.objs.size, [s1.heap.objs.size], _, _, H1, rfl, kp _, turn_str (t := t) (by decide) (fun A' hA => Walks.strWide hA _ z t) (fun _ _ _ _ _ st h => wpAny_pyIter_striter_wide st h), ⟨_, Heap.get?_push_size _ rfl, rfl, rfl⟩, fin, q⟩
  · refine wpAny_pyIter_ascii ha ?_
    exact ⟨s1.heap.objs.size, [s1.heap.objs.size], _, _, H1, rfl, kp _, turn_str (t := t) (by decide) (fun A' hA => Walks.strAscii hA _ z t) (fun _ _ _ _ _ st h => wpAny_pyIter_striter_ascii st h), ⟨_, Heap.get?_push_size _ rfl, rfl, rfl⟩, fin, q⟩
end

/-! ### comprehensions whose element and test leave all that was there -/
theorem same_new {H : Hp} {p : Addr} (h : H p = none) (o : HO) : Same H (upd H p o) := fun b u q => by rw [upd_ne (ne_of_none q h)]; exact q
theorem Same.sqT {K : PySem.W.Frag} {H H' : Hp} {a : Addr} {xs : List V} (e : Same H H') (h : SqT K H a xs) : SqT K H' a xs := by
  rcases h with (h | ⟨o, h⟩) | h
  · exact .inl (.inl (e _ _ h))
  · exact .inl (.inr ⟨o, e _ _ h⟩)
  · exact .inr h
theorem Same.sq {K : PySem.W.Frag} {tp : Bool} {H H' : Hp} {a : Addr} {xs : List V} (e : Same H H') (h : SqB K tp H a xs) : SqB K tp H' a xs := by
  cases tp
  · exact Same.seq e h
  · exact Same.sqT e h
/-- W: what stands between; the items are xs, J tells them -/
theorem comp_gen {J : It} {js : List Nat} {tt : TT} {te : TE} {σ : St} {H1 : Hp} {acc : Addr} {Q : VK} (xs : List V) (f : V → Bool) (g : V → V) (hacc : H1 acc = none) (hz : xs.length ≤ sizeLine)
    (hgo : ∀ i H, Same H1 H → i < xs.length → J.go i H) (hst : ∀ H, Same H1 H → J.stop xs.length H) (hy : ∀ i H x H', J.yld i H x H' → H' = H ∧ xs[i]? = some x)
    (ht : ∀ (i : Nat) (x : V) (H' : Hp) (Q' : Bool → Hp → Prop), xs[i]? = some x → Same H1 H' → (∀ H'', Same H' H'' → Q' (f x) H'') → tt (capSt js σ ++ [some x]) H' Q')
    (he : ∀ (i : Nat) (x : V) (H' : Hp) (Q' : VK), xs[i]? = some x → f x = true → Same H1 H' → (∀ H'', Same H' H'' → Q' (g x) H'') → te (capSt js σ ++ [some x]) H' Q')
    (hd : ∀ H', Same H1 H' → H' acc = some (.lst ((xs.filter f).map g)) → Q (.ref acc) H') : CompW J js tt te σ H1 acc Q := by
  refine ⟨fun i m H => m = xs.length - i ∧ i ≤ xs.length ∧ Same H1 H ∧ H acc = some (.lst (((xs.take i).filter f).map g)), ⟨xs.length, by simp, Nat.zero_le _, same_new hacc _, upd_same⟩, ?_⟩
  rintro i m H2 ⟨rfl, hi, sm, ha⟩
  by_cases hlt : i < xs.length
  · refine .inr ⟨hgo i H2 sm hlt, fun x H3 y => ?_⟩
    obtain ⟨e, hx⟩ := hy i H2 x H3 y
    subst e
    have htk : (xs.take (i + 1)) = xs.take i ++ [x] := by
      have e2 : xs[i] = x := by
        rw [List.getElem?_eq_getElem hlt] at hx; exact Option.some.inj hx
      rw [List.take_succ_eq_append_getElem hlt, e2]
    have e1 : List.filter f (xs.take (i + 1)) = (xs.take i).filter f ++ (if f x = true then [x] else []) := by
      rw [htk, List.filter_append]; congr 1
      by_cases hf : f x = true <;> simp [hf]
    refine ht i x _ _ hx sm fun H4 s4 => ?_
    by_cases hf : f x = true
    · rw [if_pos hf]
      refine he i x H4 _ hx hf (sm.trans s4) fun H5 s5 => ?_
      have hlen : (((xs.take i).filter f).map g).length < sizeLine := by
        rw [List.length_map]
        have := List.length_filter_le f (xs.take i)
        rw [List.length_take] at this
        omega
      refine ⟨_, s5 _ _ (s4 _ _ ha), hlen, xs.length - (i + 1), by omega, rfl, hlt, fun b o q => ?_, ?_⟩
      · have hb : b ≠ acc := by rintro rfl; rw [hacc] at q; cases q
        rw [upd_ne hb]; exact s5 _ _ (s4 _ _ (sm b o q))
      · rw [upd_same, e1, if_pos hf, List.map_append]; rfl
    · have hf' : f x = false := by simpa using hf
      rw [hf']
      rw [if_neg (by decide)]
      refine ⟨xs.length - (i + 1), by omega, rfl, hlt, sm.trans s4, ?_⟩
      rw [e1, if_neg hf, List.append_nil]
      exact s4 _ _ ha
  · have e : i = xs.length := by omega
    subst e
    refine .inl ⟨hst H2 sm, hd H2 sm ?_⟩
    rw [List.take_length] at ha
    exact ha
theorem comp_sq {K : PySem.W.Frag} {tp : Bool} {a : Addr} {xs : List V} {js : List Nat} {tt : TT} {te : TE} {σ : St} {H1 : Hp} {acc : Addr} {Q : VK} (f : V → Bool) (g : V → V) (hq : SqB K tp H1 a xs) (hacc : H1 acc = none) (hz : xs.length ≤ sizeLine)
    (ht : ∀ (i : Nat) (x : V) (H' : Hp) (Q' : Bool → Hp → Prop), xs[i]? = some x → Same H1 H' → (∀ H'', Same H' H'' → Q' (f x) H'') → tt (capSt js σ ++ [some x]) H' Q')
    (he : ∀ (i : Nat) (x : V) (H' : Hp) (Q' : VK), xs[i]? = some x → f x = true → Same H1 H' → (∀ H'', Same H' H'' → Q' (g x) H'') → te (capSt js σ ++ [some x]) H' Q')
    (hd : ∀ H', Same H1 H' → H' acc = some (.lst ((xs.filter f).map g)) → Q (.ref acc) H') : CompW (Its K tp a xs) js tt te σ H1 acc Q :=
  comp_gen xs f g hacc hz (fun i H s hi => ⟨s.sq hq, hi⟩) (fun H s => ⟨s.sq hq, Nat.le_refl _⟩) (fun i H x H' y => y) ht he hd
def signsV (z : Str) : List V := z.cps.toList.map fun c => .str ⟨#[c]⟩
theorem signsV_length (z : Str) : (signsV z).length = z.cps.size := by unfold signsV; simp
theorem comp_str {z : Str} {js : List Nat} {tt : TT} {te : TE} {σ : St} {H1 : Hp} {acc : Addr} {Q : VK} (f : V → Bool) (g : V → V) (hacc : H1 acc = none) (hz : z.cps.size ≤ sizeLine)
    (ht : ∀ (i : Nat) (x : V) (H' : Hp) (Q' : Bool → Hp → Prop), (signsV z)[i]? = some x → Same H1 H' → (∀ H'', Same H' H'' → Q' (f x) H'') → tt (capSt js σ ++ [some x]) H' Q')
    (he : ∀ (i : Nat) (x : V) (H' : Hp) (Q' : VK), (signsV z)[i]? = some x → f x = true → Same H1 H' → (∀ H'', Same H' H'' → Q' (g x) H'') → te (capSt js σ ++ [some x]) H' Q')
    (hd : ∀ H', Same H1 H' → H' acc = some (.lst (((signsV z).filter f).map g)) → Q (.ref acc) H') : CompW (Itc z) js tt te σ H1 acc Q := by
  refine comp_gen (signsV z) f g hacc (by rw [signsV_length]; exact hz) (fun i H s hi => ?_) (fun H s => ?_) (fun i H x H' y => ?_) ht he hd
  · rw [signsV_length] at hi; exact hi
  · show (signsV z).length = z.cps.size
    exact signsV_length z
  · obtain ⟨e, c, hc, hx⟩ := y
    refine ⟨e, ?_⟩
    subst hx
    unfold signsV
    rw [List.getElem?_map, Array.getElem?_toList, hc]
    rfl
end L2

set_option Elab.async false
set_option linter.all false
set_option maxRecDepth 100000
set_option maxHeartbeats 4000000
namespace L2
open PySem PySem.Spec PyProof.Rows
/-! ### == and != of lists and tuples of flat items -/
def eqVs (xs ys : List V) : Bool := xs.length == ys.length && (List.range xs.length).all fun j => eqV (xs.getD j .non) (ys.getD j .non)
theorem getD_of {xs : List V} {j : Nat} {x : V} (h : xs[j]? = some x) : xs.getD j .non = x := by rw [List.getD_eq_getElem?_getD, h]; rfl
section
variable {X : Cx} {pins : List (Addr × Obj)} {σ : St} {H : Hp} {s : Shared}
theorem flat_at {xs : List V} {j : Nat} {x : V} (h : xs.all flatV = true) (e : xs[j]? = some x) : flatV x = true := List.all_eq_true.mp h x (List.mem_of_getElem? e)
/-- the items' answers -/
theorem eq_items {A : Around} {xs ys : List V} {its its2 : List Value} (r1 : Vals xs its) (r2 : Vals ys its2) (fx : xs.all flatV = true) (fy : ys.all flatV = true) :
    ∀ j (h1 : j < its.toArray.size) (h2 : j < its2.toArray.size), SeqAt.EqAt A s its.toArray[j] its2.toArray[j] (eqV (xs.getD j .non) (ys.getD j .non)) := fun j h1 h2 => by
  have l1 := r1.length
  have l2 := r2.length
  have h1' : j < its.length := by simpa using h1
  have h2' : j < its2.length := by simpa using h2
  have e1 : xs[j]? = some (xs[j]'(by omega)) := List.getElem?_eq_getElem _
  have e2 : ys[j]? = some (ys[j]'(by omega)) := List.getElem?_eq_getElem _
  obtain ⟨u, hu, ru⟩ := r1.get e1
  obtain ⟨v, hv, rv⟩ := r2.get e2
  rw [List.getElem?_eq_getElem h1'] at hu
  rw [List.getElem?_eq_getElem h2'] at hv
  have hu' : its[j] = u := Option.some.inj hu
  have hv' : its2[j] = v := Option.some.inj hv
  rw [getD_of e1, getD_of e2]
  have q := eqAt_V (A := A) (s := s) ru rv (flat_at fx e1) (flat_at fy e2)
  rw [← hu', ← hv'] at q
  simpa using q
def rEqS (K : PySem.W.Frag) (neg : Bool) : R2 := fun x y H Q => ∃ p q xs ys, x = .ref p ∧ y = .ref q ∧ ((SqL K H p xs ∧ SqL K H q ys) ∨ (SqT K H p xs ∧ SqT K H q ys)) ∧ xs.all flatV = true ∧ ys.all flatV = true ∧
  Q (.bl (if neg then !eqVs xs ys else eqVs xs ys)) H
theorem eqVs_ne {xs ys : List V} (h : xs.length ≠ ys.length) : eqVs xs ys = false := by
  unfold eqVs
  have : (xs.length == ys.length) = false := by simpa using h
  rw [this, Bool.false_and]
theorem eqVs_same {xs ys : List V} (h : xs.length = ys.length) : eqVs xs ys = (List.range xs.length).all fun j => eqV (xs.getD j .non) (ys.getD j .non) := by
  unfold eqVs
  have : (xs.length == ys.length) = true := by simpa using h
  rw [this, Bool.true_and]
theorem op_eqS (hu : X.A.units < cLine) : OpR X (compareOp .Eq) (rEqS X.K false) := by
  intro pins s σ H x y v u Q I rx ry h
  obtain ⟨p, q, xs, ys, rfl, rfl, hq, fx, fy, hQ⟩ := h
  cases rx; cases ry
  have hQ' : Q (.bl (eqVs xs ys)) H := hQ
  rcases hq with ⟨ha, hb⟩ | ⟨ha, hb⟩
  · obtain ⟨its, r1, p1, z1⟩ := I.list ha
    obtain ⟨its2, r2, p2, z2⟩ := I.list hb
    have l1 := r1.length; have l2 := r2.length
    by_cases hl : xs.length = ys.length
    · refine SeqAt.eq_listAt (e := fun j => eqV (xs.getD j .non) (ys.getD j .non)) p1.isList p2.isList (by simp; omega) hu (eq_items r1 r2 fx fy) ⟨.bl _, H, I, rfl, ?_⟩
      rw [eqVs_same hl] at hQ'
      simp only [List.size_toArray, ← l1]
      exact hQ'
    · rw [eqVs_ne hl] at hQ'
      exact SeqAt.eq_list_lengthsAt p1.isList p2.isList (by simp; omega) hu ⟨.bl false, H, I, rfl, hQ'⟩
  · obtain ⟨its, r1, p1, z1⟩ := I.tuple ha
    obtain ⟨its2, r2, p2, z2⟩ := I.tuple hb
    have l1 := r1.length; have l2 := r2.length
    refine SeqAt.eq_tupleAt (e := fun j => eqV (xs.getD j .non) (ys.getD j .non)) p1 p2 hu (eq_items r1 r2 fx fy) ⟨.bl _, H, I, rfl, ?_⟩
    simp only [List.size_toArray, ← l1, ← l2]
    by_cases hl : xs.length = ys.length
    · rw [eqVs_same hl] at hQ'
      have : (xs.length == ys.length) = true := by simpa using hl
      rw [this, Bool.and_true, ← hl, Nat.min_self]
      exact hQ'
    · rw [eqVs_ne hl] at hQ'
      have : (xs.length == ys.length) = false := by simpa using hl
      rw [this, Bool.and_false]
      exact hQ'
theorem op_neS (hu : X.A.units < cLine) : OpR X (compareOp .NotEq) (rEqS X.K true) := by
  intro pins s σ H x y v u Q I rx ry h
  obtain ⟨p, q, xs, ys, rfl, rfl, hq, fx, fy, hQ⟩ := h
  cases rx; cases ry
  have hQ' : Q (.bl (!eqVs xs ys)) H := hQ
  rcases hq with ⟨ha, hb⟩ | ⟨ha, hb⟩
  · obtain ⟨its, r1, p1, z1⟩ := I.list ha
    obtain ⟨its2, r2, p2, z2⟩ := I.list hb
    have l1 := r1.length; have l2 := r2.length
    by_cases hl : xs.length = ys.length
    · refine SeqAt.RcNeAt.lists (e := fun j => eqV (xs.getD j .non) (ys.getD j .non)) p1.isList p2.isList (by simp; omega) hu (eq_items r1 r2 fx fy) _ _ _ _ ⟨.bl _, H, I, rfl, ?_⟩
      rw [eqVs_same hl] at hQ'
      simp only [List.size_toArray, ← l1]
      exact hQ'
    · rw [eqVs_ne hl] at hQ'
      exact SeqAt.RcNeAt.lists_lengths p1.isList p2.isList (by simp; omega) hu _ _ _ _ ⟨.bl true, H, I, rfl, hQ'⟩
  · obtain ⟨its, r1, p1, z1⟩ := I.tuple ha
    obtain ⟨its2, r2, p2, z2⟩ := I.tuple hb
    have l1 := r1.length; have l2 := r2.length
    refine SeqAt.RcNeAt.tuples (e := fun j => eqV (xs.getD j .non) (ys.getD j .non)) p1 p2 hu (eq_items r1 r2 fx fy) _ _ _ _ ⟨.bl _, H, I, rfl, ?_⟩
    simp only [List.size_toArray, ← l1, ← l2]
    by_cases hl : xs.length = ys.length
    · rw [eqVs_same hl] at hQ'
      have : (xs.length == ys.length) = true := by simpa using hl
      rw [this, Bool.and_true, ← hl, Nat.min_self]
      exact hQ'
    · rw [eqVs_ne hl] at hQ'
      have : (xs.length == ys.length) = false := by simpa using hl
      rw [this, Bool.and_false]
      exact hQ'
/-! ### isinstance, all, any -/
theorem call_isinst : CallR X (.builtin "isinstance") (fun xs H Q => ∃ x n t b, xs = [x, .ty n] ∧ TyOf X.K H x t ∧ PySem.W.kitOne X.K t (.type n) = some b ∧ Q (.bl b) H) := by
  intro pins s σ H xs us Q I r h
  obtain ⟨x, n, t, b, rfl, ty, e, q⟩ := h
  obtain ⟨u, w', rfl, rx, rt⟩ := vals2 r
  cases rt
  exact isinst_ok I rx ty e fun tk => ⟨.bl b, H, I.tok tk, rfl, q⟩
theorem bools_at {bs : List Bool} {its : List Value} (r : Vals (bs.map V.bl) its) {i : Nat} {v : Value} (e : its[i]? = some v) : v = .bool (bs.getD i false) := by
  have hl := r.length
  rw [List.length_map] at hl
  have hi : i < its.length := (List.getElem?_eq_some_iff.mp e).1
  have e1 : (bs.map V.bl)[i]? = some (.bl (bs[i]'(by omega))) := by rw [List.getElem?_map, List.getElem?_eq_getElem (by omega)]; rfl
  obtain ⟨u, hu, ru⟩ := r.get e1
  rw [e] at hu; cases hu
  cases ru
  rw [List.getD_eq_getElem?_getD, List.getElem?_eq_getElem (by omega)]; rfl
theorem range_all (bs : List Bool) : (List.range bs.length).all (fun i => bs.getD i false) = bs.all id := by
  rw [Bool.eq_iff_iff, List.all_eq_true, List.all_eq_true]
  constructor
  · intro h x hx
    obtain ⟨i, hi, rfl⟩ := List.mem_iff_getElem.mp hx
    have := h i (List.mem_range.mpr hi)
    rw [List.getD_eq_getElem?_getD, List.getElem?_eq_getElem hi] at this
    exact this
  · intro h i hi
    rw [List.getD_eq_getElem?_getD, List.getElem?_eq_getElem (List.mem_range.mp hi)]
    exact h _ (List.getElem_mem _)
theorem range_any (bs : List Bool) : (List.range bs.length).any (fun i => bs.getD i false) = bs.any id := by
  rw [Bool.eq_iff_iff, List.any_eq_true, List.any_eq_true]
  constructor
  · rintro ⟨i, hi, h⟩
    have hi' := List.mem_range.mp hi
    rw [List.getD_eq_getElem?_getD, List.getElem?_eq_getElem hi'] at h
    exact ⟨_, List.getElem_mem hi', h⟩
  · rintro ⟨x, hx, h⟩
    obtain ⟨i, hi, rfl⟩ := List.mem_iff_getElem.mp hx
    refine ⟨i, List.mem_range.mpr hi, ?_⟩
    rw [List.getD_eq_getElem?_getD, List.getElem?_eq_getElem hi]
    exact h
theorem call_all (hc : X.calm = true) : CallR X (.builtin "all") (fun xs H Q => ∃ (p : Addr) (bs : List Bool), xs = [.ref p] ∧ SqL X.K H p (bs.map V.bl) ∧ Q (.bl (bs.all id)) H) := by
  intro pins s σ H xs us Q I r h
  obtain ⟨p, bs, rfl, hq, q⟩ := h
  obtain ⟨u, rfl, rx⟩ := vals1 r
  cases rx
  obtain ⟨its, rv, pl, hz⟩ := I.list hq
  have hl := rv.length
  rw [List.length_map] at hl
  refine call_all_walk (wpAny_pyIter_list pl.isList ?_)
  obtain ⟨o, n, ho, _⟩ := id pl
  have hne : p ≠ s.heap.objs.size := Nat.ne_of_lt (Heap.lt_size ho)
  refine ⟨s.heap.objs.size, _, _, _, _, _, fun i => bs.getD i false, rfl, Walks.list (by rw [Around.in1_handled]; exact I.ok.hd hc) _ p hne its.toArray, ⟨⟨_, Heap.get?_push_size _ rfl, rfl, rfl⟩, pl.isList.push _⟩, fun i v s' Q' E' hv hQ' => ?_, fun h' tk kp => ?_⟩
  · have ev : v = .bool (bs.getD i false) := bools_at rv (by simpa using hv)
    rw [ev]
    exact wpAny_truthy_bool hQ'
  · refine ⟨.bl _, H, I.kept (t' := tk) fun b ob e => kp b ob (by simpa using Nat.ne_of_lt (Heap.lt_size e)) (Heap.get?_push_of_some _ e), rfl, ?_⟩
    rw [List.size_toArray, ← hl, range_all]
    exact q
theorem call_any (hc : X.calm = true) : CallR X (.builtin "any") (fun xs H Q => ∃ (p : Addr) (bs : List Bool), xs = [.ref p] ∧ SqL X.K H p (bs.map V.bl) ∧ Q (.bl (bs.any id)) H) := by
  intro pins s σ H xs us Q I r h
  obtain ⟨p, bs, rfl, hq, q⟩ := h
  obtain ⟨u, rfl, rx⟩ := vals1 r
  cases rx
  obtain ⟨its, rv, pl, hz⟩ := I.list hq
  have hl := rv.length
  rw [List.length_map] at hl
  refine call_any_walk (wpAny_pyIter_list pl.isList ?_)
  obtain ⟨o, n, ho, _⟩ := id pl
  have hne : p ≠ s.heap.objs.size := Nat.ne_of_lt (Heap.lt_size ho)
  refine ⟨s.heap.objs.size, _, _, _, _, _, fun i => bs.getD i false, rfl, Walks.list (by rw [Around.in1_handled]; exact I.ok.hd hc) _ p hne its.toArray, ⟨⟨_, Heap.get?_push_size _ rfl, rfl, rfl⟩, pl.isList.push _⟩, fun i v s' Q' E' hv hQ' => ?_, fun h' tk kp => ?_⟩
  · have ev : v = .bool (bs.getD i false) := bools_at rv (by simpa using hv)
    rw [ev]
    exact wpAny_truthy_bool hQ'
  · refine ⟨.bl _, H, I.kept (t' := tk) fun b ob e => kp b ob (by simpa using Nat.ne_of_lt (Heap.lt_size e)) (Heap.get?_push_of_some _ e), rfl, ?_⟩
    rw [List.size_toArray, ← hl, range_any]
    exact q
/-! ### list.insert, list.count, list.index -/
def rInsert : V → List V → Hp → VK → Prop := fun x vs H Q => ∃ (l : Addr) (xs : List V) (j : Int) (y : V), x = .ref l ∧ vs = [.int j, y] ∧ H l = some (.lst xs) ∧ 0 ≤ j ∧ j ≤ xs.length ∧ xs.length < sizeLine ∧ Q .non (upd H l (.lst (xs.take j.toNat ++ y :: xs.drop j.toNat)))
theorem mt_insert : MtM X "list.insert" rInsert := by
  intro pins s σ H x vs v us Q I rx rv h
  obtain ⟨l, xs, j, y, rfl, rfl, hH, hj0, hj1, hz, q⟩ := h
  cases rx
  obtain ⟨ui, uy, rfl, ri, ry⟩ := rv.two
  obtain ⟨t, rfl⟩ := ri
  obtain ⟨z, its, n, r, hl, e⟩ := I.lstM hH
  have h2 : j < 2 ^ 63 := by
    have h4 : (xs.length : Int) ≤ (sizeLine : Int) := Int.ofNat_le.mpr z
    have h3 : ((sizeLine : Nat) : Int) < 2 ^ 63 := by exact_mod_cast line63
    omega
  have hfit : (!Builtin.List.listFitsIndex j) = true → False := by
    have h1 : Builtin.List.listFitsIndex j = true := by
      unfold Builtin.List.listFitsIndex
      rw [Bool.and_eq_true]
      exact ⟨decide_eq_true (by omega), decide_eq_true h2⟩
    rw [h1]; exact fun h => nomatch h
  have hz2 : its.toArray.size ≤ sizeLine := Nat.le_trans (Nat.le_of_eq (List.size_toArray.trans hl.symm)) z
  refine call_meets PySem.F.slot_list_insert ⟨_, e, rfl⟩ PySem.F.entry_list_insert (PySem.F.args_list_insert_3 _ _ _) (PySem.AutoSeq1.list_insert_list_int_val_1 l its.toArray n j t uy hfit hz2) ⟨e, ?_⟩
  refine ⟨.non, _, I.lset (its' := its.take j.toNat ++ uy :: its.drop j.toNat) hH e ?_ ((r.take _).append (.cons ry (r.drop _))) ?_, rfl, q⟩
  · have h0 : ¬ (j < 0) := by omega
    have hm : min j.toNat its.toArray.size = j.toNat := by simp; omega
    simp only [h0, if_false, hm]
    apply Array.toList_inj.mp
    simp
    exact List.take_of_length_le (by simp)
  · rw [List.length_append, List.length_cons, List.length_take, List.length_drop]
    omega
def countV (x : V) (xs : List V) : Nat := xs.countP fun y => eqV y x
theorem count_eqU {x : V} : ∀ {xs : List V} {us : List Value}, Vals xs us → xs.all flatV = true → us.countP (eqU x) = countV x xs
  | _, _, .nil, _ => rfl
  | y :: xs, u :: us, .cons r t, h => by
    have h1 : flatV y = true ∧ xs.all flatV = true := by simpa [List.all_cons] using h
    unfold countV
    rw [List.countP_cons, List.countP_cons, eqU_of r h1.1, count_eqU t h1.2]
    rfl
def rCount (K : PySem.W.Frag) : V → List V → Hp → VK → Prop := fun x vs H Q => ∃ l xs y, x = .ref l ∧ vs = [y] ∧ SqL K H l xs ∧ flatV y = true ∧ xs.all flatV = true ∧ Q (.int (countV y xs)) H
theorem mt_count : MtM X "list.count" (rCount X.K) := by
  intro pins s σ H x vs v us Q I rx rv h
  obtain ⟨l, xs, y, rfl, rfl, hq, fy, fs, q⟩ := h
  cases rx
  obtain ⟨u, rfl, ru⟩ := rv.one
  obtain ⟨its, r, pl, hz⟩ := I.list hq
  obtain ⟨⟨c, d, dt, sl⟩, n, ho, hc, hd, hdt⟩ := id pl
  simp only at hc hd hdt
  subst hc; subst hd; subst hdt
  refine call_meets F.slot_list_count ⟨_, ho, rfl⟩ F.entry_list_count (F.args_list_count_2 _ _) (SeqAt.list_countAt l its.toArray n none sl u (eqU y)) ⟨ho, fun z hz' => mem_eqAt ru fy r fs z (by simpa using hz'), ?_⟩
  refine ⟨.int _, H, I.tok _, ⟨_, rfl⟩, ?_⟩
  rw [List.toList_toArray, count_eqU r fs]
  exact q
/-! ### texts -/
def rSlS : V → Option Int → Option Int → Hp → VK → Prop := fun x lo hi H Q => ∃ z, x = .str z ∧ z.length ≤ sizeLine ∧ Q (.str (Txt.slice z lo hi)) H
theorem part_of {v : Value} {o : Option Int} (p : IsPart v o) : ∃ l : Option (Int × Tok), v = partValue l ∧ l.map (·.1) = o := by
  cases p with
  | none => exact ⟨none, rfl, rfl⟩
  | int i t => exact ⟨some (i, t), rfl, rfl⟩
theorem sl_str : SlR X rSlS := by
  intro pins s σ H x v vl vu lo hi sl Q I rx hs pl pu h
  obtain ⟨z, rfl, hz, q⟩ := h
  obtain ⟨t, rfl⟩ := rx
  obtain ⟨l, rfl, hl⟩ := part_of pl
  obtain ⟨u, rfl, hu⟩ := part_of pu
  subst hl; subst hu
  refine ⟨"str", _, F.slot_str_getitem.lookup, typeIs_str _ _ _, wpAny_getItem_str_slice (l := l) (u := u) (st := none) hs rfl (post_val_or_str ⟨Nat.le_trans (Txt.slice_le z _ _) hz, fun t' k => ?_⟩)⟩
  exact ⟨.str _, H, I.tok k, ⟨t', rfl⟩, q⟩
theorem op_mul_str : OpR X (binaryOp .Mult) (fun x y H Q => ∃ (z : Str) (n : Int), x = .str z ∧ y = .int n ∧ MulOk z n ∧ Q (.str (Txt.mul z n)) H) := by
  intro pins s σ H x y v u Q I rx ry h
  obtain ⟨z, n, rfl, rfl, hk, q⟩ := h
  obtain ⟨t, rfl⟩ := rx
  obtain ⟨t', rfl⟩ := ry
  exact SB.mul hk fun t'' k => ⟨.str _, H, I.tok k, ⟨t'', rfl⟩, q⟩
end
end L2

set_option Elab.async false
set_option linter.all false
set_option maxRecDepth 100000
set_option maxHeartbeats 4000000
set_option exponentiation.threshold 5000
namespace L2
open PySem PySem.Spec PyProof.Rows
/-! ### a def by its name -/
def Has (P : Program) (w : World) (K : PySem.W.Frag) (mg : Str → Option Value) (base : Heap) (x : Str) (k : Nat) (ps : List Str) (sp : Sp) : Prop :=
  ∃ f fd, FnOk P w K mg base CX0 k f fd ps sp ∧ Binds K fd ps [] ∧ PySem.W.keepIn K (.ref f) = true ∧ mg x = some (.ref f)
section
variable {P : Program} {w : World} {K : PySem.W.Frag} {mg : Str → Option Value} {base : Heap} {x qual : Str} {k : Nat} {ps : List Str} {sp : Sp} {st : Stmt} {f : Addr} {fd : FuncData}
theorem Has.mk (F : Fun K x qual st f fd) (b : Binds K fd ps []) (m : mg x = some (.ref f)) (h : FnOk P w K mg base CX0 k f fd ps sp) : Has P w K mg base x k ps sp := ⟨f, fd, h, b, F.kp, m⟩
end
section
variable {X : Cx} {x : Str} {j k : Nat} {ps : List Str} {sp : Sp} {p pos : Pos} {e : Expr} {es : List Expr} {t : TA}
theorem pe_fn (h : Has X.prog X.w X.K X.mg X.base x k ps sp) (hr : Room j X.A) (hk : k ≤ j) (ha : PA X (e :: es) t) (hg : Gl X x := by rfl) (hdb : (x == ("__debug__" : Str)) = false := by decide)
    (he : starEach (e :: es) X.env = (false, eval e X.env) :: starEach es X.env := by rfl) (hpl : (backTo pos (starEach es X.env)).any (·.1) = false := by rfl) :
    PE X (.Call (.Name x p) (e :: es) [] pos) (tCall sp [] E0 t) := by
  obtain ⟨f, fd, F, b, kp, m⟩ := h
  exact pe_call (F.mono hk) hr hg m kp b .nil pass0 ha hdb he hpl
def rLenS (K : PySem.W.Frag) : List V → Hp → VK → Prop := fun xs H Q => ∃ (p : Addr) (ys : List V), xs = [.ref p] ∧ (SqL K H p ys ∨ SqT K H p ys) ∧ Q (.int ys.length) H
theorem call_lenS : CallR X (.builtin "len") (rLenS X.K) := call_len_seq
def rIsi (K : PySem.W.Frag) : List V → Hp → VK → Prop := fun xs H Q => ∃ (x : V) (n : String) (t : Value) (b : Bool), xs = [x, .ty n] ∧ TyOf K H x t ∧ PySem.W.kitOne K t (.type n) = some b ∧ Q (.bl b) H
theorem call_isi : CallR X (.builtin "isinstance") (rIsi X.K) := call_isinst
theorem mr_append : MtR X "list.append" rAppend := mt_append
theorem mr_insert : MtR X "list.insert" rInsert := mt_insert
theorem mr_count : MtR X "list.count" (rCount X.K) := mt_count
theorem mr_reverse : MtR X "list.reverse" rReverse := mt_reverse
theorem mr_pop : MtR X "list.pop" rPop := mt_pop
theorem pe_ty (T : String) {x : Str} {pos : Pos} (hm : X.mg x = none) (hg : Gl X x := by rfl) (hv : bootBuiltins x = some (.type T) := by decide +kernel) (hn : x ≠ "__name__" := by decide) (hd : (x == ("__debug__" : Str)) = false := by decide) :
    PE X (.Name x pos) (tC (.ty T)) := pe_bltn hg hm hv rfl hn hd
/-! ### products and quotients of whatever size the laws have -/
def CBit (i j : Int) : Prop := i.natAbs < 2 ^ 1000 ∧ j.natAbs < 2 ^ 1000
theorem log_lt {n : Nat} (h : n < 2 ^ 1000) : n.log2 < 1000 := by
  rcases Nat.eq_zero_or_pos n with e | e
  · subst e; exact (show (0 : Nat).log2 < 1000 by decide)
  · exact (Nat.log2_lt (Nat.ne_of_gt e)).mpr h
theorem bits_le {i : Int} (h : i.natAbs < 2 ^ 1000) : Builtin.Int.intBits i ≤ 2 ^ 20 := by
  unfold Builtin.Int.intBits
  split
  · exact Nat.zero_le _
  · have := log_lt h
    have e : (2 : Nat) ^ 20 = 1048576 := by decide
    omega
theorem op_mulB : OpR X (binaryOp .Mult) (rI CBit fun i j => .int (i * j)) := opI fun _ _ _ _ _ _ _ hc q => mul_int q (.of_bits (bits_le hc.1) (bits_le hc.2))
theorem op_fdivB : OpR X (binaryOp .FloorDiv) (rI (fun _ j => 0 < j ∧ j.natAbs < 2 ^ 1000) fun i j => .int (i / j)) := opI fun i j _ _ _ _ _ hc q => by
  have h1 : (0 : Int) < j := hc.1
  have h2 := log_lt hc.2
  exact floordiv_int (by omega) (by rw [Int.fdiv_eq_ediv_of_nonneg i (by omega)]; exact q) (.inl (PyProof.noPylong_of_log2 (by omega)))
theorem pss_c {body rest : List Stmt} {st : Stmt} {t u : TS} (e : body = st :: rest) (h : PS X st t) (h2 : PSs X rest u) : PSs X body (tSeq t u) := by rw [e]; exact pss_cons h h2
theorem pss_o {body : List Stmt} {st : Stmt} {t : TS} (e : body = [st]) (h : PS X st t) : PSs X body t := by rw [e]; exact pss_one h
/-! ### a cut behind a statement -/
def tCut (t : TS) : TS := fun D σ H => ∃ J : St → Hp → Prop, t { D with nx := J } σ H ∧ ∀ σ' H', J σ' H' → D.nx σ' H'
theorem ps_cut {st : Stmt} {t : TS} (h : PS X st t) : PS X st (tCut t) := by
  intro pins s σ H D I hw
  obtain ⟨J, h1, h2⟩ := hw
  refine thn (h pins s σ H _ I h1) fun f s' q => ?_
  cases f with
  | next => obtain ⟨σ', H', I', q⟩ := q; exact ⟨σ', H', I', h2 σ' H' q⟩
  | ret v => exact q
  | brk => exact q
  | cont => exact q
end
/-! ### for over a list or a tuple that the body leaves as it is -/
theorem for_sq {K : PySem.W.Frag} {tp : Bool} {a : Addr} {xs : List V} {g : TG} {tb : TS} {D : Ends} {σ : St} {H : Hp} (Pv : Nat → St → Hp → Prop) (h0 : Pv 0 σ H) (hl : ∀ i σ H, i ≤ xs.length → Pv i σ H → SqB K tp H a xs)
    (hs : ∀ i x σ H, xs[i]? = some x → Pv i σ H → g x σ H fun σ2 H2 => tb { D with nx := Pv (i + 1), ct := Pv (i + 1), bk := D.nx } σ2 H2) (hd : ∀ σ H, Pv xs.length σ H → D.nx σ H) :
    ∃ W : Nat → Nat → St → Hp → Prop, (∃ m, W 0 m σ H) ∧ ∀ i m σ H, W i m σ H →
      ((Its K tp a xs).stop i H ∧ D.nx σ H) ∨ ((Its K tp a xs).go i H ∧ ∃ N : St → Hp → Prop, (∀ σ' H', N σ' H' → ∃ m', m' < m ∧ W (i + 1) m' σ' H') ∧ ∀ x H', (Its K tp a xs).yld i H x H' → g x σ H' fun σ2 H2 => tb { D with nx := N, ct := N, bk := D.nx } σ2 H2) := by
  refine ⟨fun i m σ H => m = xs.length - i ∧ i ≤ xs.length ∧ Pv i σ H, ⟨xs.length, by simp, Nat.zero_le _, h0⟩, fun i m σ H ⟨e, hi, p⟩ => ?_⟩
  subst e
  have q := hl i σ H hi p
  by_cases hlt : i < xs.length
  · refine .inr ⟨⟨q, hlt⟩, Pv (i + 1), fun σ' H' p' => ⟨xs.length - (i + 1), by omega, rfl, hlt, p'⟩, fun x H' y => ?_⟩
    obtain ⟨e, y⟩ := y
    subst e
    exact hs i x σ _ y p
  · have e : i = xs.length := by omega
    subst e
    exact .inl ⟨⟨q, Nat.le_refl _⟩, hd σ H p⟩
/-! ### heaps: all but one stays -/
def SameX (p : Addr) (H H' : Hp) : Prop := ∀ b o, b ≠ p → H b = some o → H' b = some o
theorem SameX.refl (p : Addr) (H : Hp) : SameX p H H := fun _ _ _ e => e
theorem SameX.trans {p : Addr} {H H1 H2 : Hp} (a : SameX p H H1) (b : SameX p H1 H2) : SameX p H H2 := fun c o hc e => b c o hc (a c o hc e)
theorem SameX.of {p : Addr} {H H' : Hp} (a : Same H H') : SameX p H H' := fun c o _ e => a c o e
theorem SameX.upd {p : Addr} {H : Hp} {o : HO} : SameX p H (upd H p o) := fun c u hc e => by rw [upd_ne hc]; exact e
/-- p was not there: nothing that was there has changed -/
theorem SameX.new {p : Addr} {H H' : Hp} (a : SameX p H H') (h : H p = none) : Same H H' := fun c o e => a c o (ne_of_none e h) e
theorem SameX.sqL {K : PySem.W.Frag} {p : Addr} {H H' : Hp} {a : Addr} {xs : List V} (e : SameX p H H') (hp : ∃ ys, H p = some (.lst ys)) (hne : a ≠ p) (h : SqL K H a xs) : SqL K H' a xs := by
  rcases h with (h | ⟨o, h⟩) | h
  · exact .inl (.inl (e _ _ hne h))
  · exact .inl (.inr ⟨o, e _ _ hne h⟩)
  · exact .inr h
theorem SameX.sqT {K : PySem.W.Frag} {p : Addr} {H H' : Hp} {a : Addr} {xs : List V} (e : SameX p H H') (hne : a ≠ p) (h : SqT K H a xs) : SqT K H' a xs := by
  rcases h with (h | ⟨o, h⟩) | h
  · exact .inl (.inl (e _ _ hne h))
  · exact .inl (.inr ⟨o, e _ _ hne h⟩)
  · exact .inr h
end L2

set_option Elab.async false
set_option linter.all false
set_option maxRecDepth 100000
set_option maxHeartbeats 8000000
namespace L2
open PySem PySem.Spec PyProof.Rows
/-! ### a set of texts, made of a list or a tuple -/
def ddStep (acc : List Str) (x : Str) : List Str := if acc.any (· == x) then acc else acc ++ [x]
def dd (ss : List Str) : List Str := ss.foldl ddStep []
theorem ddStep_any (acc : List Str) (x k : Str) : (ddStep acc x).any (· == k) = (acc.any (· == k) || decide (k = x)) := by
  unfold ddStep
  by_cases h : acc.any (· == x) = true
  · rw [if_pos h]
    by_cases e : k = x
    · subst e; rw [h]; simp
    · simp [e]
  · rw [if_neg h, List.any_append]
    by_cases e : k = x
    · subst e; simp
    · have hb : (x == k) = false := by simpa [beq_iff_eq] using (fun h' : x = k => e h'.symm)
      simp [hb, e]
theorem ddStep_len (acc : List Str) (x : Str) : (ddStep acc x).length = if acc.any (· == x) then acc.length else acc.length + 1 := by
  unfold ddStep; split <;> simp
theorem dd_take (ss : List Str) (i : Nat) (h : i < ss.length) : dd (ss.take (i + 1)) = ddStep (dd (ss.take i)) ss[i] := by
  unfold dd
  rw [List.take_succ_eq_append_getElem h, List.foldl_append]; rfl
theorem dd_len (ss : List Str) : (dd ss).length ≤ ss.length := by
  have : ∀ (l acc : List Str), (l.foldl ddStep acc).length ≤ acc.length + l.length := by
    intro l
    induction l with
    | nil => intro acc; simp
    | cons x r ih =>
      intro acc
      rw [List.foldl_cons]
      have h1 := ih (ddStep acc x)
      rw [ddStep_len] at h1
      simp only [List.length_cons]
      split at h1 <;> omega
  have q := this ss []
  simp only [List.length_nil, Nat.zero_add] at q
  exact q
section
variable {prog : Program} {w : World} {A : Around} {R : Result → Shared → Prop} {I : Addr} {fp wr : List Addr} {G : Array GenState → Array GenState → Prop} {n : Nat} {P : Nat → Value → Prop} {St : Nat → Shared → Prop} {ss : List Str}
/-- set.update's turns over texts -/
theorem set_turns (W : WalksS prog w A.in1 I fp wr G ss.length P St) (S : Addr) (hSf : S ∉ fp) (hval : ∀ i v, P i v → ∃ (h : i < ss.length) (t : Tok), v = .str ss[i] t) (hb : ss.length + 1 < scanBound) :
    ∀ (k i : Nat) (s : Shared), ss.length - i = k → i ≤ ss.length → St i s → s.heap.SetOf (strKind prog w) S (fun k' => (dd (ss.take i)).any (· == k')) (dd (ss.take i)).length →
      (∀ s', Moved (S :: wr) G s s' → s'.heap.SetOf (strKind prog w) S (fun k' => (dd ss).any (· == k')) (dd ss).length → R (.ok (.ret .none)) s') →
      codeAny (model prog w) A (.builtin "set.update.loop" ⟨[.ref S, .ref I], []⟩) R s := by
  have hSw : S ∉ wr := fun h => hSf (W.sub _ h)
  have keepS : ∀ {s s' : Shared} {f : Str → Bool} {m : Nat}, Moved wr G s s' → s.heap.SetOf (strKind prog w) S f m → s'.heap.SetOf (strKind prog w) S f m := fun hm hS => by
    obtain ⟨o, es, ep, t, ho, r⟩ := hS
    exact ⟨o, es, ep, t, hm.heap S _ hSw ho, r⟩
  intro k
  induction k with
  | zero =>
    intro i s hk hi hst hS fin
    have e : i = ss.length := by omega
    subst e
    refine codeAny_builtin PyProof.Rows.F.entry_set_update_loop (by
      rw [Around.under_plainId PyProof.Rows.F.plain_set_update_loop _]
      show wpAny _ A.in1 (pyNext (.ref I) >>= _) _ _ s
      refine wpAny_bind (W.done s _ _ hst fun s' hm => ?_)
      show wpAny _ A.in1 (ret Value.none) _ _ s'
      rw [List.take_length] at hS
      exact wpAny_pure (fin s' (hm.mono fun b hb => List.mem_cons_of_mem _ hb) (keepS hm hS)))
  | succ k ih =>
    intro i s hk hi hst hS fin
    have hlt : i < ss.length := by omega
    refine codeAny_builtin PyProof.Rows.F.entry_set_update_loop ?_
    rw [Around.under_plainId PyProof.Rows.F.plain_set_update_loop _]
    show wpAny _ A.in1 (pyNext (.ref I) >>= _) _ _ s
    refine wpAny_bind (W.item i s _ _ hlt hst fun v s' hP hst' hm => ?_)
    obtain ⟨_, t, rfl⟩ := hval i v hP
    have hS' := keepS hm hS
    show wpAny _ A.in1 (holding [Value.str ss[i] t] (setAdd S (.str ss[i] t)) >>= _) _ _ s'
    refine wpAny_bind (wpAny_holding ?_)
    unfold setAdd
    have his : (strKind prog w).is ss[i] (.str ss[i] t) = true := strKind_is prog w ss[i] t
    refine wpAny_holding (wpAny_bind ((strKind prog w).pyHash his ?_))
    have hroom : (dd (ss.take i)).length + 1 < scanBound := by
      have := dd_len (ss.take i)
      rw [List.length_take] at this
      omega
    refine wpAny_setAddHashed_of (knd := strKind prog w) (s := { s' with toks := s'.toks + 1 }) his rfl hS' hroom fun h' hsb hS2 => ?_
    have hSi : h'.SetOf (strKind prog w) S (fun k' => (dd (ss.take (i + 1))).any (· == k')) (dd (ss.take (i + 1))).length :=
      SetOf_congr hS2 (fun k' => by rw [dd_take ss i hlt, ddStep_any]) (by rw [dd_take ss i hlt, ddStep_len])
    refine wpAny_pure ⟨plainId_quiet PyProof.Rows.F.plain_set_update_loop _, ih (i + 1) _ (by omega) hlt (W.frame _ s' _ _ hst' (Nat.le_succ _) fun b hb o e => ?_) hSi fun s'' hm'' hS'' => ?_⟩
    · rw [hsb.2 b (by rintro rfl; exact hSf hb)]; exact e
    · refine fin s'' (Moved.trans W.gtrans ((hm.mono fun b hb => List.mem_cons_of_mem _ hb).then_heap (Nat.le_succ _) fun b o hb e => ?_) hm'') hS''
      rw [hsb.2 b (by rintro rfl; exact hb List.mem_cons_self)]; exact e
end
section
variable {prog : Program} {w : World} {A : Around} {E : Value → Shared → Prop} {s : Shared} {ss : List Str}
theorem sub_tuple_set : isSubtype (.type "tuple") (.type "set") = pure false := by rw [isSubtype_type]; kernel_rfl
theorem sub_tuple_frozenset : isSubtype (.type "tuple") (.type "frozenset") = pure false := by rw [isSubtype_type]; kernel_rfl
/-- set(x), x a list or a tuple of texts -/
theorem call_set_texts {l : Addr} {T : String} {items : Array Value} {nl : Nat} {od : Option Addr} {osl : Array (Option Value)} {Q : Value → Shared → Prop} (ho : s.heap.get? l = some { cls := .type T, dict := od, data := .seq items nl, slots := osl })
    (hs1 : isSubtype (.type T) (.type "set") = pure false) (hs2 : isSubtype (.type T) (.type "frozenset") = pure false) (hne : (Value.type T == Value.type "dict") = false) (hb : ss.length + 1 < scanBound)
    (hit : ∀ (s1 : Shared) (A1 : Around) (Q1 : Value → Shared → Prop), A1.handled = A.handled → s1.heap.get? l = s.heap.get? l → l < s1.heap.objs.size →
      (∀ ob St P, WalksS prog w A1.in1 s1.heap.objs.size [s1.heap.objs.size, l] [s1.heap.objs.size] (fun a b => b = a) ss.length P St → (∀ i v, P i v → ∃ (h : i < ss.length) (t : Tok), v = .str ss[i] t) → St 0 { s1 with heap := s1.heap.push ob } → Q1 (.ref s1.heap.objs.size) { s1 with heap := s1.heap.push ob }) →
      wpAny (model prog w) A1 (pyIter (.ref l)) Q1 E s1)
    (h : ∀ (h' : Heap) (tk : Nat), h'.SetOf (strKind prog w) s.heap.objs.size (fun k' => (dd ss).any (· == k')) (dd ss).length → (∀ b o, b < s.heap.objs.size → s.heap.get? b = some o → h'.get? b = some o) → Q (.ref s.heap.objs.size) { s with heap := h', toks := tk }) :
    wpAny (model prog w) A (call (.type "set") [.ref l]) Q E s := by
  have hlt : l < s.heap.objs.size := Heap.lt_size ho
  obtain ⟨c, tl, hmro⟩ := PySem.F.called_set.mro
  have hmade := PySem.F.called_set.made; have hsub := PySem.F.called_set.sub
  refine wpAny_call (codeAny_of_tree (by
    show wpAny _ _ (callAny (.type "set") _) _ _ _
    refine wpAny_pure ⟨Code.quiet_builtin _ (by decide +kernel), codeAny_builtin PySem.F.entry_type_call ?_⟩
    rw [Around.under_plain (weight_type_call_type "set" [.ref l] []) rfl]
    have h1 := PySem.F.called_set.notType; have h2 := PySem.F.called_set.canCreate; have hct := PySem.F.typeCall_set_1 (.ref l)
    repeat (any_goals (first | assumption | wp_step))
    refine codeAny_mono (code_set_new_1 (.ref l) (E := E) (Q₁ := fun obj s₁ => ∃ led : Bool, obj = .ref s.heap.objs.size ∧ s₁ = { s with heap := s.heap.push { cls := .type "set", dict := none, data := .set #[] 0 (.fresh 0 0 led) } }) fun led => ⟨led, rfl, rfl⟩) fun r s₁ hr => ?_
    cases r with
    | error e => exact hr
    | ok fl =>
      cases fl with
      | ret obj =>
        obtain ⟨led, rfl, rfl⟩ := hr
        generalize hSo : ({ cls := .type "set", dict := none, data := .set #[] 0 (.fresh 0 0 led) } : Obj) = so
        have hsz : (s.heap.push so).objs.size = s.heap.objs.size + 1 := Heap.size_push ..
        have hS : (s.heap.push so).get? s.heap.objs.size = some so := Heap.get?_push_size _ (by rw [← hSo]; rfl)
        have hT : Shared.TypeIs { s with heap := s.heap.push so } (.ref s.heap.objs.size) "set" := ⟨_, hS, by rw [← hSo]⟩
        have hli := PySem.F.called_set.init.lookup; have hbi := PySem.F.called_set.init.bind (.ref s.heap.objs.size)
        repeat (any_goals (first | assumption | wp_step))
        refine codeAny_mono (codeAny_call_builtin (R := wants (fun r s₂ => r = .none ∧ ∃ h' tk, s₂ = { s with heap := h', toks := tk } ∧ h'.SetOf (strKind prog w) s.heap.objs.size (fun k' => (dd ss).any (· == k')) (dd ss).length ∧
            (∀ b o, b < s.heap.objs.size → s.heap.get? b = some o → h'.get? b = some o)) E) PySem.F.called_set.init.plain PySem.F.entry_set_init (check_set_init_1 hT ?_)) fun r₂ s₂ hr₂ => ?_
        · have ho' : (s.heap.push so).get? l = some { cls := .type T, dict := od, data := .seq items nl, slots := osl } := Heap.get?_push_of_some _ ho
          subst hSo
          unfold Builtin.«set.__init__» noKeywords Builtin.Frozenset.updateFrom
          generalize hPI : pyIter = PI
          wp_walk
          subst hPI
          refine hit { s with heap := s.heap.push _ } _ _ rfl (ho'.trans ho.symm) (Nat.lt_of_lt_of_eq (Nat.lt_succ_of_lt hlt) hsz.symm) fun ob St P W hval st0 => ?_
          refine wpAny_bind (wpAny_runValue ?_)
          have hSf : s.heap.objs.size ∉ [(s.heap.push { cls := .type "set", dict := none, data := .set #[] 0 (.fresh 0 0 led) }).objs.size, l] := by
            rw [hsz]; simp only [List.mem_cons, List.not_mem_nil, or_false, not_or]
            exact ⟨Nat.ne_of_lt (Nat.lt_succ_self _), Nat.ne_of_gt hlt⟩
          refine set_turns W s.heap.objs.size hSf hval hb (ss.length - 0) 0 _ rfl (Nat.zero_le _) st0 ?_ ?_
          · have hg := Heap.get?_push_of_some ob hS
            exact SetOf_congr ((setObjOf_fresh (knd := strKind prog w) led).setOf hg (by unfold scanBound; omega)) (fun _ => rfl) rfl
          · intro s' hm hS'
            obtain ⟨h', g', d', tk', os'⟩ := s'
            have eg : g' = s.gens := hm.gens
            have ed : d' = s.drawn := hm.drawn
            have eo : os' = s.os := hm.os
            subst eg; subst ed; subst eo
            show wpAny _ _ _ _ _ _
            refine wpAny_pure ?_
            show wpAny _ _ (ret Value.none) _ _ _
            refine wpAny_pure ⟨rfl, h', tk', rfl, hS', fun b o hb' e => ?_⟩
            refine hm.heap b o ?_ (Heap.get?_push_of_some _ (Heap.get?_push_of_some _ e))
            rw [hsz]; simp only [List.mem_cons, List.not_mem_nil, or_false, not_or]
            exact ⟨Nat.ne_of_lt hb', Nat.ne_of_lt (Nat.lt_succ_of_lt hb')⟩
        · cases r₂ with
          | error e => exact hr₂
          | ok fl₂ =>
            cases fl₂ with
            | ret r =>
              obtain ⟨rfl, h', tk, rfl, hS', hk'⟩ := hr₂
              repeat (any_goals (first | assumption | wp_step))
              exact h _ _ hS' hk'
            | _ => exact hr₂.elim
      | _ => exact hr.elim))
end
/-- a tracked set of texts -/
def SetO (P : Program) (w : World) (a : Addr) (f : Str → Bool) (n : Nat) : HO := .ext fun h => h.SetOf (strKind P w) a f n
section
variable {X : Cx}
theorem strs_at {ss : List Str} {its : List Value} (r : Vals (ss.map V.str) its) {i : Nat} {v : Value} (e : its[i]? = some v) : ∃ (h : i < ss.length) (t : Tok), v = .str ss[i] t := by
  have hl := r.length
  rw [List.length_map] at hl
  have hi : i < its.length := (List.getElem?_eq_some_iff.mp e).1
  have hi' : i < ss.length := by omega
  have e1 : (ss.map V.str)[i]? = some (.str ss[i]) := by rw [List.getElem?_map, List.getElem?_eq_getElem hi']; rfl
  obtain ⟨u, hu, ru⟩ := r.get e1
  rw [e] at hu; cases hu
  obtain ⟨t, q⟩ := ru
  exact ⟨hi', t, q⟩
theorem call_set (hc : X.calm = true) : CallR X (.type "set") (fun xs H Q => ∃ (p : Addr) (tp : Bool) (ss : List Str), xs = [.ref p] ∧ SqB X.K tp H p (ss.map V.str) ∧ ss.length < 4000 ∧
    ∀ l, H l = none → Q (.ref l) (upd H l (SetO X.prog X.w l (fun k' => (dd ss).any (· == k')) (dd ss).length))) := by
  intro pins s σ H xs us Q I r h
  obtain ⟨p, tp, ss, rfl, hq, hz, q⟩ := h
  obtain ⟨u, rfl, rx⟩ := vals1 r
  cases rx
  have hb : ss.length + 1 < scanBound := by unfold scanBound; omega
  have fin : ∀ (h' : Heap) (tk : Nat), h'.SetOf (strKind X.prog X.w) s.heap.objs.size (fun k' => (dd ss).any (· == k')) (dd ss).length → (∀ b o, b < s.heap.objs.size → s.heap.get? b = some o → h'.get? b = some o) →
      EP X pins σ Q (.ref s.heap.objs.size) { s with heap := h', toks := tk } := fun h' tk hS kp => by
    refine ⟨.ref s.heap.objs.size, _, I.laid (t' := tk) (fun b o e => kp b o (Heap.lt_size e) e) (Nat.le_refl _) (show ObjOk X.prog X.w _ h' _ (SetO X.prog X.w s.heap.objs.size _ _) from ⟨hS, ?_, fun h1 h2 hS1 kp1 => ?_⟩), rfl, q _ (I.hok.fresh (Nat.le_refl _))⟩
    · obtain ⟨o, _, _, _, ho, _⟩ := hS
      exact ⟨o, ho⟩
    · obtain ⟨o, es, ep, t, ho, r⟩ := hS1
      exact ⟨o, es, ep, t, kp1 o ho, r⟩
  cases tp with
  | false =>
    obtain ⟨its, rv, pl, hz'⟩ := I.list hq
    have hl := rv.length
    rw [List.length_map] at hl
    obtain ⟨⟨c, d, dt, sl⟩, n, ho, hcl, hd, hdt⟩ := id pl
    simp only at hcl hd hdt
    subst hcl; subst hd; subst hdt
    refine call_set_texts ho PySem.F.sub_list_set PySem.F.sub_list_frozenset (by decide) hb (fun s1 A1 Q1 hA e1 l1 hQ1 => ?_) fin
    have hl1 : s1.heap.IsList p its.toArray := ⟨_, e1.trans ho, rfl, n, rfl⟩
    have hsz' : its.toArray.size = ss.length := List.size_toArray.trans hl.symm
    refine wpAny_pyIter_list hl1 (hQ1 _ (fun i s => s.heap.IsListIter s1.heap.objs.size p i ∧ s.heap.IsList p its.toArray) (fun i v => its.toArray[i]? = some v) (by
      have W := (Walks.list (prog := X.prog) (w := X.w) (A := A1.in1) (by rw [Around.in1_handled, hA]; exact I.ok.hd hc) s1.heap.objs.size p (Nat.ne_of_lt l1) its.toArray).toS
      rw [hsz'] at W
      exact W) (fun i v e => strs_at rv (by simpa using e)) ⟨⟨_, Heap.get?_push_size _ rfl, rfl, rfl⟩, hl1.push _⟩)
  | true =>
    obtain ⟨its, rv, pl, hz'⟩ := I.tuple hq
    have hl := rv.length
    rw [List.length_map] at hl
    obtain ⟨⟨c, d, dt, sl⟩, ho, hcl, n, hdt⟩ := id pl
    simp only at hcl hdt
    subst hcl; subst hdt
    refine call_set_texts ho sub_tuple_set sub_tuple_frozenset (by decide) hb (fun s1 A1 Q1 hA e1 l1 hQ1 => ?_) fin
    have hl1 : s1.heap.IsTuple p its.toArray := ⟨_, e1.trans ho, rfl, n, rfl⟩
    have hsz' : its.toArray.size = ss.length := List.size_toArray.trans hl.symm
    refine wpAny_pyIter_tuple hl1 (hQ1 _ (fun i s => s.heap.IsTupleIter s1.heap.objs.size p i ∧ s.heap.IsTuple p its.toArray) (fun i v => its.toArray[i]? = some v) (by
      have W := (Walks.tuple (prog := X.prog) (w := X.w) (A := A1.in1) (by rw [Around.in1_handled, hA]; exact I.ok.hd hc) s1.heap.objs.size p (Nat.ne_of_lt l1) its.toArray).toS
      rw [hsz'] at W
      exact W) (fun i v e => strs_at rv (by simpa using e)) ⟨⟨_, Heap.get?_push_size _ rfl, rfl, rfl⟩, ?_⟩)
    exact ⟨_, Heap.get?_push_of_some _ (e1.trans ho), rfl, n, rfl⟩
theorem call_len_set : CallR X (.builtin "len") (fun xs H Q => ∃ l f n, xs = [.ref l] ∧ H l = some (SetO X.prog X.w l f n) ∧ Q (.int n) H) := by
  intro pins s σ H xs us Q I r h
  obtain ⟨l, f, n, rfl, hH, q⟩ := h
  obtain ⟨u, rfl, rx⟩ := vals1 r
  cases rx
  obtain ⟨⟨o, es, ep, t, ho, hex, hd, _, _, hsb, hf, hn⟩, _, _⟩ := I.hok l _ hH
  subst hn
  refine PySem.call_len_set ho hex hd hf ?_ ⟨.int _, H, I.tok _, ⟨_, rfl⟩, q⟩
  have : es.size < 4096 := hsb
  have h2 : (4096 : Int) < 2 ^ 63 := by decide
  omega
end
end L2

set_option Elab.async false
set_option linter.all false
set_option maxRecDepth 100000
set_option maxHeartbeats 4000000
namespace L2
open PySem PySem.Spec PyProof.Rows
/-! ### the judgements, shut: so that nothing looks into the runs that they speak of -/
structure QE (X : Cx) (e : Expr) (t : TE) : Prop where h : PE X e t
structure QT (X : Cx) (e : Expr) (t : TT) : Prop where h : PT X e t
structure QW (X : Cx) (e : Expr) (t : TT) : Prop where h : PW X e t
structure QA (X : Cx) (es : List Expr) (t : TA) : Prop where h : PA X es t
structure QS (X : Cx) (st : Stmt) (t : TS) : Prop where h : PS X st t
structure QSs (X : Cx) (st : List Stmt) (t : TS) : Prop where h : PSs X st t
structure QG (X : Cx) (tg : Expr) (t : TG) : Prop where h : PG X tg t
structure QGs (X : Cx) (ts : List Expr) (t : TGs) : Prop where h : PGs X ts t
structure QI (X : Cx) (tg iter : Expr) (wi : TI) : Prop where h : PI X tg iter wi
structure QIf (X : Cx) (ifs : List Expr) (t : TT) : Prop where h : PIfs X ifs t
structure QO (X : Cx) (e : Option Expr) (t : TO) : Prop where h : PO X e t
section
variable {X : Cx} {a b c e o : Expr} {es rest : List Expr} {ta tb tc te to : TE} {tA tB' : TT} {t : TA} {pos p p2 apos cpos : Pos} {x : Str}
theorem qv (i : Nat) {x : Str} {pos : Pos} (hN : X.N[i]? = some x := by rfl) (hv : Vis X.env.scope x := by first | exact Or.inl rfl | exact Or.inr (Or.inl rfl) | exact Or.inr (Or.inr rfl)) (hd : (x == ("__debug__" : Str)) = false := by decide)
    (hcd : (x == ("__classdict__" : Str)) = false := by decide) : QE X (.Name x pos) (tVar i) := ⟨pe_var hN hv hd hcd⟩
theorem qe_int {i j pos} : QE X (.Constant (.int i) j pos) (tC (.int i)) := ⟨pe_int⟩
theorem qe_bl {b j pos} : QE X (.Constant (.bool b) j pos) (tC (.bl b)) := ⟨pe_bl⟩
theorem qe_non {j pos} : QE X (.Constant .none j pos) (tC .non) := ⟨pe_non⟩
theorem qe_str {x j pos} : QE X (.Constant (.str x) j pos) (tC (.str x)) := ⟨pe_str⟩
theorem qe_glob {v : V} {u : Value} (hg : Gl X x) (hm : X.mg x = some u) (r : RelV v u) (hd : (x == ("__debug__" : Str)) = false := by decide) : QE X (.Name x pos) (tC v) := ⟨pe_glob hg hm r hd⟩
theorem qe_ty (T : String) {x : Str} {pos : Pos} (hm : X.mg x = none) (hg : Gl X x := by rfl) (hv : bootBuiltins x = some (.type T) := by decide +kernel) (hn : x ≠ "__name__" := by decide) (hd : (x == ("__debug__" : Str)) = false := by decide) :
    QE X (.Name x pos) (tC (.ty T)) := ⟨pe_ty T hm hg hv hn hd⟩
theorem qe_op {op : Operator} {r : R2} (ho : OpR X (binaryOp op) r) (ha : QE X a ta) (hb : QE X b tb) : QE X (.BinOp a op b pos) (tOp r ta tb) := ⟨pe_op ho ha.h hb.h⟩
theorem qe_un {op : UnaryOp} {r : V → Hp → VK → Prop} (ho : UnR X (unaryOp op) r) (ha : QE X a ta) : QE X (.UnaryOp op a pos) (tUn r ta) := ⟨pe_un ho ha.h⟩
theorem qe_cmpR {op : CmpOp} {r : R2} (ho : OpR X (compareOp op) r) (ha : QE X a ta) (hb : QE X b tb) (hm : behindInMarks op b = false) : QE X (.Compare a [op] [b] pos) (tOp r ta tb) := ⟨pe_cmpR ho ha.h hb.h hm⟩
theorem qt_cmpR {op : CmpOp} {r : R2} (ho : OpR X (compareOp op) r) (ha : QE X a ta) (hb : QE X b tb) (hm : behindInMarks op b = false) : QT X (.Compare a [op] [b] pos) (tTest (tOp r ta tb)) := ⟨pt_cmpR ho ha.h hb.h hm⟩
theorem qe_chain {op op' : CmpOp} {r r' : R2} (ho : OpR X (compareOp op) r) (ho' : OpR X (compareOp op') r') (ha : QE X a ta) (hb : QE X b tb) (hc : QE X c tc)
    (hm : lastMarks [op, op'] [b, c] = false := by with_unfolding_all rfl) : QE X (.Compare a [op, op'] [b, c] pos) (tChain r r' ta tb tc) := ⟨pe_chain ho ho' ha.h hb.h hc.h hm⟩
theorem qt_chain {op op' : CmpOp} {r r' : R2} (ho : OpR X (compareOp op) r) (ho' : OpR X (compareOp op') r') (ha : QE X a ta) (hb : QE X b tb) (hc : QE X c tc)
    (hm : lastMarks [op, op'] [b, c] = false := by with_unfolding_all rfl) : QT X (.Compare a [op, op'] [b, c] pos) (tTest (tChain r r' ta tb tc)) := ⟨pt_chain ho ho' ha.h hb.h hc.h hm⟩
theorem qe_one {op} (h : QE X a ta) : QE X (.BoolOp op [a] pos) ta := ⟨pe_one h.h⟩
theorem qe_and (ha : QE X a ta) (hb : QE X (.BoolOp .And (b :: rest) pos) tb) : QE X (.BoolOp .And (a :: b :: rest) pos) (tAndV ta tb) := ⟨pe_and ha.h hb.h⟩
theorem qe_or (ha : QE X a ta) (hb : QE X (.BoolOp .Or (b :: rest) pos) tb) : QE X (.BoolOp .Or (a :: b :: rest) pos) (tOrV ta tb) := ⟨pe_or ha.h hb.h⟩
theorem qe_not (ha : QE X a ta) : QE X (.UnaryOp .Not a pos) (tNotV ta) := ⟨pe_not ha.h⟩
theorem qw_and1 (ha : QT X a tA) : QW X (.BoolOp .And [a] pos) tA := ⟨pw_and1 ha.h⟩
theorem qw_or1 (ha : QT X a tA) : QW X (.BoolOp .Or [a] pos) tA := ⟨pw_or1 ha.h⟩
theorem qw_and (ha : QT X a tA) (hb : QW X (.BoolOp .And (b :: rest) pos) tB') : QW X (.BoolOp .And (a :: b :: rest) pos) (tAnd tA tB') := ⟨pw_and ha.h hb.h⟩
theorem qw_or (ha : QT X a tA) (hb : QW X (.BoolOp .Or (b :: rest) pos) tB') : QW X (.BoolOp .Or (a :: b :: rest) pos) (tOr tA tB') := ⟨pw_or ha.h hb.h⟩
theorem QW.pt {e : Expr} {t : TT} (h : QW X e t) : QT X e t := ⟨h.h.pt⟩
theorem qt_not (ha : QT X a tA) : QT X (.UnaryOp .Not a pos) (tNot tA) := ⟨pt_not ha.h⟩
theorem qt_val (h : QE X e te) (he : ∀ whole, isTrue e X.env whole = (do let v ← whole; standAt e.pos; holding [v] (truthy v)) := by intro _; rfl) : QT X e (tB te) := ⟨pt_val h.h he⟩
theorem qe_ifExp {c : Expr} (hc : QT X c tA) (ha : QE X a ta) (hb : QE X b tb) : QE X (.IfExp c a b pos) (tIf tA ta tb) := ⟨pe_ifExp hc.h ha.h hb.h⟩
theorem qa_nil : QA X [] tNil := ⟨pa_nil⟩
theorem qa_cons (ha : QE X e te) (hr : QA X es t) (hs : starEach (e :: es) X.env = (false, eval e X.env) :: starEach es X.env := by rfl) : QA X (e :: es) (tCons te t) := ⟨pa_cons ha.h hr.h hs⟩
theorem qe_tup {x1} (h : QA X es t) : QE X (.Tuple es x1 pos) (tTup t) := ⟨pe_tup h.h⟩
theorem qe_lst (h : QA X es t) : QE X (.List es pos) (tLst t) := ⟨pe_lst h.h⟩
theorem qo_none : QO X none tNoPart := ⟨po_none⟩
theorem qo_some (h : QE X e te) : QO X (some e) (tPart te) := ⟨po_some h.h⟩
theorem qe_slice {r : V → Option Int → Option Int → Hp → VK → Prop} {lo hi : Option Expr} {tl th : TO} (hr : SlR X r) (he : QE X e te) (hl : QO X lo tl) (hu : QO X hi th) : QE X (.Subscript e (.Slice lo hi none p2) pos) (tSl r te tl th) := ⟨pe_slice hr he.h hl.h hu.h⟩
theorem qe_ix {r : R2} (hr : IxR X r) (ha : QE X a ta) (hb : QE X b tb) (hs : PlainIx b) : QE X (.Subscript a b pos) (tOp r ta tb) := ⟨pe_ix hr ha.h hb.h hs⟩
theorem qe_fn {j k : Nat} {ps : List Str} {sp : Sp} (h : Has X.prog X.w X.K X.mg X.base x k ps sp) (hr : Room j X.A) (hk : k ≤ j) (ha : QA X (e :: es) t) (hg : Gl X x := by rfl) (hdb : (x == ("__debug__" : Str)) = false := by decide)
    (he : starEach (e :: es) X.env = (false, eval e X.env) :: starEach es X.env := by rfl) (hpl : (backTo pos (starEach es X.env)).any (·.1) = false := by rfl) : QE X (.Call (.Name x p) (e :: es) [] pos) (tCall sp [] E0 t) := ⟨pe_fn h hr hk ha.h hg hdb he hpl⟩
theorem qe_callB {id : String} {r : List V → Hp → VK → Prop} (hc : CallR X (.builtin id) r) (hg : Gl X x) (hm : X.mg x = none) (hv : bootBuiltins x = some (.builtin id)) (ha : QA X (e :: es) t) (hn : x ≠ "__name__" := by decide) (hdb : (x == ("__debug__" : Str)) = false := by decide)
    (he : starEach (e :: es) X.env = (false, eval e X.env) :: starEach es X.env := by rfl) (hpl : (backTo pos (starEach es X.env)).any (·.1) = false := by rfl) : QE X (.Call (.Name x p) (e :: es) [] pos) (tCB r t) := ⟨pe_callB hc hg hm hv ha.h hn hdb he hpl⟩
theorem qe_callTy {T : String} {r : List V → Hp → VK → Prop} (hc : CallR X (.type T) r) (hg : Gl X x) (hm : X.mg x = none) (hv : bootBuiltins x = some (.type T)) (ha : QA X (e :: es) t) (hn : x ≠ "__name__" := by decide) (hdb : (x == ("__debug__" : Str)) = false := by decide)
    (he : starEach (e :: es) X.env = (false, eval e X.env) :: starEach es X.env := by rfl) (hpl : (backTo pos (starEach es X.env)).any (·.1) = false := by rfl) : QE X (.Call (.Name x p) (e :: es) [] pos) (tCB r t) := ⟨pe_callTy hc hg hm hv ha.h hn hdb he hpl⟩
theorem qe_bm0 {name : Str} {T id : String} {r : V → List V → Hp → VK → Prop} (pa : PlainAttrs T) (slot : Slot T name id) (hty : typeOf (.builtin id) = pure (.type "method_descriptor")) (hm : MtR X id r) (ho : QE X o to)
    (hbase : attributeBase o name X.env (eval o X.env) = eval o X.env := by rfl) (hline : (apos.endLine == cpos.line) = true := by rfl) : QE X (.Call (.Attribute o name apos) [] [] cpos) (tBM0 X.K T r to) := ⟨pe_bm0 pa slot hty hm ho.h hbase hline⟩
theorem qe_bm {name : Str} {T id : String} {r : V → List V → Hp → VK → Prop} (pa : PlainAttrs T) (slot : Slot T name id) (hty : typeOf (.builtin id) = pure (.type "method_descriptor")) (hm : MtR X id r) (ho : QE X o to) (ha : QA X (e :: es) t)
    (hbase : attributeBase o name X.env (eval o X.env) = eval o X.env := by rfl)
    (hfew : ((backTo cpos (starEach (e :: es) X.env)).all (fun x => !x.1) && (backToKw cpos (keywordEach [] X.env)).all (fun x => x.1.isSome)
      && decide ((e :: es).length + ([] : List Keyword).length + (if ([] : List Keyword).isEmpty then 0 else 1) < 30)) = true := by rfl)
    (hline : (apos.endLine == cpos.line) = true := by rfl) (hs : starEach (e :: es) X.env = (false, eval e X.env) :: starEach es X.env := by rfl) (hplain : (backTo cpos (starEach es X.env)).any (·.1) = false := by rfl) :
    QE X (.Call (.Attribute o name apos) (e :: es) [] cpos) (tBM X.K T r to t) := ⟨pe_bm pa slot hty hm ho.h ha.h hbase hfew hline hs hplain⟩
end
section
variable {X : Cx} {elt iter : Expr} {x : Str} {px pos : Pos} {ifs : List Expr} {scope : Scope} {caps : List Str} {js : List Nat} {tt : TT} {te : TE} {wi : TI} {tg : Expr}
theorem qi_sq {l : Expr} {tl : TE} (hl : QE X l tl) : QI X tg l (iSq X.K tl) := ⟨pi_sq hl.h⟩
theorem qi_str {l : Expr} {tl : TE} (hl : QE X l tl) : QI X tg l (iStr tl) := ⟨pi_str hl.h⟩
theorem qi_range1 {a : Expr} {ta : TA} {p pos : Pos} (hg : Gl X "range") (hm : X.mg "range" = none) (ha : QA X [a] ta) (hs : starEach [a] X.env = [(false, eval a X.env)] := by rfl) : QI X tg (.Call (.Name "range" p) [a] [] pos) (iRng1 ta) := ⟨pi_range1 hg hm ha.h hs⟩
theorem qif_nil : QIf X [] tTrue := ⟨pif_nil⟩
theorem qif_one {c : Expr} {t : TT} (hc : QT X c t) : QIf X [c] t := ⟨pif_one hc.h⟩
theorem qe_comp (hc : X.calm = true) (S : CompScope X.N X.env.scope scope x caps js) (hi : QI X (.Name x px) iter wi)
    (hifs : ∀ fp C s H, QIf (compCx X (caps ++ [x]) scope (capCells X.env.cells scope.names) C s H fp) ifs tt) (helt : ∀ fp C s H, QE (compCx X (caps ++ [x]) scope (capCells X.env.cells scope.names) C s H fp) elt te)
    (hs : ∀ v, foldedSetIterable iter X.env v = pure v := by intro _; rfl) : QE X (.ListComp elt [⟨.Name x px, iter, ifs, 0⟩] scope pos) (tComp wi js tt te) := ⟨pe_comp hc S hi.h (fun fp C s H => (hifs fp C s H).h) (fun fp C s H => (helt fp C s H).h) hs⟩
theorem qs_comp {i : Nat} {y : Str} {py spos : Pos} (hN : X.N.Nodup) (hi' : X.N[i]? = some y) (hy : Loc X.env.scope y) (hc : X.calm = true) (S : CompScope X.N X.env.scope scope x caps js) (hi : QI X (.Name x px) iter wi)
    (hifs : ∀ fp C s H, QIf (compCx X (caps ++ [x]) scope (capCells X.env.cells scope.names) C s H fp) ifs tt) (helt : ∀ fp C s H, QE (compCx X (caps ++ [x]) scope (capCells X.env.cells scope.names) C s H fp) elt te)
    (hsw : swapsWith (.ListComp elt [⟨.Name x px, iter, ifs, 0⟩] scope pos) (some (.Name y py)) spos.line X.env = pure true := by rfl)
    (hf : X.fn y = true ∨ X.env.scope.names.lookup y = some .local := by first | exact .inl rfl | exact .inr rfl | assumption)
    (hs : ∀ v, foldedSetIterable iter X.env v = pure v := by intro _; rfl) : QS X (.Assign [.Name y py] (.ListComp elt [⟨.Name x px, iter, ifs, 0⟩] scope pos) spos) (tAsg (tComp wi js tt te) (gName i)) :=
  ⟨ps_comp hN hi' hy hc S hi.h (fun fp C s H => (hifs fp C s H).h) (fun fp C s H => (helt fp C s H).h) hsw hf hs⟩
theorem qg_name {i : Nat} {x : Str} (hN : X.N.Nodup) (hi : X.N[i]? = some x) (hx : Loc X.env.scope x) (hf : X.fn x = true ∨ X.env.scope.names.lookup x = some .local := by first | exact .inl rfl | exact .inr rfl | assumption) : QG X (.Name x pos) (gName i) := ⟨pg_name hN hi hx hf⟩
theorem qgs_nil : QGs X [] gNil := ⟨pgs_nil⟩
theorem qgs_cons {e : Expr} {es : List Expr} {t : TG} {u : TGs} (h1 : QG X e t) (h2 : QGs X es u)
    (hs : (assignEach (e :: es) X.env).map (·.2) = assign e X.env :: (assignEach es X.env).map (·.2) := by rfl) : QGs X (e :: es) (gCons t u) := ⟨pgs_cons h1.h h2.h hs⟩
theorem qg_tup {es : List Expr} {k : Nat} {t : TGs} {n : Nat} (hc : X.calm = true) (h : QGs X es t) (hn : (assignEach es X.env).length = n := by rfl) (hst : (assignEach es X.env).findIdx? (·.1) = none := by rfl) : QG X (.Tuple es k pos) (gTup X.K n t) := ⟨pg_tup hc h.h hn hst⟩
theorem qg_sub {o i : Expr} {to ti : TE} {t : TSet} (ho : QE X o to) (hi : QE X i ti) (hs : PSet X t)
    (ha : ∀ v, assign (.Subscript o i pos) X.env v = (do
      let ov ← holding [v] (eval o X.env)
      let iv ← holding [v, ov] (eval i X.env)
      standAt pos
      holding [v, ov, iv] (setItem ov iv v)
      release [v, ov, iv] []) := by intro _; rfl) : QG X (.Subscript o i pos) (gSub to ti t) := ⟨pg_sub ho.h hi.h hs ha⟩
end
section
variable {X : Cx} {st : Stmt} {rest : List Stmt} {t u : TS} {e : Expr} {te : TE} {pos : Pos}
theorem qss_nil : QSs X [] tNext := ⟨pss_nil⟩
theorem qss_c {body rest : List Stmt} {st : Stmt} {t u : TS} (e : body = st :: rest) (h : QS X st t) (h2 : QSs X rest u) : QSs X body (tSeq t u) := ⟨pss_c e h.h h2.h⟩
theorem qss_o {body : List Stmt} {st : Stmt} {t : TS} (e : body = [st]) (h : QS X st t) : QSs X body t := ⟨pss_o e h.h⟩
theorem qs_pass : QS X (.Pass pos) tNext := ⟨ps_pass⟩
theorem qs_never : QS X st tNever := ⟨ps_never⟩
theorem qs_expr (he : QE X e te) (hs : swapsWith e none pos.line X.env = pure false := by rfl) : QS X (.Expr e pos) (tDrop te) := ⟨ps_expr he.h hs⟩
theorem qs_ret (he : QE X e te) : QS X (.Return (some e) pos) (tRet te) := ⟨ps_ret he.h⟩
theorem qs_retN : QS X (.Return none pos) tRetN := ⟨ps_retN⟩
theorem qs_if {c : Expr} {a b : List Stmt} {tc : TT} (hc : QT X c tc) (ha : QSs X a t) (hb : QSs X b u) : QS X (.If c a b pos) (tIfS tc t u) := ⟨ps_if hc.h ha.h hb.h⟩
theorem qs_asg {tg e : Expr} {te : TE} {g : TG} (he : QE X e te) (hg : QG X tg g) (hs : swapsWithSole [tg] e pos.line X.env = pure false := by rfl) (hw : swappedStores [tg] e X.env = pure none := by rfl)
    (h1 : (assignEach [tg] X.env).map (·.2) = [assign tg X.env] := by rfl) : QS X (.Assign [tg] e pos) (tAsg te g) := ⟨ps_asg he.h hg.h hs hw h1⟩
theorem qs_set {i : Nat} {x : Str} {pos' : Pos} (hN : X.N.Nodup) (hi : X.N[i]? = some x) (hx : Loc X.env.scope x) (he : QE X e te) (hs : swapsWith e (some (.Name x pos')) pos.line X.env = pure false := by rfl) (hf : X.fn x = true ∨ X.env.scope.names.lookup x = some .local := by first | exact .inl rfl | exact .inr rfl | assumption) :
    QS X (.Assign [.Name x pos'] e pos) (tAsg te (gName i)) := ⟨ps_set hN hi hx he.h hs hf⟩
theorem qs_while {c : Expr} {body : List Stmt} {tc : TT} {tb : TS} (hp : PassesOwn (model X.prog X.w) X.A X.env X.xe) (hc : QT X c tc) (hb : QSs X body tb) : QS X (.While c body [] pos) (tWhile tc tb) := ⟨ps_while hp hc.h hb.h⟩
theorem qs_for {tg iter : Expr} {body : List Stmt} {wi : TI} {g : TG} {tb : TS} (hp : PassesOwn (model X.prog X.w) X.A X.env X.xe) (hc : X.calm = true) (hi : QI X tg iter wi) (hg : QG X tg g) (hb : QSs X body tb)
    (hs : ∀ x, foldedSetIterable iter X.env x = pure x := by intro _; rfl) : QS X (.For tg iter body [] pos) (tFor wi g tb) := ⟨ps_for hp hc hi.h hg.h hb.h hs⟩
theorem qs_cut (h : QS X st t) : QS X st (tCut t) := ⟨ps_cut h.h⟩
end
theorem Fun.okq {P : Program} {w : World} {K : PySem.W.Frag} {mg : Str → Option Value} {base : Heap} {x qual : Str} {st : Stmt} {f : Addr} {fd : FuncData} {N ps : List Str} {k : Nat} {sp : Sp} (F : Fun K x qual st f fd) (S : FnScope N ps (defScope st)) (len : ∀ vs H Q E, sp vs H Q E → vs.length = ps.length)
    (hbody : ∀ (cdv : Value) (A : Around) (outer : List Env) (s : Shared) (H : Hp) (vs : List V) (Q : VK) (E : XK), Room k (A.deeper (envOfC qual (defScope st) s.heap.objs.size f cdv)) → sp vs H Q E →
      ∃ t, QSs (cxOf CX0 P w K mg base N qual (defScope st) f cdv A outer s H E).nox (defBody st) t ∧ t { nx := fun _ H' => Q .non H', rt := Q } (start N vs) H) : FnOk P w K mg base CX0 (k + 1) f fd ps sp :=
  F.ok S len fun cdv A outer s H vs Q E hr h => let ⟨t, q, r⟩ := hbody cdv A outer s H vs Q E hr h; ⟨t, q.h, r⟩
end L2

set_option Elab.async false
set_option linter.all false
set_option maxRecDepth 100000
set_option maxHeartbeats 4000000
namespace L2
open PySem PySem.Spec PyProof.Rows
/-! ### x.index(y) of lists and tuples of texts -/
section
variable {X : Cx}
theorem eqU_str {x y : Str} {t : Tok} : eqU (.str x) (.str y t) = (y == x) := rfl
theorem idx_before (x : Str) : ∀ (ss : List Str) (m : Nat) (hm : m < ss.length), m < ss.idxOf x → ss[m] ≠ x
  | [], _, hm, _ => absurd hm (Nat.not_lt_zero _)
  | a :: r, m, hm, h => by
    rw [List.idxOf_cons] at h
    by_cases e : a = x
    · have : (a == x) = true := by simpa using e
      rw [this] at h
      exact absurd h (Nat.not_lt_zero _)
    · have e' : (a == x) = false := by simpa using e
      rw [e'] at h
      cases m with
      | zero => exact e
      | succ k =>
        have h' : k + 1 < r.idxOf x + 1 := h
        exact idx_before x r k (by simpa using hm) (by omega)
theorem idx_at {ss : List Str} {x : Str} (h : x ∈ ss) : ∃ hj : ss.idxOf x < ss.length, ss[ss.idxOf x] = x ∧ ∀ m (hm : m < ss.length), m < ss.idxOf x → ss[m] ≠ x := by
  have hj : ss.idxOf x < ss.length := List.idxOf_lt_length_iff.mpr h
  exact ⟨hj, List.getElem_idxOf hj, fun m hm hlt => idx_before x ss m hm hlt⟩
def rIndexL (K : PySem.W.Frag) : V → List V → Hp → VK → Prop := fun x vs H Q => ∃ (l : Addr) (ss : List Str) (y : Str), x = .ref l ∧ vs = [.str y] ∧ SqL K H l (ss.map V.str) ∧ y ∈ ss ∧ Q (.int (ss.idxOf y : Nat)) H
theorem mr_indexL : MtR X "list.index" (rIndexL X.K) := by
  intro pins s σ H x vs v us Q I rx rv h
  obtain ⟨l, ss, y, rfl, rfl, hq, hy, q⟩ := h
  cases rx
  obtain ⟨u, rfl, ru⟩ := rv.one
  obtain ⟨its, r, pl, hz⟩ := I.list hq
  obtain ⟨⟨c, d, dt, sl⟩, n, ho, hc, hd, hdt⟩ := id pl
  simp only at hc hd hdt
  subst hc; subst hd; subst hdt
  have hl := r.length
  rw [List.length_map] at hl
  obtain ⟨hj, hhit, hno⟩ := idx_at hy
  have at' : ∀ (m : Nat) (hm : m < its.toArray.size), ∃ t, its.toArray[m] = .str (ss[m]'(by simp at hm; omega)) t := fun m hm => by
    have hm' : m < its.length := by simpa using hm
    obtain ⟨h2, t, e⟩ := strs_at r (List.getElem?_eq_getElem hm')
    exact ⟨t, by simpa using e⟩
  have hjs : ss.idxOf y < its.toArray.size := by simp; omega
  refine call_meets PySem.F.slot_list_index ⟨_, ho, rfl⟩ PySem.F.entry_list_index (PySem.F.args_list_index_2 _ _) (SeqAt.list_indexAt l its.toArray n none sl u (eqU (.str y)) (ss.idxOf y) hjs ?_ ?_ (fun m hm hlt => ?_)) ⟨ho, fun z hz' => mem_eqAt ru rfl r (by
      rw [List.all_eq_true]; intro w hw; obtain ⟨y', _, rfl⟩ := List.mem_map.mp hw; rfl) z (by simpa using hz'), ?_⟩
  · have h1 : ss.length ≤ sizeLine := by rw [List.length_map] at hz; exact hz
    have h2 := line63
    have h3 : ((sizeLine : Nat) : Int) < 2 ^ 63 := by exact_mod_cast h2
    omega
  · obtain ⟨t, e⟩ := at' _ hjs
    rw [e, eqU_str]; simpa using hhit
  · obtain ⟨t, e⟩ := at' _ hm
    rw [e, eqU_str]
    have := hno m (by simp at hm; omega) hlt
    simpa using this
  · exact ⟨.int _, H, I.tok _, ⟨_, rfl⟩, q⟩
/-- tuple.index: the place j of the first that is alike -/
theorem tuple_indexAt (l : Addr) (items : Array Value) (n : Nat) (dd : Option Addr) (sl : Array (Option Value)) (x : Value) (e : Value → Bool) (j : Nat) (hj : j < items.size) (hit : e items[j] = true) (hno : ∀ m (hm : m < items.size), m < j → e items[m] = false) :
    Meets (Builtin.«tuple.index» ⟨[.ref l, x], []⟩)
      (fun A R s => s.heap.get? l = some { cls := .type "tuple", dict := dd, data := .seq items n, slots := sl } ∧ (∀ y, y ∈ items → SeqAt.EqAt A.in1 s y x (e y)) ∧ R (.ok (.ret (.int j s.toks))) { s with toks := s.toks + 1 }) := by
  refine Meets.of_wp fun prog w A R s h => ?_
  obtain ⟨hp, g, d, tk, os⟩ := s
  obtain ⟨hl, he, h⟩ := h
  wp_walk using AutoSeq1.wpAny_loadPart' hl
  show wpAny _ _ (forIn [:min items.size items.size] ((none : Option Fin), ()) (fun (i : Nat) (_ : Option Fin × Unit) => match items[i]? with
    | some y => (do let b ← eqBool y x; if b = true then do let r ← retInt ((i : Nat) : Int); pure (ForInStep.done (some r, ())) else pure (ForInStep.yield (none, ())))
    | _ => pure (ForInStep.yield (none, ())))) _ _ _
  rw [Std.Legacy.Range.forIn_eq_forIn_range']
  have hsz : ([:min items.size items.size] : Std.Legacy.Range).size = items.size := by simp [Std.Legacy.Range.size]
  show wpAny _ _ (forIn (List.range' 0 ([:min items.size items.size] : Std.Legacy.Range).size 1) _ _) _ _ _
  rw [hsz]
  refine wpAny_forIn_list _ (fun rest b s' => b = (none, ()) ∧ s' = ⟨hp, g, d, tk, os⟩ ∧ ∃ i, rest = List.range' i (items.size - i) 1 ∧ i ≤ j) _ ?_ ?_ _ _ ⟨rfl, rfl, 0, rfl, Nat.zero_le _⟩
  · rintro i rest b s' ⟨rfl, rfl, i', hr, hij⟩
    have hlt : i' < items.size := by omega
    have e1 : List.range' i' (items.size - i') 1 = i' :: List.range' (i' + 1) (items.size - (i' + 1)) 1 := by
      have : items.size - i' = (items.size - (i' + 1)) + 1 := by omega
      rw [this, List.range'_succ]
    rw [e1] at hr
    injection hr with hr1 hr2
    subst hr1; subst hr2
    have hi : items[i]? = some items[i] := by simp [hlt]
    rw [hi]
    refine wpAny_bind (he _ (Array.getElem_mem hlt) prog w _ _ ?_)
    by_cases e2 : i = j
    · subst e2
      rw [hit, if_pos rfl]
      wp_walk
      exact ⟨_, rfl, h⟩
    · rw [hno i hlt (by omega), if_neg (by decide)]
      exact wpAny_pure ⟨rfl, rfl, i + 1, rfl, by omega⟩
  · rintro b s' ⟨rfl, rfl, i, hr, hij⟩
    have : 0 < (List.range' i (items.size - i) 1).length := by rw [List.length_range']; omega
    rw [← hr] at this
    exact absurd this (by simp)
end
end L2
namespace L2
open PySem PySem.Spec PyProof.Rows
section
variable {X : Cx}
def rIndexT (K : PySem.W.Frag) : V → List V → Hp → VK → Prop := fun x vs H Q => ∃ (l : Addr) (ss : List Str) (y : Str), x = .ref l ∧ vs = [.str y] ∧ SqT K H l (ss.map V.str) ∧ y ∈ ss ∧ Q (.int (ss.idxOf y : Nat)) H
theorem mr_indexT : MtR X "tuple.index" (rIndexT X.K) := by
  intro pins s σ H x vs v us Q I rx rv h
  obtain ⟨l, ss, y, rfl, rfl, hq, hy, q⟩ := h
  cases rx
  obtain ⟨u, rfl, ru⟩ := rv.one
  obtain ⟨its, r, pl, hz⟩ := I.tuple hq
  obtain ⟨⟨c, d, dt, sl⟩, ho, hc, n, hdt⟩ := id pl
  simp only at hc hdt
  subst hc; subst hdt
  have hl := r.length
  rw [List.length_map] at hl
  obtain ⟨hj, hhit, hno⟩ := idx_at hy
  have at' : ∀ (m : Nat) (hm : m < its.toArray.size), ∃ t, its.toArray[m] = .str (ss[m]'(by simp at hm; omega)) t := fun m hm => by
    have hm' : m < its.length := by simpa using hm
    obtain ⟨h2, t, e⟩ := strs_at r (List.getElem?_eq_getElem hm')
    exact ⟨t, by simpa using e⟩
  have hjs : ss.idxOf y < its.toArray.size := by simp; omega
  refine call_meets PySem.F.slot_tuple_index ⟨_, ho, rfl⟩ PySem.F.entry_tuple_index (PySem.F.args_tuple_index_2 _ _) (tuple_indexAt l its.toArray n d sl u (eqU (.str y)) (ss.idxOf y) hjs ?_ (fun m hm hlt => ?_)) ⟨ho, fun z hz' => mem_eqAt ru rfl r (by
      rw [List.all_eq_true]; intro w hw; obtain ⟨y', _, rfl⟩ := List.mem_map.mp hw; rfl) z (by simpa using hz'), ?_⟩
  · obtain ⟨t, e⟩ := at' _ hjs
    rw [e, eqU_str]; simpa using hhit
  · obtain ⟨t, e⟩ := at' _ hm
    rw [e, eqU_str]
    have := hno m (by simp at hm; omega) hlt
    simpa using this
  · exact ⟨.int _, H, I.tok _, ⟨_, rfl⟩, q⟩
/-- two readings of one expression: either may be chosen -/
def tOr2 (t u : TE) : TE := fun σ H Q => t σ H Q ∨ u σ H Q
theorem qe_or2 {e : Expr} {t u : TE} (h : QE X e t) (h2 : QE X e u) : QE X e (tOr2 t u) := ⟨fun pins s σ H Q I q => q.elim (h.h pins s σ H Q I) (h2.h pins s σ H Q I)⟩
end
end L2

set_option Elab.async false
set_option linter.all false
set_option maxRecDepth 100000
set_option maxHeartbeats 4000000
namespace L2
open PySem PySem.Spec PyProof.Rows
/-! ### list(reversed(x)) of a list -/
theorem nolen_lri : typeLookup (.type "list_reverseiterator") "__len__" = pure none := by rw [typeLookup_type, builtinLookup_eq_fast]; kernel_rfl
theorem hint_lri : typeLookup (.type "list_reverseiterator") "__length_hint__" = pure (some (.builtin "list_reverseiterator.__length_hint__")) := by rw [typeLookup_type, builtinLookup_eq_fast]; kernel_rfl
section
variable {prog : Program} {w : World} {A : Around} {s : Shared} {R : Result → Shared → Prop}
variable {I : Addr} {fp wr : List Addr} {G : Array GenState → Array GenState → Prop} {n : Nat} {P : Nat → Value → Prop} {St : Nat → Shared → Prop}
theorem extend_lri (W : WalksS prog w A.in1 I fp wr G n P St) (hT : ∀ i s, St i s → s.TypeIs (.ref I) "list_reverseiterator") (S : Addr) (res : Value) (c₀ : Nat) (hst : St 0 s) (hSf : S ∉ fp) (hI : I ∈ fp)
    (hS : s.heap.get? S = some { cls := .type "list", data := .seq #[] c₀ })
    (hR : ∀ s' acc' c', Moved (S :: wr) G s s' → s'.heap.get? S = some { cls := .type "list", dict := none, data := .seq acc' c', slots := #[] } → ItemsOf P acc' n → R (.ok (.ret res)) s') (hn : n ≤ sizeLine) :
    wpAny (model prog w) A.in1 (Builtin.List.listExtendWith (.ref S) (.ref I) res)
      (fun fin s' => match fin with | .done f => R (.ok f) s' | .again c' => c'.quiet = true ∧ codeAny (model prog w) A c' R s') (fun e s' => R (.error e) s') s := by
  have hSI : S ≠ I := fun e => hSf (e ▸ hI)
  unfold Builtin.List.listExtendWith
  refine wpAny_bind (wpAny_typeOf (hT 0 _ hst) ?_)
  have h1 : Builtin.List.listSameRef (.ref S) (.ref I) = false := by simp [Builtin.List.listSameRef, hSI]
  rw [if_neg (by rw [h1]; decide)]
  refine wpAny_bind (W.self 0 _ _ _ hst ?_)
  refine wpAny_bind (wpAny_holding ?_)
  unfold Builtin.List.listLengthHint
  refine wpAny_bind (wpAny_specialOf (hT 0 _ hst) nolen_lri ?_)
  show wpAny _ A.in1 (specialOf (Value.ref I) (Str.ofString "__length_hint__") >>= _) _ _ _
  refine wpAny_bind (wpAny_specialOf (hT 0 _ hst) hint_lri ?_)
  generalize hid : ("list_reverseiterator.__length_hint__" : String) = id0
  wp_delta
  rw [show splitId id0 = some ("list_reverseiterator", "__length_hint__") from by subst hid; decide +kernel]
  subst hid
  refine wpAny_bind (wpAny_isInstance (b := true) (hT 0 _ hst) (by rw [isSubtype_type]; kernel_rfl) ?_)
  refine wpAny_pure ?_
  rw [if_neg (by decide)]
  refine wpAny_pure ⟨plainId_quiet F.plain_extend_loop _, codeAny_extend_loopS W hn _ hSf _ n 0 _ _ _ rfl (Nat.zero_le _) hst hS (ItemsOf.nil P) fun s' acc' c' hm hS' hacc => ?_⟩
  exact hR s' acc' c' hm hS' hacc
theorem list_init_lri (W : WalksS prog w A.in1 I fp wr G n P St) (hT : ∀ i s, St i s → s.TypeIs (.ref I) "list_reverseiterator") (S : Addr) (hst : St 0 s) (hSf : S ∉ fp) (hI : I ∈ fp)
    (hS : s.heap.get? S = some { cls := .type "list", data := .seq #[] })
    (hR : ∀ s' acc' c', Moved (S :: wr) G s s' → s'.heap.get? S = some { cls := .type "list", dict := none, data := .seq acc' c', slots := #[] } → ItemsOf P acc' n → R (.ok (.ret .none)) s') (hn : n ≤ sizeLine) :
    wpAny (model prog w) A.in1 (Builtin.«list.__init__» ⟨[.ref S, .ref I], []⟩)
      (fun fin s' => match fin with | .done f => R (.ok f) s' | .again c' => c'.quiet = true ∧ codeAny (model prog w) A c' R s') (fun e s' => R (.error e) s') s := by
  show wpAny _ A.in1 (do let old ← Builtin.List.listItems (.ref S); Builtin.List.listUpdate (.ref S) (fun _ => #[]); letGo old.toList.reverse; Builtin.List.listExtendWith (.ref S) (.ref I) .none) _ _ s
  refine wpAny_bind ?_
  unfold Builtin.List.listItems
  refine wpAny_bind (wpAny_seqItems hS rfl (wpAny_pure ?_))
  show wpAny _ A.in1 (updateSeq S (fun _ => #[]) >>= fun _ => letGo (#[] : Array Value).toList.reverse >>= fun _ => Builtin.List.listExtendWith (.ref S) (.ref I) .none) _ _ s
  refine wpAny_bind (wpAny_updateSeq hS rfl ?_)
  have hS₂ := Heap.get?_update_self (Obj.mapSeq (fun _ => (#[] : Array Value))) hS rfl
  have oth : ∀ b o, b ≠ S → s.heap.get? b = some o → (s.heap.update S (Obj.mapSeq (fun _ => (#[] : Array Value)))).get? b = some o :=
    fun b o hb e => (Heap.get?_update_other _ _ (Ne.symm hb)).trans e
  refine wpAny_bind (wpAny_letGo ?_)
  refine extend_lri (hn := hn) W hT S .none _ (W.frame 0 s _ s.toks hst (Nat.le_refl _) fun b hb o e => oth b o (fun h => hSf (h ▸ hb)) e) hSf hI hS₂ fun s' acc' c' hm hS' hacc => ?_
  exact hR s' acc' c' (Moved.trans W.gtrans ((Moved.refl W.grefl).then_heap (Nat.le_refl _) fun b o hb e => oth b o (fun h => hb (h ▸ List.mem_cons_self)) e) hm) hS' hacc
end
section
variable {prog : Program} {w : World} {A : Around} {E : Value → Shared → Prop} {s : Shared}
variable {I : Addr} {fp wr : List Addr} {G : Array GenState → Array GenState → Prop} {n : Nat} {P : Nat → Value → Prop} {St : Nat → Shared → Prop}
theorem call_list_lri {Q : Value → Shared → Prop} (W : WalksS prog w A.in1.in1 I fp wr G n P St) (hT : ∀ i s, St i s → s.TypeIs (.ref I) "list_reverseiterator") (hst : St 0 s) (hfp : ∀ b ∈ fp, b < s.heap.objs.size) (hI : I ∈ fp)
    (hQ : ∀ s' acc' c', Moved (s.heap.objs.size :: wr) G { s with heap := s.heap.push { cls := .type "list", data := .seq #[] } } s' →
      s'.heap.get? s.heap.objs.size = some { cls := .type "list", dict := none, data := .seq acc' c', slots := #[] } → ItemsOf P acc' n → Q (.ref s.heap.objs.size) s') (hn : n ≤ sizeLine) :
    wpAny (model prog w) A (call (.type "list") [.ref I]) Q E s := by
  have hSf : s.heap.objs.size ∉ fp := fun hm => Nat.lt_irrefl _ (hfp _ hm)
  refine callType_codes (Q₁ := fun obj s₁ => obj = .ref s.heap.objs.size ∧ s₁ = { s with heap := s.heap.push { cls := .type "list", data := .seq #[] } }) F.called_list (F.typeCall_list_1 _) F.entry_list_init
    (code_list_new _ ⟨rfl, rfl⟩) fun obj s₁ h₁ => ?_
  obtain ⟨rfl, rfl⟩ := h₁
  have hS : (s.heap.push { cls := .type "list", data := .seq #[] }).get? s.heap.objs.size = some { cls := .type "list", data := .seq #[] } := Heap.get?_push_size _ rfl
  refine ⟨⟨_, hS, rfl⟩, F.args_list_init_2 _ _, list_init_lri (hn := hn) W hT _ (W.frame 0 s _ s.toks hst (Nat.le_refl _) fun b _ o e => Heap.get?_push_of_some _ e) hSf hI hS fun s' acc' c' hm hS' hacc => ?_⟩
  exact ⟨rfl, hQ s' acc' c' hm hS' hacc⟩
end
end L2

set_option Elab.async false
set_option linter.all false
set_option maxRecDepth 100000
set_option maxHeartbeats 4000000
namespace L2
open PySem PySem.Spec PyProof.Rows
/-! ### reversed(x) of a tuple -/
theorem tup_norev : typeLookup (.type "tuple") "__reversed__" = pure none := by rw [typeLookup_type, builtinLookup_eq_fast]; kernel_rfl
theorem nolen_rev : typeLookup (.type "reversed") "__len__" = pure none := by rw [typeLookup_type, builtinLookup_eq_fast]; kernel_rfl
theorem hint_rev : typeLookup (.type "reversed") "__length_hint__" = pure (some (.builtin "reversed.__length_hint__")) := by rw [typeLookup_type, builtinLookup_eq_fast]; kernel_rfl
theorem sub_tup_dict : isSubtype (.type "tuple") (.type "dict") = pure false := by rw [isSubtype_type]; kernel_rfl
theorem owner_rev : Manifest.owners.lookup (String.ofList ['d', 'e', 's', 'r', 'e', 'v', 'e', 'r'].reverse) = some Manifest.sig_reversed := by kernel_rfl
theorem slot_rev_next : Slot "reversed" "__next__" "reversed.__next__" :=
  .of (owner := "reversed") (n := "__next__") (by rw [typeLookup_type, builtinLookup_eq_fast]; kernel_rfl) (by decide +kernel) (by decide +kernel) (by decide +kernel)
    (by first | exact .inl (by decide +kernel) | exact .inr (by decide +kernel)) (by rw [isSubtype_type]; kernel_rfl)
theorem entry_rev_next : entryFor table "reversed.__next__" = some Builtin.«reversed.__next__» := entryFor_of_tree (by kernel_rfl)
theorem args_rev_next (a : Value) : argsOk "reversed.__next__" ⟨[a], []⟩ := by
  unfold argsOk; rw [signature?_of (id := "reversed.__next__") (n := ['_', '_', 't', 'x', 'e', 'n', '_', '_']) (o := ['d', 'e', 's', 'r', 'e', 'v', 'e', 'r']) (by kernel_rfl) owner_rev]; kernel_rfl
theorem slot_rev_iter : Slot "reversed" "__iter__" "reversed.__iter__" :=
  .of (owner := "reversed") (n := "__iter__") (by rw [typeLookup_type, builtinLookup_eq_fast]; kernel_rfl) (by decide +kernel) (by decide +kernel) (by decide +kernel)
    (by first | exact .inl (by decide +kernel) | exact .inr (by decide +kernel)) (by rw [isSubtype_type]; kernel_rfl)
theorem args_rev_iter (a : Value) : argsOk "reversed.__iter__" ⟨[a], []⟩ := by
  unfold argsOk; rw [signature?_of (id := "reversed.__iter__") (n := ['_', '_', 'r', 'e', 't', 'i', '_', '_']) (o := ['d', 'e', 's', 'r', 'e', 'v', 'e', 'r']) (by kernel_rfl) owner_rev]; kernel_rfl
theorem entry_rev_iter : entryFor table "reversed.__iter__" = some Builtin.«dict_keyiterator.__iter__» :=
  entryFor_alias (id' := "dict_keyiterator.__iter__") (by kernel_rfl) (by first | rfl | decide +kernel | (unfold String.splitOn; simp +decide [String.splitOnAux])) (by decide +kernel) (by kernel_rfl)
theorem slot_rev_hint : Slot "reversed" "__length_hint__" "reversed.__length_hint__" :=
  .of (owner := "reversed") (n := "__length_hint__") (by rw [typeLookup_type, builtinLookup_eq_fast]; kernel_rfl) (by decide +kernel) (by decide +kernel) (by decide +kernel)
    (by first | exact .inl (by decide +kernel) | exact .inr (by decide +kernel)) (by rw [isSubtype_type]; kernel_rfl)
theorem entry_rev_hint : entryFor table "reversed.__length_hint__" = some Builtin.«reversed.__length_hint__» := entryFor_of_tree (by kernel_rfl)
theorem args_rev_hint (a : Value) : argsOk "reversed.__length_hint__" ⟨[a], []⟩ := by
  unfold argsOk; rw [signature?_of (id := "reversed.__length_hint__") (n := ['_', '_', 't', 'n', 'i', 'h', '_', 'h', 't', 'g', 'n', 'e', 'l', '_', '_']) (o := ['d', 'e', 's', 'r', 'e', 'v', 'e', 'r']) (by kernel_rfl) owner_rev]; kernel_rfl
theorem slot_rev_init : Slot "reversed" "__init__" "object.__init__" :=
  .of (owner := "object") (n := "__init__") (by rw [typeLookup_type, builtinLookup_eq_fast]; kernel_rfl) (by decide +kernel) (by decide +kernel) (by decide +kernel)
    (by first | exact .inl (by decide +kernel) | exact .inr (by decide +kernel)) (by rw [isSubtype_type]; kernel_rfl)
theorem called_rev : TypeCalled "reversed" "reversed.__new__" "object.__init__" :=
  ⟨by decide +kernel, by decide +kernel, ⟨_, _, F.mro_reversed⟩, F.made_reversed, by decide +kernel, by rw [isSubtype_type]; kernel_rfl, slot_rev_init⟩
def revT (l : Addr) (i : Int) : Obj := { cls := .type "reversed", data := .fields #[.ref l, rawInt i] }
def IsRevT (h : Heap) (a l : Addr) (i : Int) : Prop := ∃ o, h.get? a = some o ∧ o.cls = .type "reversed" ∧ o.data = .fields #[.ref l, rawInt i]
theorem IsRevT.typeIs {s : Shared} {a l : Addr} {i : Int} (x : IsRevT s.heap a l i) : s.TypeIs (.ref a) "reversed" := let ⟨o, ho, hc, _⟩ := x; ⟨o, ho, hc⟩
theorem IsRevT.at {h h' : Heap} {a l : Addr} {i : Int} (x : IsRevT h a l i) (e : ∀ o, h.get? a = some o → h'.get? a = some o) : IsRevT h' a l i := let ⟨o, ho, r⟩ := x; ⟨o, e _ ho, r⟩
theorem meets_rev_new (l : Addr) (items : Array Value) (hfit : (items.size : Int) < 2 ^ 63) :
    Meets (Builtin.«reversed.__new__» ⟨[.type "reversed", .ref l], []⟩) (fun _ R s => IsTup s.heap l items ∧
      R (.ok (.ret (.ref s.heap.objs.size))) { s with heap := s.heap.push (revT l ((items.size : Int) - 1)), toks := s.toks + 1 + 1 }) :=
  .of_wp fun prog w A R s h => by
    obtain ⟨hl, h⟩ := h
    unfold Builtin.«reversed.__new__»
    refine wpAny_bind (wpAny_of_eq (newClass_reversed _) ?_)
    try dsimp only
    refine wpAny_bind (wpAny_of_eq (a := ()) (by first | rfl | kernel_rfl) ?_)
    refine wpAny_bind (wpAny_of_eq (a := ()) (by first | rfl | kernel_rfl) ?_)
    try dsimp only
    refine wpAny_bind (wpAny_specialOf hl.typeIs tup_norev ?_)
    try dsimp only
    refine wpAny_bind ?_
    wp_delta
    refine wpAny_bind (wpAny_isInstance (b := false) hl.typeIs sub_tup_dict ?_)
    rw [if_neg (by decide)]
    refine wpAny_bind (wpAny_specialOf hl.typeIs PyProof.Rows.slot_tuple_getitem.lookup ?_)
    dsimp only
    rw [if_pos (by decide +kernel)]
    refine wpAny_pure ?_
    rw [if_neg (by decide)]
    refine wpAny_bind (len_tuple hl hfit ?_)
    refine wpAny_bind (m := asInt? _) (wpAny_pure ?_)
    dsimp only
    refine wpAny_bind ?_
    unfold Builtin.SmallTypes.newRecord
    dsimp only
    exact wpAny_newObj_type (wpAny_pure ⟨_, rfl, h⟩)
section
variable {prog : Program} {w : World} {A : Around} {E : Value → Shared → Prop} {s : Shared}
theorem call_rev_tup {l : Addr} {items : Array Value} {Q : Value → Shared → Prop} (hfit : (items.size : Int) < 2 ^ 63) (hl : IsTup s.heap l items)
    (h : Q (.ref s.heap.objs.size) { s with heap := s.heap.push (revT l ((items.size : Int) - 1)), toks := s.toks + 1 + 1 }) : wpAny (model prog w) A (call (.type "reversed") [.ref l]) Q E s := by
  refine callType_new called_rev (by decide) (F.typeCall_reversed_1 _) (F.newCall_reversed_1 _) (fun obj => F.args_object_init_2 obj _) F.entry_reversed_new (meets_rev_new l items hfit) ⟨hl, ?_⟩
  exact ⟨⟨_, Heap.get?_push_size _ rfl, rfl⟩, h⟩
theorem next_rev_item {it l : Addr} {i : Nat} {items : Array Value} {x : Value} {Q : Option Value → Shared → Prop} (hit : IsRevT s.heap it l (i : Int)) (hl : IsTup s.heap l items) (hx : items[i]? = some x) (hfit : (items.size : Int) < 2 ^ 63)
    (hQ : ∀ h' tk, IsRevT h' it l ((i : Int) - 1) → Heap.SameBut it s.heap h' → s.toks ≤ tk → Q (some x) { s with heap := h', toks := tk }) : wpAny (model prog w) A (pyNext (.ref it)) Q E s := by
  obtain ⟨o, ho, hc, hd⟩ := id hit
  have hi : i < items.size := (Array.getElem?_eq_some_iff.mp hx).1
  unfold pyNext
  refine wpAny_bind (wpAny_attempt (wpAny_callSpecial?_slot (name := Str.ofString "__next__") hit.typeIs slot_rev_next
    (wpAny_call_entry slot_rev_next hit.typeIs entry_rev_next ?_ (args_rev_next _))))
  unfold Builtin.«reversed.__next__»
  refine wpAny_bind (wpAny_of_eq (a := (Value.ref it, [])) rfl ?_)
  try dsimp only
  refine wpAny_bind (wpAny_field ho hd (x := .ref l) rfl ?_)
  refine wpAny_bind (wpAny_field ho hd (x := rawInt (i : Int)) rfl ?_)
  show wpAny _ _ (if (i : Int) < 0 then _ else _) _ _ s
  rw [if_neg (by omega)]
  refine wpAny_bind (wpAny_specialOf hl.typeIs PyProof.Rows.slot_tuple_getitem.lookup ?_)
  rw [if_neg (by simp)]
  refine wpAny_bind (wpAny_mkInt ?_)
  have hj : seqIndex? (i : Int) items.size = some i := by
    unfold seqIndex?; simp; omega
  refine wpAny_bind (wpAny_attempt (getItem_tuple (s := { s with toks := s.toks + 1 }) hl (by omega) (by omega) hj hx ?_))
  dsimp only
  refine wpAny_bind (wpAny_field (s := { s with toks := s.toks + 1 }) ho hd (x := rawInt (i : Int)) rfl ?_)
  show wpAny _ _ (setField (.ref it) 1 (rawInt ((i : Int) - 1)) >>= _) _ _ _
  refine wpAny_bind (wpAny_setField (s := { s with toks := s.toks + 1 }) ho hd (by simp) ?_)
  first
  | refine wpAny_pure ⟨x, rfl, wpAny_pure (hQ _ _ ?_ (Heap.SameBut.update ..) (Nat.le_succ _))⟩
  | refine wpAny_bind (wpAny_pure (wpAny_pure ⟨x, rfl, wpAny_pure (hQ _ _ ?_ (Heap.SameBut.update ..) (Nat.le_succ _))⟩))
  exact ⟨_, Heap.get?_update_self _ ho (Obj.isFreed_of_fields (Obj.data_mapFields hd _)), (Obj.cls_mapFields ..).trans hc, by
    rw [Obj.data_mapFields hd]; simp⟩
theorem next_rev_end {it l : Addr} {Q : Option Value → Shared → Prop} (hh : A.handled = none) (hit : IsRevT s.heap it l (-1))
    (hQ : ∀ h', Heap.ExtBut it s.heap h' → Q none { s with heap := h' }) : wpAny (model prog w) A (pyNext (.ref it)) Q E s := by
  obtain ⟨o, ho, hc, hd⟩ := id hit
  unfold pyNext
  refine wpAny_bind (wpAny_attempt (wpAny_callSpecial?_slot (name := Str.ofString "__next__") hit.typeIs slot_rev_next
    (wpAny_call_entry slot_rev_next hit.typeIs entry_rev_next ?_ (args_rev_next _))))
  unfold Builtin.«reversed.__next__»
  refine wpAny_bind (wpAny_of_eq (a := (Value.ref it, [])) rfl ?_)
  try dsimp only
  refine wpAny_bind (wpAny_field ho hd (x := .ref l) rfl ?_)
  refine wpAny_bind (wpAny_field ho hd (x := rawInt (-1)) rfl ?_)
  show wpAny _ _ (if (-1 : Int) < 0 then _ else _) _ _ s
  rw [if_pos (by decide)]
  refine wpAny_bind (wpAny_rule ?_)
  refine wpAny_bind ?_
  wp_delta
  refine wpAny_bind (wpAny_setField ho hd (by simp) ?_)
  have ho2 := Heap.get?_update_self (fun ob => Obj.mapFields (·.set! 1 (rawInt (-1))) ob) ho (Obj.isFreed_of_fields (Obj.data_mapFields hd _))
  have hd2 := Obj.data_mapFields hd (·.set! 1 (rawInt (-1)))
  refine wpAny_setField (s := { s with heap := _ }) ho2 hd2 (by simp) ?_
  refine wpAny_bind ?_
  show wpAny _ _ (newExc (.type "StopIteration") [] >>= _) _ _ _
  refine wpAny_bind ?_
  simp only [newExc, newTuple]
  refine wpAny_bind (wpAny_newObj_type ?_ (by size_fits))
  refine wpAny_bind (m := firstArgMember _ _) (wpAny_of_eq (a := Value.none) (by first | rfl | (simp only [firstArgMember]; rfl)) ?_)
  refine wpAny_newObj_type ?_ (by size_fits)
  simp only [raiseNew]
  refine wpAny_bind (wpAny_handled ?_)
  first | rw [show A.in1.handled = none from hh] | rw [hh]
  refine wpAny_bind (wpAny_pure (wpAny_throw ?_))
  refine wpAny_bind (wpAny_isInstance (T := "StopIteration") (b := true) ⟨_, Heap.get?_push_size _ rfl, rfl⟩ isSubtype_stop ?_)
  refine wpAny_pure (hQ _ (fun b ob hb e => ?_))
  exact Heap.get?_push_of_some _ (Heap.get?_push_of_some _ ((Heap.get?_update_other _ _ (Ne.symm hb)).trans ((Heap.get?_update_other _ _ (Ne.symm hb)).trans e)))
theorem iter_revT {it l : Addr} {i : Int} {Q : Value → Shared → Prop} (hit : IsRevT s.heap it l i) (h : Q (.ref it) s) : wpAny (model prog w) A (pyIter (.ref it)) Q E s := by
  refine wpAny_pyIter_slot hit.typeIs slot_rev_iter (wpAny_call_entry slot_rev_iter hit.typeIs entry_rev_iter ?_ (args_rev_iter _))
  show wpAny _ _ (ret (.ref it)) _ _ s
  exact wpAny_pure ⟨_, rfl, "reversed", _, hit.typeIs, slot_rev_next.lookup, h⟩
end
theorem walks_revT {prog : Program} {w : World} {A : Around} (hh : A.handled = none) (I l : Addr) (hne : l ≠ I) (items : Array Value) (hfit : (items.size : Int) < 2 ^ 63) :
    Walks prog w A I [I, l] [I] items.size (fun i v => items[items.size - 1 - i]? = some v) (fun i h => i ≤ items.size ∧ IsRevT h I l ((items.size : Int) - 1 - (i : Int)) ∧ IsTup h l items) where
  sub := fun b hb => by simp at hb; simp [hb]
  frame := fun _ _ _ x hk => ⟨x.1, x.2.1.at fun o e => hk I (by simp) o e, let ⟨o, ho, r⟩ := x.2.2; ⟨o, hk l (by simp) o ho, r⟩⟩
  item := fun i s Q E hi x hQ => by
    have e : (items.size : Int) - 1 - (i : Int) = ((items.size - 1 - i : Nat) : Int) := by omega
    have hit := x.2.1
    rw [e] at hit
    have hx : items[items.size - 1 - i]? = some (items[items.size - 1 - i]'(by omega)) := Array.getElem?_eq_getElem (by omega)
    refine next_rev_item hit x.2.2 hx hfit fun h' tk hit' hs' htk => ?_
    have e2 : ((items.size - 1 - i : Nat) : Int) - 1 = (items.size : Int) - 1 - ((i + 1 : Nat) : Int) := by omega
    rw [e2] at hit'
    exact hQ _ h' tk hx ⟨hi, hit', x.2.2.extBut hs'.extBut hne⟩ fun b o hb eo => hs'.extBut b o (fun h => hb (by simp [h])) eo
  done := fun s Q E x hQ => by
    have e : (items.size : Int) - 1 - (items.size : Int) = -1 := by omega
    have hit := x.2.1
    rw [e] at hit
    exact next_rev_end hh hit fun h' he' => hQ h' s.toks fun b o hb eo => he' b o (fun h => hb (by simp [h])) eo
  self := fun _ _ _ _ x hQ => iter_revT x.2.1 hQ
end L2

set_option Elab.async false
set_option linter.all false
set_option maxRecDepth 100000
set_option maxHeartbeats 4000000
namespace L2
open PySem PySem.Spec PyProof.Rows
section
variable {prog : Program} {w : World} {A : Around} {E : Value → Shared → Prop} {s : Shared}
theorem call_rev_hint {it l : Addr} {items : Array Value} {Q : Value → Shared → Prop} (hit : IsRevT s.heap it l ((items.size : Int) - 1)) (hl : IsTup s.heap l items) (hfit : (items.size : Int) < 2 ^ 63)
    (h : ∀ t tk, s.toks ≤ tk → Q (.int (items.size : Int) t) { s with toks := tk }) : wpAny (model prog w) A (call (.builtin "reversed.__length_hint__") [.ref it]) Q E s := by
  obtain ⟨o, ho, hc, hd⟩ := id hit
  refine wpAny_call_entry slot_rev_hint hit.typeIs entry_rev_hint ?_ (args_rev_hint _)
  unfold Builtin.«reversed.__length_hint__»
  refine wpAny_bind (wpAny_of_eq (a := Value.ref it) rfl ?_)
  refine wpAny_bind (wpAny_field ho hd (x := .ref l) rfl ?_)
  rw [if_neg (show ¬ ((Value.ref l == Value.none) = true) from Bool.false_ne_true)]
  refine wpAny_bind (len_tuple hl hfit ?_)
  refine wpAny_bind (m := asInt? _) (wpAny_pure ?_)
  dsimp only
  refine wpAny_bind (wpAny_field (s := { s with toks := _ }) ho hd (x := rawInt ((items.size : Int) - 1)) rfl ?_)
  show wpAny _ _ (if (items.size : Int) < ((items.size : Int) - 1) + 1 then _ else _) _ _ _
  rw [if_neg (by omega)]
  show wpAny _ _ (retInt (((items.size : Int) - 1) + 1)) _ _ _
  have e : ((items.size : Int) - 1) + 1 = items.size := by omega
  rw [e]
  exact wpAny_bind (wpAny_mkInt (wpAny_pure ⟨_, rfl, h _ _ (by show s.toks ≤ s.toks + 1 + 1 + 1; omega)⟩))
end
section
variable {prog : Program} {w : World} {A : Around} {s : Shared} {R : Result → Shared → Prop}
variable {I : Addr} {l : Addr} {items : Array Value}
theorem extend_rev (hh : A.handled = none) (hne : l ≠ I) (hz : items.size ≤ sizeLine) (S : Addr) (res : Value) (c₀ : Nat) (hit : IsRevT s.heap I l ((items.size : Int) - 1)) (hl : IsTup s.heap l items) (hSI : S ≠ I) (hSl : S ≠ l)
    (hS : s.heap.get? S = some { cls := .type "list", data := .seq #[] c₀ })
    (hR : ∀ s' acc' c', Moved [S, I] (fun a b => b = a) s s' → s'.heap.get? S = some { cls := .type "list", dict := none, data := .seq acc' c', slots := #[] } → ItemsOf (fun i v => items[items.size - 1 - i]? = some v) acc' items.size → R (.ok (.ret res)) s') :
    wpAny (model prog w) A.in1 (Builtin.List.listExtendWith (.ref S) (.ref I) res)
      (fun fin s' => match fin with | .done f => R (.ok f) s' | .again c' => c'.quiet = true ∧ codeAny (model prog w) A c' R s') (fun e s' => R (.error e) s') s := by
  have hfit : (items.size : Int) < 2 ^ 63 := by
    have h1 := line63
    have h3 : ((sizeLine : Nat) : Int) < 2 ^ 63 := by exact_mod_cast h1
    omega
  have W := (walks_revT (prog := prog) (w := w) (A := A.in1) hh I l hne items hfit).toS
  have hst : (fun (i : Nat) (s : Shared) => i ≤ items.size ∧ IsRevT s.heap I l ((items.size : Int) - 1 - (i : Int)) ∧ IsTup s.heap l items) 0 s := ⟨Nat.zero_le _, by simpa using hit, hl⟩
  have hSf : S ∉ [I, l] := by simp [hSI, hSl]
  unfold Builtin.List.listExtendWith
  refine wpAny_bind (wpAny_typeOf hit.typeIs ?_)
  have h1 : Builtin.List.listSameRef (.ref S) (.ref I) = false := by simp [Builtin.List.listSameRef, hSI]
  rw [if_neg (by rw [h1]; decide)]
  refine wpAny_bind (W.self 0 _ _ _ hst ?_)
  refine wpAny_bind (wpAny_holding ?_)
  unfold Builtin.List.listLengthHint
  refine wpAny_bind (wpAny_specialOf hit.typeIs nolen_rev ?_)
  show wpAny _ A.in1 (specialOf (Value.ref I) (Str.ofString "__length_hint__") >>= _) _ _ _
  refine wpAny_bind (wpAny_specialOf hit.typeIs hint_rev ?_)
  generalize hid : ("reversed.__length_hint__" : String) = id0
  wp_delta
  rw [show splitId id0 = some ("reversed", "__length_hint__") from by subst hid; decide +kernel]
  subst hid
  refine wpAny_bind (wpAny_isInstance (b := true) hit.typeIs (by rw [isSubtype_type]; kernel_rfl) ?_)
  rw [if_neg (by decide)]
  refine wpAny_ite_split (fun hab => absurd hab (by decide +kernel)) (fun _ => ?_)
  refine wpAny_bind (wpAny_rule ?_)
  refine wpAny_bind (wpAny_of_eq (slot_rev_hint.bind _) ?_)
  dsimp only
  refine wpAny_bind (wpAny_attempt (call_rev_hint hit hl hfit fun t tk htk => ?_))
  dsimp only
  have ea : asInt? (Value.int (items.size : Int) t) = pure (some (items.size : Int)) := rfl
  rw [ea, pure_bind]
  dsimp only
  have htl : Builtin.List.listTooLong ((items.size : Int).toNat) = false := by
    simp [Builtin.List.listTooLong]; exact hz
  have hfi : Builtin.List.listFitsIndex (items.size : Int) = true := by
    unfold Builtin.List.listFitsIndex
    rw [Bool.and_eq_true]
    exact ⟨decide_eq_true (by omega), decide_eq_true hfit⟩
  rw [if_neg (by rw [hfi]; decide), if_neg (by omega), if_neg (by rw [htl]; decide)]
  refine wpAny_pure ?_
  have key : ∀ (h : Heap) (c₁ : Nat), (∀ b o, b ≠ S → s.heap.get? b = some o → h.get? b = some o) → h.get? S = some { cls := .type "list", data := .seq #[] c₁ } →
      codeAny (model prog w) A (.builtin "list.extend.loop" ⟨[.ref S, .ref I, res], []⟩) R { s with heap := h, toks := tk } := by
    intro h c₁ hk hS₁
    refine codeAny_extend_loopS W hz S hSf res items.size 0 _ #[] c₁ rfl (Nat.zero_le _) ⟨Nat.zero_le _, ?_, ?_⟩ hS₁ (ItemsOf.nil _) fun s' acc' c' hm hS' hacc => ?_
    · have := hit.at fun o e => hk I o (Ne.symm hSI) e
      simpa using this
    · obtain ⟨o, ho, r⟩ := hl
      exact ⟨o, hk l o (Ne.symm hSl) ho, r⟩
    · exact hR s' acc' c' ⟨fun b o hb e => hm.heap b o hb (hk b o (fun z => hb (by simp [z])) e), hm.gens, hm.drawn, hm.os, Nat.le_trans htk hm.toks⟩ hS' hacc
  refine wpAny_ite_split (fun _ => ?_) (fun _ => wpAny_pure ⟨plainId_quiet F.plain_extend_loop _, key _ c₀ (fun b o _ e => e) hS⟩)
  refine wpAny_bind (wpAny_rule ?_)
  refine wpAny_bind ?_
  show wpAny _ _ (updateSeq S (·.push .none) >>= fun _ => updateSeq S (·.pop)) _ _ _
  have z0 : (#[] : Array Value).size ≤ sizeLine := Nat.zero_le _
  have z1 : ((#[] : Array Value).push Value.none).size ≤ sizeLine := by show 1 ≤ sizeLine; decide
  have z2 : ((#[] : Array Value).push Value.none).size ≤ sizeLine + 1 := Nat.le_succ_of_le z1
  have z3 : (((#[] : Array Value).push Value.none).pop).size ≤ sizeLine + 1 := Nat.zero_le _
  refine wpAny_bind (wpAny_updateSeq (s := { s with toks := tk }) hS rfl ?_ z0 z2)
  have hS₂ := Heap.get?_update_self (Obj.mapSeq (·.push Value.none)) hS rfl
  refine wpAny_updateSeq hS₂ rfl ?_ z1 z3
  have hS₃ := Heap.get?_update_self (Obj.mapSeq (·.pop)) hS₂ rfl
  refine wpAny_pure ⟨plainId_quiet F.plain_extend_loop _, key _ _ (fun b o hb e => ?_) hS₃⟩
  exact (Heap.get?_update_other _ _ (Ne.symm hb)).trans ((Heap.get?_update_other _ _ (Ne.symm hb)).trans e)
theorem list_init_rev (hh : A.handled = none) (hne : l ≠ I) (hz : items.size ≤ sizeLine) (S : Addr) (hit : IsRevT s.heap I l ((items.size : Int) - 1)) (hl : IsTup s.heap l items) (hSI : S ≠ I) (hSl : S ≠ l)
    (hS : s.heap.get? S = some { cls := .type "list", data := .seq #[] })
    (hR : ∀ s' acc' c', Moved [S, I] (fun a b => b = a) s s' → s'.heap.get? S = some { cls := .type "list", dict := none, data := .seq acc' c', slots := #[] } → ItemsOf (fun i v => items[items.size - 1 - i]? = some v) acc' items.size → R (.ok (.ret .none)) s') :
    wpAny (model prog w) A.in1 (Builtin.«list.__init__» ⟨[.ref S, .ref I], []⟩)
      (fun fin s' => match fin with | .done f => R (.ok f) s' | .again c' => c'.quiet = true ∧ codeAny (model prog w) A c' R s') (fun e s' => R (.error e) s') s := by
  show wpAny _ A.in1 (do let old ← Builtin.List.listItems (.ref S); Builtin.List.listUpdate (.ref S) (fun _ => #[]); letGo old.toList.reverse; Builtin.List.listExtendWith (.ref S) (.ref I) .none) _ _ s
  refine wpAny_bind ?_
  unfold Builtin.List.listItems
  refine wpAny_bind (wpAny_seqItems hS rfl (wpAny_pure ?_))
  show wpAny _ A.in1 (updateSeq S (fun _ => #[]) >>= fun _ => letGo (#[] : Array Value).toList.reverse >>= fun _ => Builtin.List.listExtendWith (.ref S) (.ref I) .none) _ _ s
  refine wpAny_bind (wpAny_updateSeq hS rfl ?_)
  have hS₂ := Heap.get?_update_self (Obj.mapSeq (fun _ => (#[] : Array Value))) hS rfl
  have oth : ∀ b o, b ≠ S → s.heap.get? b = some o → (s.heap.update S (Obj.mapSeq (fun _ => (#[] : Array Value)))).get? b = some o :=
    fun b o hb e => (Heap.get?_update_other _ _ (Ne.symm hb)).trans e
  refine wpAny_bind (wpAny_letGo ?_)
  refine extend_rev hh hne hz S .none _ (hit.at fun o e => oth I o (Ne.symm hSI) e) (let ⟨o, ho, r⟩ := hl; ⟨o, oth l o (Ne.symm hSl) ho, r⟩) hSI hSl hS₂ fun s' acc' c' hm hS' hacc => ?_
  exact hR s' acc' c' ⟨fun b o hb e => hm.heap b o hb (oth b o (fun z => hb (by simp [z])) e), hm.gens, hm.drawn, hm.os, hm.toks⟩ hS' hacc
end
section
variable {prog : Program} {w : World} {A : Around} {E : Value → Shared → Prop} {s : Shared}
theorem call_list_revT {I l : Addr} {items : Array Value} {Q : Value → Shared → Prop} (hh : A.handled = none) (hne : l ≠ I) (hz : items.size ≤ sizeLine) (hit : IsRevT s.heap I l ((items.size : Int) - 1)) (hl : IsTup s.heap l items)
    (hQ : ∀ s' acc' c', Moved [s.heap.objs.size, I] (fun a b => b = a) { s with heap := s.heap.push { cls := .type "list", data := .seq #[] } } s' →
      s'.heap.get? s.heap.objs.size = some { cls := .type "list", dict := none, data := .seq acc' c', slots := #[] } → ItemsOf (fun i v => items[items.size - 1 - i]? = some v) acc' items.size → Q (.ref s.heap.objs.size) s') :
    wpAny (model prog w) A (call (.type "list") [.ref I]) Q E s := by
  have hSI : s.heap.objs.size ≠ I := by obtain ⟨o, ho, _⟩ := hit; exact Nat.ne_of_gt (Heap.lt_size ho)
  have hSl : s.heap.objs.size ≠ l := Nat.ne_of_gt hl.lt
  refine callType_codes (Q₁ := fun obj s₁ => obj = .ref s.heap.objs.size ∧ s₁ = { s with heap := s.heap.push { cls := .type "list", data := .seq #[] } }) F.called_list (F.typeCall_list_1 _) F.entry_list_init
    (code_list_new _ ⟨rfl, rfl⟩) fun obj s₁ h₁ => ?_
  obtain ⟨rfl, rfl⟩ := h₁
  have hS : (s.heap.push { cls := .type "list", data := .seq #[] }).get? s.heap.objs.size = some { cls := .type "list", data := .seq #[] } := Heap.get?_push_size _ rfl
  refine ⟨⟨_, hS, rfl⟩, F.args_list_init_2 _ _, list_init_rev (A := A.in1) hh hne hz _ (hit.at fun o e => Heap.get?_push_of_some _ e) (hl.push _) hSI hSl hS fun s' acc' c' hm hS' hacc => ?_⟩
  exact ⟨rfl, hQ s' acc' c' hm hS' hacc⟩
end
end L2

set_option Elab.async false
set_option linter.all false
set_option maxRecDepth 100000
set_option maxHeartbeats 4000000
namespace HT
open PySem PyProof.Rows
section
variable {prog : Program} {w : World} {A : Around} {E : Value → Shared → Prop} {s : Shared}
theorem getItem_tuple_all {t sl : Addr} {items : Array Value} {vl vu : Value} {lo hi : Option Int} {Q : Value → Shared → Prop} (ht : IsTup s.heap t items) (hs : s.heap.IsSliceOf sl vl vu .none) (pl : IsPart vl lo) (pu : IsPart vu hi)
    (hw : sIx items.size 0 lo = 0 ∧ sIx items.size items.size hi = items.size) (h : Q (.ref t) s) : wpAny (model prog w) A (getItem (.ref t) (.ref sl)) Q E s := by
  obtain ⟨os, hos, hcs, hds⟩ := id hs
  have hTs : s.TypeIs (.ref sl) "slice" := ⟨os, hos, hcs⟩
  unfold getItem
  try with_reducible refine wpAny_holding ?_
  first | refine wpAny_bind (wpAny_pure ?_) | skip
  refine wpAny_bind (wpAny_sequenceKey ht.typeIs (by decide) ?_)
  refine wpAny_bind (wpAny_callSpecial?_slot (name := Str.ofString "__getitem__") ht.typeIs PyProof.Rows.slot_tuple_getitem
    (wpAny_call_entry PyProof.Rows.slot_tuple_getitem ht.typeIs entry_tuple_getitem ?_ (args_tuple_getitem _ _)))
  show wpAny _ _ (Builtin.Tuple.tupleItemsOf (.ref t) >>= _) _ _ s
  refine wpAny_bind (tupleItemsOf_ ht ?_)
  refine wpAny_bind (wpAny_typeOf hTs ?_)
  rw [if_pos (by decide)]
  refine wpAny_bind (sliceApplied_gen hs pl pu ?_)
  have hyes : ((((sIx items.size 0 lo : Nat) : Int) == 0 && (1 : Int) == 1 && (sIx items.size items.size hi - sIx items.size 0 lo) == items.size) = true) := by
    rw [hw.1, hw.2]; simp
  first
  | rw [if_pos hyes]
  | simp only [hyes, if_true]
  refine wpAny_bind ?_
  unfold Builtin.Tuple.tupleIsExact
  refine wpAny_bind (wpAny_typeOf ht.typeIs (wpAny_pure ?_))
  rw [if_pos (by decide)]
  exact wpAny_bind (wpAny_rule (wpAny_pure ⟨_, rfl, wpAny_pure h⟩))
end
end HT

namespace L2
open PySem PySem.Spec PyProof.Rows
section
variable {X : Cx}
/-- t[lo:hi]: t itself where it is the whole -/
def rSlA (K : PySem.W.Frag) : V → Option Int → Option Int → Hp → VK → Prop := fun x lo hi H Q => ∃ a xs, x = .ref a ∧ SqT K H a xs ∧
  ((HT.sIx xs.length 0 lo = 0 ∧ HT.sIx xs.length xs.length hi = xs.length) → Q (.ref a) H) ∧ (¬ (HT.sIx xs.length 0 lo = 0 ∧ HT.sIx xs.length xs.length hi = xs.length) → ∀ p, H p = none → Q (.ref p) (upd H p (.tup (cutV xs lo hi))))
theorem sl_tupA : SlR X (rSlA X.K) := by
  intro pins s σ H x v vl vu lo hi sl Q I rx hs pl pu h
  obtain ⟨a, xs, rfl, hx, q1, q2⟩ := h
  by_cases hw : HT.sIx xs.length 0 lo = 0 ∧ HT.sIx xs.length xs.length hi = xs.length
  · cases rx
    obtain ⟨its, r, ht, hz⟩ := I.tuple hx
    have hlen : its.toArray.size = xs.length := by rw [List.size_toArray]; exact r.length.symm
    refine ⟨"tuple", _, PyProof.Rows.slot_tuple_getitem.lookup, ht.typeIs, ?_⟩
    exact HT.getItem_tuple_all ht hs pl pu (by rw [hlen]; exact hw) ⟨.ref a, H, I, rfl, q1 hw⟩
  · exact sl_tup pins s σ H _ v vl vu lo hi sl Q I rx hs pl pu ⟨a, xs, rfl, hx, hw, q2 hw⟩
/-- x[lo:hi] of a list or a tuple -/
def rSlQ (K : PySem.W.Frag) : V → Option Int → Option Int → Hp → VK → Prop := fun x lo hi H Q => ∃ a tp xs, x = .ref a ∧ SqB K tp H a xs ∧ ∀ p H', Same H H' → SqB K tp H' p (cutV xs lo hi) → Q (.ref p) H'
theorem cutV_whole {xs : List V} {lo hi : Option Int} (h : HT.sIx xs.length 0 lo = 0 ∧ HT.sIx xs.length xs.length hi = xs.length) : cutV xs lo hi = xs := by
  unfold cutV
  rw [h.1, h.2]; simp
theorem sl_any : SlR X (rSlQ X.K) := by
  intro pins s σ H x v vl vu lo hi sl Q I rx hs pl pu h
  obtain ⟨a, tp, xs, rfl, hx, q⟩ := h
  cases tp with
  | false => exact sl_list pins s σ H _ v vl vu lo hi sl Q I rx hs pl pu ⟨a, xs, rfl, hx, fun p hp => q p _ (same_new hp _) (SqL.of upd_same)⟩
  | true => exact sl_tupA pins s σ H _ v vl vu lo hi sl Q I rx hs pl pu ⟨a, xs, rfl, hx, fun hw => q a H (Same.refl _) (by rw [cutV_whole hw]; exact hx), fun _ p hp => q p _ (same_new hp _) (SqT.of upd_same)⟩
end
end L2

set_option Elab.async false
set_option linter.all false
set_option maxRecDepth 100000
set_option maxHeartbeats 4000000
namespace L2
open PySem PySem.Spec PyProof.Rows
section
variable {X : Cx}
theorem vals_rev {ys : List V} {its : List Value} (r : Vals ys its) {acc : Array Value} (h : ItemsOf (fun i v => its.toArray[its.toArray.size - 1 - i]? = some v) acc its.toArray.size) : ∃ us : List Value, Vals ys.reverse us ∧ acc = us.toArray := by
  have e : acc = its.reverse.toArray := by
    apply Array.toList_inj.mp
    rw [List.toList_toArray]
    apply List.ext_getElem?
    intro i
    have hs : acc.size = its.length := by rw [h.1]; simp
    by_cases hi : i < its.length
    · have h1 : acc.toList[i]? = some (acc[i]'(by omega)) := by simp
      have h2 := h.2 i (acc[i]'(by omega)) (by simp)
      rw [h1, List.getElem?_reverse hi]
      simp at h2
      rw [← h2]
    · have h1 : acc.toList[i]? = none := List.getElem?_eq_none (by simp; omega)
      have h2 : its.reverse[i]? = none := List.getElem?_eq_none (by simp; omega)
      rw [h1, h2]
  exact ⟨its.reverse, r.reverse, e⟩
/-- list(reversed(x)) -/
def tRev (K : PySem.W.Frag) (t : TA) : TE := fun σ H Q => t σ H fun vs H1 => ∃ a tp ys, vs = [.ref a] ∧ SqB K tp H1 a ys ∧ ∀ l, H1 l = none → Q (.ref l) (upd H1 l (.lst ys.reverse))
theorem pe_rev {p1 p2 pos1 pos2 : Pos} {e : Expr} {t : TA} (hc : X.calm = true) (hg1 : Gl X "list") (hm1 : X.mg "list" = none) (hg2 : Gl X "reversed") (hm2 : X.mg "reversed" = none) (ha : PA X [e] t)
    (he : starEach [e] X.env = [(false, eval e X.env)] := by rfl) (he2 : starEach [.Call (.Name "reversed" p2) [e] [] pos2] X.env = [(false, eval (.Call (.Name "reversed" p2) [e] [] pos2) X.env)] := by rfl) :
    PE X (.Call (.Name "list" p1) [.Call (.Name "reversed" p2) [e] [] pos2] [] pos1) (tRev X.K t) := by
  intro pins s σ H Q I h
  refine wpAny_Call_Name_kw (ld_blt I hg1 hm1 (show bootBuiltins "list" = some (.type "list") by decide +kernel) ?_ (by decide) (by decide))
  refine PyProof.Rows.callWith_type1 ?_ he2 rfl
  rw [he2]
  show wpAny _ _ (spliced ((false, eval (.Call (.Name "reversed" p2) [e] [] pos2) X.env) :: [])) _ _ s
  refine Calls.spliced_cons ?_
  refine wpAny_Call_Name_kw (ld_blt I hg2 hm2 (show bootBuiltins "reversed" = some (.type "reversed") by decide +kernel) ?_ (by decide) (by decide))
  refine PyProof.Rows.callWith_type1 (thn (ha pos2 pins s σ H _ I h) fun us s1 ⟨vs, H1, I1, r1, q1⟩ => ?_) he rfl
  obtain ⟨a, tp, ys, rfl, hq, q⟩ := q1
  obtain ⟨u, rfl, rx⟩ := vals1 r1
  cases rx
  have fin : ∀ (its : List Value) (D : Addr) (s2 s' : Shared) (acc : Array Value) (c : Nat) (tk : Nat) (ob : Obj), Vals ys its → ys.length ≤ sizeLine → D = s1.heap.objs.size → s2 = { s1 with heap := s1.heap.push ob, toks := tk } →
      Moved [s2.heap.objs.size, D] (fun a b => b = a) { s2 with heap := s2.heap.push { cls := .type "list", data := .seq #[] } } s' → s'.heap.get? s2.heap.objs.size = some { cls := .type "list", dict := none, data := .seq acc c, slots := #[] } →
      ItemsOf (fun i v => its.toArray[its.toArray.size - 1 - i]? = some v) acc its.toArray.size → EP X pins σ Q (.ref s2.heap.objs.size) s' := by
    intro its D s2 s' acc c tk ob r hz eD e2 hm hS hacc
    subst eD; subst e2
    obtain ⟨us, rv, rfl⟩ := vals_rev r hacc
    obtain ⟨h', g', d', tk', os'⟩ := s'
    have eg : g' = s1.gens := hm.gens
    have ed : d' = s1.drawn := hm.drawn
    have eo : os' = s1.os := hm.os
    subst eg; subst ed; subst eo
    have hsz : (s1.heap.push ob).objs.size = s1.heap.objs.size + 1 := Heap.size_push ..
    have kp : ∀ b o, s1.heap.get? b = some o → h'.get? b = some o := fun b o e => by
      have hb := Heap.lt_size e
      refine hm.heap b o ?_ (Heap.get?_push_of_some _ (Heap.get?_push_of_some _ e))
      show b ∉ [(s1.heap.push ob).objs.size, s1.heap.objs.size]
      rw [hsz]
      simp only [List.mem_cons, List.not_mem_nil, or_false, not_or]
      exact ⟨Nat.ne_of_lt (Nat.lt_succ_of_lt hb), Nat.ne_of_lt hb⟩
    refine ⟨.ref _, _, I1.laid (a := (s1.heap.push ob).objs.size) (t' := tk') kp (by rw [hsz]; exact Nat.le_succ _) (show ObjOk X.prog X.w _ h' _ (.lst ys.reverse) from ⟨by rw [List.length_reverse]; exact hz, us, c, rv, hS⟩), rfl, q _ (I1.hok.fresh (by show _ ≤ _; rw [hsz]; exact Nat.le_succ _))⟩
  have hh : X.A.handled = none := I1.ok.hd hc
  cases tp with
  | false =>
    obtain ⟨its, r, pl, hz⟩ := I1.list hq
    have hlen := r.length
    refine call_reversed_list pl.isList ?_
    refine Calls.spliced_nil ?_
    obtain ⟨o, n, ho, _⟩ := id pl
    have hlt := Heap.lt_size ho
    have hne : a ≠ s1.heap.objs.size := Nat.ne_of_lt hlt
    have hst : 0 ≤ its.toArray.size ∧ Heap.IsRevIter (s1.heap.push (revObj a ((its.toArray.size : Int) - 1))) s1.heap.objs.size a ((its.toArray.size : Int) - 1 - ((0 : Nat) : Int)) ∧ Heap.IsList (s1.heap.push (revObj a ((its.toArray.size : Int) - 1))) a its.toArray :=
      ⟨Nat.zero_le _, ⟨_, Heap.get?_push_size _ rfl, rfl, by simp [revObj]⟩, pl.isList.push _⟩
    refine call_list_lri (I := s1.heap.objs.size) (s := { s1 with heap := s1.heap.push (revObj a ((its.toArray.size : Int) - 1)) }) (Walks.listRev (prog := X.prog) (w := X.w) (A := X.A.in1.in1) hh s1.heap.objs.size a hne its.toArray).toS (fun i s st => st.2.1.typeIs) hst ?_ (by simp) ?_ (by simp; omega)
    · intro b hb
      show b < (s1.heap.push _).objs.size
      rw [Heap.size_push]
      rcases List.mem_cons.mp hb with h | h
      · rw [h]; exact Nat.lt_succ_self _
      · have : b = a := by simpa using h
        rw [this]; exact Nat.lt_succ_of_lt hlt
    · intro s' acc c hm hS hacc
      exact fin its s1.heap.objs.size { s1 with heap := s1.heap.push (revObj a ((its.toArray.size : Int) - 1)) } s' acc c s1.toks (revObj a ((its.toArray.size : Int) - 1)) r hz rfl rfl hm hS hacc
  | true =>
    obtain ⟨its, r, pl, hz⟩ := I1.tuple hq
    have hlen := r.length
    have hn := line63
    have hfit : (its.toArray.size : Int) < 2 ^ 63 := by simp only [List.size_toArray]; omega
    refine call_rev_tup hfit pl ?_
    refine Calls.spliced_nil ?_
    have hne : a ≠ s1.heap.objs.size := Nat.ne_of_lt pl.lt
    refine call_list_revT (I := s1.heap.objs.size) (s := { s1 with heap := s1.heap.push (revT a ((its.toArray.size : Int) - 1)), toks := s1.toks + 1 + 1 }) hh hne (by simp; omega) ⟨_, Heap.get?_push_size _ rfl, rfl, rfl⟩ (pl.push _) ?_
    intro s' acc c hm hS hacc
    exact fin its s1.heap.objs.size { s1 with heap := s1.heap.push (revT a ((its.toArray.size : Int) - 1)), toks := s1.toks + 1 + 1 } s' acc c (s1.toks + 1 + 1) (revT a ((its.toArray.size : Int) - 1)) r hz rfl rfl hm hS hacc
theorem qe_rev {p1 p2 pos1 pos2 : Pos} {e : Expr} {t : TA} (hc : X.calm = true) (hg1 : Gl X "list") (hm1 : X.mg "list" = none) (hg2 : Gl X "reversed") (hm2 : X.mg "reversed" = none) (ha : QA X [e] t)
    (he : starEach [e] X.env = [(false, eval e X.env)] := by rfl) (he2 : starEach [.Call (.Name "reversed" p2) [e] [] pos2] X.env = [(false, eval (.Call (.Name "reversed" p2) [e] [] pos2) X.env)] := by rfl) :
    QE X (.Call (.Name "list" p1) [.Call (.Name "reversed" p2) [e] [] pos2] [] pos1) (tRev X.K t) := ⟨pe_rev hc hg1 hm1 hg2 hm2 ha.h he he2⟩
end
end L2

set_option Elab.async false
set_option linter.all false
set_option maxRecDepth 100000
set_option maxHeartbeats 4000000
namespace L2
open PySem PySem.Spec PyProof.Rows
/-! ### for k, x in enumerate(l) -/
section
variable {X : Cx}
/-- untracked records of ours have turned -/
theorem Inv.turnL {pins : List (Addr × Obj)} {σ : St} {H : Hp} {s : Shared} {h' : Heap} {t' : Nat} {fp : List Addr} (I : Inv X pins σ H s) (hf : ∀ b ∈ fp, FpOk X pins H b) (k : ∀ b o, b ∉ fp → s.heap.get? b = some o → h'.get? b = some o) :
    Inv X pins σ H { s with heap := h', toks := t' } := by
  have nit : ∀ b u, H b = some u → b ∉ fp := fun b u e z => by rw [(hf b z).1] at e; cases e
  refine I.step (g' := s.gens) (d' := s.drawn) (ch := fp) (fun b hb => ?_) (fun b o _ _ hc e _ => k b o hc e) (fun b o _ _ hc e _ => ⟨o.slots, k b o hc e⟩) (fun _ _ _ _ n => n)
    (fun b o hc e => ⟨o, k b o hc e⟩) (fun _ _ e => e) (fun _ _ _ e => e) (fun b ps e => ⟨#[], by rw [e]; simp⟩) (fun m hm => ?_) (fun b u e => ?_) I.bare
  · obtain ⟨_, h1, _, h3, h4, h5⟩ := hf b hb
    exact ⟨h3, h1, h4, h5⟩
  · obtain ⟨o, es, ep, ho, r⟩ := hm
    exact ⟨o, es, ep, k _ o (fun z => (hf _ z).2.1 rfl) ho, r⟩
  · refine (I.hok b u e).stay (fun c v hc q => k c v ?_ q) (fun _ q => q) fun _ _ q => q
    rcases hc with z | z
    · rw [z]; exact nit b u e
    · exact nit c _ z
/-- .. and a new object is tracked -/
theorem Inv.turnLaid {pins : List (Addr × Obj)} {σ : St} {H : Hp} {s : Shared} {h' : Heap} {t' : Nat} {fp : List Addr} {a : Addr} {o : HO} (I : Inv X pins σ H s) (hf : ∀ b ∈ fp, FpOk X pins H b) (k : ∀ b o, b ∉ fp → s.heap.get? b = some o → h'.get? b = some o)
    (ha : s.heap.objs.size ≤ a) (new : ObjOk X.prog X.w (upd H a o) h' a o) : Inv X pins σ (upd H a o) { s with heap := h', toks := t' } := by
  have hn : H a = none := I.hok.fresh ha
  have nit : ∀ b u, H b = some u → b ∉ fp := fun b u e z => by rw [(hf b z).1] at e; cases e
  have ne : ∀ b u, H b = some u → b ≠ a := fun b u e => ne_of_none e hn
  have ne2 : ∀ b u, s.heap.get? b = some u → b ≠ a := fun b u e => Nat.ne_of_lt (Nat.lt_of_lt_of_le (Heap.lt_size e) ha)
  refine I.step (g' := s.gens) (d' := s.drawn) (ch := fp) (fun b hb => ?_) (fun b o _ _ hc e _ => k b o hc e) (fun b o _ _ hc e _ => ⟨o.slots, k b o hc e⟩) (fun b o _ e n => by rw [upd_ne (ne2 b o e)]; exact n)
    (fun b o hc e => ⟨o, k b o hc e⟩) (fun b _ e => by rw [upd_ne (ne b _ e)]; exact e) (fun b _ _ e => by rw [upd_ne (ne b _ e)]; exact e) (fun b ps e => ⟨#[], by rw [upd_ne (ne b _ e), e]; simp⟩) (fun m hm => ?_) (fun b u e => ?_) I.bare
  · obtain ⟨_, h1, _, h3, h4, h5⟩ := hf b hb
    exact ⟨h3, h1, h4, h5⟩
  · obtain ⟨o, es, ep, ho, r⟩ := hm
    exact ⟨o, es, ep, k _ o (fun z => (hf _ z).2.1 rfl) ho, r⟩
  · by_cases hb : b = a
    · subst hb
      rw [upd_same] at e; cases e
      exact new
    · rw [upd_ne hb] at e
      refine (I.hok b u e).stay (fun c v hc q => k c v ?_ q) (fun c q => by rw [upd_ne (ne c _ q)]; exact q) fun c _ q => by rw [upd_ne (ne c _ q)]; exact q
      rcases hc with z | z
      · rw [z]; exact nit b u e
      · exact nit c _ z
def Ien (K : PySem.W.Frag) (a : Addr) (xs : List V) : It :=
  ⟨fun i H => SqL K H a xs ∧ i < xs.length, fun i H x H' => ∃ p y, xs[i]? = some y ∧ x = .ref p ∧ H p = none ∧ H' = upd H p (.tup [.int i, y]), fun i H => SqL K H a xs ∧ xs.length ≤ i⟩
theorem turn_enum {P : Program} {w : World} {K : PySem.W.Frag} {es : List Expr} {k1 : Nat} {p1 : Pos} (a e it : Addr) (xs : List V) (hei : e ≠ it) :
    Turn P w K (.Tuple es k1 p1) (Ien K a xs) [e, it] e (fun i h => (∃ old, IsEnum h e it i old) ∧ h.IsListIter it a i) where
  mem := by simp
  obj := fun i h st b hb => by
    obtain ⟨⟨old, h1⟩, o, h2, _, d⟩ := st
    rcases List.mem_cons.mp hb with z | z
    · subst z; exact ⟨_, h1, fun v z => by cases z⟩
    · have : b = it := by simpa using z
      subst this
      exact ⟨o, h2, fun v z => by rw [d] at z; cases z⟩
  keep := fun i h h' st k => ⟨let ⟨old, h1⟩ := st.1; ⟨old, k e (by simp) _ h1⟩, st.2.at fun o q => k it (by simp) o q⟩
  item := by
    intro X hP hw hK hc i pins s σ H E I hf st hg
    subst hP hw hK
    obtain ⟨hq, hi⟩ := hg
    obtain ⟨⟨old, he⟩, hit⟩ := st
    obtain ⟨its, rv, p, hz⟩ := I.list hq
    obtain ⟨u, hu, ru⟩ := rv.get (List.getElem?_eq_getElem hi)
    refine wpAny_pyNext_enum_item he hit p.isList (x := u) (by simpa using hu) hei fun h1 heo hit1 ht1 hz1 hk1 => ⟨_, rfl, ?_⟩
    refine wpAny_letOwnedTupleGo_enum heo fun h2 he2 hs2 => ?_
    have hlt : e < s.heap.objs.size := Heap.lt_size he
    have ht2 : h2.get? s.heap.objs.size = some { cls := .type "tuple", data := .seq #[.int i s.toks, u] } := (hs2.2 _ (Nat.ne_of_gt hlt)).trans ht1
    have kp : ∀ b o, b ∉ [e, it] → s.heap.get? b = some o → h2.get? b = some o := fun b o hb q => by
      have hb' : b ≠ e ∧ b ≠ it := by simpa using hb
      exact (hs2.2 b hb'.1).trans (hk1 b o hb'.1 hb'.2 q)
    refine ⟨.ref s.heap.objs.size, _, I.turnLaid (t' := s.toks + 1) (a := s.heap.objs.size) (o := .tup [.int i, xs[i]]) hf kp (Nat.le_refl _) ?_, rfl, ⟨_, _, List.getElem?_eq_getElem hi, rfl, I.hok.fresh (Nat.le_refl _), rfl⟩, ⟨⟨_, he2⟩, hit1.at fun o q => (hs2.2 it (Ne.symm hei)).trans q⟩, fun b hb => ?_⟩
    · exact ⟨(by show 2 ≤ sizeLine; decide), [.int i s.toks, u], .cons ⟨_, rfl⟩ (.cons ru .nil), ⟨_, ht2, rfl, _, rfl⟩, fun ob q => by rw [ht2] at q; cases q; rfl⟩
    · have hb2 : b < s.heap.objs.size := by
        rcases List.mem_cons.mp hb with z | z
        · rw [z]; exact hlt
        · have : b = it := by simpa using z
          obtain ⟨o, q, _⟩ := hit
          rw [this]; exact Heap.lt_size q
      rw [upd_ne (Nat.ne_of_lt hb2)]
      exact (hf b hb).1
  done := by
    intro X hP hw hK hc i pins s σ H E I hf st hg
    subst hP hw hK
    obtain ⟨hq, hx⟩ := hg
    obtain ⟨⟨old, he⟩, hit⟩ := st
    obtain ⟨its, rv, p, hz⟩ := I.list hq
    have hl := rv.length
    exact wpAny_pyNext_enum_end (I.ok.hd hc) he hit p.isList (by simp; omega) fun h' eb => ⟨rfl, I.turnL (t' := s.toks) hf fun b o hb q => eb b o (fun z => hb (by simp [z])) q⟩
  self := fun _ _ _ _ _ st h => let ⟨⟨_, he⟩, _⟩ := st; wpAny_pyIter_enum he h
def iEnum (K : PySem.W.Frag) (t : TA) : TI := fun σ H R => t σ H fun vs H1 => ∃ a xs, vs = [.ref a] ∧ SqL K H1 a xs ∧ R (Ien K a xs) H1
theorem pi_enum {es : List Expr} {k1 : Nat} {p1 p pos : Pos} {l : Expr} {t : TA} (hg : Gl X "enumerate") (hm : X.mg "enumerate" = none) (ha : PA X [l] t) (hs : starEach [l] X.env = [(false, eval l X.env)] := by rfl) :
    PI X (.Tuple es k1 p1) (.Call (.Name "enumerate" p) [l] [] pos) (iEnum X.K t) := by
  intro pins s σ H R I h
  refine wpAny_Call_Name_kw (ld_blt I hg hm (show bootBuiltins "enumerate" = some (.type "enumerate") by decide +kernel) ?_ (by decide) (by decide))
  refine PyProof.Rows.callWith_type1 (thn (ha pos pins s σ H _ I h) fun us s1 ⟨vs, H1, I1, r1, q1⟩ => ?_) hs rfl
  obtain ⟨a, xs, rfl, hq, q⟩ := q1
  obtain ⟨u, rfl, rx⟩ := vals1 r1
  cases rx
  obtain ⟨its, rv, p, hz⟩ := I1.list hq
  refine call_enumerate_list p.isList fun h' he hit hsz kp => ?_
  refine wpAny_pyIter_enum he ?_
  have hne : s1.heap.objs.size + 1 ≠ s1.heap.objs.size := Nat.succ_ne_self _
  refine ⟨s1.heap.objs.size + 1, [s1.heap.objs.size + 1, s1.heap.objs.size], _, _, H1, rfl, I1.kept (t' := s1.toks) kp, turn_enum a _ _ xs hne, ⟨⟨_, he⟩, hit⟩, fun b hb => ?_, q⟩
  have hb2 : s1.heap.objs.size ≤ b := by
    rcases List.mem_cons.mp hb with z | z
    · rw [z]; exact Nat.le_succ _
    · have : b = s1.heap.objs.size := by simpa using z
      rw [this]; exact Nat.le_refl _
  exact I1.fpOk hb2 (I1.hok.fresh hb2)
theorem qi_enum {es : List Expr} {k1 : Nat} {p1 p pos : Pos} {l : Expr} {t : TA} (hg : Gl X "enumerate") (hm : X.mg "enumerate" = none) (ha : QA X [l] t) (hs : starEach [l] X.env = [(false, eval l X.env)] := by rfl) :
    QI X (.Tuple es k1 p1) (.Call (.Name "enumerate" p) [l] [] pos) (iEnum X.K t) := ⟨pi_enum hg hm ha.h hs⟩
end
theorem for_enum {K : PySem.W.Frag} {a : Addr} {xs : List V} {g : TG} {tb : TS} {D : Ends} {σ : St} {H : Hp} (Pv : Nat → St → Hp → Prop) (h0 : Pv 0 σ H) (hl : ∀ i σ H, i ≤ xs.length → Pv i σ H → SqL K H a xs)
    (hs : ∀ i y σ H p, xs[i]? = some y → Pv i σ H → H p = none → g (.ref p) σ (upd H p (.tup [.int i, y])) fun σ2 H2 => tb { D with nx := Pv (i + 1), ct := Pv (i + 1), bk := D.nx } σ2 H2) (hd : ∀ σ H, Pv xs.length σ H → D.nx σ H) :
    ∃ W : Nat → Nat → St → Hp → Prop, (∃ m, W 0 m σ H) ∧ ∀ i m σ H, W i m σ H →
      ((Ien K a xs).stop i H ∧ D.nx σ H) ∨ ((Ien K a xs).go i H ∧ ∃ N : St → Hp → Prop, (∀ σ' H', N σ' H' → ∃ m', m' < m ∧ W (i + 1) m' σ' H') ∧ ∀ x H', (Ien K a xs).yld i H x H' → g x σ H' fun σ2 H2 => tb { D with nx := N, ct := N, bk := D.nx } σ2 H2) := by
  refine ⟨fun i m σ H => m = xs.length - i ∧ i ≤ xs.length ∧ Pv i σ H, ⟨xs.length, by simp, Nat.zero_le _, h0⟩, fun i m σ H ⟨e, hi, p⟩ => ?_⟩
  subst e
  have q := hl i σ H hi p
  by_cases hlt : i < xs.length
  · refine .inr ⟨⟨q, hlt⟩, Pv (i + 1), fun σ' H' p' => ⟨xs.length - (i + 1), by omega, rfl, hlt, p'⟩, fun x H' y => ?_⟩
    obtain ⟨pp, y, hy, rfl, hn, rfl⟩ := y
    exact hs i y σ _ pp hy p hn
  · have e : i = xs.length := by omega
    subst e
    exact .inl ⟨⟨q, Nat.le_refl _⟩, hd σ H p⟩
end L2


set_option linter.all false
namespace MA
/-- the letters of a number, least first -/
def lets (n : Nat) : List Nat := if h : n < 26 then [97 + n] else (97 + n % 26) :: lets (n / 26)
termination_by n
decreasing_by omega
def vals : List Nat → Nat
  | [] => 0
  | c :: r => (c - 97) + 26 * vals r
theorem lets_small {n : Nat} (h : n < 26) : lets n = [97 + n] := by unfold lets; simp [h]
theorem lets_big {n : Nat} (h : ¬ n < 26) : lets n = (97 + n % 26) :: lets (n / 26) := by rw [lets]; simp [h]
theorem vals_lets : ∀ n, vals (lets n) = n := by
  intro n
  induction n using Nat.strongRecOn with
  | _ n ih =>
    by_cases h : n < 26
    · rw [lets_small h]; simp [vals]
    · rw [lets_big h]
      have := ih (n / 26) (by omega)
      simp only [vals, this]
      omega
theorem lets_inj {a b : Nat} (h : lets a = lets b) : a = b := by rw [← vals_lets a, h, vals_lets]
theorem lets_pos (n : Nat) : 1 ≤ (lets n).length := by
  by_cases h : n < 26
  · rw [lets_small h]; simp
  · rw [lets_big h]; simp
theorem lets_len : ∀ (k n : Nat), n < 26 ^ (k + 1) → (lets n).length ≤ k + 1
  | 0, n, h => by rw [lets_small (by simpa using h)]; simp
  | k + 1, n, h => by
    by_cases h1 : n < 26
    · rw [lets_small h1]; simp
    · rw [lets_big h1]
      have := lets_len k (n / 26) (by rw [Nat.pow_succ] at h; exact Nat.div_lt_of_lt_mul (by rw [Nat.mul_comm]; exact h))
      simp only [List.length_cons]; omega
theorem lets_abc : ∀ n, ∀ c ∈ lets n, 97 ≤ c ∧ c ≤ 122 := by
  intro n
  induction n using Nat.strongRecOn with
  | _ n ih =>
    by_cases h : n < 26
    · rw [lets_small h]; intro c hc; simp at hc; omega
    · rw [lets_big h]
      intro c hc
      rcases List.mem_cons.mp hc with e | e
      · omega
      · exact ih (n / 26) (by omega) c e
/-- pigeonhole -/
theorem pigeon {α : Type} [DecidableEq α] : ∀ (k : Nat) (f : Nat → α) (l : List α), (∀ i j, i < k → j < k → f i = f j → i = j) → (∀ i, i < k → f i ∈ l) → k ≤ l.length
  | 0, _, _, _, _ => Nat.zero_le _
  | k + 1, f, l, hi, hm => by
    have h1 := hm k (Nat.lt_succ_self k)
    have := pigeon k f (l.erase (f k)) (fun i j a b e => hi i j (by omega) (by omega) e) (fun i a => by
      have hne : f i ≠ f k := fun e => by have := hi i k (by omega) (by omega) e; omega
      exact (List.mem_erase_of_ne hne).mpr (hm i (by omega)))
    rw [List.length_erase_of_mem h1] at this
    have hp := List.length_pos_of_mem h1
    omega
end MA

set_option Elab.async false
set_option linter.all false
set_option maxRecDepth 100000
set_option maxHeartbeats 4000000
set_option exponentiation.threshold 5000
namespace Lw
open PySem PySem.Spec PyProof.Rows L2
/-! ### the pot that draws -/
def Pot (H : Hp) (p : Addr) : Prop := ∃ a b : Int, H p = some (.lst [.int a, .int b]) ∧ 0 ≤ a ∧ a < 10 ^ 256 ∧ 0 ≤ b ∧ b < 2147483647
structure PStep (p : Addr) (H H' : Hp) : Prop where
  pot : Pot H' p
  same : SameX p H H'
theorem PStep.trans {p : Addr} {H H1 H2 : Hp} (a : PStep p H H1) (b : PStep p H1 H2) : PStep p H H2 := ⟨b.pot, a.same.trans b.same⟩
theorem PStep.of {p : Addr} {H H' : Hp} (h : Pot H p) (s : Same H H') : PStep p H H' := by
  obtain ⟨a, b, e, r⟩ := h
  exact ⟨⟨a, b, s _ _ e, r⟩, SameX.of s⟩
theorem Pot.same {p : Addr} {H H' : Hp} (h : Pot H p) (s : Same H H') : Pot H' p := (PStep.of h s).pot
theorem PStep.sqL {K : PySem.W.Frag} {p a : Addr} {H H' : Hp} {xs : List V} (s : PStep p H H') (h : SqL K H a xs) (hne : a ≠ p) : SqL K H' a xs := by
  rcases h with (h | ⟨o, h⟩) | h
  · exact .inl (.inl (s.same _ _ hne h))
  · exact .inl (.inr ⟨o, s.same _ _ hne h⟩)
  · exact .inr h
theorem PStep.at' {p a : Addr} {H H' : Hp} {o : HO} (s : PStep p H H') (h : H a = some o) (hne : a ≠ p) : H' a = some o := s.same _ _ hne h
theorem nat10 : (10 : Int) ^ 256 < 2 ^ 900 := by decide +kernel
theorem abs_lt {a : Int} (h0 : 0 ≤ a) (h1 : a < 10 ^ 256) : a.natAbs < 2 ^ 1000 := by
  have h2 := nat10
  have e : ((a.natAbs : Nat) : Int) = a := Int.natAbs_of_nonneg h0
  have h3 : ((a.natAbs : Nat) : Int) < ((2 ^ 900 : Nat) : Int) := by rw [e]; exact Int.lt_trans h1 (by exact_mod_cast h2)
  have h4 : a.natAbs < 2 ^ 900 := by exact_mod_cast h3
  exact Nat.lt_trans h4 (by decide +kernel)
theorem abs_small {a : Int} (h0 : -(10 ^ 20) < a) (h1 : a < 10 ^ 20) : a.natAbs < 2 ^ 1000 := by
  have h4 : a.natAbs < 10 ^ 20 := by omega
  exact Nat.lt_trans h4 (by decide +kernel)
/-! ### promises -/
def spPot (K : PySem.W.Frag) : Sp := fun vs H Q _ => ∃ (a : Addr) (ns : List Int) (k : Int), vs = [.ref a, .int k] ∧ SqL K H a (ns.map V.int) ∧ 0 ≤ k ∧ k ≤ 1000 ∧ ∀ p H', H p = none → Same H H' → Pot H' p → Q (.ref p) H'
def spTake : Sp := fun vs H Q _ => ∃ (p : Addr) (m : Int), vs = [.ref p, .int m] ∧ Pot H p ∧ 0 < m ∧ m < 10 ^ 18 ∧ ∀ r H', 0 ≤ r → r < m → PStep p H H' → Q (.int r) H'
def strL (l : List Nat) : Str := ⟨l.toArray⟩
def spLetters : Sp := fun vs H Q _ => ∃ r : Int, vs = [.int r] ∧ 0 ≤ r ∧ r < 26 ^ 8 ∧ Q (.str (strL (MA.lets r.toNat))) H
end Lw
namespace Lw
open PySem PySem.Spec PyProof.Rows L2
theorem atI_of {α : Type} {xs : List α} {k : Int} {v : α} (h0 : 0 ≤ k) (h : xs[k.toNat]? = some v) : atI xs k = some v := by
  have ek : k = ((k.toNat : Nat) : Int) := by omega
  have q := atI_nat h
  rw [← ek] at q
  exact q
end Lw
namespace Lw
open PySem PySem.Spec PyProof.Rows L2
abbrev abc : Str := "abcdefghijklmnopqrstuvwxyz"
theorem abc_nth : ∀ j, j < 26 → abc.cps.toList[j]? = some (97 + j) := by decide +kernel
theorem abc_at {k : Int} (h0 : 0 ≤ k) (h1 : k < 26) : atI abc.cps.toList k = some (97 + k.toNat) := atI_of h0 (abc_nth _ (by omega))
theorem strL_snoc (l : List Nat) (c : Nat) : strL l ++ (⟨#[c]⟩ : Str) = strL (l ++ [c]) := by
  show (⟨l.toArray ++ #[c]⟩ : Str) = ⟨(l ++ [c]).toArray⟩
  simp
theorem strL_len (l : List Nat) : (strL l).length = l.length := by simp [strL, Str.length]
theorem strL_empty {l : List Nat} : (V.str (strL l) = V.str (Str.ofString "")) ↔ l = [] := by
  constructor
  · intro h
    injection h with h
    have h2 := congrArg (fun x => x.cps.toList) h
    have e : (Str.ofString "").cps.toList = [] := by decide +kernel
    rw [e] at h2
    simpa [strL] using h2
  · rintro rfl; rfl
theorem small {n : Nat} (h : n ≤ 100000) : n ≤ sizeLine := Nat.le_trans h (by decide +kernel)
theorem lets_next {n k : Nat} {pre : List Nat} (h : pre ++ MA.lets k = MA.lets n) : (0 < k / 26 → (pre ++ [97 + k % 26]) ++ MA.lets (k / 26) = MA.lets n) ∧ (k / 26 = 0 → pre ++ [97 + k % 26] = MA.lets n) := by
  constructor
  · intro h1
    rw [MA.lets_big (by omega)] at h
    rw [← h, List.append_assoc]; rfl
  · intro h1
    have h2 : k < 26 := by omega
    rw [MA.lets_small h2] at h
    rw [← h, Nat.mod_eq_of_lt h2]
end Lw
namespace Lw
open PySem PySem.Spec PyProof.Rows L2
/-! ### names -/
def Nm (x : Str) : Prop := 1 ≤ x.length ∧ x.length ≤ 8 ∧ ∀ c ∈ x.cps.toList, 97 ≤ c ∧ c ≤ 122
instance (x : Str) : Decidable (Nm x) := by unfold Nm; exact inferInstance
theorem len_cps (x : Str) : x.length = x.cps.toList.length := by simp [Str.length]
theorem nm_lets {n : Nat} (h : n < 26 ^ 8) : Nm (strL (MA.lets n)) := by
  refine ⟨by rw [strL_len]; exact MA.lets_pos n, by rw [strL_len]; exact MA.lets_len 7 n h, fun c hc => MA.lets_abc n c (by simpa [strL] using hc)⟩
def menu : List Str := ["put", "take", "none", "ahead", "all", "over", "next", "a", "ab", "abc", "abcdefgh", "b", "step"]
theorem menu_nm : ∀ x ∈ menu, Nm x := by decide +kernel
def menuV : List V := [.str "put", .str "take", .str "none", .str "ahead", .str "all", .str "over", .str "next", .str "a", .str "ab", .str "abc", .str "abcdefgh", .str "b", .str "step"]
theorem menu_at {i : Int} (h0 : 0 ≤ i) (h1 : i < 13) : ∃ x, atI menuV i = some (.str x) ∧ Nm x := by
  have hl : menu.length = 13 := rfl
  have hi : i.toNat < menu.length := by omega
  have e : menuV = menu.map V.str := rfl
  refine ⟨menu[i.toNat], atI_of h0 ?_, menu_nm _ (List.getElem_mem hi)⟩
  rw [e, List.getElem?_map, List.getElem?_eq_getElem hi]; rfl
theorem strs_nth {ns : List Str} {i : Int} (h0 : 0 ≤ i) (h1 : i < ns.length) : ∃ x, atI (ns.map V.str) i = some (.str x) ∧ x ∈ ns ∧ ns[i.toNat]? = some x := by
  have hi : i.toNat < ns.length := by omega
  exact ⟨ns[i.toNat], atI_of h0 (by rw [List.getElem?_map, List.getElem?_eq_getElem hi]; rfl), List.getElem_mem hi, List.getElem?_eq_getElem hi⟩
theorem flat_strs (ns : List Str) : (ns.map V.str).all flatV = true := by
  rw [List.all_eq_true]; intro x hx
  obtain ⟨y, _, rfl⟩ := List.mem_map.mp hx; rfl
theorem inV_strs (x : Str) (ns : List Str) : inV (.str x) (ns.map V.str) = decide (x ∈ ns) := by
  unfold inV
  rw [Bool.eq_iff_iff, List.any_eq_true, decide_eq_true_iff]
  constructor
  · rintro ⟨v, hv, h⟩
    obtain ⟨y, hy, rfl⟩ := List.mem_map.mp hv
    have h' : (y == x) = true := h
    have : y = x := by simpa using h'
    rw [← this]; exact hy
  · intro h
    exact ⟨.str x, List.mem_map.mpr ⟨x, h, rfl⟩, by show (x == x) = true; simp⟩
theorem eqVs_nil (xs : List V) : eqVs xs [] = decide (xs = []) := by
  cases xs with
  | nil => rfl
  | cons x r => rw [eqVs_ne (by simp)]; simp
/-! slices of texts -/
theorem str_ext {x y : Str} (h : x.cps.toList = y.cps.toList) : x = y := by
  cases x; cases y; simp only [Str.mk.injEq]; exact Array.toList_inj.mp h
theorem slice_gen (z : Str) {a b : Nat} {lo hi : Option Int} (hab : a ≤ b) (hb : b ≤ z.length) (e : Builtin.Str.strSliceIndices lo hi 1 z.length = Builtin.Str.strSliceIndices (some (a : Int)) (some (b : Int)) 1 z.length) :
    (Txt.slice z lo hi).cps.toList = (z.cps.toList.drop a).take (b - a) := by
  have q := StrLaws.sliced_plain z hab hb
  rw [← e] at q
  unfold Txt.slice
  split
  · rename_i h
    have hl : (Builtin.Str.strSliceIndices lo hi 1 z.length).length = z.length := by simpa using h
    rw [e, StrLaws.strSliceIndices_plain hab hb, List.length_map, List.length_range] at hl
    have h1 : a = 0 := by omega
    have h2 : b = z.length := by omega
    subst h1; subst h2
    rw [List.drop_zero, Nat.sub_zero, len_cps, List.take_length]
  · rw [← q]
theorem slice_take (z : Str) {j : Int} (h : 0 ≤ j) : (Txt.slice z none (some j)).cps.toList = z.cps.toList.take j.toNat := by
  have e := slice_gen z (a := 0) (b := min j.toNat z.length) (lo := none) (hi := some j) (Nat.zero_le _) (Nat.min_le_right _ _) (by
    have h1 : ¬ j < 0 := by omega
    have h2 : ¬ (((min j.toNat z.length : Nat) : Int) < 0) := by omega
    have h3 : max (0 : Int) (min j (z.length : Int)) = max 0 (min ((min j.toNat z.length : Nat) : Int) (z.length : Int)) := by omega
    simp only [Builtin.Str.strSliceIndices, h1, h2, if_false, h3]
    rfl)
  rw [e, List.drop_zero, Nat.sub_zero]
  rcases Nat.le_total j.toNat z.length with h1 | h1
  · rw [Nat.min_eq_left h1]
  · rw [Nat.min_eq_right h1, len_cps, List.take_length, List.take_of_length_le (by rw [← len_cps]; exact h1)]
theorem slice_drop (z : Str) {i : Int} (h : 0 ≤ i) : (Txt.slice z (some i) none).cps.toList = z.cps.toList.drop i.toNat := by
  have e := slice_gen z (a := min i.toNat z.length) (b := z.length) (lo := some i) (hi := none) (Nat.min_le_right _ _) (Nat.le_refl _) (by
    have h1 : ¬ i < 0 := by omega
    have h2 : ¬ (((min i.toNat z.length : Nat) : Int) < 0) := by omega
    have h4 : ¬ (((z.length : Nat) : Int) < 0) := by omega
    have h3 : max (0 : Int) (min i (z.length : Int)) = max 0 (min ((min i.toNat z.length : Nat) : Int) (z.length : Int)) := by omega
    have h5 : max (0 : Int) (min ((z.length : Nat) : Int) (z.length : Int)) = z.length := by omega
    simp only [Builtin.Str.strSliceIndices, h1, h2, h4, if_false, h3, h5, gt_iff_lt, Int.zero_lt_one, if_true])
  rw [e]
  rcases Nat.le_total i.toNat z.length with h1 | h1
  · rw [Nat.min_eq_left h1, List.take_of_length_le (by rw [List.length_drop, ← len_cps]; omega)]
  · rw [Nat.min_eq_right h1, Nat.sub_self, List.take_zero, List.drop_of_length_le (by rw [← len_cps]; exact h1)]
theorem nm_slice {z : Str} {j : Int} (h : 1 ≤ j) (hj : j ≤ 8) (hz : 1 ≤ z.length) (hc : ∀ c ∈ z.cps.toList, 97 ≤ c ∧ c ≤ 122) : Nm (Txt.slice z none (some j)) := by
  have e := slice_take z (j := j) (by omega)
  refine ⟨?_, ?_, fun c hc' => hc c ?_⟩
  · rw [len_cps, e, List.length_take, ← len_cps]; omega
  · rw [len_cps, e, List.length_take]; omega
  · rw [e] at hc'; exact List.mem_of_mem_take hc'
theorem append_cps (x y : Str) : (x ++ y).cps.toList = x.cps.toList ++ y.cps.toList := by
  show (x.cps ++ y.cps).toList = _
  simp
theorem append_len (x y : Str) : (x ++ y).length = x.length + y.length := by rw [len_cps, append_cps, List.length_append, ← len_cps, ← len_cps]
def spName (K : PySem.W.Frag) : Sp := fun vs H Q _ => ∃ (p q : Addr) (ns : List Str), vs = [.ref p, .ref q] ∧ Pot H p ∧ SqL K H q (ns.map V.str) ∧ q ≠ p ∧ (∀ x ∈ ns, Nm x) ∧ ns.length ≤ 1000 ∧ ∀ x H', Nm x → x ∉ ns → PStep p H H' → Q (.str x) H'
/-- the letters of 0, 1, .. are not all among the names -/
theorem names_few {ns : List Str} {k : Nat} (h : ∀ j, j < k → strL (MA.lets j) ∈ ns) : k ≤ ns.length :=
  MA.pigeon k (fun j => strL (MA.lets j)) ns (fun i j _ _ e => MA.lets_inj (by
    have := congrArg (fun x => x.cps.toList) e
    simpa [strL] using this)) h
end Lw
namespace Lw
theorem lt268 : 1000 < 26 ^ 8 := by decide +kernel
theorem lt268i : (1000 : Int) < 26 ^ 8 := by decide +kernel
theorem lt268j : (26 : Int) ^ (8 : Int).toNat - 26 < 26 ^ 8 := by decide +kernel
theorem lt268k : (26 : Int) < 26 ^ 8 := by decide +kernel
theorem lt268a : (0 : Int) < 26 ^ (8 : Int).toNat - 26 := by decide +kernel
theorem lt268b : (26 : Int) ^ (8 : Int).toNat - 26 < 10 ^ 18 := by decide +kernel
theorem lt268n {r : Int} (h0 : 0 ≤ r) (h : r < 26 ^ 8) : r.toNat < 26 ^ 8 := by omega
end Lw
namespace Lw
open PySem PySem.Spec PyProof.Rows L2
theorem PStep.upd {p l : Addr} {H H2 : Hp} {o : HO} (s : PStep p H H2) (h : H l = none) (hne : l ≠ p) : PStep p H (upd H2 l o) := by
  obtain ⟨a, b, e, r⟩ := s.pot
  refine ⟨⟨a, b, by rw [upd_ne (Ne.symm hne)]; exact e, r⟩, fun c u hc q => ?_⟩
  rw [upd_ne (ne_of_none q h)]
  exact s.same c u hc q
theorem PStep.none {p l : Addr} {H H2 : Hp} (s : PStep p H H2) (h : H2 l = none) : H l = none := by
  cases q : H l with
  | none => rfl
  | some o =>
    by_cases e : l = p
    · obtain ⟨a, b, e2, _⟩ := s.pot
      rw [← e, h] at e2; cases e2
    · rw [s.same l o e q] at h; cases h
theorem Pot.ne {p l : Addr} {H : Hp} (h : Pot H p) (hl : H l = none) : l ≠ p := by
  obtain ⟨_, _, e, _⟩ := h
  exact (ne_of_none e hl).symm
theorem Same.none {l : Addr} {H H2 : Hp} (s : Same H H2) (h : H2 l = none) : H l = none := by
  cases q : H l with
  | none => rfl
  | some o => rw [s l o q] at h; cases h
theorem PStep.sqB {K : PySem.W.Frag} {tp : Bool} {p a : Addr} {H H' : Hp} {xs : List V} (s : PStep p H H') (h : SqB K tp H a xs) (hne : a ≠ p) : SqB K tp H' a xs := by
  cases tp
  · exact s.sqL h hne
  · exact SameX.sqT s.same hne h
def spNames : Sp := fun vs H Q _ => ∃ (p : Addr) (m : Int), vs = [.ref p, .int m] ∧ Pot H p ∧ 0 ≤ m ∧ m ≤ 100 ∧
  ∀ l H' (ns : List Str), H l = none → PStep p H H' → H' l = some (.lst (ns.map V.str)) → (ns.length : Int) = m → (∀ x ∈ ns, Nm x) → ns.Nodup → Q (.ref l) H'
def spRow : Sp := fun vs H Q _ => ∃ (p : Addr) (m : Int), vs = [.ref p, .int m] ∧ Pot H p ∧ 1 ≤ m ∧ m ≤ 100 ∧
  ∀ l H' (ns : List Str), H l = none → PStep p H H' → H' l = some (.lst (ns.map V.str)) → (ns.length : Int) ≤ m → (∀ x ∈ ns, Nm x) → ns.Nodup → Q (.ref l) H'
theorem nodup_snoc {α : Type} {l : List α} {x : α} (h : l.Nodup) (hx : x ∉ l) : (l ++ [x]).Nodup := by
  rw [List.nodup_append]
  exact ⟨h, by simp, fun a ha b hb => by
    have : b = x := by simpa using hb
    subst this
    rintro rfl
    exact hx ha⟩
theorem pick3 {m j : Int} (h0 : 0 ≤ j) (h1 : j < 3) (hm : 1 ≤ m) : ∃ k : Int, atI [V.int 0, V.int 1, V.int m] j = some (.int k) ∧ 0 ≤ k ∧ k ≤ m := by
  have : j = 0 ∨ j = 1 ∨ j = 2 := by omega
  rcases this with rfl | rfl | rfl
  · exact ⟨0, rfl, by omega, by omega⟩
  · exact ⟨1, rfl, by omega, by omega⟩
  · exact ⟨m, rfl, by omega, by omega⟩
/-! ### what is a name, a row -/
def inAbc (c : Nat) : Bool := !(Builtin.Str.occurrences abc ⟨#[c]⟩ 0 abc.length 1).isEmpty
def isNm (x : Str) : Bool := decide ((1 : Int) ≤ x.length) && (decide ((x.length : Int) ≤ 8) && x.cps.toList.all inAbc)
def spIsName : Sp := fun vs H Q _ => ∃ x : Str, vs = [.str x] ∧ x.length ≤ 1000 ∧ ∀ H', Same H H' → Q (.bl (isNm x)) H'
def isRw (ss : List Str) : Bool := decide ((ss.length : Int) ≤ 40) && (ss.all isNm && decide (V.int ((dd ss).length : Int) = V.int (ss.length : Int)))
def spIsRow (K : PySem.W.Frag) : Sp := fun vs H Q _ => ∃ (a : Addr) (tp : Bool) (ss : List Str), vs = [.ref a] ∧ SqB K tp H a (ss.map V.str) ∧ ss.length ≤ 200 ∧ (∀ x ∈ ss, x.length ≤ 1000) ∧ ∀ H', Same H H' → Q (.bl (isRw ss)) H'
def isRt (ss : List Str) : Bool := if decide ((40 : Int) < ss.length) = true then false else if (!ss.all isNm) = true then false else ss.all fun x => decide (V.int (countV (.str x) (ss.map V.str) : Int) = V.int 1)
def spRight (K : PySem.W.Frag) : Sp := fun vs H Q _ => ∃ (a : Addr) (ss : List Str), vs = [.ref a] ∧ SqL K H a (ss.map V.str) ∧ ss.length ≤ 200 ∧ (∀ x ∈ ss, x.length ≤ 1000) ∧ ∀ H', Same H H' → Q (.bl (isRt ss)) H'
def spText (K : PySem.W.Frag) : Sp := fun vs H Q _ => ∃ (p q : Addr) (ns : List Str), vs = [.ref p, .ref q] ∧ Pot H p ∧ SqL K H q (ns.map V.str) ∧ q ≠ p ∧ (∀ x ∈ ns, Nm x) ∧ ns.length ≤ 1000 ∧ ∀ x H', x.length ≤ 1000 → PStep p H H' → Q (.str x) H'
def spSomeRow : Sp := fun vs H Q _ => ∃ (p : Addr), vs = [.ref p] ∧ Pot H p ∧ ∀ l H' (ss : List Str), H l = none → PStep p H H' → H' l = some (.lst (ss.map V.str)) → ss.length ≤ 200 → (∀ x ∈ ss, x.length ≤ 1000) → Q (.ref l) H'
end Lw
namespace Lw
open PySem PySem.Spec PyProof.Rows L2
theorem filt_true {α : Type} (l : List α) : l.filter (fun _ => true) = l := List.filter_eq_self.mpr fun _ _ => rfl
def inV1 : V → V
  | .str y => .bl (!(Builtin.Str.occurrences abc y 0 abc.length 1).isEmpty)
  | _ => .bl false
theorem signs_in (x : Str) : ((signsV x).filter (fun _ => true)).map inV1 = (x.cps.toList.map inAbc).map V.bl := by
  unfold signsV
  rw [filt_true, List.map_map, List.map_map]
  rfl
theorem signs_get {x : Str} {i : Nat} {v : V} (h : (signsV x)[i]? = some v) : ∃ c, v = .str ⟨#[c]⟩ := by
  unfold signsV at h
  rw [List.getElem?_map] at h
  cases q : x.cps.toList[i]? with
  | none => rw [q] at h; cases h
  | some c => rw [q] at h; simp at h; exact ⟨c, h.symm⟩
theorem all_map {α : Type} (f : α → Bool) (l : List α) : (l.map f).all id = l.all f := by rw [List.all_map]; rfl
theorem strs_get {ss : List Str} {i : Nat} {v : V} (h : (ss.map V.str)[i]? = some v) : ∃ x, v = .str x ∧ x ∈ ss := by
  rw [List.getElem?_map] at h
  cases q : ss[i]? with
  | none => rw [q] at h; cases h
  | some x => rw [q] at h; simp at h; exact ⟨x, h.symm, List.mem_of_getElem? q⟩
def nmV1 : V → V
  | .str y => .bl (isNm y)
  | _ => .bl false
theorem strs_nm (ss : List Str) : ((ss.map V.str).filter (fun _ => true)).map nmV1 = (ss.map isNm).map V.bl := by
  rw [filt_true, List.map_map, List.map_map]; rfl
def ctV1 (ss : List Str) : V → V
  | .str y => .bl (decide (V.int (countV (.str y) (ss.map V.str) : Int) = V.int 1))
  | _ => .bl false
theorem strs_ct (ss : List Str) : ((ss.map V.str).filter (fun _ => true)).map (ctV1 ss) = (ss.map fun x => decide (V.int (countV (.str x) (ss.map V.str) : Int) = V.int 1)).map V.bl := by
  rw [filt_true, List.map_map, List.map_map]; rfl
end Lw
namespace Lw
open PySem PySem.Spec PyProof.Rows L2
theorem atI_some {α : Type} {l : List α} {i : Int} (h0 : 0 ≤ i) (h1 : i < l.length) : ∃ c, atI l i = some c :=
  ⟨l[i.toNat]'(by omega), atI_of h0 (List.getElem?_eq_getElem (by omega))⟩
theorem fold_size (a : Array Nat) : ∀ (n : Nat) (acc : Array Nat), ((List.replicate n a).foldl (· ++ ·) acc).size = acc.size + n * a.size
  | 0, acc => by simp
  | n + 1, acc => by
    rw [List.replicate_succ, List.foldl_cons, fold_size a n]
    simp [Nat.succ_mul]; omega
theorem mul8_len (z : Str) : (Txt.mul z 8).length ≤ 8 * z.length := by
  unfold Txt.mul
  rw [if_neg (by decide)]
  split
  · omega
  · have q := fold_size z.cps 8 #[]
    show ((List.replicate (8 : Int).toNat z.cps).foldl (· ++ ·) #[]).size ≤ 8 * z.cps.size
    have e : (8 : Int).toNat = 8 := rfl
    rw [e, q]; simp
theorem mulOk8 {z : Str} (h : z.length ≤ 1000) : MulOk z 8 := by
  refine ⟨by decide, fun _ _ => ?_, fun _ _ => ?_⟩
  · have e : ((2 : Int) ^ 63 - 1) / 8 = 1152921504606846975 := by decide
    rw [e]; omega
  · have h2 : z.length * (8 : Int).toNat ≤ sizeLine := small (by have e : (8 : Int).toNat = 8 := rfl; rw [e]; omega)
    unfold Builtin.Str.tooLong
    exact decide_eq_false (by omega)
end Lw
namespace Lw
open PySem PySem.Spec PyProof.Rows L2
theorem fold_le : ∀ (l acc : List Str), (l.foldl ddStep acc).length ≤ acc.length + l.length
  | [], acc => by simp
  | x :: r, acc => by
    rw [List.foldl_cons]
    have h := fold_le r (ddStep acc x)
    rw [ddStep_len] at h
    simp only [List.length_cons]
    split at h <;> omega
theorem fold_full : ∀ (l acc : List Str), (l.foldl ddStep acc).length = acc.length + l.length ↔ (l.Nodup ∧ ∀ x ∈ l, x ∉ acc)
  | [], acc => by simp
  | x :: r, acc => by
    rw [List.foldl_cons]
    by_cases h : acc.any (· == x) = true
    · have hx : x ∈ acc := by
        obtain ⟨y, hy, e⟩ := List.any_eq_true.mp h
        have : y = x := by simpa using e
        rw [← this]; exact hy
      have e : ddStep acc x = acc := by unfold ddStep; rw [if_pos h]
      rw [e]
      constructor
      · intro q
        have := fold_le r acc
        simp only [List.length_cons] at q
        omega
      · rintro ⟨_, q⟩
        exact absurd hx (q x List.mem_cons_self)
    · have hx : x ∉ acc := fun hm => h (List.any_eq_true.mpr ⟨x, hm, by simp⟩)
      have e : ddStep acc x = acc ++ [x] := by unfold ddStep; rw [if_neg h]
      rw [e]
      have ih := fold_full r (acc ++ [x])
      have e1 : (acc ++ [x]).length + r.length = acc.length + (x :: r).length := by simp; omega
      rw [e1] at ih
      rw [ih]
      constructor
      · rintro ⟨h1, h2⟩
        refine ⟨List.nodup_cons.mpr ⟨fun hm => h2 x hm (by simp), h1⟩, fun y hy => ?_⟩
        rcases List.mem_cons.mp hy with rfl | hy
        · exact hx
        · exact fun hm => h2 y hy (by simp [hm])
      · rintro ⟨h1, h2⟩
        obtain ⟨h3, h4⟩ := List.nodup_cons.mp h1
        refine ⟨h4, fun y hy hm => ?_⟩
        rcases List.mem_append.mp hm with hm | hm
        · exact h2 y (List.mem_cons_of_mem _ hy) hm
        · have : y = x := by simpa using hm
          rw [this] at hy; exact h3 hy
theorem dd_full (ss : List Str) : (dd ss).length = ss.length ↔ ss.Nodup := by
  have h := fold_full ss []
  simp only [List.length_nil, Nat.zero_add] at h
  refine (show ((dd ss).length = ss.length ↔ _) from h).trans ⟨fun q => q.1, fun q => ⟨q, fun _ _ => by simp⟩⟩
theorem countV_cons (x y : Str) (r : List Str) : countV (.str x) ((y :: r).map V.str) = countV (.str x) (r.map V.str) + if y = x then 1 else 0 := by
  unfold countV
  rw [List.map_cons, List.countP_cons]
  have e : (eqV (.str y) (.str x) = true) ↔ y = x := by simp [eqV]
  by_cases h : y = x
  · rw [if_pos (e.mpr h), if_pos h]
  · rw [if_neg (fun z => h (e.mp z)), if_neg h]
theorem countV_zero (x : Str) : ∀ ss : List Str, countV (.str x) (ss.map V.str) = 0 ↔ x ∉ ss
  | [] => by simp [countV]
  | y :: r => by
    rw [countV_cons]
    have ih := countV_zero x r
    by_cases h : y = x
    · rw [if_pos h]; simp [h]
    · rw [if_neg h, Nat.add_zero, ih]
      have : x ≠ y := fun z => h z.symm
      simp [this]
theorem count_one : ∀ ss : List Str, (∀ x ∈ ss, countV (.str x) (ss.map V.str) = 1) ↔ ss.Nodup
  | [] => by simp
  | y :: r => by
    have ih := count_one r
    rw [List.nodup_cons]
    constructor
    · intro h
      have h0 := h y List.mem_cons_self
      rw [countV_cons, if_pos rfl] at h0
      have hy : y ∉ r := (countV_zero y r).mp (by omega)
      refine ⟨hy, ih.mp fun x hx => ?_⟩
      have h1 := h x (List.mem_cons_of_mem _ hx)
      have hne : y ≠ x := fun e => hy (e ▸ hx)
      rw [countV_cons, if_neg hne] at h1
      exact h1
    · rintro ⟨hy, nd⟩ x hx
      rw [countV_cons]
      rcases List.mem_cons.mp hx with rfl | hx
      · rw [if_pos rfl, (countV_zero x r).mpr hy]
      · have hne : y ≠ x := fun e => hy (e ▸ hx)
        rw [if_neg hne, (ih.mpr nd) x hx]
theorem rw_rt (ss : List Str) : isRw ss = isRt ss := by
  unfold isRw isRt
  by_cases c : (40 : Int) < ss.length
  · have c' : ¬ ((ss.length : Int) ≤ 40) := by omega
    rw [if_pos (decide_eq_true c), decide_eq_false c', Bool.false_and]
  · have c' : (ss.length : Int) ≤ 40 := by omega
    rw [if_neg (by simpa using c), decide_eq_true c', Bool.true_and]
    by_cases d : ss.all isNm = true
    · rw [d, if_neg (by decide), Bool.true_and]
      rw [Bool.eq_iff_iff, decide_eq_true_iff, List.all_eq_true]
      constructor
      · intro h x hx
        have h1 : ((dd ss).length : Int) = ss.length := by injection h
        have nd := (dd_full ss).mp (by omega)
        have := (count_one ss).mpr nd x hx
        exact decide_eq_true (by rw [this]; rfl)
      · intro h
        have nd := (count_one ss).mp fun x hx => by
          have h1 : V.int (countV (.str x) (ss.map V.str) : Int) = V.int 1 := of_decide_eq_true (h x hx)
          injection h1 with h1
          omega
        rw [(dd_full ss).mpr nd]
    · have d' : ss.all isNm = false := by simpa using d
      rw [d', if_pos (by decide), Bool.false_and]
theorem eqVs_strs (xs : List Str) : eqVs (xs.map V.str) (xs.map V.str) = true := by
  rw [eqVs_same rfl, List.all_eq_true]
  intro j hj
  have hj' : j < xs.length := by simpa using hj
  have e : (xs.map V.str)[j]? = some (.str xs[j]) := by rw [List.getElem?_map, List.getElem?_eq_getElem hj']; rfl
  rw [getD_of e]; show (xs[j] == xs[j]) = true; simp
theorem same_pot {p : Addr} {H0 H1 H2 : Hp} (s1 : Same H0 H1) (h : H0 p = none) (s2 : PStep p H1 H2) : Same H0 H2 := fun b o e => s2.same b o (ne_of_none e h) (s1 b o e)
theorem kit_same (K : PySem.W.Frag) (t : String) : PySem.W.kitOne K (.type t) (.type t) = some true := by
  unfold PySem.W.kitOne; rw [if_pos (by simp)]
def spLaw (K : PySem.W.Frag) : Sp := fun vs H Q _ => ∃ (a : Addr) (ns : List Int), vs = [.ref a] ∧ SqL K H a (ns.map V.int) ∧ ns.length ≤ 63 ∧ ∀ H', Q (.bl true) H'
end Lw

set_option Elab.async false
set_option linter.all false
set_option maxRecDepth 100000
set_option maxHeartbeats 4000000
namespace Lw
open PySem PySem.Spec PyProof.Rows L2
/-! ### deeds -/
inductive Deed where
  | put (x : Str) (i : Nat) | take (x : Str) | move (x : Str) (i : Nat) | turn (lo hi : Nat)
def Deed.vals : Deed → List V
  | .put x i => [.str "put", .str x, .int i]
  | .take x => [.str "take", .str x]
  | .move x i => [.str "move", .str x, .int i]
  | .turn lo hi => [.str "turn", .int lo, .int hi]
def Deed.Ok (m : Nat) (ns : List Str) : Deed → Prop
  | .put x i => Nm x ∧ x ∉ ns ∧ i ≤ ns.length ∧ ns.length < m
  | .take x => x ∈ ns
  | .move x i => x ∈ ns ∧ i < ns.length
  | .turn lo hi => lo ≤ hi ∧ hi ≤ ns.length
def ins (ns : List Str) (x : Str) (i : Nat) : List Str := ns.take i ++ x :: ns.drop i
def wo (ns : List Str) (x : Str) : List Str := ns.filter fun y => !decide (y = x)
def trn (ns : List Str) (lo hi : Nat) : List Str := ns.take lo ++ ((ns.drop lo).take (hi - lo)).reverse ++ ns.drop hi
def Deed.done (ns : List Str) : Deed → List Str
  | .put x i => ins ns x i
  | .take x => wo ns x
  | .move x i => ins (wo ns x) x i
  | .turn lo hi => trn ns lo hi
def Deed.back (ns : List Str) : Deed → Deed
  | .put x _ => .take x
  | .take x => .put x (ns.idxOf x)
  | .move x _ => .move x (ns.idxOf x)
  | .turn lo hi => .turn lo hi
/-! mathematics of rows -/
theorem wo_notin {ns : List Str} {x : Str} (h : x ∉ ns) : wo ns x = ns := by
  unfold wo
  rw [List.filter_eq_self]
  intro y hy
  have : y ≠ x := fun e => h (e ▸ hy)
  simp [this]
theorem wo_mem {ns : List Str} {x y : Str} : y ∈ wo ns x ↔ y ∈ ns ∧ y ≠ x := by
  unfold wo
  rw [List.mem_filter]
  simp
theorem wo_nodup {ns : List Str} {x : Str} (h : ns.Nodup) : (wo ns x).Nodup := h.filter _
theorem wo_append (as bs : List Str) (x : Str) : wo (as ++ bs) x = wo as x ++ wo bs x := by unfold wo; rw [List.filter_append]
theorem wo_cons_self (bs : List Str) (x : Str) : wo (x :: bs) x = wo bs x := by unfold wo; rw [List.filter_cons]; simp
/-- a row with x, cut at x -/
theorem at_idx {ns : List Str} {x : Str} (h : x ∈ ns) : ns = ns.take (ns.idxOf x) ++ x :: ns.drop (ns.idxOf x + 1) := by
  have hj : ns.idxOf x < ns.length := List.idxOf_lt_length_iff.mpr h
  have e : ns[ns.idxOf x] = x := List.getElem_idxOf hj
  conv => lhs; rw [← List.take_append_drop (ns.idxOf x) ns, List.drop_eq_getElem_cons hj, e]
theorem take_notin {ns : List Str} {x : Str} (h : x ∈ ns) : x ∉ ns.take (ns.idxOf x) := by
  intro hm
  obtain ⟨m, hm1, e⟩ := List.mem_iff_getElem.mp hm
  rw [List.length_take] at hm1
  rw [List.getElem_take] at e
  exact idx_before x ns m (by omega) (by omega) e
theorem drop_notin {ns : List Str} {x : Str} (h : x ∈ ns) (nd : ns.Nodup) : x ∉ ns.drop (ns.idxOf x + 1) := by
  rw [at_idx h] at nd
  have h2 := (List.nodup_append.mp nd).2.1
  exact (List.nodup_cons.mp h2).1
theorem wo_eq {ns : List Str} {x : Str} (h : x ∈ ns) (nd : ns.Nodup) : wo ns x = ns.take (ns.idxOf x) ++ ns.drop (ns.idxOf x + 1) := by
  conv => lhs; rw [at_idx h]
  rw [wo_append, wo_cons_self, wo_notin (take_notin h), wo_notin (drop_notin h nd)]
theorem wo_length {ns : List Str} {x : Str} (h : x ∈ ns) (nd : ns.Nodup) : (wo ns x).length + 1 = ns.length := by
  have hj : ns.idxOf x < ns.length := List.idxOf_lt_length_iff.mpr h
  rw [wo_eq h nd, List.length_append, List.length_take, List.length_drop]
  omega
theorem ins_length {ns : List Str} {x : Str} {i : Nat} : (ins ns x i).length = ns.length + 1 := by
  unfold ins
  rw [List.length_append, List.length_cons, List.length_take, List.length_drop]
  omega
theorem ins_mem {ns : List Str} {x y : Str} {i : Nat} : y ∈ ins ns x i ↔ y = x ∨ y ∈ ns := by
  unfold ins
  rw [List.mem_append, List.mem_cons]
  have : y ∈ ns ↔ y ∈ ns.take i ∨ y ∈ ns.drop i := by rw [← List.mem_append, List.take_append_drop]
  rw [this]
  constructor
  · rintro (h | h | h)
    · exact .inr (.inl h)
    · exact .inl h
    · exact .inr (.inr h)
  · rintro (h | h | h)
    · exact .inr (.inl h)
    · exact .inl h
    · exact .inr (.inr h)
theorem ins_nodup {ns : List Str} {x : Str} {i : Nat} (h : ns.Nodup) (hx : x ∉ ns) : (ins ns x i).Nodup := by
  unfold ins
  have e : (ns.take i ++ ns.drop i).Nodup := by rw [List.take_append_drop]; exact h
  obtain ⟨h1, h2, h3⟩ := List.nodup_append.mp e
  rw [List.nodup_append]
  refine ⟨h1, List.nodup_cons.mpr ⟨fun z => hx (List.mem_of_mem_drop z), h2⟩, fun a ha b hb => ?_⟩
  rcases List.mem_cons.mp hb with z | z
  · rw [z]; rintro rfl; exact hx (List.mem_of_mem_take ha)
  · exact h3 a ha b z
theorem wo_ins {ns : List Str} {x : Str} {i : Nat} (h : x ∉ ns) : wo (ins ns x i) x = ns := by
  unfold ins
  rw [wo_append, wo_cons_self, wo_notin (fun z => h (List.mem_of_mem_take z)), wo_notin (fun z => h (List.mem_of_mem_drop z)), List.take_append_drop]
theorem ins_wo {ns : List Str} {x : Str} (h : x ∈ ns) (nd : ns.Nodup) : ins (wo ns x) x (ns.idxOf x) = ns := by
  have hj : ns.idxOf x < ns.length := List.idxOf_lt_length_iff.mpr h
  unfold ins
  rw [wo_eq h nd]
  have hl : (ns.take (ns.idxOf x)).length = ns.idxOf x := by rw [List.length_take]; omega
  rw [List.take_left' hl, List.drop_left' hl]
  exact (at_idx h).symm
theorem trn_len {ns : List Str} {lo hi : Nat} (h1 : lo ≤ hi) (h2 : hi ≤ ns.length) : (trn ns lo hi).length = ns.length := by
  unfold trn
  rw [List.length_append, List.length_append, List.length_reverse, List.length_take, List.length_take, List.length_drop, List.length_drop]
  omega
theorem trn_split {ns : List Str} {lo hi : Nat} (h1 : lo ≤ hi) : ns = ns.take lo ++ (ns.drop lo).take (hi - lo) ++ ns.drop hi := by
  have : ns.drop hi = (ns.drop lo).drop (hi - lo) := by rw [List.drop_drop]; congr 1; omega
  rw [this, List.append_assoc, List.take_append_drop, List.take_append_drop]
theorem trn_trn {ns : List Str} {lo hi : Nat} (h1 : lo ≤ hi) (h2 : hi ≤ ns.length) : trn (trn ns lo hi) lo hi = ns := by
  have hA : (ns.take lo).length = lo := by rw [List.length_take]; omega
  have hB : ((ns.drop lo).take (hi - lo)).length = hi - lo := by rw [List.length_take, List.length_drop]; omega
  conv => rhs; rw [trn_split (ns := ns) h1]
  unfold trn
  generalize ns.take lo = A at *
  generalize (ns.drop lo).take (hi - lo) = B at *
  generalize ns.drop hi = C
  have hB' : B.reverse.length = hi - lo := by rw [List.length_reverse]; exact hB
  have e1 : (A ++ B.reverse ++ C).take lo = A := by rw [List.append_assoc, List.take_left' hA]
  have e2 : (A ++ B.reverse ++ C).drop lo = B.reverse ++ C := by rw [List.append_assoc, List.drop_left' hA]
  have e3 : (A ++ B.reverse ++ C).drop hi = C := List.drop_left' (by rw [List.length_append, hA, hB']; omega)
  rw [e1, e2, e3, List.take_left' hB', List.reverse_reverse]
theorem trn_mem {ns : List Str} {lo hi : Nat} (h1 : lo ≤ hi) {y : Str} : y ∈ trn ns lo hi ↔ y ∈ ns := by
  conv => rhs; rw [trn_split (ns := ns) h1]
  unfold trn
  simp only [List.mem_append, List.mem_reverse]
theorem trn_nodup {ns : List Str} {lo hi : Nat} (h1 : lo ≤ hi) (nd : ns.Nodup) : (trn ns lo hi).Nodup := by
  have p : List.Perm (trn ns lo hi) ns := by
    conv => rhs; rw [trn_split (ns := ns) h1]
    unfold trn
    exact ((List.reverse_perm _).append_left _).append_right _
  exact p.nodup_iff.mpr nd
/-- behind a deed: unlike, names, not more than m, and the deed back leads back -/
theorem Deed.step {m : Nat} {ns : List Str} {d : Deed} (h : d.Ok m ns) (nd : ns.Nodup) (hN : ∀ x ∈ ns, Nm x) (hm : ns.length ≤ m) :
    (d.done ns).Nodup ∧ (∀ x ∈ d.done ns, Nm x) ∧ (d.done ns).length ≤ m := by
  cases d with
  | put x i =>
    obtain ⟨h1, h2, h3, h4⟩ := h
    refine ⟨ins_nodup nd h2, fun y hy => ?_, ?_⟩
    · rcases ins_mem.mp hy with e | e
      · rw [e]; exact h1
      · exact hN y e
    · show (ins ns x i).length ≤ m
      rw [ins_length]; omega
  | take x =>
    refine ⟨wo_nodup nd, fun y hy => hN y (wo_mem.mp hy).1, ?_⟩
    have := wo_length h nd
    show (wo ns x).length ≤ m
    omega
  | move x i =>
    obtain ⟨h1, h2⟩ := h
    refine ⟨ins_nodup (wo_nodup nd) (fun z => (wo_mem.mp z).2 rfl), fun y hy => ?_, ?_⟩
    · rcases ins_mem.mp hy with e | e
      · rw [e]; exact hN x h1
      · exact hN y (wo_mem.mp e).1
    · have := wo_length h1 nd
      show (ins (wo ns x) x i).length ≤ m
      rw [ins_length]; omega
  | turn lo hi =>
    obtain ⟨h1, h2⟩ := h
    exact ⟨trn_nodup h1 nd, fun y hy => hN y ((trn_mem h1).mp hy), by show (trn ns lo hi).length ≤ m; rw [trn_len h1 h2]; exact hm⟩
theorem Deed.back_ok {m : Nat} {ns : List Str} {d : Deed} (h : d.Ok m ns) (nd : ns.Nodup) (hN : ∀ x ∈ ns, Nm x) (hm : ns.length ≤ m) :
    (d.back ns).Ok m (d.done ns) ∧ (d.back ns).done (d.done ns) = ns := by
  cases d with
  | put x i =>
    obtain ⟨h1, h2, h3, h4⟩ := h
    exact ⟨ins_mem.mpr (.inl rfl), wo_ins h2⟩
  | take x =>
    have hj : ns.idxOf x < ns.length := List.idxOf_lt_length_iff.mpr h
    have hl := wo_length h nd
    exact ⟨⟨hN x h, fun z => (wo_mem.mp z).2 rfl, by show ns.idxOf x ≤ (wo ns x).length; omega, by show (wo ns x).length < m; omega⟩, ins_wo h nd⟩
  | move x i =>
    obtain ⟨h1, h2⟩ := h
    have hj : ns.idxOf x < ns.length := List.idxOf_lt_length_iff.mpr h1
    have hl := wo_length h1 nd
    have hx : x ∉ wo ns x := fun z => (wo_mem.mp z).2 rfl
    refine ⟨⟨ins_mem.mpr (.inl rfl), by show ns.idxOf x < (ins (wo ns x) x i).length; rw [ins_length]; omega⟩, ?_⟩
    show ins (wo (ins (wo ns x) x i) x) x (ns.idxOf x) = ns
    rw [wo_ins hx]
    exact ins_wo h1 nd
  | turn lo hi =>
    obtain ⟨h1, h2⟩ := h
    exact ⟨⟨h1, by show hi ≤ (trn ns lo hi).length; rw [trn_len h1 h2]; exact h2⟩, trn_trn h1 h2⟩
theorem idxOf_nth {ns : List Str} (nd : ns.Nodup) {i : Nat} (hi : i < ns.length) : ns.idxOf ns[i] = i := by
  have hm : ns[i] ∈ ns := List.getElem_mem hi
  have hj : ns.idxOf ns[i] < ns.length := List.idxOf_lt_length_iff.mpr hm
  have e : ns[ns.idxOf ns[i]] = ns[i] := List.getElem_idxOf hj
  rcases Nat.lt_trichotomy (ns.idxOf ns[i]) i with h | h | h
  · exact absurd e ((List.pairwise_iff_getElem.mp nd) _ _ hj hi h)
  · exact h
  · exact absurd e.symm ((List.pairwise_iff_getElem.mp nd) _ _ hi hj h)
/-! ### slices of lists of values -/
theorem cut_to (xs : List V) (i : Nat) : cutV xs none (some (i : Int)) = xs.take i := by
  unfold cutV
  rw [HT.sIx_none, HT.sIx_nat, List.drop_zero, Nat.sub_zero]
  rcases Nat.le_total i xs.length with h | h
  · rw [Nat.min_eq_left h]
  · rw [Nat.min_eq_right h, List.take_length, List.take_of_length_le h]
theorem cut_from (xs : List V) (i : Nat) : cutV xs (some (i : Int)) none = xs.drop i := by
  unfold cutV
  rw [HT.sIx_none, HT.sIx_nat]
  rcases Nat.le_total i xs.length with h | h
  · rw [Nat.min_eq_left h, List.take_of_length_le (by rw [List.length_drop]; omega)]
  · rw [Nat.min_eq_right h, Nat.sub_self, List.take_zero, List.drop_of_length_le h]
theorem cut_mid (xs : List V) {i j : Nat} (hi : i ≤ j) (hj : j ≤ xs.length) : cutV xs (some (i : Int)) (some (j : Int)) = (xs.drop i).take (j - i) := by
  unfold cutV
  rw [HT.sIx_nat, HT.sIx_nat, Nat.min_eq_left hj, Nat.min_eq_left (Nat.le_trans hi hj)]
/-! ### a row that is tracked: a list or a tuple -/
def HOq (tp : Bool) (xs : List V) : HO := match tp with
  | false => .lst xs
  | true => .tup xs
theorem HOq.sq {K : PySem.W.Frag} {tp : Bool} {H : Hp} {a : Addr} {xs : List V} (h : H a = some (HOq tp xs)) : SqB K tp H a xs := by
  cases tp
  · exact SqL.of h
  · exact SqT.of h
def spPlace : Sp := fun vs H Q _ => ∃ (a : Addr) (tp : Bool) (ns : List Str) (x : Str), vs = [.ref a, .str x] ∧ H a = some (HOq tp (ns.map V.str)) ∧ x ∈ ns ∧ Q (.int (ns.idxOf x : Nat)) H
def spChkPut : Sp := fun vs H Q _ => ∃ (a : Addr) (tp : Bool) (ns : List Str) (x : Str) (i : Nat), vs = [.ref a, .str x, .int i] ∧ H a = some (HOq tp (ns.map V.str)) ∧ (Deed.put x i).Ok 40 ns ∧ ∀ H', Same H H' → Q .non H'
def spChkMove : Sp := fun vs H Q _ => ∃ (a : Addr) (tp : Bool) (ns : List Str) (x : Str) (i : Nat), vs = [.ref a, .str x, .int i] ∧ H a = some (HOq tp (ns.map V.str)) ∧ (Deed.move x i).Ok 40 ns ∧ Q .non H
def spChkTurn : Sp := fun vs H Q _ => ∃ (a : Addr) (tp : Bool) (ns : List Str) (lo hi : Nat), vs = [.ref a, .int lo, .int hi] ∧ H a = some (HOq tp (ns.map V.str)) ∧ (Deed.turn lo hi).Ok 40 ns ∧ Q .non H
def spChk : Sp := fun vs H Q _ => ∃ (a t : Addr) (tp : Bool) (ns : List Str) (d : Deed), vs = [.ref a, .ref t] ∧ H a = some (HOq tp (ns.map V.str)) ∧ H t = some (.tup d.vals) ∧ d.Ok 40 ns ∧ ∀ H', Same H H' → Q .non H'
/-- a new list of these names -/
def NewRow (H : Hp) (Q : VK) (ns : List Str) : Prop := ∀ l H', H l = none → Same H H' → H' l = some (.lst (ns.map V.str)) → Q (.ref l) H'
def spWith : Sp := fun vs H Q _ => ∃ (a : Addr) (tp : Bool) (ns : List Str) (x : Str) (i : Nat), vs = [.ref a, .str x, .int i] ∧ H a = some (HOq tp (ns.map V.str)) ∧ ns.length ≤ 1000 ∧ NewRow H Q (ins ns x i)
def spWithout : Sp := fun vs H Q _ => ∃ (a : Addr) (tp : Bool) (ns : List Str) (x : Str), vs = [.ref a, .str x] ∧ H a = some (HOq tp (ns.map V.str)) ∧ ns.length ≤ 1000 ∧ NewRow H Q (wo ns x)
def spTurned : Sp := fun vs H Q _ => ∃ (a : Addr) (tp : Bool) (ns : List Str) (lo hi : Nat), vs = [.ref a, .int lo, .int hi] ∧ H a = some (HOq tp (ns.map V.str)) ∧ ns.length ≤ 1000 ∧ lo ≤ hi ∧ hi ≤ ns.length ∧ NewRow H Q (trn ns lo hi)
def spDone : Sp := fun vs H Q _ => ∃ (a t : Addr) (tp : Bool) (ns : List Str) (d : Deed), vs = [.ref a, .ref t] ∧ H a = some (HOq tp (ns.map V.str)) ∧ H t = some (.tup d.vals) ∧ d.Ok 40 ns ∧ ns.length ≤ 40 ∧ NewRow H Q (d.done ns)
def spLDone : Sp := fun vs H Q _ => ∃ (a t : Addr) (ns : List Str) (d : Deed), vs = [.ref a, .ref t] ∧ H a = some (.lst (ns.map V.str)) ∧ H t = some (.tup d.vals) ∧ d.Ok 40 ns ∧ ns.length ≤ 40 ∧ ns.Nodup ∧ NewRow H Q (d.done ns)
def spUndo : Sp := fun vs H Q _ => ∃ (a t : Addr) (tp : Bool) (ns : List Str) (d : Deed), vs = [.ref a, .ref t] ∧ H a = some (HOq tp (ns.map V.str)) ∧ H t = some (.tup d.vals) ∧ d.Ok 40 ns ∧ ∀ l H', H l = none → Same H H' → H' l = some (.tup (d.back ns).vals) → Q (.ref l) H'
def spLBack : Sp := fun vs H Q _ => ∃ (a t : Addr) (ns : List Str) (d : Deed), vs = [.ref a, .ref t] ∧ H a = some (.lst (ns.map V.str)) ∧ H t = some (.tup d.vals) ∧ d.Ok 40 ns ∧ ∀ l H', Same H H' → H' l = some (.tup (d.back ns).vals) → Q (.ref l) H'
def spDeed : Sp := fun vs H Q _ => ∃ (p a : Addr) (m : Nat) (ns : List Str), vs = [.ref p, .ref a, .int m] ∧ Pot H p ∧ H a = some (.lst (ns.map V.str)) ∧ a ≠ p ∧ (∀ x ∈ ns, Nm x) ∧ ns.length ≤ m ∧ 1 ≤ m ∧ m ≤ 100 ∧
  ∀ (d : Deed) t H', H t = none → PStep p H H' → H' t = some (.tup d.vals) → d.Ok m ns → Q (.ref t) H'
end Lw
namespace Lw
open PySem PySem.Spec PyProof.Rows L2
theorem iteP {c A B : Prop} [Decidable c] (h : c) (a : A) : if c then A else B := by rw [if_pos h]; exact a
theorem iteN {c A B : Prop} [Decidable c] (h : ¬ c) (b : B) : if c then A else B := by rw [if_neg h]; exact b
theorem abc_all : ∀ j, j < 26 → inAbc (97 + j) = true := by decide +kernel
theorem nm_isNm {x : Str} (h : Nm x) : isNm x = true := by
  obtain ⟨h1, h2, h3⟩ := h
  unfold isNm
  rw [decide_eq_true (by omega), decide_eq_true (by omega), Bool.true_and, Bool.true_and, List.all_eq_true]
  intro c hc
  obtain ⟨a, b⟩ := h3 c hc
  have := abc_all (c - 97) (by omega)
  have e : 97 + (c - 97) = c := by omega
  rw [e] at this
  exact this
theorem lenS (ns : List Str) : (ns.map V.str).length = ns.length := List.length_map _
/-- a filter over names by what is not x -/
def neqV (y : V) : V → Bool := fun v => !decide (v = y)
theorem wo_map (ns : List Str) (x : Str) : ((ns.map V.str).filter (neqV (.str x))).map (fun v => v) = (wo ns x).map V.str := by
  unfold wo neqV
  rw [List.map_id', List.filter_map]
  congr 1
  apply List.filter_congr
  intro y _
  simp
theorem wo_mapI (ns : List Str) (i : Int) : ((ns.map V.str).filter (neqV (.int i))).map (fun v => v) = ns.map V.str := by
  unfold neqV
  rw [List.map_id', List.filter_eq_self]
  intro v hv
  obtain ⟨y, _, rfl⟩ := List.mem_map.mp hv
  rfl
end Lw
namespace Lw
open PySem PySem.Spec PyProof.Rows L2
theorem same_upd {H H' : Hp} {l : Addr} {o : HO} (s : Same H H') (h : H l = none) : Same H (upd H' l o) := fun b u q => by rw [upd_ne (ne_of_none q h)]; exact s b u q
end Lw
namespace Lw
open PySem PySem.Spec PyProof.Rows L2
theorem kit_int_bool (K : PySem.W.Frag) : PySem.W.kitOne K (.type "int") (.type "bool") = some false := by
  unfold PySem.W.kitOne; rw [if_neg (by decide)]; with_unfolding_all rfl
def spWhole : Sp := fun vs H Q _ => ∃ i : Int, vs = [.int i] ∧ Q (.bl true) H
def spTexts : Sp := fun vs H Q _ => ∃ (a : Addr) (ns : List Str), vs = [.ref a] ∧ H a = some (.lst (ns.map V.str)) ∧ ns.length ≤ 1000 ∧ ∀ H', Same H H' → Q (.bl true) H'
def spIsRowL : Sp := fun vs H Q _ => ∃ (a b : Addr) (ns : List Str), vs = [.ref a, .ref b] ∧ H a = some (.lst (ns.map V.str)) ∧ H b = some (.lst (ns.map V.str)) ∧ ns.length ≤ 1000 ∧ ∀ H', Same H H' → Q (.bl true) H'
def spPlaces : Sp := fun vs H Q _ => ∃ (a : Addr) (ns : List Str), vs = [.ref a] ∧ H a = some (.lst (ns.map V.str)) ∧ ns.length ≤ 1000 ∧ ns.Nodup ∧ ∀ H', Same H H' → Q (.bl true) H'
theorem trues (xs : List V) : (xs.filter fun _ => true).map (fun _ => V.bl true) = (xs.map fun _ => true).map V.bl := by
  rw [List.map_map]
  congr 1
  exact List.filter_eq_self.mpr fun _ _ => rfl
theorem all_trues (xs : List V) : (xs.map fun _ => true).all id = true := by
  rw [List.all_eq_true]; intro b hb
  obtain ⟨_, _, rfl⟩ := List.mem_map.mp hb; rfl
end Lw

set_option Elab.async false
set_option linter.all false
set_option maxRecDepth 100000
set_option maxHeartbeats 4000000
namespace L2
open PySem PySem.Spec PyProof.Rows
section
variable {X : Cx}
/-- a list of anything, and the list without items -/
def rNeN (K : PySem.W.Frag) : R2 := fun x y H Q => ∃ p q xs, x = .ref p ∧ y = .ref q ∧ SqL K H p xs ∧ SqL K H q [] ∧ Q (.bl (!decide (xs = []))) H
theorem op_neN (hu : X.A.units < cLine) : OpR X (compareOp .NotEq) (rNeN X.K) := by
  intro pins s σ H x y v u Q I rx ry h
  obtain ⟨p, q, xs, rfl, rfl, ha, hb, hQ⟩ := h
  cases rx; cases ry
  obtain ⟨its, r1, p1, z1⟩ := I.list ha
  obtain ⟨its2, r2, p2, z2⟩ := I.list hb
  have l1 := r1.length; have l2 := r2.length
  cases xs with
  | nil => exact op_neS hu pins s σ H _ _ _ _ Q I (show RelV (.ref p) (.ref p) from rfl) (show RelV (.ref q) (.ref q) from rfl) ⟨p, q, [], [], rfl, rfl, .inl ⟨ha, hb⟩, rfl, rfl, hQ⟩
  | cons y ys =>
    have hne : (its.toArray.size != its2.toArray.size) = true := by simp only [List.size_toArray, ← l1, ← l2]; simp
    exact SeqAt.RcNeAt.lists_lengths p1.isList p2.isList hne hu _ _ _ _ ⟨.bl true, H, I, rfl, hQ⟩
def rEqN (K : PySem.W.Frag) : R2 := fun x y H Q => ∃ p q xs, x = .ref p ∧ y = .ref q ∧ SqL K H p xs ∧ SqL K H q [] ∧ Q (.bl (decide (xs = []))) H
theorem op_eqN (hu : X.A.units < cLine) : OpR X (compareOp .Eq) (rEqN X.K) := by
  intro pins s σ H x y v u Q I rx ry h
  obtain ⟨p, q, xs, rfl, rfl, ha, hb, hQ⟩ := h
  cases rx; cases ry
  obtain ⟨its, r1, p1, z1⟩ := I.list ha
  obtain ⟨its2, r2, p2, z2⟩ := I.list hb
  have l1 := r1.length; have l2 := r2.length
  cases xs with
  | nil => exact op_eqS hu pins s σ H _ _ _ _ Q I (show RelV (.ref p) (.ref p) from rfl) (show RelV (.ref q) (.ref q) from rfl) ⟨p, q, [], [], rfl, rfl, .inl ⟨ha, hb⟩, rfl, rfl, hQ⟩
  | cons y ys =>
    have hne : (its.toArray.size != its2.toArray.size) = true := by simp only [List.size_toArray, ← l1, ← l2]; simp
    exact SeqAt.eq_list_lengthsAt p1.isList p2.isList hne hu ⟨.bl false, H, I, rfl, hQ⟩
end
end L2
namespace Lw
open PySem PySem.Spec PyProof.Rows L2
theorem kit_str_int (K : PySem.W.Frag) : PySem.W.kitOne K (.type "str") (.type "int") = some false := by
  unfold PySem.W.kitOne; rw [if_neg (by decide)]; with_unfolding_all rfl
def spWholeG : Sp := fun vs H Q _ => ∃ v, vs = [v] ∧ ((∃ i : Int, v = .int i ∧ Q (.bl true) H) ∨ (∃ x : Str, v = .str x ∧ Q (.bl false) H))
theorem vals_cases (d : Deed) : ∀ v ∈ d.vals, (∃ x, v = .str x) ∨ ∃ i, v = .int i := by
  intro v hv
  cases d <;> simp only [Deed.vals, List.mem_cons, List.not_mem_nil, or_false] at hv
  · rcases hv with rfl | rfl | rfl
    · exact .inl ⟨_, rfl⟩
    · exact .inl ⟨_, rfl⟩
    · exact .inr ⟨_, rfl⟩
  · rcases hv with rfl | rfl
    · exact .inl ⟨_, rfl⟩
    · exact .inl ⟨_, rfl⟩
  · rcases hv with rfl | rfl | rfl
    · exact .inl ⟨_, rfl⟩
    · exact .inl ⟨_, rfl⟩
    · exact .inr ⟨_, rfl⟩
  · rcases hv with rfl | rfl | rfl
    · exact .inl ⟨_, rfl⟩
    · exact .inr ⟨_, rfl⟩
    · exact .inr ⟨_, rfl⟩
theorem vals_flat (d : Deed) : d.vals.all flatV = true := by
  rw [List.all_eq_true]; intro v hv
  rcases vals_cases d v hv with ⟨x, rfl⟩ | ⟨i, rfl⟩ <;> rfl
theorem eqVs_refl {xs : List V} (h : xs.all flatV = true) : eqVs xs xs = true := by
  rw [eqVs_same rfl, List.all_eq_true]
  intro j hj
  have hj' : j < xs.length := by simpa using hj
  rw [getD_of (List.getElem?_eq_getElem hj')]
  have := List.all_eq_true.mp h _ (List.getElem_mem hj')
  generalize xs[j] = v at this
  cases v <;> simp_all [flatV, eqV]
theorem vals_len (d : Deed) : d.vals.length ≤ 3 := by cases d <;> simp [Deed.vals]
/-- rows and the deeds that lead back -/
inductive Tr (lr lb : Addr) (H : Hp) : List V → List V → Addr → List Str → Prop where
  | base {l : Addr} {rs : List Str} : l ≠ lr → l ≠ lb → H l = some (.lst (rs.map V.str)) → Tr lr lb H [.ref l] [] l rs
  | snoc {vs bs : List V} {l : Addr} {rs : List Str} {l' : Addr} {rs' : List Str} {t : Addr} {d : Deed} : Tr lr lb H vs bs l rs → l' ≠ lr → l' ≠ lb → t ≠ lr → t ≠ lb → H l' = some (.lst (rs'.map V.str)) → H t = some (.tup d.vals) →
      d.Ok 40 rs' → rs'.length ≤ 40 → d.done rs' = rs → Tr lr lb H (vs ++ [.ref l']) (bs ++ [.ref t]) l' rs'
theorem Tr.mono {lr lb : Addr} {H H' : Hp} (k : ∀ b o, b ≠ lr → b ≠ lb → H b = some o → H' b = some o) {vs bs : List V} {l : Addr} {rs : List Str} (h : Tr lr lb H vs bs l rs) : Tr lr lb H' vs bs l rs := by
  induction h with
  | base a b c => exact .base a b (k _ _ a b c)
  | snoc _ a b c d e f g i j ih => exact .snoc ih a b c d (k _ _ a b e) (k _ _ c d f) g i j
theorem Tr.row {lr lb : Addr} {H : Hp} {vs bs : List V} {l : Addr} {rs : List Str} (h : Tr lr lb H vs bs l rs) : l ≠ lr ∧ l ≠ lb ∧ H l = some (.lst (rs.map V.str)) := by
  cases h with
  | base a b c => exact ⟨a, b, c⟩
  | snoc _ a b c d e f g i j => exact ⟨a, b, e⟩
theorem Tr.last {lr lb : Addr} {H : Hp} {vs bs : List V} {l : Addr} {rs : List Str} (h : Tr lr lb H vs bs l rs) : ∃ ws, vs = ws ++ [.ref l] := by
  cases h with
  | base a b c => exact ⟨[], rfl⟩
  | snoc _ a b c d e f g i j => exact ⟨_, rfl⟩
theorem Tr.len {lr lb : Addr} {H : Hp} {vs bs : List V} {l : Addr} {rs : List Str} (h : Tr lr lb H vs bs l rs) : vs.length = bs.length + 1 := by
  induction h with
  | base a b c => rfl
  | snoc _ a b c d e f g i j ih => simp [ih]
theorem last_get (ws : List V) (v : V) : (ws ++ [v])[(ws ++ [v]).length - 1]? = some v := by simp
end Lw

set_option Elab.async false
set_option linter.all false
set_option maxRecDepth 100000
set_option maxHeartbeats 4000000
namespace L2
open PySem PySem.Spec PyProof.Rows
/-! ### what a table keeps when a text is put in -/
theorem tb_orStand (t : SetTable) (n : Nat) : (t.orStandIn n).led = t.led := by unfold SetTable.orStandIn; split <;> rfl
theorem tb_layNew (t : SetTable) (es : Array (Int × Value)) (h : Int) (x : Value) : (layNew t es h x).2.1.led = t.led := by
  unfold layNew
  split
  · show (SetTable.orStandIn (t.put _).1 _).led = t.led
    rw [tb_orStand]; rfl
  · rfl
theorem tb_laid {mask finger moves : Nat} {led plain : Bool} {hs : Array Int} {p : SetTable × Array Nat} (h : SetTable.laid mask finger moves led plain hs = some p) : p.1.led = led ∧ p.1.plain = plain := by
  unfold SetTable.laid at h
  cases hc : SetTable.layClean mask hs with
  | none => rw [hc] at h; cases h
  | some ow => rw [hc] at h; cases h; exact ⟨rfl, rfl⟩
theorem tb_relay (t : SetTable) (es : Array (Int × Value)) (n : Nat) (hp : t.plain = false) : (relayAll t es n).2.1.led = t.led ∧ (relayAll t es n).2.1.plain = false := by
  unfold relayAll
  split
  · next t' order hr =>
    have q := tb_laid (p := (t', order)) hr
    dsimp only at q ⊢
    split
    · exact ⟨q.1, q.2.trans hp⟩
    · exact ⟨rfl, rfl⟩
  · exact ⟨rfl, rfl⟩
/-! ### a set of texts, with what its walks go by -/
def byT (w : World) : Bool := w.params.followText "set-order"
def SetT (prog : Program) (w : World) (h : Heap) (a : Addr) (S : Str → Bool) (n : Nat) : Prop :=
  ∃ o es ep t, h.get? a = some o ∧ o.ExactSet ∧ o.data = .set es ep t ∧ ElemsOf (PySem.strKind prog w) es.toList ∧ (∀ k, S k = true ↔ ∃ e ∈ es.toList, (PySem.strKind prog w).is k e.2 = true) ∧
    es.size < scanBound ∧ t.fits es.size = true ∧ es.size = n ∧ (t.led = !byT w) ∧ (0 < es.size → t.plain = false)
theorem SetT.keep {prog : Program} {w : World} {h h' : Heap} {a : Addr} {S : Str → Bool} {n : Nat} (x : SetT prog w h a S n) (k : ∀ o, h.get? a = some o → h'.get? a = some o) : SetT prog w h' a S n := by
  obtain ⟨o, es, ep, t, ho, r⟩ := x
  exact ⟨o, es, ep, t, k o ho, r⟩
theorem SetT.congr {prog : Program} {w : World} {h : Heap} {a : Addr} {S S' : Str → Bool} {n n' : Nat} (x : SetT prog w h a S n) (e : ∀ k, S k = S' k) (en : n = n') : SetT prog w h a S' n' := by
  obtain ⟨o, es, ep, t, h1, h2, h3, h4, h5, h6, h7, h8, h9⟩ := x
  exact ⟨o, es, ep, t, h1, h2, h3, h4, fun k => by rw [← e k]; exact h5 k, h6, h7, h8.trans en, h9⟩
section
variable {prog : Program} {w : World} {A : Around} {E : Value → Shared → Prop} {s : Shared}
theorem storeT {h : Heap} {a : Addr} {o : Obj} {es : Array (Int × Value)} {ep : Nat} {t : SetTable} (ho : h.get? a = some o) (hd : o.data = .set es ep t) (es' : Array (Int × Value)) (t' : SetTable) :
    (h.update a (Obj.putSet es' t')).get? a = some { o with data := .set es' (ep + 1) t' } := by
  have q := Heap.get?_update_self (Obj.putSet es' t') ho (by rw [putSet_of es' t' hd]; rfl)
  rw [q, putSet_of es' t' hd]
theorem SetT.put {a : Addr} {S : Str → Bool} {n : Nat} {k : Str} {tk : Tok} {Q : Bool → Shared → Prop} (hS : SetT prog w s.heap a S n) (hroom : n + 1 < scanBound)
    (h : ∀ h', Heap.SameBut a s.heap h' → SetT prog w h' a (fun k' => S k' || decide (k' = k)) (if S k then n else n + 1) → Q (!S k) { s with heap := h' }) :
    wpAny (model prog w) A (setAddHashed a (.str k tk) ((PySem.strKind prog w).hash k)) Q E s := by
  obtain ⟨o, es, ep, t, ho, hex, hd, hel, hmem, hb, hf, hn, hled, hpl⟩ := hS
  have hkey : (PySem.strKind prog w).is k (.str k tk) = true := PySem.strKind_is prog w k tk
  have hsc : (Value.str k tk).scannable = true := rfl
  have rm : es.size + 1 < scanBound := by rw [hn]; exact hroom
  have gw : ∀ (b : Bool) (s1 : Shared) (Q1 : Unit → Shared → Prop), Q1 () s1 → wpAny (model prog w) A (match b with | true => rule "set.scan.the-table-gave-way" | false => pure ()) Q1 E s1 := by
    intro b s1 Q1 q; cases b
    · exact wpAny_pure q
    · exact wpAny_rule q
  unfold setAddHashed setAddHashedIn
  refine wpAny_holding ?_
  refine wpAny_bind (wpAny_setState_of ho hd hf ?_)
  dsimp only
  rw [byScan_of hsc hb hel]
  simp only [↓reduceIte]
  unfold setAddByScan
  refine wpAny_bind ?_
  refine wpAny_bind (wpAny_rule ?_)
  refine wpAny_bind (wpAny_setScan_of hkey ho hd hf hel ?_)
  cases hr : List.findIdx? (fun e => (PySem.strKind prog w).is k e.2) es.toList with
  | some j =>
    dsimp only
    obtain ⟨hj, hpj, _⟩ := List.findIdx?_eq_some_iff_getElem.mp hr
    have hk : S k = true := (hmem k).mpr ⟨es.toList[j], List.getElem_mem hj, hpj⟩
    refine wpAny_pure ?_
    refine wpAny_pure ?_
    have q := h s.heap (Heap.SameBut.refl a s.heap) ⟨o, es, ep, t, ho, hex, hd, hel, fun k' => by
      rw [← hmem k', Bool.or_eq_true, decide_eq_true_eq]
      exact ⟨fun z => z.elim id fun e => e ▸ hk, Or.inl⟩, hb, hf, by rw [if_pos hk]; exact hn, hled, hpl⟩
    rw [hk] at q
    exact q
  | none =>
    dsimp only
    have hk : S k = false := by
      cases e : S k with
      | false => rfl
      | true =>
        obtain ⟨x, hx, hp⟩ := (hmem k).mp e
        have q := List.findIdx?_eq_none_iff.mp hr x hx
        rw [hp] at q; exact Bool.noConfusion q
    have p1 := layNew_perm t es ((PySem.strKind prog w).hash k) (.str k tk)
    have f1 := layNew_fits t es ((PySem.strKind prog w).hash k) (.str k tk)
    have l1 := tb_layNew t es ((PySem.strKind prog w).hash k) (.str k tk)
    generalize layNew t es ((PySem.strKind prog w).hash k) (.str k tk) = L at p1 f1 l1 ⊢
    obtain ⟨es1, t1, wd, gv⟩ := L
    dsimp only at p1 f1 l1 ⊢
    rw [Array.toList_push] at p1
    have el1 : ElemsOf (PySem.strKind prog w) es1.toList := (hel.push hkey hsc).perm p1
    have m1 : ∀ k', (S k' || decide (k' = k)) = true ↔ ∃ e ∈ es1.toList, (PySem.strKind prog w).is k' e.2 = true := mem_push_iff hkey hmem p1
    have z1 : es1.size = n + 1 := by rw [← Array.length_toList, p1.length_eq, List.length_append, Array.length_toList, hn]; rfl
    have b1 : es1.size < scanBound := by rw [z1]; exact hroom
    have fin : ∀ (h' : Heap) (o' : Obj) (es' : Array (Int × Value)) (ep' : Nat) (t' : SetTable), Heap.SameBut a s.heap h' → h'.get? a = some o' → o'.ExactSet → o'.data = .set es' ep' t' → es'.toList.Perm es1.toList → t'.fits es'.size = true → t'.led = t.led → t'.plain = false →
        Q true { s with heap := h' } := by
      intro h' o' es' ep' t' sb go xo d' pp ff ll pf
      have zz : es'.size = n + 1 := by rw [← z1, ← Array.length_toList, pp.length_eq, Array.length_toList]
      have q := h h' sb ⟨o', es', ep', t', go, xo, d', el1.perm pp, fun k' => (m1 k').trans ⟨fun ⟨e, he, q⟩ => ⟨e, pp.mem_iff.mpr he, q⟩, fun ⟨e, he, q⟩ => ⟨e, pp.mem_iff.mp he, q⟩⟩, by rw [zz]; exact hroom, ff, by rw [hk]; exact zz, ll.trans hled, fun _ => pf⟩
      rw [hk] at q
      exact q
    have tail : ∀ (t2 : SetTable), t2.fits es1.size = true → t2.led = t.led → t2.plain = false → wpAny (model prog w) A (do
        storeSet a es1 t2
        if (!wd && t2.tooFull) = true then do
            (match (relayAll t2 es1 (SetTable.grown es1.size)).2.2 with | true => rule "set.scan.the-table-gave-way" | false => pure ())
            storeSet a (relayAll t2 es1 (SetTable.grown es1.size)).1 (relayAll t2 es1 (SetTable.grown es1.size)).2.1
            pure (some true)
          else pure (some true)) (fun r s' => match r with | some b => Q b s' | none => False) E s := by
      intro t2 f2 l2 pl2
      refine wpAny_bind (wpAny_storeSet_of ho hd ?_ (fits_of_scanBound b1))
      have o1 := storeT ho hd es1 t2
      have sb1 := Heap.SameBut.update s.heap a (Obj.putSet es1 t2)
      split
      · have p3 := relayAll_perm t2 es1 (SetTable.grown es1.size)
        have f3 := relayAll_fits t2 es1 (SetTable.grown es1.size)
        have l3 := tb_relay t2 es1 (SetTable.grown es1.size) pl2
        generalize relayAll t2 es1 (SetTable.grown es1.size) = Rl at p3 f3 l3 ⊢
        obtain ⟨es2, t3, g3⟩ := Rl
        dsimp only at p3 f3 l3 ⊢
        have z3 : es2.size = es1.size := by rw [← Array.length_toList, p3.length_eq, Array.length_toList]
        refine wpAny_bind (gw _ _ _ ?_)
        refine wpAny_bind (wpAny_storeSet_of o1 rfl ?_ (fits_of_scanBound (by rw [z3]; exact b1)))
        refine wpAny_pure ?_
        exact fin _ _ es2 _ t3 (sb1.trans (Heap.SameBut.update _ a _)) (storeT o1 rfl es2 t3) hex rfl p3 f3 (l3.1.trans l2) l3.2
      · exact wpAny_pure (fin _ _ es1 _ t2 sb1 o1 hex rfl (List.Perm.refl _) f2 l2 pl2)
    refine wpAny_bind (gw _ _ _ ?_)
    split
    · next hp1 =>
      refine wpAny_bind ?_
      rw [hashByValue_scannable 8 hsc]
      refine wpAny_pure ?_
      refine wpAny_mono (tail { t1 with plain := false } (SetTable.fits_plain_off f1) l1 rfl) (fun r s' q => ?_) fun _ _ e => e
      cases r with
      | none => exact q.elim
      | some b => exact wpAny_pure q
    · next hp1 =>
      refine wpAny_bind (wpAny_pure ?_)
      simp only [↓reduceIte]
      refine wpAny_mono (tail t1 f1 l1 (by simpa using hp1)) (fun r s' q => ?_) fun _ _ e => e
      cases r with
      | none => exact q.elim
      | some b => exact wpAny_pure q
end
end L2

set_option Elab.async false
set_option linter.all false
set_option maxRecDepth 100000
set_option maxHeartbeats 4000000
namespace L2
open PySem PySem.Spec PyProof.Rows
/-! ### the walk over a set of texts -/
theorem erase_perm {α : Type} : ∀ (l : List α) (i : Nat) (h : i < l.length), (l[i] :: l.eraseIdx i).Perm l
  | _ :: _, 0, _ => List.Perm.refl _
  | x :: r, i + 1, h => (List.Perm.swap x (r[i]'(by simpa using h)) (r.eraseIdx i)).trans ((erase_perm r i (by simpa using h)).cons x)
theorem go_perm {α : Type} (nx : Nat → Nat) : ∀ (n k : Nat) (l : List α) (out : Array α), l.length = n → (pickOrder.go nx n k l out).toList.Perm (out.toList ++ l) := by
  intro n
  induction n with
  | zero =>
    intro k l out hl
    rw [List.length_eq_zero_iff.mp hl]
    unfold pickOrder.go
    simp
  | succ n ih =>
    intro k l out hl
    have hlt : nx k % l.length < l.length := Nat.mod_lt _ (by omega)
    unfold pickOrder.go
    rw [List.getElem?_eq_getElem hlt]
    dsimp only
    refine (ih _ _ _ (by rw [List.length_eraseIdx_of_lt hlt]; omega)).trans ?_
    rw [Array.toList_push, List.append_assoc]
    exact List.Perm.append_left _ (erase_perm l _ hlt)
theorem pick_perm {α : Type} (nx : Nat → Nat) (xs : Array α) : (pickOrder nx xs).toList.Perm xs.toList := by
  have q := go_perm nx xs.size 0 xs.toList #[] (by simp)
  simpa [pickOrder] using q
section
variable {prog : Program} {w : World} {A : Around} {E : Value → Shared → Prop} {s : Shared}
theorem wpAny_draw {src : Source} {n : Nat} {Q : Nat → Shared → Prop} (hn : n ≠ 0) (h : ∀ k d, k < n → Q k { s with drawn := d }) : wpAny (model prog w) A (choose src n) Q E s := by
  intro Γ p hΓ
  show Sem.wp _ _ (.choose src n .pure) _ _ _ _
  rw [Sem.wp_choose]
  refine ⟨hn, ?_⟩
  rw [Sem.wp_pure]
  exact h _ _ (Nat.mod_lt _ (Nat.pos_of_ne_zero hn))
theorem wpAny_drawOrder {α : Type} : ∀ (n : Nat) (xs : List α) (s : Shared) (Q : List α → Shared → Prop), xs.length ≤ n → (∀ ys d, ys.Perm xs → Q ys { s with drawn := d }) → wpAny (model prog w) A (drawOrder n xs) Q E s := by
  intro n
  induction n with
  | zero =>
    intro xs s Q hl h
    rw [List.length_eq_zero_iff.mp (Nat.le_zero.mp hl)] at h ⊢
    exact wpAny_pure (h [] s.drawn (List.Perm.refl _))
  | succ n ih =>
    intro xs s Q hl h
    cases xs with
    | nil => exact wpAny_pure (h [] s.drawn (List.Perm.refl _))
    | cons x r =>
      unfold drawOrder
      refine wpAny_bind (wpAny_draw (by simp) fun k d hk => ?_)
      rw [List.getElem?_eq_getElem hk]
      dsimp only
      refine wpAny_bind (ih _ _ _ (by rw [List.length_eraseIdx_of_lt hk]; simp only [List.length_cons] at hl ⊢; omega) fun ys d' hp => ?_)
      exact wpAny_pure (h _ d' ((hp.cons _).trans (erase_perm (x :: r) _ hk)))
theorem wpAny_setDrawn {a : Addr} {o : Obj} {es : Array (Int × Value)} {ep : Nat} {t : SetTable} {Q : Bool → Shared → Prop} (ho : s.heap.get? a = some o) (hd : o.data = .set es ep t) (hf : t.fits es.size = true)
    (h : Q (!byT w && (!t.plain && decide (es.size > 1))) s) : wpAny (model prog w) A (setDrawn a) Q E s := by
  unfold setDrawn
  refine wpAny_bind (wpAny_setState_of ho hd hf ?_)
  dsimp only
  unfold setsByText
  refine wpAny_bind (wpAny_bind (wpAny_askSetting (wpAny_pure ?_)))
  exact wpAny_pure h
theorem setNext_text {a : Addr} {o : Obj} {es : Array (Int × Value)} {ep : Nat} {t : SetTable} {sl i : Nat} {Q : Option (Value × Nat) → Shared → Prop} (hb : byT w = true) (ho : s.heap.get? a = some o) (hd : o.data = .set es ep t) (hf : t.fits es.size = true)
    (h : Q (((pickOrder (w.params.setOrder a ep) es)[i]?).map fun e => (e.2, sl)) s) : wpAny (model prog w) A (setNext a sl i ep) Q E s := by
  have hb' : w.params.followText "set-order" = true := hb
  unfold setNext
  refine wpAny_bind (wpAny_setState_of ho hd hf ?_)
  dsimp only
  unfold setsByText
  refine wpAny_bind (wpAny_bind (wpAny_askSetting (wpAny_pure ?_)))
  show wpAny _ _ (if w.params.followText "set-order" = true then _ else _) _ _ _
  rw [if_pos hb', if_neg (by simp)]
  refine wpAny_bind ?_
  unfold setWalk setsByText
  refine wpAny_bind (wpAny_setState_of ho hd hf ?_)
  dsimp only
  refine wpAny_bind (wpAny_bind (wpAny_askSetting (wpAny_pure ?_)))
  show wpAny _ _ (if w.params.followText "set-order" = true then _ else _) _ _ _
  rw [if_pos hb']
  exact wpAny_bind (wpAny_askSetting (wpAny_pure (wpAny_pure h)))
theorem setNext_led {a : Addr} {o : Obj} {es : Array (Int × Value)} {ep : Nat} {t : SetTable} {sl i : Nat} {Q : Option (Value × Nat) → Shared → Prop} (hb : byT w = false) (ho : s.heap.get? a = some o) (hd : o.data = .set es ep t) (hf : t.fits es.size = true)
    (h1 : es.size ≤ 1) (hl : t.led = true)
    (h : Q (match es[SetTable.below t.place sl]?, t.place[SetTable.below t.place sl]? with | some (_, x), some j => some (x, j + 1) | _, _ => none) s) : wpAny (model prog w) A (setNext a sl i ep) Q E s := by
  have hb' : w.params.followText "set-order" = false := hb
  unfold setNext
  refine wpAny_bind (wpAny_setState_of ho hd hf ?_)
  dsimp only
  unfold setsByText
  refine wpAny_bind (wpAny_bind (wpAny_askSetting (wpAny_pure ?_)))
  show wpAny _ _ (if w.params.followText "set-order" = true then _ else _) _ _ _
  rw [if_neg (by rw [hb']; decide)]
  show wpAny _ _ (if (!t.plain && decide (es.size > 1)) = true then _ else _) _ _ _
  rw [if_neg (by rw [decide_eq_false (by omega)]; simp)]
  refine wpAny_bind (m := _) ?_
  wp_delta
  rw [hl]
  exact wpAny_pure (wpAny_pure h)
theorem setNext_drawn {a : Addr} {o : Obj} {es : Array (Int × Value)} {ep pl : Nat} {t : SetTable} {e : Int × Value} {Q : Value → Shared → Prop} (ho : s.heap.get? a = some o) (hd : o.data = .set es ep t) (hf : t.fits es.size = true) (he : es[pl]? = some e)
    (h : Q e.2 s) : wpAny (model prog w) A (setNextDrawn a pl ep) Q E s := by
  unfold setNextDrawn
  refine wpAny_bind (wpAny_setState_of ho hd hf ?_)
  dsimp only
  rw [if_neg (by simp), he]
  exact wpAny_pure h
end
theorem owner_setit : Manifest.owners.lookup (String.ofList ['r', 'o', 't', 'a', 'r', 'e', 't', 'i', '_', 't', 'e', 's'].reverse) = some Manifest.sig_set_iterator := by kernel_rfl
theorem slot_setit_next : Slot "set_iterator" "__next__" "set_iterator.__next__" :=
  .of (owner := "set_iterator") (n := "__next__") (by rw [typeLookup_type, builtinLookup_eq_fast]; kernel_rfl) (by decide +kernel) (by decide +kernel) (by decide +kernel)
    (by first | exact .inl (by decide +kernel) | exact .inr (by decide +kernel)) (by rw [isSubtype_type]; kernel_rfl)
theorem entry_setit_next : entryFor table "set_iterator.__next__" = some Builtin.«set_iterator.__next__» := entryFor_of_tree (by kernel_rfl)
theorem args_setit_next (a : Value) : argsOk "set_iterator.__next__" ⟨[a], []⟩ := by
  unfold argsOk; rw [signature?_of (id := "set_iterator.__next__") (n := ['_', '_', 't', 'x', 'e', 'n', '_', '_']) (o := ['r', 'o', 't', 'a', 'r', 'e', 't', 'i', '_', 't', 'e', 's']) (by kernel_rfl) owner_setit]; kernel_rfl
theorem slot_setit_iter : Slot "set_iterator" "__iter__" "set_iterator.__iter__" :=
  .of (owner := "set_iterator") (n := "__iter__") (by rw [typeLookup_type, builtinLookup_eq_fast]; kernel_rfl) (by decide +kernel) (by decide +kernel) (by decide +kernel)
    (by first | exact .inl (by decide +kernel) | exact .inr (by decide +kernel)) (by rw [isSubtype_type]; kernel_rfl)
theorem args_setit_iter (a : Value) : argsOk "set_iterator.__iter__" ⟨[a], []⟩ := by
  unfold argsOk; rw [signature?_of (id := "set_iterator.__iter__") (n := ['_', '_', 'r', 'e', 't', 'i', '_', '_']) (o := ['r', 'o', 't', 'a', 'r', 'e', 't', 'i', '_', 't', 'e', 's']) (by kernel_rfl) owner_setit]; kernel_rfl
theorem entry_setit_iter : entryFor table "set_iterator.__iter__" = some Builtin.«dict_keyiterator.__iter__» :=
  entryFor_alias (id' := "dict_keyiterator.__iter__") (by kernel_rfl) (by first | rfl | decide +kernel | (unfold String.splitOn; simp +decide [String.splitOnAux])) (by decide +kernel) (by kernel_rfl)
theorem entry_set_iter' : entryFor table "set.__iter__" = some Builtin.«frozenset.__iter__» :=
  entryFor_alias (id' := "frozenset.__iter__") (by kernel_rfl) (by first | rfl | decide +kernel | (unfold String.splitOn; simp +decide [String.splitOnAux])) (by decide +kernel) (by kernel_rfl)
def setIt (f : Value) (i : Nat) (S : Addr) (n ep : Nat) : Array Value := #[f, rawInt (i : Int), .ref S, rawInt (n : Int), rawInt (ep : Int)]
def IsSetIt (h : Heap) (I : Addr) (f : Value) (i : Nat) (S : Addr) (n ep : Nat) : Prop := ∃ o, h.get? I = some o ∧ o.cls = .type "set_iterator" ∧ o.data = .fields (setIt f i S n ep)
theorem IsSetIt.typeIs {s : Shared} {I : Addr} {f : Value} {i : Nat} {S : Addr} {n ep : Nat} (x : IsSetIt s.heap I f i S n ep) : s.TypeIs (.ref I) "set_iterator" := let ⟨o, ho, hc, _⟩ := x; ⟨o, ho, hc⟩
theorem IsSetIt.at {h h' : Heap} {I : Addr} {f : Value} {i : Nat} {S : Addr} {n ep : Nat} (x : IsSetIt h I f i S n ep) (e : ∀ o, h.get? I = some o → h'.get? I = some o) : IsSetIt h' I f i S n ep := let ⟨o, ho, r⟩ := x; ⟨o, e _ ho, r⟩
section
variable {prog : Program} {w : World} {A : Around} {E : Value → Shared → Prop} {s : Shared}
/-- raising StopIteration -/
theorem raise_stop {α : Type} {Q : α → Shared → Prop} {F : Value → Shared → Prop} (hh : A.handled = none)
    (hF : ∀ e h', (∀ b o, s.heap.get? b = some o → h'.get? b = some o) → (Shared.TypeIs { s with heap := h' } e "StopIteration") → F e { s with heap := h' }) :
    wpAny (model prog w) A (newExc (.type "StopIteration") [] >>= fun e => raiseNew e) Q F s := by
  refine wpAny_bind ?_
  simp only [newExc, newTuple]
  refine wpAny_bind (wpAny_newObj_type ?_ (by size_fits))
  refine wpAny_bind (m := firstArgMember _ _) (wpAny_of_eq (a := Value.none) (by first | rfl | (simp only [firstArgMember]; rfl)) ?_)
  refine wpAny_newObj_type ?_ (by size_fits)
  simp only [raiseNew]
  refine wpAny_bind (wpAny_handled ?_)
  rw [hh]
  refine wpAny_bind (wpAny_pure (wpAny_throw ?_))
  exact hF _ _ (fun b o e => Heap.get?_push_of_some _ (Heap.get?_push_of_some _ e)) ⟨_, Heap.get?_push_size _ rfl, rfl⟩
/-- the next one of a walk by places -/
theorem next_slot {it S : Addr} {sl i n ep nx : Nat} {o : Obj} {es : Array (Int × Value)} {t : SetTable} {x : Value} {Q : Option Value → Shared → Prop} (hit : IsSetIt s.heap it (rawInt (sl : Int)) i S n ep)
    (ho : s.heap.get? S = some o) (hd : o.data = .set es ep t) (hf : t.fits es.size = true) (hn : es.size = n)
    (hnx : ∀ (A1 : Around) (E1 : Value → Shared → Prop) (Q1 : Option (Value × Nat) → Shared → Prop), Q1 (some (x, nx)) s → wpAny (model prog w) A1 (setNext S sl i ep) Q1 E1 s)
    (hQ : ∀ h', IsSetIt h' it (rawInt (nx : Int)) (i + 1) S n ep → Heap.SameBut it s.heap h' → Q (some x) { s with heap := h' }) : wpAny (model prog w) A (pyNext (.ref it)) Q E s := by
  obtain ⟨oi, hoi, hc, hdi⟩ := id hit
  subst hn
  unfold pyNext
  refine wpAny_bind (wpAny_attempt (wpAny_callSpecial?_slot (name := Str.ofString "__next__") hit.typeIs slot_setit_next
    (wpAny_call_entry slot_setit_next hit.typeIs entry_setit_next ?_ (args_setit_next _))))
  unfold Builtin.«set_iterator.__next__»
  refine wpAny_bind (wpAny_of_eq (a := (Value.ref it, [])) rfl ?_)
  try dsimp only
  refine wpAny_bind (wpAny_fieldsOf hoi hdi ?_)
  show wpAny _ _ (setEntries S >>= _) _ _ s
  refine wpAny_bind (wpAny_setEntries_of ho hd hf ?_)
  rw [if_neg (by simp)]
  show wpAny _ _ (setNext S sl i ep >>= _) _ _ s
  refine wpAny_bind (hnx _ _ _ ?_)
  dsimp only
  refine wpAny_bind (wpAny_setField hoi hdi (by simp [setIt]) ?_)
  have o1 := Heap.get?_update_self (fun ob => Obj.mapFields (·.setIfInBounds 0 (rawInt (nx : Int))) ob) hoi (Obj.isFreed_of_fields (Obj.data_mapFields hdi _))
  have d1 := Obj.data_mapFields hdi (·.setIfInBounds 0 (rawInt (nx : Int)))
  refine wpAny_bind (wpAny_setField (s := { s with heap := _ }) o1 d1 (by simp [setIt]) ?_)
  refine wpAny_pure ⟨x, rfl, wpAny_pure (hQ _ ⟨_, Heap.get?_update_self _ o1 (Obj.isFreed_of_fields (Obj.data_mapFields d1 _)), ?_, ?_⟩ ((Heap.SameBut.update ..).trans (Heap.SameBut.update ..)))⟩
  · exact (Obj.cls_mapFields ..).trans ((Obj.cls_mapFields ..).trans hc)
  · rw [Obj.data_mapFields d1]; simp [setIt]
theorem next_slot_end {it S : Addr} {sl i n ep : Nat} {o : Obj} {es : Array (Int × Value)} {t : SetTable} {Q : Option Value → Shared → Prop} (hh : A.handled = none) (hit : IsSetIt s.heap it (rawInt (sl : Int)) i S n ep)
    (ho : s.heap.get? S = some o) (hd : o.data = .set es ep t) (hf : t.fits es.size = true) (hn : es.size = n)
    (hnx : ∀ (A1 : Around) (E1 : Value → Shared → Prop) (Q1 : Option (Value × Nat) → Shared → Prop), Q1 none s → wpAny (model prog w) A1 (setNext S sl i ep) Q1 E1 s)
    (hQ : ∀ h', Heap.ExtBut it s.heap h' → Q none { s with heap := h' }) : wpAny (model prog w) A (pyNext (.ref it)) Q E s := by
  obtain ⟨oi, hoi, hc, hdi⟩ := id hit
  subst hn
  unfold pyNext
  refine wpAny_bind (wpAny_attempt (wpAny_callSpecial?_slot (name := Str.ofString "__next__") hit.typeIs slot_setit_next
    (wpAny_call_entry slot_setit_next hit.typeIs entry_setit_next ?_ (args_setit_next _))))
  unfold Builtin.«set_iterator.__next__»
  refine wpAny_bind (wpAny_of_eq (a := (Value.ref it, [])) rfl ?_)
  try dsimp only
  refine wpAny_bind (wpAny_fieldsOf hoi hdi ?_)
  show wpAny _ _ (setEntries S >>= _) _ _ s
  refine wpAny_bind (wpAny_setEntries_of ho hd hf ?_)
  rw [if_neg (by simp)]
  show wpAny _ _ (setNext S sl i ep >>= _) _ _ s
  refine wpAny_bind (hnx _ _ _ ?_)
  dsimp only
  refine wpAny_bind (wpAny_setField hoi hdi (by simp [setIt]) ?_)
  refine raise_stop (A := A.in1) hh fun e h' k hT => ?_
  refine wpAny_bind (wpAny_isInstance (T := "StopIteration") (b := true) hT isSubtype_stop ?_)
  refine wpAny_pure (hQ _ (fun b ob hb e => ?_))
  exact k b ob ((Heap.get?_update_other _ _ (Ne.symm hb)).trans e)
theorem next_drawn {it S T : Addr} {i n ep pl : Nat} {o oT : Obj} {es : Array (Int × Value)} {t : SetTable} {ps : Array Value} {nT : Nat} {e : Int × Value} {Q : Option Value → Shared → Prop} (hit : IsSetIt s.heap it (.ref T) i S n ep)
    (ho : s.heap.get? S = some o) (hd : o.data = .set es ep t) (hf : t.fits es.size = true) (hn : es.size = n) (hT : s.heap.get? T = some oT) (hTd : oT.data = .seq ps nT) (hp : ps[i]? = some (rawInt (pl : Int))) (he : es[pl]? = some e)
    (hQ : ∀ h', IsSetIt h' it (.ref T) (i + 1) S n ep → Heap.SameBut it s.heap h' → Q (some e.2) { s with heap := h' }) : wpAny (model prog w) A (pyNext (.ref it)) Q E s := by
  obtain ⟨oi, hoi, hc, hdi⟩ := id hit
  subst hn
  unfold pyNext
  refine wpAny_bind (wpAny_attempt (wpAny_callSpecial?_slot (name := Str.ofString "__next__") hit.typeIs slot_setit_next
    (wpAny_call_entry slot_setit_next hit.typeIs entry_setit_next ?_ (args_setit_next _))))
  unfold Builtin.«set_iterator.__next__»
  refine wpAny_bind (wpAny_of_eq (a := (Value.ref it, [])) rfl ?_)
  try dsimp only
  refine wpAny_bind (wpAny_fieldsOf hoi hdi ?_)
  show wpAny _ _ (setEntries S >>= _) _ _ s
  refine wpAny_bind (wpAny_setEntries_of ho hd hf ?_)
  rw [if_neg (by simp)]
  show wpAny _ _ (seqItems? (.ref T) >>= _) _ _ s
  refine wpAny_bind ?_
  unfold seqItems?
  refine wpAny_bind (wpAny_load hT ?_)
  rw [hTd]
  refine wpAny_pure ?_
  show wpAny _ _ (match ps[i]? with | some (.int place _) => _ | some _ => _ | none => _) _ _ s
  rw [hp]
  show wpAny _ _ (setNextDrawn S pl ep >>= _) _ _ s
  refine wpAny_bind (setNext_drawn ho hd hf he ?_)
  refine wpAny_bind (wpAny_setField hoi hdi (by simp [setIt]) ?_)
  refine wpAny_pure ⟨e.2, rfl, wpAny_pure (hQ _ ⟨_, Heap.get?_update_self _ hoi (Obj.isFreed_of_fields (Obj.data_mapFields hdi _)), ?_, ?_⟩ (Heap.SameBut.update ..))⟩
  · exact (Obj.cls_mapFields ..).trans hc
  · rw [Obj.data_mapFields hdi]; simp [setIt]
theorem next_drawn_end {it S T : Addr} {i n ep : Nat} {o oT : Obj} {es : Array (Int × Value)} {t : SetTable} {ps : Array Value} {nT : Nat} {Q : Option Value → Shared → Prop} (hh : A.handled = none) (hit : IsSetIt s.heap it (.ref T) i S n ep)
    (ho : s.heap.get? S = some o) (hd : o.data = .set es ep t) (hf : t.fits es.size = true) (hn : es.size = n) (hT : s.heap.get? T = some oT) (hTd : oT.data = .seq ps nT) (hp : ps[i]? = none)
    (hQ : ∀ h', Heap.ExtBut it s.heap h' → Q none { s with heap := h' }) : wpAny (model prog w) A (pyNext (.ref it)) Q E s := by
  obtain ⟨oi, hoi, hc, hdi⟩ := id hit
  subst hn
  unfold pyNext
  refine wpAny_bind (wpAny_attempt (wpAny_callSpecial?_slot (name := Str.ofString "__next__") hit.typeIs slot_setit_next
    (wpAny_call_entry slot_setit_next hit.typeIs entry_setit_next ?_ (args_setit_next _))))
  unfold Builtin.«set_iterator.__next__»
  refine wpAny_bind (wpAny_of_eq (a := (Value.ref it, [])) rfl ?_)
  try dsimp only
  refine wpAny_bind (wpAny_fieldsOf hoi hdi ?_)
  show wpAny _ _ (setEntries S >>= _) _ _ s
  refine wpAny_bind (wpAny_setEntries_of ho hd hf ?_)
  rw [if_neg (by simp)]
  show wpAny _ _ (seqItems? (.ref T) >>= _) _ _ s
  refine wpAny_bind ?_
  unfold seqItems?
  refine wpAny_bind (wpAny_load hT ?_)
  rw [hTd]
  refine wpAny_pure ?_
  show wpAny _ _ (match ps[i]? with | some (.int place _) => _ | some _ => _ | none => _) _ _ s
  rw [hp]
  dsimp only
  refine wpAny_bind (wpAny_setField hoi hdi (by simp [setIt]) ?_)
  have o1 := Heap.get?_update_self (fun ob => Obj.mapFields (·.setIfInBounds 0 (rawInt 0)) ob) hoi (Obj.isFreed_of_fields (Obj.data_mapFields hdi _))
  have d1 := Obj.data_mapFields hdi (·.setIfInBounds 0 (rawInt 0))
  refine wpAny_bind (wpAny_setField (s := { s with heap := _ }) o1 d1 (by simp [setIt]) ?_)
  refine raise_stop (A := A.in1) hh fun e h' k hT => ?_
  refine wpAny_bind (wpAny_isInstance (T := "StopIteration") (b := true) hT isSubtype_stop ?_)
  refine wpAny_pure (hQ _ (fun b ob hb e => ?_))
  exact k b ob ((Heap.get?_update_other _ _ (Ne.symm hb)).trans ((Heap.get?_update_other _ _ (Ne.symm hb)).trans e))
theorem iter_setit {it S : Addr} {f : Value} {i n ep : Nat} {Q : Value → Shared → Prop} (hit : IsSetIt s.heap it f i S n ep) (h : Q (.ref it) s) : wpAny (model prog w) A (pyIter (.ref it)) Q E s := by
  refine wpAny_pyIter_slot hit.typeIs slot_setit_iter (wpAny_call_entry slot_setit_iter hit.typeIs entry_setit_iter ?_ (args_setit_iter _))
  show wpAny _ _ (ret (.ref it)) _ _ s
  exact wpAny_pure ⟨_, rfl, "set_iterator", _, hit.typeIs, slot_setit_next.lookup, h⟩
end
end L2

set_option Elab.async false
set_option linter.all false
set_option maxRecDepth 100000
set_option maxHeartbeats 4000000
namespace L2
open PySem PySem.Spec PyProof.Rows
section
variable {prog : Program} {w : World} {A : Around}
theorem walks_text (hb : byT w = true) (hh : A.handled = none) (I S : Addr) (hne : S ≠ I) {o : Obj} {es : Array (Int × Value)} {ep : Nat} {t : SetTable} (hd : o.data = .set es ep t) (hf : t.fits es.size = true) :
    Walks prog w A I [I, S] [I] es.size (fun i v => ((pickOrder (w.params.setOrder S ep) es).toList.map (·.2))[i]? = some v) (fun i h => IsSetIt h I (rawInt ((0 : Nat) : Int)) i S es.size ep ∧ h.get? S = some o) where
  sub := fun b hb => by simp at hb; simp [hb]
  frame := fun _ _ _ x hk => ⟨x.1.at fun o e => hk I (by simp) o e, hk S (by simp) _ x.2⟩
  item := fun i s Q E hi x hQ => by
    have hl : (pickOrder (w.params.setOrder S ep) es).size = es.size := by
      have q := (pick_perm (w.params.setOrder S ep) es).length_eq
      simpa using q
    have hi2 : i < (pickOrder (w.params.setOrder S ep) es).size := by omega
    refine next_slot (x := ((pickOrder (w.params.setOrder S ep) es)[i]).2) (nx := 0) x.1 x.2 hd hf rfl (fun A1 E1 Q1 q => setNext_text hb x.2 hd hf (by rw [Array.getElem?_eq_getElem hi2]; exact q)) fun h' hit' sb => ?_
    exact hQ _ h' s.toks (by rw [List.getElem?_map, Array.getElem?_toList, Array.getElem?_eq_getElem hi2]; rfl) ⟨hit', sb.extBut S o hne x.2⟩ fun b ob hb eo => sb.extBut b ob (fun h => hb (by simp [h])) eo
  done := fun s Q E x hQ => by
    have hl : (pickOrder (w.params.setOrder S ep) es).size = es.size := by
      have q := (pick_perm (w.params.setOrder S ep) es).length_eq
      simpa using q
    refine next_slot_end hh x.1 x.2 hd hf rfl (fun A1 E1 Q1 q => setNext_text hb x.2 hd hf (by rw [Array.getElem?_eq_none (by omega)]; exact q)) fun h' eb => ?_
    exact hQ h' s.toks fun b ob hb eo => eb b ob (fun h => hb (by simp [h])) eo
  self := fun _ _ _ _ x hQ => iter_setit x.1 hQ
theorem one_arr {α : Type} : ∀ (a : Array α), a.size = 1 → ∃ x, a = #[x]
  | ⟨[x]⟩, _ => ⟨x, rfl⟩
  | ⟨[]⟩, h => by simp at h
  | ⟨_ :: _ :: _⟩, h => by simp at h
theorem below_0 (p : Nat) : SetTable.below #[p] 0 = 0 := by simp [SetTable.below, SetTable.below.go]
theorem below_1 (p : Nat) : SetTable.below #[p] (p + 1) = 1 := by simp [SetTable.below, SetTable.below.go]
theorem fits_size {t : SetTable} {n : Nat} (h : t.fits n = true) : t.place.size = n := by
  simp only [SetTable.fits, Bool.and_eq_true, beq_iff_eq] at h
  exact h.1
theorem walks_led (hb : byT w = false) (hh : A.handled = none) (I S : Addr) (hne : S ≠ I) {o : Obj} {es : Array (Int × Value)} {ep : Nat} {t : SetTable} (hd : o.data = .set es ep t) (hf : t.fits es.size = true) (h1 : es.size ≤ 1) (hl : t.led = true) :
    Walks prog w A I [I, S] [I] es.size (fun i v => (es.toList.map (·.2))[i]? = some v) (fun i h => IsSetIt h I (rawInt (((if i = 0 then 0 else t.place.getD 0 0 + 1 : Nat)) : Int)) i S es.size ep ∧ h.get? S = some o) where
  sub := fun b hb => by simp at hb; simp [hb]
  frame := fun _ _ _ x hk => ⟨x.1.at fun o e => hk I (by simp) o e, hk S (by simp) _ x.2⟩
  item := fun i s Q E hi x hQ => by
    obtain rfl : i = 0 := by omega
    have z : es.size = 1 := by omega
    have zp : t.place.size = 1 := (fits_size hf).trans z
    obtain ⟨e, rfl⟩ := one_arr es z
    obtain ⟨p, hp⟩ := one_arr t.place zp
    have hit := x.1
    refine next_slot (x := e.2) (nx := p + 1) hit x.2 hd hf rfl (fun A1 E1 Q1 q => setNext_led hb x.2 hd hf h1 hl (by rw [hp, if_pos rfl, below_0]; exact q)) fun h' hit' sb => ?_
    refine hQ _ h' s.toks rfl ⟨?_, sb.extBut S o hne x.2⟩ fun b ob hb eo => sb.extBut b ob (fun h => hb (by simp [h])) eo
    rw [if_neg (by omega), hp]
    exact hit'
  done := fun s Q E x hQ => by
    refine next_slot_end hh x.1 x.2 hd hf rfl (fun A1 E1 Q1 q => setNext_led hb x.2 hd hf h1 hl ?_) fun h' eb => ?_
    · by_cases z : es.size = 0
      · rw [Array.getElem?_eq_none (by omega)]; exact q
      · have z1 : es.size = 1 := by omega
        have zp : t.place.size = 1 := (fits_size hf).trans z1
        obtain ⟨p, hp⟩ := one_arr t.place zp
        rw [if_neg z, hp]
        show Q1 (match es[SetTable.below #[p] (p + 1)]?, (#[p] : Array Nat)[SetTable.below #[p] (p + 1)]? with | some (_, x), some j => some (x, j + 1) | _, _ => none) s
        rw [below_1, Array.getElem?_eq_none (by omega)]
        exact q
    · exact hQ h' s.toks fun b ob hb eo => eb b ob (fun h => hb (by simp [h])) eo
  self := fun _ _ _ _ x hQ => iter_setit x.1 hQ
theorem walks_drawn (hh : A.handled = none) (I S T : Addr) (hne : S ≠ I) (hnT : T ≠ I) {o oT : Obj} {es : Array (Int × Value)} {ep nT : Nat} {t : SetTable} (hd : o.data = .set es ep t) (hf : t.fits es.size = true) {ps : List Nat} (hp : ps.Perm (List.range es.size)) (hT : oT.data = .seq (ps.map fun i : Nat => rawInt i).toArray nT) :
    Walks prog w A I [I, S, T] [I] es.size (fun i v => (ps.map fun p => (es[p]?.map (·.2)).getD .none)[i]? = some v) (fun i h => IsSetIt h I (.ref T) i S es.size ep ∧ h.get? S = some o ∧ h.get? T = some oT) where
  sub := fun b hb => by simp at hb; simp [hb]
  frame := fun _ _ _ x hk => ⟨x.1.at fun o e => hk I (by simp) o e, hk S (by simp) _ x.2.1, hk T (by simp) _ x.2.2⟩
  item := fun i s Q E hi x hQ => by
    have hl : ps.length = es.size := by have q := hp.length_eq; simpa using q
    have hi2 : i < ps.length := by omega
    have hpi : ps[i] < es.size := by
      have q := hp.mem_iff.mp (List.getElem_mem hi2)
      simpa using q
    have he : es[ps[i]]? = some es[ps[i]] := Array.getElem?_eq_getElem hpi
    refine next_drawn (pl := ps[i]) (e := es[ps[i]]) x.1 x.2.1 hd hf rfl x.2.2 hT (by rw [List.getElem?_toArray, List.getElem?_map, List.getElem?_eq_getElem hi2]; rfl) he fun h' hit' sb => ?_
    exact hQ _ h' s.toks (by rw [List.getElem?_map, List.getElem?_eq_getElem hi2]; simp only [Option.map_some, he, Option.getD_some]) ⟨hit', sb.extBut S o hne x.2.1, sb.extBut T oT hnT x.2.2⟩ fun b ob hb eo => sb.extBut b ob (fun h => hb (by simp [h])) eo
  done := fun s Q E x hQ => by
    have hl : ps.length = es.size := by have q := hp.length_eq; simpa using q
    refine next_drawn_end hh x.1 x.2.1 hd hf rfl x.2.2 hT (by rw [List.getElem?_toArray, List.getElem?_map, List.getElem?_eq_none (by omega)]; rfl) fun h' eb => ?_
    exact hQ h' s.toks fun b ob hb eo => eb b ob (fun h => hb (by simp [h])) eo
  self := fun _ _ _ _ x hQ => iter_setit x.1 hQ
end
theorem places_all (es : Array (Int × Value)) : (List.range es.size).map (fun p => (es[p]?.map (·.2)).getD Value.none) = es.toList.map (·.2) := by
  refine List.ext_getElem (by simp) fun i h1 h2 => ?_
  have hi : i < es.size := by simpa using h1
  simp [Array.getElem?_eq_getElem hi]
theorem strs_of {prog : Program} {w : World} {l : List (Int × Value)} (h : ElemsOf (PySem.strKind prog w) l) : ∃ ts, StrsAre (l.map (·.2)) ts ∧ ∀ k, k ∈ ts ↔ ∃ e ∈ l, (PySem.strKind prog w).is k e.2 = true := by
  induction l with
  | nil => exact ⟨[], .nil, fun k => by simp⟩
  | cons e r ih =>
    obtain ⟨ts, h1, h2⟩ := ih h.tail
    obtain ⟨⟨k, hk, _⟩, _⟩ := h.head
    obtain ⟨tk, he⟩ := Value.isStrOf_shape hk
    refine ⟨k :: ts, ?_, fun k' => ?_⟩
    · rw [List.map_cons, he]; exact .cons k tk h1
    · rw [List.mem_cons, h2 k']
      constructor
      · rintro (rfl | ⟨x, hx, q⟩)
        · exact ⟨e, List.mem_cons_self, hk⟩
        · exact ⟨x, List.mem_cons_of_mem _ hx, q⟩
      · rintro ⟨x, hx, q⟩
        rcases List.mem_cons.mp hx with rfl | hx
        · exact .inl ((PySem.strKind prog w).inj x.2 k' k q hk)
        · exact .inr ⟨x, hx, q⟩
theorem StrsAre.len : ∀ {vs : List Value} {ss : List Str}, StrsAre vs ss → vs.length = ss.length
  | _, _, .nil => rfl
  | _, _, .cons _ _ h => by rw [List.length_cons, List.length_cons, StrsAre.len h]
theorem StrsAre.perm {vs vs' : List Value} {ss : List Str} (h : StrsAre vs ss) (p : vs'.Perm vs) : ∃ ss', StrsAre vs' ss' ∧ ss'.Perm ss := by
  refine ⟨vs'.map strOf, strsAre_map vs' fun v hv => h.all v (p.mem_iff.mp hv), ?_⟩
  rw [← h.strs]
  exact p.map strOf
section
variable {prog : Program} {w : World} {A : Around} {E : Value → Shared → Prop} {s : Shared}
theorem iter_set {S : Addr} {f : Str → Bool} {n : Nat} {Q : Value → Shared → Prop} (hS : SetT prog w s.heap S f n)
    (h : ∀ (I : Addr) (h1 : Heap) (d : _) (fp : List Addr) (vs : List Value) (ts : List Str) (St : Nat → Heap → Prop), (∀ A2 : Around, A2.handled = none → Walks prog w A2 I fp [I] n (fun i v => vs[i]? = some v) St) → St 0 h1 → (∀ b ∈ fp, b = S ∨ s.heap.objs.size ≤ b ∧ b < h1.objs.size) → s.heap.objs.size ≤ I → s.heap.objs.size ≤ h1.objs.size →
      (∀ b o, s.heap.get? b = some o → h1.get? b = some o) → StrsAre vs ts → ts.length = n → (∀ k, f k = true ↔ k ∈ ts) → Q (.ref I) { s with heap := h1, drawn := d }) : wpAny (model prog w) A (pyIter (.ref S)) Q E s := by
  obtain ⟨o, es, ep, t, ho, hex, hd, hel, hmem, hb, hf, hn, hled, hpl⟩ := hS
  subst hn
  have hT : s.TypeIs (.ref S) "set" := ⟨o, ho, hex.1⟩
  have hlt : S < s.heap.objs.size := Heap.lt_size ho
  obtain ⟨ts0, t1, t2⟩ := strs_of hel
  have fin : ∀ (I : Addr) (h1 : Heap) (d : _) (fp : List Addr) (vs : List Value) (St : Nat → Heap → Prop), (∀ A2 : Around, A2.handled = none → Walks prog w A2 I fp [I] es.size (fun i v => vs[i]? = some v) St) → St 0 h1 → (∀ b ∈ fp, b = S ∨ s.heap.objs.size ≤ b ∧ b < h1.objs.size) → s.heap.objs.size ≤ I → s.heap.objs.size ≤ h1.objs.size →
      (∀ b o, s.heap.get? b = some o → h1.get? b = some o) → vs.Perm (es.toList.map (·.2)) → Q (.ref I) { s with heap := h1, drawn := d } := by
    intro I h1 d fp vs St a1 a2 a3 a4 a5 a6 a7
    obtain ⟨ts, q1, q2⟩ := StrsAre.perm t1 a7
    refine h I h1 d fp vs ts St a1 a2 a3 a4 a5 a6 q1 ?_ fun k => ?_
    · rw [q2.length_eq, ← StrsAre.len t1]; simp
    · rw [hmem k, ← t2 k]; exact q2.mem_iff.symm
  refine wpAny_pyIter_slot hT F.slot_set_iter (wpAny_call_entry F.slot_set_iter hT entry_set_iter' ?_ (F.args_set_iter_1 _))
  unfold Builtin.«frozenset.__iter__»
  refine wpAny_bind (wpAny_of_eq (a := S) rfl ?_)
  refine wpAny_bind ?_
  unfold Builtin.Frozenset.sizeOf
  refine wpAny_bind (wpAny_setEntries_of ho hd hf (wpAny_pure ?_))
  refine wpAny_bind (wpAny_setDrawn ho hd hf ?_)
  by_cases hdr : (!byT w && (!t.plain && decide (es.size > 1))) = true
  · rw [if_pos hdr]
    refine wpAny_bind ?_
    refine wpAny_drawOrder es.size (List.range es.size) _ _ (by rw [List.length_range]; exact Nat.le_refl _) fun ps d hp => ?_
    have pz : (ps.map fun i : Nat => rawInt i).length ≤ sizeLine := by rw [List.length_map, hp.length_eq, List.length_range]; exact fits_of_scanBound hb
    refine wpAny_bind (wpAny_newTuple ?_ pz)
    dsimp only
    refine wpAny_bind (wpAny_setEpoch_of (s := { s with heap := _, drawn := d }) (Heap.get?_push_of_some _ ho) hd hf ?_)
    refine wpAny_bind (wpAny_newObj_type ?_)
    have g : ∀ (q : Obj) (b : Addr) (ob : Obj), s.heap.get? b = some ob → ((s.heap.push (seqObj "tuple" (ps.map fun i : Nat => rawInt i).toArray 0)).push q).get? b = some ob := fun q b ob e => Heap.get?_push_of_some _ (Heap.get?_push_of_some _ e)
    have sz1 : (s.heap.push (seqObj "tuple" (ps.map fun i : Nat => rawInt i).toArray 0)).objs.size = s.heap.objs.size + 1 := Heap.size_push ..
    refine wpAny_pure ⟨_, rfl, "set_iterator", _, ⟨_, Heap.get?_push_size _ rfl, rfl⟩, slot_setit_next.lookup, ?_⟩
    refine fin _ _ d [(s.heap.push (seqObj "tuple" (ps.map fun i : Nat => rawInt i).toArray 0)).objs.size, S, s.heap.objs.size] _ _ (fun A2 hh => walks_drawn hh _ S s.heap.objs.size (by rw [sz1]; exact Nat.ne_of_lt (Nat.lt_succ_of_lt hlt)) (by rw [sz1]; exact Nat.ne_of_lt (Nat.lt_succ_self _)) hd hf hp (oT := seqObj "tuple" (ps.map fun i : Nat => rawInt i).toArray 0) rfl) ⟨⟨_, Heap.get?_push_size _ rfl, rfl, rfl⟩, g _ _ _ ho, Heap.get?_push_of_some _ (Heap.get?_push_size _ rfl)⟩ ?_ (by show s.heap.objs.size ≤ (s.heap.push (seqObj "tuple" (ps.map fun i : Nat => rawInt i).toArray 0)).objs.size; rw [sz1]; exact Nat.le_succ _) ?_ (g _) ?_
    · intro b hb'
      simp only [List.mem_cons, List.not_mem_nil, or_false] at hb'
      rw [Heap.size_push, sz1]
      rcases hb' with rfl | rfl | rfl
      · right; rw [sz1]; exact ⟨Nat.le_succ _, Nat.lt_succ_self _⟩
      · left; rfl
      · right; exact ⟨Nat.le_refl _, Nat.lt_succ_of_lt (Nat.lt_succ_self _)⟩
    · rw [Heap.size_push, sz1]; exact Nat.le_succ_of_le (Nat.le_succ _)
    · rw [← places_all]; exact hp.map _
  · rw [if_neg hdr]
    refine wpAny_bind (wpAny_pure ?_)
    refine wpAny_bind (wpAny_setEpoch_of ho hd hf ?_)
    refine wpAny_bind (wpAny_newObj_type ?_)
    have g : ∀ (q : Obj) (b : Addr) (ob : Obj), s.heap.get? b = some ob → (s.heap.push q).get? b = some ob := fun q b ob e => Heap.get?_push_of_some _ e
    refine wpAny_pure ⟨_, rfl, "set_iterator", _, ⟨_, Heap.get?_push_size _ rfl, rfl⟩, slot_setit_next.lookup, ?_⟩
    have hfp : ∀ (q : Obj), ∀ b ∈ [s.heap.objs.size, S], b = S ∨ s.heap.objs.size ≤ b ∧ b < (s.heap.push q).objs.size := by
      intro q b hb'
      simp only [List.mem_cons, List.not_mem_nil, or_false] at hb'
      rw [Heap.size_push]
      rcases hb' with rfl | rfl
      · right; omega
      · left; rfl
    cases hbt : byT w with
    | true =>
      refine fin _ _ s.drawn [s.heap.objs.size, S] _ _ (fun A2 hh => walks_text hbt hh _ S (Nat.ne_of_lt hlt) hd hf) ⟨⟨_, Heap.get?_push_size _ rfl, rfl, rfl⟩, g _ _ _ ho⟩ (hfp _) (Nat.le_refl _) (by rw [Heap.size_push]; omega) (g _) ?_
      exact (pick_perm _ _).map _
    | false =>
      have h1 : es.size ≤ 1 := by
        rw [hbt] at hdr
        by_cases z : es.size ≤ 1
        · exact z
        · rw [hpl (by omega), decide_eq_true (by omega : es.size > 1)] at hdr
          exact absurd rfl hdr
      refine fin _ _ s.drawn [s.heap.objs.size, S] _ _ (fun A2 hh => walks_led hbt hh _ S (Nat.ne_of_lt hlt) hd hf h1 (by rw [hled, hbt]; rfl)) ⟨⟨_, Heap.get?_push_size _ rfl, rfl, rfl⟩, g _ _ _ ho⟩ (hfp _) (Nat.le_refl _) (by rw [Heap.size_push]; omega) (g _) (List.Perm.refl _)
theorem nolen_set : typeLookup (.type "set") "__len__" = pure (some (.builtin "set.__len__")) := by rw [typeLookup_type, builtinLookup_eq_fast]; kernel_rfl
/-- all that a set of texts has, in some order -/
theorem collect_set {S : Addr} {f : Str → Bool} {n : Nat} {Q : List Value → Shared → Prop} (hh : A.handled = none) (hS : SetT prog w s.heap S f n) (hn : n ≤ sizeLine)
    (h : ∀ (s' : Shared) (vs : List Value) (ts : List Str), (∀ b o, s.heap.get? b = some o → s'.heap.get? b = some o) → s.heap.objs.size ≤ s'.heap.objs.size → s'.gens = s.gens → s'.os = s.os → StrsAre vs ts → ts.length = n → (∀ k, f k = true ↔ k ∈ ts) → Q vs s') :
    wpAny (model prog w) A (collect (.ref S)) Q E s := by
  have hlt : S < s.heap.objs.size := by obtain ⟨o, _, _, _, ho, _⟩ := hS; exact Heap.lt_size ho
  have hLS : s.heap.objs.size ≠ S := Nat.ne_of_gt hlt
  unfold collect
  refine wpAny_bind (wpAny_runValue (codeAny_builtin F.entry_proto_collect ?_))
  rw [Around.under_plainId F.plain_proto_collect _]
  show wpAny _ A.in1 (newList [] >>= fun l => again (.builtin "list.__iadd__" ⟨[l, .ref S], []⟩)) _ _ s
  refine wpAny_bind (wpAny_newObj_type ?_)
  refine wpAny_pure ⟨plainId_quiet F.plain_list_iadd _, codeAny_builtin F.entry_list_iadd ?_⟩
  rw [Around.under_plainId F.plain_list_iadd _]
  generalize hso : ({ cls := .type "list", data := .seq ([] : List Value).toArray } : Obj) = so
  have hS1 : SetT prog w (s.heap.push so) S f n := hS.keep fun o e => Heap.get?_push_of_some _ e
  have hL1 : (s.heap.push so).get? s.heap.objs.size = some so := Heap.get?_push_size _ (by rw [← hso]; rfl)
  have sz : (s.heap.push so).objs.size = s.heap.objs.size + 1 := Heap.size_push ..
  have hT1 : Shared.TypeIs { s with heap := s.heap.push so } (.ref S) "set" := by obtain ⟨o, _, _, _, ho, hex, _⟩ := hS1; exact ⟨o, ho, hex.1⟩
  have h1 : Builtin.List.listSameRef (.ref s.heap.objs.size) (.ref S) = false := by simp [Builtin.List.listSameRef, hLS]
  show wpAny _ A.in1 (Builtin.List.listExtendWith (.ref s.heap.objs.size) (.ref S) (.ref s.heap.objs.size)) _ _ { s with heap := s.heap.push so }
  unfold Builtin.List.listExtendWith
  refine wpAny_bind (wpAny_typeOf hT1 ?_)
  rw [if_neg (by rw [h1]; decide)]
  refine wpAny_bind (iter_set (s := { s with heap := s.heap.push so }) hS1 fun I h2 d fp vs ts St W st0 hfp hI hsz2 kp vts tl tm => ?_)
  have hSf : s.heap.objs.size ∉ fp := fun hm => by
    rcases hfp _ hm with z | ⟨z, _⟩
    · exact hLS z
    · have z' : (s.heap.push so).objs.size ≤ s.heap.objs.size := z
      rw [sz] at z'
      omega
  have hT2 : Shared.TypeIs { s with heap := h2, drawn := d } (.ref S) "set" := by obtain ⟨o, ho, hc⟩ := hT1; exact ⟨o, kp _ _ ho, hc⟩
  refine wpAny_bind (wpAny_holding ?_)
  unfold Builtin.List.listLengthHint
  refine wpAny_bind (wpAny_specialOf hT2 nolen_set ?_)
  generalize hid : ("set.__len__" : String) = id0
  wp_delta
  rw [show splitId id0 = some ("set", "__len__") from by subst hid; decide +kernel]
  subst hid
  refine wpAny_bind (wpAny_isInstance (b := true) hT2 (by rw [isSubtype_type]; kernel_rfl) ?_)
  rw [if_neg (by decide)]
  refine wpAny_ite_split (fun _ => ?_) (fun hab => absurd (by decide +kernel) hab)
  refine wpAny_bind (wpAny_typeOf hT2 ?_)
  refine wpAny_pure ?_
  refine wpAny_ite_split (fun _ => ?_) (fun hab => absurd (by decide +kernel) hab)
  refine wpAny_bind (wpAny_rule ?_)
  refine wpAny_bind ?_
  show wpAny _ _ (updateSeq s.heap.objs.size (·.push .none) >>= fun _ => updateSeq s.heap.objs.size (·.pop)) _ _ _
  have z0 : (#[] : Array Value).size ≤ sizeLine := Nat.zero_le _
  have z1 : ((#[] : Array Value).push Value.none).size ≤ sizeLine := by show 1 ≤ sizeLine; decide
  have z2 : ((#[] : Array Value).push Value.none).size ≤ sizeLine + 1 := Nat.le_succ_of_le z1
  have z3 : (((#[] : Array Value).push Value.none).pop).size ≤ sizeLine + 1 := Nat.zero_le _
  have hL2 := kp _ _ hL1
  subst hso
  refine wpAny_bind (wpAny_updateSeq (s := { s with heap := h2, drawn := d }) hL2 rfl ?_ z0 z2)
  have q2 := Heap.get?_update_self (Obj.mapSeq (·.push Value.none)) hL2 rfl
  refine wpAny_updateSeq q2 rfl ?_ z1 z3
  have q3 := Heap.get?_update_self (Obj.mapSeq (·.pop)) q2 rfl
  have oth : ∀ b o, b ≠ s.heap.objs.size → h2.get? b = some o → ((h2.update s.heap.objs.size (Obj.mapSeq (·.push Value.none))).update s.heap.objs.size (Obj.mapSeq (·.pop))).get? b = some o :=
    fun b o hb e => (Heap.get?_update_other _ _ (Ne.symm hb)).trans ((Heap.get?_update_other _ _ (Ne.symm hb)).trans e)
  refine wpAny_pure ⟨plainId_quiet PySem.F.plain_extend_loop _, codeAny_extend_loopS (W A.in1 hh).toS hn _ hSf _ n 0 _ #[] _ rfl (Nat.zero_le _) ?_ q3 (ItemsOf.nil _) fun s' acc' c' hm hS' hacc => ?_⟩
  · exact (W A.in1 hh).frame 0 h2 _ st0 fun b hb o e => oth b o (fun z => hSf (z ▸ hb)) e
  · show wpAny _ A (load s.heap.objs.size >>= _) _ _ s'
    refine wpAny_bind (wpAny_load hS' ?_)
    have ev : acc'.toList = vs := by
      have hvl : vs.length = n := (StrsAre.len vts).trans tl
      refine List.ext_getElem? fun i => ?_
      by_cases hi : i < n
      · have h1 : acc'[i]? = some (acc'[i]'(by rw [hacc.1]; exact hi)) := Array.getElem?_eq_getElem _
        rw [Array.getElem?_toList, h1]
        exact (hacc.2 i _ h1).symm
      · rw [List.getElem?_eq_none (by rw [Array.length_toList, hacc.1]; omega), List.getElem?_eq_none (by omega)]
    refine wpAny_pure ?_
    rw [← ev] at vts
    refine h s' acc'.toList ts (fun b o e => ?_) (Nat.le_of_lt (Heap.lt_size hS')) hm.gens hm.os vts tl tm
    have hb : b < s.heap.objs.size := Heap.lt_size e
    refine hm.heap b o ?_ (oth b o (Nat.ne_of_lt hb) (kp b o (Heap.get?_push_of_some _ e)))
    simp only [List.mem_cons, List.not_mem_nil, or_false, not_or]
    refine ⟨Nat.ne_of_lt hb, ?_⟩
    have hI' : s.heap.objs.size + 1 ≤ I := by rw [← sz]; exact hI
    exact Nat.ne_of_lt (Nat.lt_of_lt_of_le hb (Nat.le_of_succ_le hI'))
end
end L2

set_option Elab.async false
set_option linter.all false
set_option maxRecDepth 100000
set_option maxHeartbeats 4000000
namespace L2
open PySem PySem.Spec PyProof.Rows
/-! ### set(x) with what its walks go by -/
section
variable {prog : Program} {w : World} {A : Around} {R : Result → Shared → Prop} {I : Addr} {fp wr : List Addr} {G : Array GenState → Array GenState → Prop} {n : Nat} {P : Nat → Value → Prop} {St : Nat → Shared → Prop} {ss : List Str}
theorem setT_turns (W : WalksS prog w A.in1 I fp wr G ss.length P St) (S : Addr) (hSf : S ∉ fp) (hval : ∀ i v, P i v → ∃ (h : i < ss.length) (t : Tok), v = .str ss[i] t) (hb : ss.length + 1 < scanBound) :
    ∀ (k i : Nat) (s : Shared), ss.length - i = k → i ≤ ss.length → St i s → SetT prog w s.heap S (fun k' => (dd (ss.take i)).any (· == k')) (dd (ss.take i)).length →
      (∀ s', Moved (S :: wr) G s s' → SetT prog w s'.heap S (fun k' => (dd ss).any (· == k')) (dd ss).length → R (.ok (.ret .none)) s') →
      codeAny (model prog w) A (.builtin "set.update.loop" ⟨[.ref S, .ref I], []⟩) R s := by
  have hSw : S ∉ wr := fun h => hSf (W.sub _ h)
  have keepS : ∀ {s s' : Shared} {f : Str → Bool} {m : Nat}, Moved wr G s s' → SetT prog w s.heap S f m → SetT prog w s'.heap S f m := fun hm hS => hS.keep fun o ho => hm.heap S _ hSw ho
  intro k
  induction k with
  | zero =>
    intro i s hk hi hst hS fin
    have e : i = ss.length := by omega
    subst e
    refine codeAny_builtin PyProof.Rows.F.entry_set_update_loop ?_
    rw [Around.under_plainId PyProof.Rows.F.plain_set_update_loop _]
    show wpAny _ A.in1 (pyNext (.ref I) >>= _) _ _ s
    refine wpAny_bind (W.done s _ _ hst fun s' hm => ?_)
    show wpAny _ A.in1 (ret Value.none) _ _ s'
    rw [List.take_length] at hS
    exact wpAny_pure (fin s' (hm.mono fun b hb => List.mem_cons_of_mem _ hb) (keepS hm hS))
  | succ k ih =>
    intro i s hk hi hst hS fin
    have hlt : i < ss.length := by omega
    refine codeAny_builtin PyProof.Rows.F.entry_set_update_loop ?_
    rw [Around.under_plainId PyProof.Rows.F.plain_set_update_loop _]
    show wpAny _ A.in1 (pyNext (.ref I) >>= _) _ _ s
    refine wpAny_bind (W.item i s _ _ hlt hst fun v s' hP hst' hm => ?_)
    obtain ⟨_, t, rfl⟩ := hval i v hP
    have hS' := keepS hm hS
    show wpAny _ A.in1 (holding [Value.str ss[i] t] (setAdd S (.str ss[i] t)) >>= _) _ _ s'
    refine wpAny_bind (wpAny_holding ?_)
    unfold setAdd
    have his : (PySem.strKind prog w).is ss[i] (.str ss[i] t) = true := PySem.strKind_is prog w ss[i] t
    refine wpAny_holding (wpAny_bind ((PySem.strKind prog w).pyHash his ?_))
    have hroom : (dd (ss.take i)).length + 1 < scanBound := by
      have := dd_len (ss.take i)
      rw [List.length_take] at this
      omega
    refine SetT.put (s := { s' with toks := s'.toks + 1 }) hS' hroom fun h' hsb hS2 => ?_
    have hSi : SetT prog w h' S (fun k' => (dd (ss.take (i + 1))).any (· == k')) (dd (ss.take (i + 1))).length :=
      hS2.congr (fun k' => by rw [dd_take ss i hlt, ddStep_any]) (by rw [dd_take ss i hlt, ddStep_len])
    refine wpAny_pure ⟨plainId_quiet PyProof.Rows.F.plain_set_update_loop _, ih (i + 1) _ (by omega) hlt (W.frame _ s' _ _ hst' (Nat.le_succ _) fun b hb o e => ?_) hSi fun s'' hm'' hS'' => ?_⟩
    · rw [hsb.2 b (by rintro rfl; exact hSf hb)]; exact e
    · refine fin s'' (Moved.trans W.gtrans ((hm.mono fun b hb => List.mem_cons_of_mem _ hb).then_heap (Nat.le_succ _) fun b o hb e => ?_) hm'') hS''
      rw [hsb.2 b (by rintro rfl; exact hb List.mem_cons_self)]; exact e
end
section
variable {prog : Program} {w : World} {A : Around} {E : Value → Shared → Prop} {s : Shared} {ss : List Str}
theorem code_setT_new (a : Value) {Q₁ : Value → Shared → Prop}
    (h : Q₁ (.ref s.heap.objs.size) { s with heap := s.heap.push { cls := .type "set", dict := none, data := .set #[] 0 (.fresh 0 0 (!byT w)) } }) :
    codeAny (model prog w) A (.call (.builtin "set.__new__") ⟨[.type "set", a], []⟩) (wants Q₁ E) s := by
  refine codeAny_of_tree ?_
  show wpAny _ A.in1 (do checkBuiltinCall "set.__new__" ⟨[.type "set", a], []⟩; again (.builtin "set.__new__" ⟨[.type "set", a], []⟩)) _ _ s
  refine wpAny_bind (wpAny_of_eq (PySem.F.newCall_set_1 a) ?_)
  refine wpAny_pure ⟨plainId_quiet PySem.F.plain_set_new _, codeAny_builtin PySem.F.entry_set_new ?_⟩
  rw [Around.under_plainId PySem.F.plain_set_new _]
  unfold Builtin.«set.__new__» Builtin.Frozenset.newClass
  have hsub : isSubtype (.type "set") (.type "set") = pure true := by rw [isSubtype_type]; kernel_rfl
  obtain ⟨hp, g, d, tk, os⟩ := s
  dsimp only
  wp_walk
  refine wpAny_askSetting (wpAny_pure ?_)
  dsimp only
  simp only [newObj]
  refine wpAny_bind (wpAny_alloc (wpAny_pure ?_))
  exact wpAny_pure h
theorem callT_texts {l : Addr} {T : String} {items : Array Value} {nl : Nat} {od : Option Addr} {osl : Array (Option Value)} {Q : Value → Shared → Prop} (ho : s.heap.get? l = some { cls := .type T, dict := od, data := .seq items nl, slots := osl })
    (hs1 : isSubtype (.type T) (.type "set") = pure false) (hs2 : isSubtype (.type T) (.type "frozenset") = pure false) (hne : (Value.type T == Value.type "dict") = false) (hb : ss.length + 1 < scanBound)
    (hit : ∀ (s1 : Shared) (A1 : Around) (Q1 : Value → Shared → Prop), A1.handled = A.handled → s1.heap.get? l = s.heap.get? l → l < s1.heap.objs.size →
      (∀ ob St P, WalksS prog w A1.in1 s1.heap.objs.size [s1.heap.objs.size, l] [s1.heap.objs.size] (fun a b => b = a) ss.length P St → (∀ i v, P i v → ∃ (h : i < ss.length) (t : Tok), v = .str ss[i] t) → St 0 { s1 with heap := s1.heap.push ob } → Q1 (.ref s1.heap.objs.size) { s1 with heap := s1.heap.push ob }) →
      wpAny (model prog w) A1 (pyIter (.ref l)) Q1 E s1)
    (h : ∀ (h' : Heap) (tk : Nat), SetT prog w h' s.heap.objs.size (fun k' => (dd ss).any (· == k')) (dd ss).length → (∀ b o, b < s.heap.objs.size → s.heap.get? b = some o → h'.get? b = some o) → Q (.ref s.heap.objs.size) { s with heap := h', toks := tk }) :
    wpAny (model prog w) A (call (.type "set") [.ref l]) Q E s := by
  have hlt : l < s.heap.objs.size := Heap.lt_size ho
  obtain ⟨c, tl, hmro⟩ := PySem.F.called_set.mro
  have hmade := PySem.F.called_set.made; have hsub := PySem.F.called_set.sub
  refine wpAny_call (codeAny_of_tree (by
    show wpAny _ _ (callAny (.type "set") _) _ _ _
    refine wpAny_pure ⟨Code.quiet_builtin _ (by decide +kernel), codeAny_builtin PySem.F.entry_type_call ?_⟩
    rw [Around.under_plain (weight_type_call_type "set" [.ref l] []) rfl]
    have h1 := PySem.F.called_set.notType; have h2 := PySem.F.called_set.canCreate; have hct := PySem.F.typeCall_set_1 (.ref l)
    repeat (any_goals (first | assumption | wp_step))
    refine codeAny_mono (code_setT_new (.ref l) (E := E) (Q₁ := fun obj s₁ => obj = .ref s.heap.objs.size ∧ s₁ = { s with heap := s.heap.push { cls := .type "set", dict := none, data := .set #[] 0 (.fresh 0 0 (!byT w)) } }) ⟨rfl, rfl⟩) fun r s₁ hr => ?_
    cases r with
    | error e => exact hr
    | ok fl =>
      cases fl with
      | ret obj =>
        obtain ⟨rfl, rfl⟩ := hr
        generalize hSo : ({ cls := .type "set", dict := none, data := .set #[] 0 (.fresh 0 0 (!byT w)) } : Obj) = so
        have hsz : (s.heap.push so).objs.size = s.heap.objs.size + 1 := Heap.size_push ..
        have hS : (s.heap.push so).get? s.heap.objs.size = some so := Heap.get?_push_size _ (by rw [← hSo]; rfl)
        have hT : Shared.TypeIs { s with heap := s.heap.push so } (.ref s.heap.objs.size) "set" := ⟨_, hS, by rw [← hSo]⟩
        have hli := PySem.F.called_set.init.lookup; have hbi := PySem.F.called_set.init.bind (.ref s.heap.objs.size)
        repeat (any_goals (first | assumption | wp_step))
        refine codeAny_mono (codeAny_call_builtin (R := wants (fun r s₂ => r = .none ∧ ∃ h' tk, s₂ = { s with heap := h', toks := tk } ∧ SetT prog w h' s.heap.objs.size (fun k' => (dd ss).any (· == k')) (dd ss).length ∧
            (∀ b o, b < s.heap.objs.size → s.heap.get? b = some o → h'.get? b = some o)) E) PySem.F.called_set.init.plain PySem.F.entry_set_init (check_set_init_1 hT ?_)) fun r₂ s₂ hr₂ => ?_
        · have ho' : (s.heap.push so).get? l = some { cls := .type T, dict := od, data := .seq items nl, slots := osl } := Heap.get?_push_of_some _ ho
          subst hSo
          unfold Builtin.«set.__init__» noKeywords Builtin.Frozenset.updateFrom
          generalize hPI : pyIter = PI
          wp_walk
          subst hPI
          refine hit { s with heap := s.heap.push _ } _ _ rfl (ho'.trans ho.symm) (Nat.lt_of_lt_of_eq (Nat.lt_succ_of_lt hlt) hsz.symm) fun ob St P W hval st0 => ?_
          refine wpAny_bind (wpAny_runValue ?_)
          have hSf : s.heap.objs.size ∉ [(s.heap.push { cls := .type "set", dict := none, data := .set #[] 0 (.fresh 0 0 (!byT w)) }).objs.size, l] := by
            rw [hsz]; simp only [List.mem_cons, List.not_mem_nil, or_false, not_or]
            exact ⟨Nat.ne_of_lt (Nat.lt_succ_self _), Nat.ne_of_gt hlt⟩
          refine setT_turns W s.heap.objs.size hSf hval hb (ss.length - 0) 0 _ rfl (Nat.zero_le _) st0 ?_ ?_
          · have hg := Heap.get?_push_of_some ob hS
            exact ⟨_, #[], 0, _, hg, ⟨rfl, rfl, rfl⟩, rfl, fun e he => by simp at he, fun k => by simp [dd], by decide, by rfl, rfl, rfl, fun h => absurd h (by simp)⟩
          · intro s' hm hS'
            obtain ⟨h', g', d', tk', os'⟩ := s'
            have eg : g' = s.gens := hm.gens
            have ed : d' = s.drawn := hm.drawn
            have eo : os' = s.os := hm.os
            subst eg; subst ed; subst eo
            show wpAny _ _ _ _ _ _
            refine wpAny_pure ?_
            show wpAny _ _ (ret Value.none) _ _ _
            refine wpAny_pure ⟨rfl, h', tk', rfl, hS', fun b o hb' e => ?_⟩
            refine hm.heap b o ?_ (Heap.get?_push_of_some _ (Heap.get?_push_of_some _ e))
            rw [hsz]; simp only [List.mem_cons, List.not_mem_nil, or_false, not_or]
            exact ⟨Nat.ne_of_lt hb', Nat.ne_of_lt (Nat.lt_succ_of_lt hb')⟩
        · cases r₂ with
          | error e => exact hr₂
          | ok fl₂ =>
            cases fl₂ with
            | ret r =>
              obtain ⟨rfl, h', tk, rfl, hS', hk'⟩ := hr₂
              repeat (any_goals (first | assumption | wp_step))
              exact h _ _ hS' hk'
            | _ => exact hr₂.elim
      | _ => exact hr.elim))
end
/-- a tracked set of texts -/
def SetTO (P : Program) (w : World) (a : Addr) (f : Str → Bool) (n : Nat) : HO := .ext fun h => SetT P w h a f n
section
variable {X : Cx}
theorem call_setT (hc : X.calm = true) : CallR X (.type "set") (fun xs H Q => ∃ (p : Addr) (tp : Bool) (ss : List Str), xs = [.ref p] ∧ SqB X.K tp H p (ss.map V.str) ∧ ss.length < 4000 ∧
    ∀ l, H l = none → Q (.ref l) (upd H l (SetTO X.prog X.w l (fun k' => (dd ss).any (· == k')) (dd ss).length))) := by
  intro pins s σ H xs us Q I r h
  obtain ⟨p, tp, ss, rfl, hq, hz, q⟩ := h
  obtain ⟨u, rfl, rx⟩ := vals1 r
  cases rx
  have hb : ss.length + 1 < scanBound := by unfold scanBound; omega
  have fin : ∀ (h' : Heap) (tk : Nat), SetT X.prog X.w h' s.heap.objs.size (fun k' => (dd ss).any (· == k')) (dd ss).length → (∀ b o, b < s.heap.objs.size → s.heap.get? b = some o → h'.get? b = some o) →
      EP X pins σ Q (.ref s.heap.objs.size) { s with heap := h', toks := tk } := fun h' tk hS kp => by
    refine ⟨.ref s.heap.objs.size, _, I.laid (t' := tk) (fun b o e => kp b o (Heap.lt_size e) e) (Nat.le_refl _) (show ObjOk X.prog X.w _ h' _ (SetTO X.prog X.w s.heap.objs.size _ _) from ⟨hS, ?_, fun h1 h2 hS1 kp1 => ?_⟩), rfl, q _ (I.hok.fresh (Nat.le_refl _))⟩
    · obtain ⟨o, _, _, _, ho, _⟩ := hS
      exact ⟨o, ho⟩
    · exact hS1.keep kp1
  cases tp with
  | false =>
    obtain ⟨its, rv, pl, hz'⟩ := I.list hq
    have hl := rv.length
    rw [List.length_map] at hl
    obtain ⟨⟨c, d, dt, sl⟩, n, ho, hcl, hd, hdt⟩ := id pl
    simp only at hcl hd hdt
    subst hcl; subst hd; subst hdt
    refine callT_texts ho PySem.F.sub_list_set PySem.F.sub_list_frozenset (by decide) hb (fun s1 A1 Q1 hA e1 l1 hQ1 => ?_) fin
    have hl1 : s1.heap.IsList p its.toArray := ⟨_, e1.trans ho, rfl, n, rfl⟩
    have hsz' : its.toArray.size = ss.length := List.size_toArray.trans hl.symm
    refine wpAny_pyIter_list hl1 (hQ1 _ (fun i s => s.heap.IsListIter s1.heap.objs.size p i ∧ s.heap.IsList p its.toArray) (fun i v => its.toArray[i]? = some v) (by
      have W := (Walks.list (prog := X.prog) (w := X.w) (A := A1.in1) (by rw [Around.in1_handled, hA]; exact I.ok.hd hc) s1.heap.objs.size p (Nat.ne_of_lt l1) its.toArray).toS
      rw [hsz'] at W
      exact W) (fun i v e => strs_at rv (by simpa using e)) ⟨⟨_, Heap.get?_push_size _ rfl, rfl, rfl⟩, hl1.push _⟩)
  | true =>
    obtain ⟨its, rv, pl, hz'⟩ := I.tuple hq
    have hl := rv.length
    rw [List.length_map] at hl
    obtain ⟨⟨c, d, dt, sl⟩, ho, hcl, n, hdt⟩ := id pl
    simp only at hcl hdt
    subst hcl; subst hdt
    refine callT_texts ho sub_tuple_set sub_tuple_frozenset (by decide) hb (fun s1 A1 Q1 hA e1 l1 hQ1 => ?_) fin
    have hl1 : s1.heap.IsTuple p its.toArray := ⟨_, e1.trans ho, rfl, n, rfl⟩
    have hsz' : its.toArray.size = ss.length := List.size_toArray.trans hl.symm
    refine wpAny_pyIter_tuple hl1 (hQ1 _ (fun i s => s.heap.IsTupleIter s1.heap.objs.size p i ∧ s.heap.IsTuple p its.toArray) (fun i v => its.toArray[i]? = some v) (by
      have W := (Walks.tuple (prog := X.prog) (w := X.w) (A := A1.in1) (by rw [Around.in1_handled, hA]; exact I.ok.hd hc) s1.heap.objs.size p (Nat.ne_of_lt l1) its.toArray).toS
      rw [hsz'] at W
      exact W) (fun i v e => strs_at rv (by simpa using e)) ⟨⟨_, Heap.get?_push_size _ rfl, rfl, rfl⟩, ?_⟩)
    exact ⟨_, Heap.get?_push_of_some _ (e1.trans ho), rfl, n, rfl⟩
theorem Inv.drew {pins : List (Addr × Obj)} {σ : St} {H : Hp} {s : Shared} (I : Inv X pins σ H s) (d : Drawn) : Inv X pins σ H { s with drawn := d } :=
  I.step (h' := s.heap) (g' := s.gens) (t' := s.toks) (d' := d) (ch := []) (fun _ z => nomatch z) (fun b o _ _ _ e _ => e) (fun b o _ _ _ e _ => ⟨o.slots, e⟩) (fun _ _ _ _ n => n) (fun b o _ e => ⟨o, e⟩) (fun _ _ e => e) (fun _ _ _ e => e) (fun b ps e => ⟨#[], by rw [e]; simp⟩) (fun m hm => hm) I.hok I.bare
end
/-! ### sorted -/
section
variable {prog : Program} {w : World} {A : Around} {E : Value → Shared → Prop} {s : Shared}
theorem collect_tup {l : Addr} {vs : List Value} {Q : List Value → Shared → Prop} (hl : IsTup s.heap l vs.toArray) (h : Q vs { s with heap := (s.heap.push (seqObj "list" #[] 0)).update s.heap.objs.size (Obj.mapSeq (· ++ vs.toArray)) }) (hsz : vs.length ≤ sizeLine) :
    wpAny (model prog w) A (collect (.ref l)) Q E s := by
  obtain ⟨o, ho, hc, n, hd⟩ := id hl
  unfold collect
  refine wpAny_bind (wpAny_runValue (codeAny_builtin entry_proto_collect' ?_))
  show wpAny _ _ (newList [] >>= fun x => again (.builtin "list.__iadd__" ⟨[x, .ref l], []⟩)) _ _ s
  refine wpAny_bind (wpAny_newList ?_)
  refine wpAny_pure ⟨Code.quiet_builtin _ (by decide +kernel), codeAny_builtin entry_list_iadd' ?_⟩
  show wpAny _ _ (Builtin.List.listExtendWith (.ref s.heap.objs.size) (.ref l) (.ref s.heap.objs.size)) _ _ { s with heap := s.heap.push (seqObj "list" #[] 0) }
  unfold Builtin.List.listExtendWith
  have g : (s.heap.push (seqObj "list" #[] 0)).get? l = some o := Heap.get?_push_of_some _ ho
  refine wpAny_bind (wpAny_typeOf (T := "tuple") ⟨o, g, hc⟩ ?_)
  rw [if_pos (by simp)]
  refine wpAny_bind (listItems_at g hd ?_)
  refine wpAny_bind (listItems_at (xs := #[]) (n := 0) (Heap.get?_push_size _ rfl) rfl ?_)
  rw [if_neg (by simp)]
  refine wpAny_bind (listUpdate_at (xs := #[]) (n := 0) (Heap.get?_push_size _ rfl) rfl ?_ (Nat.zero_le _) (by show (#[] ++ vs.toArray).size ≤ sizeLine + 1; simp only [Array.size_append, List.size_toArray, List.length_nil]; omega))
  refine wpAny_pure ?_
  show wpAny (model prog w) A (load s.heap.objs.size >>= fun o => (match o.data with | .seq xs _ => pure xs.toList | _ => unsupported "internal:collect")) Q E _
  refine wpAny_bind (wpAny_load (get?_update_seq (Heap.get?_push_size _ rfl) _) ?_)
  show wpAny _ _ (pure ((#[] : Array Value) ++ vs.toArray).toList) Q E _
  have e : ((#[] : Array Value) ++ vs.toArray).toList = vs := by simp
  rw [e]
  exact wpAny_pure h
theorem sorted_gen {v : Value} {Pc : List Value → Shared → Prop} {Q : Value → Shared → Prop}
    (hc : ∀ (A1 : Around) (E1 : Value → Shared → Prop) (Q1 : List Value → Shared → Prop), A1.handled = A.handled → (∀ vs s1, Pc vs s1 → Q1 vs s1) → wpAny (model prog w) A1 (collect v) Q1 E1 s)
    (h : ∀ vs s1, Pc vs s1 → vs.length < 64 ∧ ∃ ss, StrsAre vs ss ∧ ∀ out ss' e h', (∀ b o, s1.heap.get? b = some o → h'.get? b = some o) → h'.get? s1.heap.objs.size = some (seqObj "list" out e) → StrsAre out.toList ss' → ss'.Perm ss → sortedS ss' = true → Q (.ref s1.heap.objs.size) { s1 with heap := h' }) :
    wpAny (model prog w) A (call (.builtin "sorted") [v]) Q E s := by
  refine Calls.call_function_entry kind_sorted plain_sorted entry_sorted (args_sorted1 _) ?_
  unfold Builtin.«sorted»
  refine wpAny_bind (m := checkCount "sorted" 1 1 _) (wpAny_pure ?_)
  refine wpAny_bind (hc _ _ _ rfl fun vs s1 hp => ?_)
  obtain ⟨h64, ss, hss, k⟩ := h vs s1 hp
  refine wpAny_bind (wpAny_newList ?_)
  have hoL : (s1.heap.push (seqObj "list" vs.toArray 0)).get? s1.heap.objs.size = some (seqObj "list" vs.toArray 0) := Heap.get?_push_size _ rfl
  refine wpAny_bind (wpAny_holding (wpAny_call_entry slot_list_sort ⟨_, hoL, rfl⟩ entry_list_sort (list_sort_treeK (s := { s1 with heap := s1.heap.push (seqObj "list" vs.toArray 0) }) strKind_oneLt hoL hss.keysOf (fun v₁ v₂ rest e => keyKind_strs (by rw [← e]; exact hss)) h64 fun st' a1 a2 => ⟨_, rfl, ?_⟩) (args_list_sort _)))
  obtain ⟨ss', b1, b2, b3⟩ := sorted_out_str hss a1 a2
  obtain ⟨e, he⟩ := sortedHeap_at (out := (arrOf st').map (·.2)) hoL
  refine wpAny_pure ⟨_, rfl, k _ ss' e _ (fun b o hb => ?_) he b1 b2 b3⟩
  have hlt := Heap.lt_size hb
  rw [sortedHeap_old (Nat.ne_of_lt hlt) (by rw [Heap.size_push]; exact Nat.lt_succ_of_lt hlt)]
  exact Heap.get?_push_of_some _ hb
end
theorem strsAre_vals : ∀ {ss : List Str} {us : List Value}, Vals (ss.map V.str) us → StrsAre us ss
  | [], _, .nil => .nil
  | x :: r, _, .cons ⟨t, e⟩ h => by rw [e]; exact .cons x t (strsAre_vals h)
theorem vals_strsAre : ∀ {ss : List Str} {us : List Value}, StrsAre us ss → Vals (ss.map V.str) us
  | _, _, .nil => .nil
  | _, _, .cons x t h => .cons ⟨t, rfl⟩ (vals_strsAre h)
section
variable {X : Cx}
theorem fin_sorted {pins : List (Addr × Obj)} {σ : St} {H : Hp} {s s1 : Shared} {Q : VK} (I : Inv X pins σ H s) (hg : s1.gens = s.gens) (ho : s1.os = s.os) (hk : ∀ b o, s.heap.get? b = some o → s1.heap.get? b = some o) (hs : s.heap.objs.size ≤ s1.heap.objs.size)
    {out : Array Value} {ss' : List Str} {e : Nat} {h' : Heap} (kp : ∀ b o, s1.heap.get? b = some o → h'.get? b = some o) (he : h'.get? s1.heap.objs.size = some (seqObj "list" out e)) (hS : StrsAre out.toList ss') (h64 : ss'.length < 64)
    (q : ∀ l, H l = none → Q (.ref l) (upd H l (.lst (ss'.map V.str)))) : EP X pins σ Q (.ref s1.heap.objs.size) { s1 with heap := h' } := by
  obtain ⟨h1, g1, d1, t1, o1⟩ := s1
  simp only at hg ho hk hs kp he
  subst hg; subst ho
  refine ⟨.ref _, _, (I.drew d1).laid (a := h1.objs.size) (h' := h') (t' := t1) (o := .lst (ss'.map V.str)) (fun b o q => kp b o (hk b o q)) hs ?_, rfl, q _ (I.hok.fresh hs)⟩
  refine ⟨?_, out.toList, e, vals_strsAre hS, by simpa [seqObj] using he⟩
  rw [List.length_map]
  exact Nat.le_trans (Nat.le_of_lt h64) (by decide +kernel)
def rSorted (K : PySem.W.Frag) : List V → Hp → VK → Prop := fun xs H Q => ∃ (p : Addr) (tp : Bool) (ss : List Str), xs = [.ref p] ∧ SqB K tp H p (ss.map V.str) ∧ ss.length < 64 ∧ ∀ l ss', H l = none → ss'.Perm ss → sortedS ss' = true → Q (.ref l) (upd H l (.lst (ss'.map V.str)))
theorem call_sortedQ : CallR X (.builtin "sorted") (rSorted X.K) := by
  intro pins s σ H xs us Q I r h
  obtain ⟨p, tp, ss, rfl, hq, h64, q⟩ := h
  obtain ⟨u, rfl, rx⟩ := vals1 r
  cases rx
  have key : ∀ its : List Value, Vals (ss.map V.str) its → (∀ (A1 : Around) (E1 : Value → Shared → Prop) (Q1 : List Value → Shared → Prop), Q1 its { s with heap := (s.heap.push (seqObj "list" #[] 0)).update s.heap.objs.size (Obj.mapSeq (· ++ its.toArray)) } → wpAny (model X.prog X.w) A1 (collect (.ref p)) Q1 E1 s) →
      wpAny (model X.prog X.w) X.A (call (.builtin "sorted") [.ref p]) (EP X pins σ Q) X.xe s := by
    intro its rv hcol
    have hlen := rv.length
    rw [List.length_map] at hlen
    refine sorted_gen (Pc := fun vs s1 => vs = its ∧ s1 = { s with heap := (s.heap.push (seqObj "list" #[] 0)).update s.heap.objs.size (Obj.mapSeq (· ++ its.toArray)) }) (fun A1 E1 Q1 _ k => hcol A1 E1 Q1 (k _ _ ⟨rfl, rfl⟩)) ?_
    rintro vs s1 ⟨rfl, rfl⟩
    refine ⟨by omega, ss, strsAre_vals rv, fun out ss' e h' kp he hS hp hs => ?_⟩
    refine fin_sorted (s1 := { s with heap := (s.heap.push (seqObj "list" #[] 0)).update s.heap.objs.size (Obj.mapSeq (· ++ vs.toArray)) }) I rfl rfl (fun b o hb => ?_) (by show s.heap.objs.size ≤ ((s.heap.push (seqObj "list" #[] 0)).update s.heap.objs.size (Obj.mapSeq (· ++ vs.toArray))).objs.size; rw [Heap.size_update, Heap.size_push]; exact Nat.le_succ _) kp he hS (by rw [hp.length_eq]; exact h64) fun l hl => q l ss' hl hp hs
    show ((s.heap.push _).update _ _).get? b = some o
    rw [Heap.get?_update_ne _ _ _ _ (Nat.ne_of_lt (Heap.lt_size hb))]
    exact Heap.get?_push_of_some _ hb
  cases tp with
  | false =>
    obtain ⟨its, rv, pl, hz⟩ := I.list hq
    have hlen := rv.length
    exact key its rv fun A1 E1 Q1 k => collect_list pl.isList k (by omega)
  | true =>
    obtain ⟨its, rv, pl, hz⟩ := I.tuple hq
    have hlen := rv.length
    exact key its rv fun A1 E1 Q1 k => collect_tup pl k (by omega)
def rSortedT (P : Program) (w : World) : List V → Hp → VK → Prop := fun xs H Q => ∃ (p : Addr) (f : Str → Bool) (n : Nat), xs = [.ref p] ∧ H p = some (SetTO P w p f n) ∧ n < 64 ∧ ∀ l ts, H l = none → ts.length = n → (∀ k, f k = true ↔ k ∈ ts) → sortedS ts = true → Q (.ref l) (upd H l (.lst (ts.map V.str)))
theorem call_sortedT (hc : X.calm = true) : CallR X (.builtin "sorted") (rSortedT X.prog X.w) := by
  intro pins s σ H xs us Q I r h
  obtain ⟨p, f, n, rfl, hH, h64, q⟩ := h
  obtain ⟨u, rfl, rx⟩ := vals1 r
  cases rx
  have hS : SetT X.prog X.w s.heap p f n := (I.hok p _ hH).1
  have hh : X.A.handled = none := I.ok.hd hc
  refine sorted_gen (Pc := fun vs s1 => ∃ ts, (∀ b o, s.heap.get? b = some o → s1.heap.get? b = some o) ∧ s.heap.objs.size ≤ s1.heap.objs.size ∧ s1.gens = s.gens ∧ s1.os = s.os ∧ StrsAre vs ts ∧ ts.length = n ∧ (∀ k, f k = true ↔ k ∈ ts)) (fun A1 E1 Q1 hA k => ?_) ?_
  · exact collect_set (hA.trans hh) hS (Nat.le_trans (Nat.le_of_lt h64) (by decide +kernel)) fun s' vs ts a1 a2 a3 a4 a5 a6 a7 => k vs s' ⟨ts, a1, a2, a3, a4, a5, a6, a7⟩
  · rintro vs s1 ⟨ts, a1, a2, a3, a4, a5, a6, a7⟩
    refine ⟨by rw [StrsAre.len a5, a6]; exact h64, ts, a5, fun out ss' e h' kp he hS' hp hs => ?_⟩
    exact fin_sorted I a3 a4 a1 a2 kp he hS' (by rw [hp.length_eq, a6]; exact h64) fun l hl => q l ss' hl (hp.length_eq.trans a6) (fun k => (a7 k).trans hp.mem_iff.symm) hs
theorem op_ge_str : OpR X (compareOp .GtE) (fun x y H Q => ∃ i j, x = .str i ∧ y = .str j ∧ Q (.bl (!decide (i.cps.toList < j.cps.toList))) H) := by
  intro pins s σ H x y v u Q I rx ry h
  obtain ⟨i, j, rfl, rfl, q⟩ := h
  obtain ⟨t, rfl⟩ := rx
  obtain ⟨t', rfl⟩ := ry
  exact PySem.P.ge_str (fin_bl I q rfl)
end
def intsV (n : Nat) : List V := (List.range n).map fun i : Nat => V.int (i : Int)
theorem intsV_len (n : Nat) : (intsV n).length = n := by simp [intsV]
theorem comp_rng {n : Nat} {js : List Nat} {tt : TT} {te : TE} {σ : St} {H1 : Hp} {acc : Addr} {Q : VK} (f : V → Bool) (g : V → V) (hacc : H1 acc = none) (hz : n ≤ sizeLine)
    (ht : ∀ (i : Nat) (x : V) (H' : Hp) (Q' : Bool → Hp → Prop), (intsV n)[i]? = some x → Same H1 H' → (∀ H'', Same H' H'' → Q' (f x) H'') → tt (capSt js σ ++ [some x]) H' Q')
    (he : ∀ (i : Nat) (x : V) (H' : Hp) (Q' : VK), (intsV n)[i]? = some x → f x = true → Same H1 H' → (∀ H'', Same H' H'' → Q' (g x) H'') → te (capSt js σ ++ [some x]) H' Q')
    (hd : ∀ H', Same H1 H' → H' acc = some (.lst (((intsV n).filter f).map g)) → Q (.ref acc) H') : CompW (Itr 0 n) js tt te σ H1 acc Q := by
  have q : CompW ⟨(Itr 0 n).go, fun i H x H' => i < n ∧ (Itr 0 n).yld i H x H', (Itr 0 n).stop⟩ js tt te σ H1 acc Q := by
    refine comp_gen (intsV n) f g hacc (by rw [intsV_len]; exact hz) (fun i H s hi => ?_) (fun H s => ?_) (fun i H x H' y => ?_) ht he hd
    · rw [intsV_len] at hi; exact hi
    · show n ≤ (intsV n).length
      rw [intsV_len]; exact Nat.le_refl _
    · obtain ⟨hi, e, hx⟩ := y
      refine ⟨e, ?_⟩
      rw [hx]
      unfold intsV
      rw [List.getElem?_map, List.getElem?_range hi]
      show some (V.int (i : Int)) = some (V.int (0 + (i : Int)))
      rw [Int.zero_add]
  obtain ⟨W, h0, h1⟩ := q
  exact ⟨W, h0, fun i m H w => (h1 i m H w).imp id fun ⟨g, k⟩ => ⟨g, fun x H' y => k x H' ⟨g, y⟩⟩⟩
end L2

set_option Elab.async false
set_option linter.all false
set_option maxRecDepth 100000
set_option maxHeartbeats 4000000
namespace Lw
open PySem PySem.Spec PyProof.Rows L2
/-! ### texts in their order -/
theorem lt_irr : ∀ l : List Nat, ¬ l < l
  | [], h => by simp at h
  | a :: r, h => by
    rw [List.cons_lt_cons_iff] at h
    rcases h with h | ⟨_, h⟩
    · omega
    · exact lt_irr r h
theorem lt_tr : ∀ {a b c : List Nat}, a < b → b < c → a < c
  | _, [], _, h, _ => by simp at h
  | _, _ :: _, [], _, h => by simp at h
  | [], _ :: _, _ :: _, _, _ => by simp
  | a :: r, b :: s, c :: t, h, h' => by
    rw [List.cons_lt_cons_iff] at h h' ⊢
    rcases h with h | ⟨rfl, h⟩
    · rcases h' with h' | ⟨rfl, h'⟩
      · left; omega
      · left; exact h
    · rcases h' with h' | ⟨rfl, h'⟩
      · left; exact h'
      · right; exact ⟨rfl, lt_tr h h'⟩
theorem lt_tot : ∀ a b : List Nat, a < b ∨ a = b ∨ b < a
  | [], [] => .inr (.inl rfl)
  | [], _ :: _ => .inl (by simp)
  | _ :: _, [] => .inr (.inr (by simp))
  | a :: r, b :: s => by
    rw [List.cons_lt_cons_iff, List.cons_lt_cons_iff]
    rcases Nat.lt_trichotomy a b with h | rfl | h
    · exact .inl (.inl h)
    · rcases lt_tot r s with h | rfl | h
      · exact .inl (.inr ⟨rfl, h⟩)
      · exact .inr (.inl rfl)
      · exact .inr (.inr (.inr ⟨rfl, h⟩))
    · exact .inr (.inr (.inl h))
abbrev ltS (a b : Str) : Prop := a.cps.toList < b.cps.toList
theorem ltS_tot (a b : Str) : ltS a b ∨ a = b ∨ ltS b a := by
  rcases lt_tot a.cps.toList b.cps.toList with h | h | h
  · exact .inl h
  · exact .inr (.inl (str_ext h))
  · exact .inr (.inr h)
abbrev Up (ss : List Str) : Prop := ss.Pairwise ltS
theorem up_nodup {ss : List Str} (h : Up ss) : ss.Nodup := by
  refine List.Pairwise.imp (fun {a b} (hab : ltS a b) (e : a = b) => ?_) h
  subst e
  exact lt_irr _ hab
theorem rising_all : ∀ (l : List Str) (p : Str), risingS p l = true → (∀ x ∈ l, ¬ ltS x p) ∧ l.Pairwise fun a b => ¬ ltS b a
  | [], p, _ => ⟨fun x hx => absurd hx (by simp), .nil⟩
  | y :: r, p, h => by
    have h1 : (!ltCps y.cps.toList p.cps.toList && risingS y r) = true := h
    rw [Bool.and_eq_true, ltCps_eq] at h1
    have hyp : ¬ ltS y p := by
      intro z
      rw [decide_eq_true z] at h1
      exact absurd h1.1 (by decide)
    obtain ⟨h2, h3⟩ := rising_all r y h1.2
    refine ⟨fun x hx => ?_, List.pairwise_cons.mpr ⟨fun x hx => h2 x hx, h3⟩⟩
    rcases List.mem_cons.mp hx with rfl | hx
    · exact hyp
    · intro z
      rcases ltS_tot y p with q | q | q
      · exact hyp q
      · exact h2 x hx (q ▸ z)
      · exact h2 x hx (lt_tr z q)
theorem sorted_weak {l : List Str} (h : sortedS l = true) : l.Pairwise fun a b => ¬ ltS b a := by
  cases l with
  | nil => exact .nil
  | cons x r =>
    obtain ⟨h1, h2⟩ := rising_all r x h
    exact List.pairwise_cons.mpr ⟨h1, h2⟩
theorem sorted_up {l : List Str} (h : sortedS l = true) (nd : l.Nodup) : Up l := by
  have w := sorted_weak h
  have q := List.Pairwise.and w nd
  refine q.imp fun {a b} hab => ?_
  rcases ltS_tot a b with z | z | z
  · exact z
  · exact absurd z hab.2
  · exact absurd z hab.1
theorem up_uniq : ∀ {as bs : List Str}, Up as → Up bs → (∀ x, x ∈ as ↔ x ∈ bs) → as = bs
  | [], [], _, _, _ => rfl
  | [], b :: bs, _, _, h => absurd ((h b).mpr List.mem_cons_self) (by simp)
  | a :: as, [], _, _, h => absurd ((h a).mp List.mem_cons_self) (by simp)
  | a :: as, b :: bs, ha, hb, h => by
    obtain ⟨a1, a2⟩ := List.pairwise_cons.mp ha
    obtain ⟨b1, b2⟩ := List.pairwise_cons.mp hb
    have e : a = b := by
      rcases List.mem_cons.mp ((h a).mp List.mem_cons_self) with z | z
      · exact z
      · rcases List.mem_cons.mp ((h b).mpr List.mem_cons_self) with y | y
        · exact y.symm
        · exact absurd (lt_tr (a1 b y) (b1 a z)) (lt_irr _)
    subst e
    congr 1
    refine up_uniq a2 b2 fun x => ⟨fun hx => ?_, fun hx => ?_⟩
    · rcases List.mem_cons.mp ((h x).mp (List.mem_cons_of_mem _ hx)) with z | z
      · exact absurd (z ▸ a1 x hx) (lt_irr _)
      · exact z
    · rcases List.mem_cons.mp ((h x).mpr (List.mem_cons_of_mem _ hx)) with z | z
      · exact absurd (z ▸ b1 x hx) (lt_irr _)
      · exact z
theorem nd_len : ∀ {as bs : List Str}, as.Nodup → (∀ x ∈ as, x ∈ bs) → as.length ≤ bs.length
  | [], _, _, _ => Nat.zero_le _
  | a :: as, bs, nd, h => by
    obtain ⟨h1, h2⟩ := List.nodup_cons.mp nd
    have ha := h a List.mem_cons_self
    have q := nd_len (bs := bs.erase a) h2 fun x hx => (List.mem_erase_of_ne (fun e : x = a => h1 (by rw [← e]; exact hx))).mpr (h x (List.mem_cons_of_mem _ hx))
    have e := List.length_erase_of_mem ha
    have p := List.length_pos_of_mem ha
    simp only [List.length_cons]
    omega
theorem nd_cover : ∀ {as bs : List Str}, as.Nodup → (∀ x ∈ as, x ∈ bs) → bs.length = as.length → bs.Nodup
  | [], bs, _, _, hl => by
    have e : bs = [] := List.length_eq_zero_iff.mp (by simpa using hl)
    rw [e]; exact List.nodup_nil
  | a :: as, bs, nd, h, hl => by
    obtain ⟨h1, h2⟩ := List.nodup_cons.mp nd
    have ha := h a List.mem_cons_self
    have hl' : bs.length = as.length + 1 := by simpa using hl
    have sub : ∀ x ∈ as, x ∈ bs.erase a := fun x hx => (List.mem_erase_of_ne (fun e : x = a => h1 (by rw [← e]; exact hx))).mpr (h x (List.mem_cons_of_mem _ hx))
    have e := List.length_erase_of_mem ha
    have q := nd_cover (bs := bs.erase a) h2 sub (by omega)
    have p := List.perm_cons_erase ha
    rw [p.nodup_iff, List.nodup_cons]
    refine ⟨fun hm => ?_, q⟩
    have r := nd_len (as := a :: as) (bs := bs.erase a) nd fun x hx => by
      rcases List.mem_cons.mp hx with rfl | hx
      · exact hm
      · exact sub x hx
    simp only [List.length_cons] at r
    omega
theorem ddStep_mem {acc : List Str} {x k : Str} : k ∈ ddStep acc x ↔ k ∈ acc ∨ k = x := by
  unfold ddStep
  by_cases h : acc.any (· == x) = true
  · rw [if_pos h]
    refine ⟨.inl, fun q => q.elim id fun e => ?_⟩
    obtain ⟨y, hy, e2⟩ := List.any_eq_true.mp h
    have : y = x := by simpa using e2
    rw [e, ← this]; exact hy
  · rw [if_neg h]; simp
theorem fold_dd : ∀ (l acc : List Str), acc.Nodup → (l.foldl ddStep acc).Nodup ∧ ∀ k, k ∈ l.foldl ddStep acc ↔ k ∈ acc ∨ k ∈ l
  | [], acc, h => ⟨h, fun k => by simp⟩
  | x :: r, acc, h => by
    have hn : (ddStep acc x).Nodup := by
      unfold ddStep
      by_cases c : acc.any (· == x) = true
      · rw [if_pos c]; exact h
      · rw [if_neg c]
        exact nodup_snoc h fun hm => c (List.any_eq_true.mpr ⟨x, hm, by simp⟩)
    obtain ⟨h1, h2⟩ := fold_dd r (ddStep acc x) hn
    refine ⟨h1, fun k => ?_⟩
    rw [List.foldl_cons, h2 k, ddStep_mem, List.mem_cons, or_assoc]
theorem dd_nodup (ss : List Str) : (dd ss).Nodup := (fold_dd ss [] List.nodup_nil).1
theorem dd_mem (ss : List Str) (k : Str) : k ∈ dd ss ↔ k ∈ ss := by
  have q := (fold_dd ss [] List.nodup_nil).2 k
  refine (show (k ∈ dd ss ↔ _) from q).trans ⟨fun z => z.elim (fun y => absurd y (by simp)) id, .inr⟩
theorem any_mem (l : List Str) (k : Str) : l.any (· == k) = true ↔ k ∈ l := by
  rw [List.any_eq_true]
  exact ⟨fun ⟨y, hy, e⟩ => by have : y = k := by simpa using e
                              rw [← this]; exact hy, fun h => ⟨k, h, by simp⟩⟩
/-- the sorted list of a set of the texts is the texts themselves just where they rise -/
theorem sorted_set {ss ts : List Str} (hl : ts.length = (dd ss).length) (hm : ∀ k, (dd ss).any (· == k) = true ↔ k ∈ ts) (hs : sortedS ts = true) : (ss = ts) ↔ Up ss := by
  have nd : ts.Nodup := nd_cover (dd_nodup ss) (fun x hx => (hm x).mp ((any_mem _ _).mpr hx)) hl
  have ut := sorted_up hs nd
  constructor
  · rintro rfl; exact ut
  · intro us
    exact up_uniq us ut fun x => by rw [← hm x, any_mem, dd_mem]
theorem eqVs_dec : ∀ (as bs : List Str), eqVs (as.map V.str) (bs.map V.str) = decide (as = bs) := by
  intro as bs
  by_cases hl : as.length = bs.length
  · rw [eqVs_same (by simpa using hl), Bool.eq_iff_iff, List.all_eq_true, decide_eq_true_iff]
    constructor
    · intro h
      refine List.ext_getElem hl fun i h1 h2 => ?_
      have q := h i (by simpa using h1)
      have e1 : (as.map V.str)[i]? = some (.str as[i]) := by rw [List.getElem?_map, List.getElem?_eq_getElem h1]; rfl
      have e2 : (bs.map V.str)[i]? = some (.str bs[i]) := by rw [List.getElem?_map, List.getElem?_eq_getElem h2]; rfl
      rw [getD_of e1, getD_of e2] at q
      have q' : (as[i] == bs[i]) = true := q
      simpa using q'
    · rintro rfl i hi
      have h1 : i < as.length := by simpa using hi
      have e1 : (as.map V.str)[i]? = some (.str as[i]) := by rw [List.getElem?_map, List.getElem?_eq_getElem h1]; rfl
      rw [getD_of e1]; show (as[i] == as[i]) = true; simp
  · rw [eqVs_ne (by simpa using hl), decide_eq_false]
    rintro rfl; exact hl rfl
theorem up_steps (ss : List Str) : Up ss ↔ ∀ (k : Nat) (h : k + 1 < ss.length), ltS ss[k] ss[k + 1] := by
  refine (List.pairwise_iff_getElem (R := ltS) (l := ss)).trans ?_
  constructor
  · intro h k hk; exact h k (k + 1) (by omega) hk (by omega)
  · intro h
    have key : ∀ (d i : Nat) (hj : i + d + 1 < ss.length), ltS (ss[i]'(by omega)) ss[i + d + 1] := by
      intro d
      induction d with
      | zero => intro i hj; exact h i hj
      | succ d ih => intro i hj; exact lt_tr (ih i (by omega)) (h (i + d + 1) hj)
    intro i j hi hj hij
    have q := key (j - i - 1) i (by omega)
    have e : i + (j - i - 1) + 1 = j := by omega
    simp only [e] at q
    exact q
/-! ### loops -/
def rules3 : List Str := ["none", "ahead", "all"]
def upB (ss : List Str) : Bool := decide (Up ss)
def inB (ns ss : List Str) : Bool := ss.all fun x => decide (x ∈ ns)
def gapB (n : Nat) (g : Int) : Bool := decide (0 ≤ g) && decide (g ≤ (n : Int))
def isLp (ns : List Str) (r : Str) (g : Int) (ss : List Str) : Bool := decide (r ∈ rules3) && (gapB ns.length g && (upB ss && inB ns ss))
def spIsGap (K : PySem.W.Frag) : Sp := fun vs H Q _ => ∃ (a : Addr) (tp : Bool) (ns : List Str) (g : Int), vs = [.ref a, .int g] ∧ SqB K tp H a (ns.map V.str) ∧ Q (.bl (gapB ns.length g)) H
def spIsComing (K : PySem.W.Frag) : Sp := fun vs H Q _ => ∃ (a : Addr) (tp : Bool) (ns : List Str) (c : Addr) (ss : List Str), vs = [.ref a, .ref c] ∧ SqB K tp H a (ns.map V.str) ∧ SqT K H c (ss.map V.str) ∧ ss.length < 64 ∧ ∀ H', Same H H' → Q (.bl (upB ss && inB ns ss)) H'
/-- a loop stands at t -/
def LoopAt (K : PySem.W.Frag) (H : Hp) (t : Addr) (r : Str) (g : Int) (ss : List Str) : Prop := ∃ c, SqT K H t [.str r, .int g, .ref c] ∧ SqT K H c (ss.map V.str)
theorem LoopAt.same {K : PySem.W.Frag} {H H' : Hp} {t : Addr} {r : Str} {g : Int} {ss : List Str} (s : Same H H') (h : LoopAt K H t r g ss) : LoopAt K H' t r g ss := by
  obtain ⟨c, h1, h2⟩ := h
  exact ⟨c, s.sqT h1, s.sqT h2⟩
def spIsLoop (K : PySem.W.Frag) : Sp := fun vs H Q _ => ∃ (a : Addr) (tp : Bool) (ns : List Str) (t : Addr) (r : Str) (g : Int) (ss : List Str), vs = [.ref a, .ref t] ∧ SqB K tp H a (ns.map V.str) ∧ LoopAt K H t r g ss ∧ ss.length < 64 ∧ ∀ H', Same H H' → Q (.bl (isLp ns r g ss)) H'
def spRightLoop (K : PySem.W.Frag) : Sp := fun vs H Q _ => ∃ (a : Addr) (ns : List Str) (t : Addr) (r : Str) (g : Int) (ss : List Str), vs = [.ref a, .ref t] ∧ SqL K H a (ns.map V.str) ∧ LoopAt K H t r g ss ∧ ss.length < 64 ∧ ∀ H', Same H H' → Q (.bl (isLp ns r g ss)) H'
/-- a new loop -/
def NewLoop (p : Addr) (H : Hp) (Q : VK) (W : Str → Int → List Str → Prop) : Prop := ∀ t c r g ss H', H t = none → H c = none → PStep p H H' → H' t = some (.tup [.str r, .int g, .ref c]) → H' c = some (.tup (ss.map V.str)) → W r g ss → Q (.ref t) H'
def spSomeLoop : Sp := fun vs H Q _ => ∃ (p q : Addr) (ns : List Str), vs = [.ref p, .ref q] ∧ Pot H p ∧ H q = some (.lst (ns.map V.str)) ∧ q ≠ p ∧ ns.length ≤ 40 ∧ ns.Nodup ∧
  NewLoop p H Q fun r g ss => r ∈ rules3 ∧ 0 ≤ g ∧ g ≤ (ns.length : Int) ∧ Up ss ∧ (∀ x ∈ ss, x ∈ ns) ∧ ss.length ≤ 40
def spTurnedLoop (K : PySem.W.Frag) : Sp := fun vs H Q _ => ∃ (p q t : Addr) (ns : List Str) (r : Str) (g : Int) (ss : List Str), vs = [.ref p, .ref q, .ref t] ∧ Pot H p ∧ H q = some (.lst (ns.map V.str)) ∧ q ≠ p ∧ (∀ x ∈ ns, Nm x) ∧ ns.length ≤ 40 ∧
  (∃ c, t ≠ p ∧ c ≠ p ∧ H t = some (.tup [.str r, .int g, .ref c]) ∧ H c = some (.tup (ss.map V.str))) ∧ ss.length ≤ 40 ∧ NewLoop p H Q fun r g ss => ss.length < 60
theorem all_in (ns ss : List Str) : ((ss.map V.str).filter fun _ => true).map (fun v => V.bl (inV v (ns.map V.str))) = (ss.map fun x => decide (x ∈ ns)).map V.bl := by
  rw [filt_true, List.map_map, List.map_map]
  refine List.map_congr_left fun x _ => ?_
  show V.bl _ = V.bl _
  rw [inV_strs]
/-- each text against the next -/
def geV (ss : List Str) : V → V
  | .int i => .bl (!decide (ltS (ss.getD i.toNat ⟨#[]⟩) (ss.getD (i.toNat + 1) ⟨#[]⟩)))
  | _ => .bl false
def geL (ss : List Str) : List Bool := (List.range (ss.length - 1)).map fun i => !decide (ltS (ss.getD i ⟨#[]⟩) (ss.getD (i + 1) ⟨#[]⟩))
theorem getDS {ss : List Str} {i : Nat} (h : i < ss.length) : ss.getD i ⟨#[]⟩ = ss[i] := by rw [List.getD_eq_getElem?_getD, List.getElem?_eq_getElem h]; rfl
theorem geV_at {ss : List Str} {i : Nat} (h : i + 1 < ss.length) : geV ss (.int (i : Int)) = .bl (!decide (ss[i].cps.toList < ss[i + 1].cps.toList)) := by
  show V.bl (!decide (ltS (ss.getD (i : Int).toNat ⟨#[]⟩) (ss.getD ((i : Int).toNat + 1) ⟨#[]⟩))) = _
  rw [Int.toNat_natCast, getDS h, getDS (i := i) (by omega)]
theorem geV_all (ss : List Str) : ((intsV (ss.length - 1)).filter fun _ => true).map (geV ss) = (geL ss).map V.bl := by
  rw [filt_true]
  unfold intsV geL
  rw [List.map_map, List.map_map]
  rfl
theorem geV_any (ss : List Str) : (geL ss).any id = !upB ss := by
  have h : (geL ss).any id = true ↔ ¬ Up ss := by
    rw [up_steps, List.any_eq_true]
    constructor
    · rintro ⟨b, hb, e⟩ hu
      obtain ⟨i, hi, rfl⟩ := List.mem_map.mp hb
      have hi' : i < ss.length - 1 := List.mem_range.mp hi
      have q := hu i (by omega)
      rw [getDS (i := i) (by omega), getDS (i := i + 1) (by omega), decide_eq_true q] at e
      exact absurd e (by decide)
    · intro hu
      refine Classical.byContradiction fun hn => hu fun k hk => Classical.byContradiction fun hc => hn ⟨true, List.mem_map.mpr ⟨k, List.mem_range.mpr (by omega), ?_⟩, rfl⟩
      rw [getDS (i := k) (by omega), getDS (i := k + 1) hk, decide_eq_false hc]
      rfl
  unfold upB
  by_cases hu : Up ss
  · rw [decide_eq_true hu, Bool.eq_false_iff.mpr fun z => h.mp z hu]; rfl
  · rw [decide_eq_false hu, h.mpr hu]; rfl
theorem ints_get {n i : Nat} {v : V} (h : (intsV n)[i]? = some v) : i < n ∧ v = .int (i : Int) := by
  unfold intsV at h
  rw [List.getElem?_map] at h
  by_cases hi : i < n
  · rw [List.getElem?_range hi] at h
    exact ⟨hi, (Option.some.inj h).symm⟩
  · rw [List.getElem?_eq_none (by simpa using hi)] at h; cases h
theorem strs_get2 {ss : List Str} {i : Nat} {v : V} (h : (ss.map V.str)[i]? = some v) : ∃ x, v = .str x ∧ ss[i]? = some x := by
  rw [List.getElem?_map] at h
  cases q : ss[i]? with
  | none => rw [q] at h; cases h
  | some x => rw [q] at h; simp at h; exact ⟨x, h.symm, rfl⟩
theorem rule_at {j : Int} (h0 : 0 ≤ j) (h1 : j < 3) : ∃ r, atI (rules3.map V.str) j = some (.str r) ∧ r ∈ rules3 := by
  obtain ⟨x, a, b, _⟩ := strs_nth (ns := rules3) h0 h1
  exact ⟨x, a, b⟩
def odd5 : List Str := ["", "non", "All", "ahead ", "put"]
def odd2 : List Str := ["", "A"]
theorem pickI {a b c j : Int} (h0 : 0 ≤ j) (h1 : j < 3) : ∃ k : Int, atI [V.int a, V.int b, V.int c] j = some (.int k) := by
  have : j = 0 ∨ j = 1 ∨ j = 2 := by omega
  rcases this with rfl | rfl | rfl
  · exact ⟨a, rfl⟩
  · exact ⟨b, rfl⟩
  · exact ⟨c, rfl⟩
theorem ins_map (xs : List Str) (x : Str) (i : Nat) : (some (HO.lst ((xs.map V.str).take i ++ V.str x :: (xs.map V.str).drop i))) = some (.lst ((ins xs x i).map V.str)) := by
  unfold ins
  simp only [List.map_append, List.map_take, List.map_cons, List.map_drop]
theorem ins_len {xs : List Str} (x : Str) {i : Nat} (h : i ≤ xs.length) : (ins xs x i).length = xs.length + 1 := by
  unfold ins
  simp only [List.length_append, List.length_take, List.length_cons, List.length_drop]
  omega
end Lw

set_option Elab.async false
set_option linter.all false
set_option maxRecDepth 100000
set_option maxHeartbeats 4000000
namespace L2
open PySem PySem.Spec PyProof.Rows
/-! ### tuples within tuples that are alike -/
inductive EqT (K : PySem.W.Frag) (H : Hp) : Nat → V → V → Prop where
  | flat {d : Nat} {x y : V} : flatV x = true → flatV y = true → eqV x y = true → EqT K H d x y
  | same {d : Nat} {p : Addr} : EqT K H d (.ref p) (.ref p)
  | tup {d : Nat} {p q : Addr} {xs ys : List V} : SqT K H p xs → SqT K H q ys → xs.length = ys.length → (∀ (j : Nat) (x y : V), xs[j]? = some x → ys[j]? = some y → EqT K H d x y) → EqT K H (d + 1) (.ref p) (.ref q)
theorem EqT.mono {K : PySem.W.Frag} {H H' : Hp} (s : Same H H') {d : Nat} {x y : V} (h : EqT K H d x y) : EqT K H' d x y := by
  induction h with
  | flat a b c => exact .flat a b c
  | same => exact .same
  | tup a b c _ ih => exact .tup (s.sqT a) (s.sqT b) c ih
section
variable {X : Cx} {pins : List (Addr × Obj)} {σ : St} {H : Hp} {s : Shared}
theorem items_alike {A : Around} {xs ys : List V} {its its2 : List Value} (r1 : Vals xs its) (r2 : Vals ys its2) (hl : xs.length = ys.length)
    (h : ∀ (j : Nat) (x y : V) (u v : Value), xs[j]? = some x → ys[j]? = some y → RelV x u → RelV y v → SeqAt.EqAt A s u v true) :
    ∀ j (h1 : j < its.toArray.size) (h2 : j < its2.toArray.size), SeqAt.EqAt A s its.toArray[j] its2.toArray[j] ((fun _ => true) j) := fun j h1 h2 => by
  have l1 := r1.length
  have l2 := r2.length
  have h1' : j < its.length := by simpa using h1
  have h2' : j < its2.length := by simpa using h2
  have e1 : xs[j]? = some (xs[j]'(by omega)) := List.getElem?_eq_getElem _
  have e2 : ys[j]? = some (ys[j]'(by omega)) := List.getElem?_eq_getElem _
  obtain ⟨u, hu, ru⟩ := r1.get e1
  obtain ⟨v, hv, rv⟩ := r2.get e2
  rw [List.getElem?_eq_getElem h1'] at hu
  rw [List.getElem?_eq_getElem h2'] at hv
  have hu' : its[j] = u := Option.some.inj hu
  have hv' : its2[j] = v := Option.some.inj hv
  have q := h j _ _ u v e1 e2 ru rv
  rw [← hu', ← hv'] at q
  simpa using q
theorem all_alike {xs ys : List V} {its its2 : List Value} (r1 : Vals xs its) (r2 : Vals ys its2) (hl : xs.length = ys.length) :
    ((List.range (min its.toArray.size its2.toArray.size)).all (fun _ => true) && its.toArray.size == its2.toArray.size) = true := by
  have l1 := r1.length
  have l2 := r2.length
  have e : its.toArray.size = its2.toArray.size := by simp only [List.size_toArray]; omega
  rw [e]
  simp
theorem eqT_at (I : Inv X pins σ H s) {d : Nat} {x y : V} (h : EqT X.K H d x y) : ∀ (A : Around) (u v : Value), RelV x u → RelV y v → A.units + d < cLine → SeqAt.EqAt A s u v true := by
  induction h with
  | flat a b c =>
    intro A u v ru rv _
    have q := eqAt_V (A := A) (s := s) ru rv a b
    rw [c] at q
    exact q
  | same =>
    intro A u v ru rv _
    cases ru; cases rv
    exact SeqAt.EqAt.same _
  | @tup d p q xs ys a b c _ ih =>
    intro A u v ru rv hu
    cases ru; cases rv
    by_cases e : p = q
    · subst e; exact SeqAt.EqAt.same _
    · obtain ⟨its, r1, p1, z1⟩ := I.tuple a
      obtain ⟨its2, r2, p2, z2⟩ := I.tuple b
      have k := SeqAt.RcAt.tuples (A := A) (e := fun _ => true) p1 p2 (by omega) (items_alike r1 r2 c fun j x y u v hx hy ru rv => ih j x y hx hy A.in1 u v ru rv (by show A.units + 1 + d < cLine; omega))
      rw [all_alike r1 r2 c] at k
      exact SeqAt.EqAt.of_refs e k
def rEqT (K : PySem.W.Frag) (neg : Bool) : R2 := fun x y H Q => ∃ p q xs ys, x = .ref p ∧ y = .ref q ∧ SqT K H p xs ∧ SqT K H q ys ∧ xs.length = ys.length ∧ (∀ (j : Nat) (x y : V), xs[j]? = some x → ys[j]? = some y → EqT K H 8 x y) ∧ Q (.bl (!neg)) H
theorem op_eqT (hu : X.A.units + 64 < cLine) : OpR X (compareOp .Eq) (rEqT X.K false) := by
  intro pins s σ H x y v u Q I rx ry h
  obtain ⟨p, q, xs, ys, rfl, rfl, ha, hb, hl, hE, hQ⟩ := h
  cases rx; cases ry
  obtain ⟨its, r1, p1, z1⟩ := I.tuple ha
  obtain ⟨its2, r2, p2, z2⟩ := I.tuple hb
  refine SeqAt.eq_tupleAt (e := fun _ => true) p1 p2 (by omega) (items_alike r1 r2 hl fun j x y u v hx hy ru rv => eqT_at I (hE j x y hx hy) X.A.in1 u v ru rv (by show X.A.units + 1 + 8 < cLine; omega)) ⟨.bl true, H, I, ?_, hQ⟩
  rw [all_alike r1 r2 hl]
  rfl
theorem op_neT (hu : X.A.units + 64 < cLine) : OpR X (compareOp .NotEq) (rEqT X.K true) := by
  intro pins s σ H x y v u Q I rx ry h
  obtain ⟨p, q, xs, ys, rfl, rfl, ha, hb, hl, hE, hQ⟩ := h
  cases rx; cases ry
  obtain ⟨its, r1, p1, z1⟩ := I.tuple ha
  obtain ⟨its2, r2, p2, z2⟩ := I.tuple hb
  refine SeqAt.RcNeAt.tuples (e := fun _ => true) p1 p2 (by omega) (items_alike r1 r2 hl fun j x y u v hx hy ru rv => eqT_at I (hE j x y hx hy) X.A.in1 u v ru rv (by show X.A.units + 1 + 8 < cLine; omega)) _ _ _ _ ⟨.bl false, H, I, ?_, hQ⟩
  rw [all_alike r1 r2 hl]
  rfl
end
end L2

set_option Elab.async false
set_option linter.all false
set_option maxRecDepth 100000
set_option maxHeartbeats 4000000
namespace L2
open PySem PySem.Spec PyProof.Rows
/-! ### [elt for x, y in iter] -/
structure CompScope2 (N : List Str) (outer scope : Scope) (x z : Str) (caps : List Str) (js : List Nat) : Prop where
  kind : scope.kind = .function
  nocell : ∀ y ∈ scope.names, y.2 ≠ .cell
  loc : ∀ y ∈ scope.names, y.2 = .local → scope.names.lookup y.1 = some .local
  tgt : scope.names.lookup x = some .local
  tgz : scope.names.lookup z = some .local
  at' : js.map (fun j => N[j]?) = caps.map some
  cell : ∀ y ∈ caps, outer.names.lookup y = some .cell
  free : ∀ y ∈ caps, scope.names.lookup y = some .free
  all : ∀ y ∈ scope.names, y.2 = .free → outer.names.lookup y.1 = some .cell
  nd : (caps ++ [x, z]).Nodup

def CompW2 (K : PySem.W.Frag) (J : It) (js : List Nat) (te : TE) (σ : St) (H1 : Hp) (acc : Addr) (Q : VK) : Prop :=
  ∃ W : Nat → Nat → Hp → Prop, (∃ m, W 0 m (upd H1 acc (.lst []))) ∧ ∀ i m H2, W i m H2 →
    (J.stop i H2 ∧ Q (.ref acc) H2) ∨ (J.go i H2 ∧ ∀ x H3, J.yld i H2 x H3 → ∃ a u v, x = .ref a ∧ SqT K H3 a [u, v] ∧ te (capSt js σ ++ [some u, some v]) H3 fun y H5 => ∃ ys, H5 acc = some (.lst ys) ∧ ys.length < sizeLine ∧ ∃ m', m' < m ∧ W (i + 1) m' (upd H5 acc (.lst (ys ++ [y]))))
def tComp2 (K : PySem.W.Frag) (wi : TI) (js : List Nat) (te : TE) : TE := fun σ H Q => wi σ H fun J H1 => ∀ acc, H1 acc = none → CompW2 K J js te σ H1 acc Q
theorem set_last2 {α : Type} (l : List α) (a b c d : α) : ((l ++ [a, b]).set l.length c).set (l.length + 1) d = l ++ [c, d] := by
  induction l with
  | nil => rfl
  | cons x l ih => simp [ih]
section
variable {X : Cx} {pins : List (Addr × Obj)} {σ : St} {H2 : Hp} {s2 : Shared} {elt iter : Expr} {x z : Str} {px pz tp pos : Pos} {tk : Nat} {scope : Scope} {caps : List Str} {js : List Nat} {te : TE} {J : It} {fp : List Addr} {it : Addr}
  {tn : Nat → Heap → Prop}
theorem comp_inv2 (S : CompScope2 X.N X.env.scope scope x z caps js) (I3 : Inv X pins σ H2 s2) (f2 : ∀ b ∈ fp, FpOk X pins H2 b) (lt2 : ∀ b ∈ fp, b < s2.heap.objs.size) {h1 : Heap}
    {m : Str → Option Value} (hns : h1.Ns s2.heap.objs.size m) (old : ∀ b o, s2.heap.get? b = some o → h1.get? b = some o) {t' : Nat} :
    Inv (compCx X (caps ++ [x, z]) scope (capCells X.env.cells scope.names) s2.heap.objs.size s2 H2 fp) [] (capSt js σ ++ [none, none]) H2 { s2 with heap := h1, toks := t' } := by
  have hsome : ∀ y ∈ scope.names, y.2 = .free → (X.env.cells.lookup y.1).isSome = true := fun y hy hk => by
    obtain ⟨c, e⟩ := I3.ok.has y.1 (.inl (S.all y hy hk))
    rw [e]; rfl
  have cof : ∀ y c, (capCells X.env.cells scope.names).lookup y = some c → X.env.cells.lookup y = some c := cap_of scope.names [] hsome (fun _ _ e => by cases e)
  have hrel : ∀ y k, (relabel scope X.env).names.lookup y = some k → k = .cell ∨ k = .free → scope.names.lookup y = some .free := fun y k e hk => by
    have e' := (lookup_relabel (env := X.env) scope.names y).symm.trans e
    cases q : scope.names.lookup y with
    | none => rw [q] at e'; cases e'
    | some k0 =>
      rw [q] at e'
      have hne := S.nocell _ (PySem.mem_of_lookup q)
      cases k0 with
      | free => rfl
      | cell => exact absurd rfl hne
      | _ => simp at e'; rcases hk with rfl | rfl <;> cases e'
  have hlen : js.length = caps.length := by have := congrArg List.length S.at'; simpa using this
  have clt : ∀ y c, X.env.cells.lookup y = some c → c < s2.heap.objs.size := fun y c e => by
    obtain ⟨v, o, ho, _⟩ := I3.cell y c e
    exact Heap.lt_size ho
  have cellK : ∀ c v, s2.heap.IsCell c v → h1.IsCell c v := fun c v ⟨o, ho, hd⟩ => ⟨o, old c o ho, hd⟩
  refine ⟨⟨I3.ok.mod, S.kind, I3.ok.glob, I3.ok.blt, Nat.le_refl _, fun y z c e1 e2 => I3.ok.inj y z c (cof y c e1) (cof z c e2), fun y hy => ?_, fun y c hf _ => (by cases hf), I3.ok.hd, I3.ok.frames, .inl rfl, fun b hb => ⟨Nat.ne_of_lt (lt2 b hb), fun y c e => (f2 b hb).2.2.2.2.1 y c (cof y c e)⟩,
    fun b o e => I3.bs b o e, Nat.le_trans I3.ok.bsz I3.sz, fun b o e hb => ?_, fun b hb hs => ?_, I3.stack, I3.stkFree⟩, rfl, I3.bare, Un.kept old, ⟨m, hns, fun i y v e1 e2 e3 => ?_⟩, fun y c e => ?_, I3.hok.fresh (Nat.le_refl _), fun y c e => I3.freeC y c (cof y c e), fun p hp => (by cases hp), I3.hok.kept old, ?_⟩
  · have hf : scope.names.lookup y = some .free := by
      rcases hy with hy | hy
      · exact hrel y _ hy (.inl rfl)
      · exact hrel y _ hy (.inr rfl)
    exact Option.isSome_iff_exists.mp (cap_has scope.names [] (.inr (PySem.mem_of_lookup hf)))
  · rcases (f2 b hb).2.2.2.1 with z | z
    · exact I3.ok.noex b o e z
    · exact absurd (Nat.lt_of_lt_of_le (Nat.lt_of_lt_of_le (Heap.lt_size e) I3.ok.bsz) z) (Nat.lt_irrefl _)
  · rcases List.mem_cons.mp (I3.stkSub b hs) with z | z
    · exact (f2 b hb).2.1 z
    · exact (f2 b hb).2.2.1 z
  · have hcl : (capSt js σ).length = caps.length := by unfold capSt; rw [List.length_map, hlen]
    have hi : i < caps.length := by
      by_cases hi : i < caps.length
      · exact hi
      · have e2' : (capSt js σ ++ [none, none])[i]? = some (some v) := e2
        rw [List.getElem?_append_right (by rw [hcl]; omega), hcl] at e2'
        match hd : i - caps.length with
        | 0 => rw [hd] at e2'; cases e2'
        | 1 => rw [hd] at e2'; cases e2'
        | (k + 2) => rw [hd] at e2'; simp at e2'
    have e1' : caps[i]? = some y := by
      have e1' : (caps ++ [x, z])[i]? = some y := e1
      rwa [List.getElem?_append_left hi] at e1'
    have e2' : (capSt js σ)[i]? = some (some v) := by
      have e2' : (capSt js σ ++ [none, none])[i]? = some (some v) := e2
      rwa [List.getElem?_append_left (by rw [hcl]; exact hi)] at e2'
    have hmem : y ∈ caps := List.mem_of_getElem? e1'
    unfold capSt at e2'
    rw [List.getElem?_map] at e2'
    cases hj : js[i]? with
    | none => rw [hj] at e2'; cases e2'
    | some j =>
      rw [hj] at e2'
      have hN : X.N[j]? = some y := by
        have q := congrArg (fun l => l[i]?) S.at'
        simp only [List.getElem?_map, hj, e1', Option.map_some] at q
        exact Option.some.inj q
      have hσ : σ[j]? = some (some v) := by
        simp only [Option.map_some, Option.some.injEq] at e2'
        cases q : σ[j]? with
        | none => rw [q] at e2'; cases e2'
        | some w => rw [q] at e2'; simp at e2'; rw [e2']
      obtain ⟨m0, hn0, hl0⟩ := I3.loc
      obtain ⟨u, r, l⟩ := hl0 j y v hN hσ (.inr (.inl (S.cell y hmem)))
      refine ⟨u, r, ?_⟩
      rcases l with ⟨k, _⟩ | ⟨_, c, e, z⟩
      · have k' : X.env.scope.names.lookup y = some .local := k
        rw [S.cell y hmem] at k'; cases k'
      · have hkc : X.env.kindOf y = some .cell := S.cell y hmem
        have hk : (relabel scope X.env).names.lookup y = some .cell := by
          refine (lookup_relabel (env := X.env) scope.names y).trans ?_
          rw [S.free y hmem]
          simp [I3.ok.kind, hkc]
        obtain ⟨c', e'⟩ := Option.isSome_iff_exists.mp (cap_has (cells := X.env.cells) scope.names [] (.inr (PySem.mem_of_lookup (S.free y hmem))))
        have e'' := cof y c' e'
        rw [e] at e''; cases e''
        exact .inr ⟨.inl hk, c, e', cellK c _ z⟩
  · obtain ⟨v, z⟩ := I3.cell y c (cof y c e)
    exact ⟨v, cellK c v z⟩
  · show (capSt js σ ++ [none, none]).length = (caps ++ [x, z]).length
    unfold capSt
    simp [hlen]
theorem comp_loop2 {acc C : Addr} {s3 : Shared} {H3 : Hp} {cl : List (Str × Addr)} {s4 : Shared} {w0 w1 : Option V} {H4 : Hp} {R : Result → Shared → Prop} (hc : X.calm = true) (S : CompScope2 X.N X.env.scope scope x z caps js)
    (helt : PE (compCx X (caps ++ [x, z]) scope cl C s3 H3 fp) elt te)
    (T : Turn X.prog X.w X.K (.Tuple [.Name x px, .Name z pz] tk tp) J fp it tn) (lt3 : ∀ b ∈ fp, (compCx X (caps ++ [x, z]) scope cl C s3 H3 fp).Ok → FpOk (compCx X (caps ++ [x, z]) scope cl C s3 H3 fp) [] (fun _ => none) b)
    (W : Nat → Nat → Hp → Prop) (Q : VK)
    (turn : ∀ i m H2, W i m H2 → (J.stop i H2 ∧ Q (.ref acc) H2) ∨ (J.go i H2 ∧ ∀ x H3, J.yld i H2 x H3 → ∃ a u v, x = .ref a ∧ SqT X.K H3 a [u, v] ∧ te (capSt js σ ++ [some u, some v]) H3 fun y H5 => ∃ ys, H5 acc = some (.lst ys) ∧ ys.length < sizeLine ∧ ∃ m', m' < m ∧ W (i + 1) m' (upd H5 acc (.lst (ys ++ [y])))))
    (I4 : Inv (compCx X (caps ++ [x, z]) scope cl C s3 H3 fp) [] (capSt js σ ++ [w0, w1]) H4 s4) (st4 : tn 0 s4.heap) (fr4 : ∀ b ∈ fp, H4 b = none) (m0 : Nat) (w4 : W 0 m0 H4)
    (hR : ∀ H' s' w w', Inv (compCx X (caps ++ [x, z]) scope cl C s3 H3 fp) [] (capSt js σ ++ [w, w']) H' s' → Q (.ref acc) H' → R (.ok .next) s') :
    codeAny (model X.prog X.w) X.A (.compLoop (.ListComp elt [⟨.Tuple [.Name x px, .Name z pz] tk tp, iter, [], 0⟩] scope pos) 0 (.ref it) (.ref acc) (compEnvC scope cl C X.env)) R s4 := by
  have hlen : (capSt js σ).length = caps.length := by
    unfold capSt; rw [List.length_map]; have := congrArg List.length S.at'; simpa using this
  have hN : (caps ++ [x, z])[(capSt js σ).length]? = some x := by rw [hlen, List.getElem?_append_right (Nat.le_refl _)]; simp
  have hNz : (caps ++ [x, z])[(capSt js σ).length + 1]? = some z := by rw [hlen, List.getElem?_append_right (Nat.le_succ _)]; simp
  have hloc : Loc (relabel scope X.env) x := .inl (lookup_relabel_local S.tgt)
  have hlocz : Loc (relabel scope X.env) z := .inl (lookup_relabel_local S.tgz)
  have hok := I4.ok
  have stat : ∀ {H' : Hp}, (∀ b ∈ fp, H' b = none) → ∀ b ∈ fp, FpOk (compCx X (caps ++ [x, z]) scope cl C s3 H3 fp) [] H' b := fun hn b hb => ⟨hn b hb, (lt3 b hb hok).2⟩
  refine LCp.codeAny_compLoop_pair (fun n s' => ∃ i w w' H', Inv (compCx X (caps ++ [x, z]) scope cl C s3 H3 fp) [] (capSt js σ ++ [w, w']) H' s' ∧ tn i s'.heap ∧ (∀ b ∈ fp, H' b = none) ∧ W i n H') ?_ m0 ⟨0, w0, w1, H4, I4, st4, fr4, w4⟩
  rintro n s5 ⟨i, w, w', H5, I5, st5, fr5, w5⟩
  rcases turn i n H5 w5 with ⟨stop, q⟩ | ⟨go, step⟩
  · refine wpAny_mono (T.done (compCx X (caps ++ [x, z]) scope cl C s3 H3 fp) rfl rfl rfl hc i [] s5 _ H5 (fun _ _ => False) I5 (stat fr5) st5 stop) (fun r s6 ⟨hr, I6⟩ => ?_) fun _ _ z => z.elim
    subst hr
    exact hR H5 s6 w w' I6 q
  · refine wpAny_mono (T.item (compCx X (caps ++ [x, z]) scope cl C s3 H3 fp) rfl rfl rfl hc i [] s5 _ H5 (fun _ _ => False) I5 (stat fr5) st5 go) (fun r s6 ⟨u, hr, h6⟩ => ?_) fun _ _ z => z.elim
    subst hr
    refine wpAny_mono h6 (fun _ s7 ⟨v, H7, I7, r7, y7, st7, fr7⟩ => ?_) fun _ _ z => z.elim
    have I7' := I7.pinned (stat fr7) (T.obj _ _ st7)
    obtain ⟨ta, e1, e2, rfl, hsq, hte⟩ := step v H7 y7
    refine wpAny_mono (pg_tup (X := compCx X (caps ++ [x, z]) scope cl C s3 H3 fp) (n := 2) hc (pgs_cons (pg_name (pos := px) S.nd hN hloc (.inr (lookup_relabel_local S.tgt))) (pgs_cons (pg_name (pos := pz) S.nd hNz hlocz (.inr (lookup_relabel_local S.tgz))) pgs_nil)) rfl rfl _ s7 _ H7 _ u
      (fun σ8 H8 => σ8 = capSt js σ ++ [some e1, some e2] ∧ H8 = H7) I7' r7 ⟨ta, _, rfl, hsq, rfl, _, _, rfl, _, _, rfl, rfl, set_last2 _ _ _ _ _, rfl⟩) (fun _ s8 ⟨σ8, H8, I8, e8, e8'⟩ => ?_) fun _ _ z => z.elim
    subst e8; subst e8'
    have again : ∀ {σa : St} {Ha : Hp} {sa : Shared}, Inv (compCx X (caps ++ [x, z]) scope cl C s3 H3 fp) ([] ++ pinsAt fp s7.heap) σa Ha sa → tn (i + 1) sa.heap ∧ (∀ b ∈ fp, Ha b = none) := fun {σa Ha sa} Ia => by
      refine ⟨T.keep _ _ _ st7 fun b hb o e => (Ia.pin (b, o) (List.mem_append_right _ (List.mem_append_right _ (mem_pinsAt hb e)))).1, fun b hb => ?_⟩
      obtain ⟨o, e, d⟩ := T.obj _ _ st7 b hb
      exact (Ia.pin (b, o) (List.mem_append_right _ (List.mem_append_right _ (mem_pinsAt hb e)))).2.1
    refine wpAny_mono (helt _ s8 _ H8 _ I8 hte) (fun yv s10 ⟨y, H10, I10, r10, ys, hacc, hz, m', hm, w10⟩ => ?_) fun _ _ z => z.elim
    refine wpAny_mono (mt_append (X := compCx X (caps ++ [x, z]) scope cl C s3 H3 fp) _ s10 _ H10 (.ref acc) [y] (.ref acc) [yv] (fun _ H11 => H11 = upd H10 acc (.lst (ys ++ [y]))) I10 rfl (.cons r10 .nil) ⟨acc, ys, y, rfl, rfl, hacc, hz, rfl⟩)
      (fun _ s11 ⟨_, H11, I11, _, e11⟩ => ?_) fun _ _ z => z.elim
    subst e11
    exact ⟨m', hm, i + 1, _, _, _, I11.unpinned, (again I11).1, (again I11).2, w10⟩

theorem comp_block2 {RR : Value → Addr → Result → Shared → Prop} {E : Value → Shared → Prop} (hc : X.calm = true) (S : CompScope2 X.N X.env.scope scope x z caps js)
    (helt : ∀ C s H, PE (compCx X (caps ++ [x, z]) scope (capCells X.env.cells scope.names) C s H fp) elt te)
    (T : Turn X.prog X.w X.K (.Tuple [.Name x px, .Name z pz] tk tp) J fp it tn) (I2 : Inv X pins σ H2 s2) (st2 : tn 0 s2.heap) (f2 : ∀ b ∈ fp, FpOk X pins H2 b) (Q : VK) (hW : ∀ acc, H2 acc = none → CompW2 X.K J js te σ H2 acc Q)
    (hRR : ∀ acc C H' s' m, Inv X pins σ H' s' → FpOk X pins H' C → s'.heap.Ns C m → Q (.ref acc) H' → RR (.ref acc) C (.ok .next) s') :
    wpAny (model X.prog X.w) X.A (newList []) (fun acc s3 => wpAny (model X.prog X.w) X.A (newFunctionEnv scope X.env.globals (capCells X.env.cells scope.names) [] X.env.qual none .none (some X.env)) (fun cenv s4 =>
      codeAny (model X.prog X.w) X.A (.compStart (.ListComp elt [⟨.Tuple [.Name x px, .Name z pz] tk tp, iter, [], 0⟩] scope pos) 0 (.ref it) acc { cenv with scope := relabel scope X.env }) (RR acc cenv.locals) s4) E s3) E s2 := by
  refine wpAny_newObj_type (wpAny_newFunctionEnv S.nocell (fun y hy => by cases hy) (fun h1 hns hsb => ?_) S.kind)
  have I3 : Inv X pins σ (upd H2 s2.heap.objs.size (.lst [])) { s2 with heap := s2.heap.push { cls := .type "list", data := .seq ([] : List Value).toArray } } := I2.lnew (t' := s2.toks) .nil (Nat.zero_le _)
  have hlt : ∀ b ∈ fp, b < s2.heap.objs.size := fun b hb => by
    obtain ⟨o, e, _⟩ := T.obj _ _ st2 b hb
    exact Heap.lt_size e
  have hsz : (s2.heap.push { cls := .type "list", data := .seq ([] : List Value).toArray }).objs.size = s2.heap.objs.size + 1 := Heap.size_push ..
  have f3 : ∀ b ∈ fp, FpOk X pins (upd H2 s2.heap.objs.size (.lst [])) b := fun b hb => ⟨by rw [upd_ne (Nat.ne_of_lt (hlt b hb))]; exact (f2 b hb).1, (f2 b hb).2⟩
  generalize hs3 : ({ s2 with heap := s2.heap.push { cls := .type "list", data := .seq ([] : List Value).toArray } } : Shared) = s3 at I3 hns hsb ⊢
  have hs3h : s3.heap = s2.heap.push { cls := .type "list", data := .seq ([] : List Value).toArray } := by rw [← hs3]
  have hlt3 : ∀ b ∈ fp, b < s3.heap.objs.size := fun b hb => by rw [hs3h, hsz]; exact Nat.lt_succ_of_lt (hlt b hb)
  have old : ∀ b o, s3.heap.get? b = some o → h1.get? b = some o := fun b o e => hsb.extBut b o (Nat.ne_of_lt (Heap.lt_size e)) (Heap.get?_push_of_some _ e)
  have old2 : ∀ b o, s2.heap.get? b = some o → h1.get? b = some o := fun b o e => old b o (by rw [hs3h]; exact Heap.get?_push_of_some _ e)
  have I4 := comp_inv2 S I3 f3 hlt3 hns old (t' := s3.toks + ([] : List (Str × Value)).length)
  have st4 : tn 0 h1 := T.keep _ _ _ st2 fun b _ o e => old2 b o e
  obtain ⟨W, ⟨m0, w0⟩, turn⟩ := hW s2.heap.objs.size (I2.hok.fresh (Nat.le_refl _))
  have loop : codeAny (model X.prog X.w) X.A (.compLoop (.ListComp elt [⟨.Tuple [.Name x px, .Name z pz] tk tp, iter, [], 0⟩] scope pos) 0 (.ref it) (.ref s2.heap.objs.size) (compEnvC scope (capCells X.env.cells scope.names) s3.heap.objs.size X.env))
      (RR (.ref s2.heap.objs.size) s3.heap.objs.size) { s3 with heap := h1, toks := s3.toks + ([] : List (Str × Value)).length } := by
    refine comp_loop2 (acc := s2.heap.objs.size) (Q := Q) hc S (helt _ _ _) T (fun b hb ok => ⟨rfl, (ok.exf b hb).1, ok.exfs b hb, .inl hb, (ok.exf b hb).2, fun p hp => by cases hp⟩) W turn I4 st4 (fun b hb => (f3 b hb).1) m0 w0 fun H' s' w w' I' q => ?_
    obtain ⟨m, hn, _⟩ := I'.loc
    exact hRR _ _ H' s' m (I3.call' (ch := fp) I'.os I'.base I'.hok I'.bare fun b hb => ⟨(f3 b hb).2.2.2.1, (f3 b hb).2.1, (f3 b hb).2.2.2.2.1, (f3 b hb).2.2.2.2.2⟩) (I3.fpOk (Nat.le_refl _) I'.free) hn q
  exact codeAny_compStart_list loop (T.self X.A 0 _ _ _ st4 loop)

theorem comp_closed2 {σ : St} {H : Hp} {s : Shared} (S : CompScope2 X.N X.env.scope scope x z caps js) (I : Inv X pins σ H s) : closureFor scope X.env = pure (capCells X.env.cells scope.names) := closure_caps fun y hy hk => by
  obtain ⟨c, e⟩ := I.ok.has y.1 (.inl (S.all y hy hk))
  rw [e]; rfl
theorem pe_comp2 {wi : TI} (hc : X.calm = true) (S : CompScope2 X.N X.env.scope scope x z caps js) (hi : PI X (.Tuple [.Name x px, .Name z pz] tk tp) iter wi)
    (helt : ∀ fp C s H, PE (compCx X (caps ++ [x, z]) scope (capCells X.env.cells scope.names) C s H fp) elt te)
    (hs : ∀ v, foldedSetIterable iter X.env v = pure v := by intro _; rfl) : PE X (.ListComp elt [⟨.Tuple [.Name x px, .Name z pz] tk tp, iter, [], 0⟩] scope pos) (tComp2 X.K wi js te) := by
  intro pins s σ H Q I h
  rw [eval_ListComp]
  refine wpAny_comprehension_free (use := none) rfl hs (comp_closed2 S I) S.kind S.loc (thn (hi pins s σ H _ I h) fun v s1 h1 => thn h1 fun itv s2 h2 => ?_)
  obtain ⟨it, fp, tn, J, H2, e, I2, T, st2, f2, hW⟩ := h2
  subst e
  refine comp_block2 (RR := fun acc C => compPost (model X.prog X.w) X.A X.xe none (EP X pins σ Q) acc C) hc S (helt fp) T I2 st2 f2 Q hW fun acc C H' s' m I' fC hn q => ⟨m, hn, fun h' hsb => ?_⟩
  exact ⟨.ref acc, H', I'.turned (t' := s'.toks) (fun b o hb e => (hsb.2 b hb).trans e) fC.1 fC.2.1 fC.2.2.2.1 fC.2.2.2.2.1 fC.2.2.2.2.2, rfl, q⟩

theorem qe_comp2 {wi : TI} (hc : X.calm = true) (S : CompScope2 X.N X.env.scope scope x z caps js) (hi : QI X (.Tuple [.Name x px, .Name z pz] tk tp) iter wi) (helt : ∀ fp C s H, QE (compCx X (caps ++ [x, z]) scope (capCells X.env.cells scope.names) C s H fp) elt te)
    (hs : ∀ v, foldedSetIterable iter X.env v = pure v := by intro _; rfl) : QE X (.ListComp elt [⟨.Tuple [.Name x px, .Name z pz] tk tp, iter, [], 0⟩] scope pos) (tComp2 X.K wi js te) := ⟨pe_comp2 hc S hi.h (fun fp C s H => (helt fp C s H).h) hs⟩
end
end L2

set_option Elab.async false
set_option linter.all false
set_option maxRecDepth 100000
set_option maxHeartbeats 4000000
namespace HT
open PySem PySem.Spec PyProof.Rows
open AutoSeq1 (wpAny_loadPart')
/-! ### enumerate over a tuple -/
theorem newEnumT (tu : Addr) (vals : Array Value) (k : Nat) (dc : Option Addr) (slo : Array (Option Value)) :
    Meets (Builtin.«enumerate.__new__» ⟨[.type "enumerate", .ref tu], []⟩) (fun _ R s => s.heap.get? tu = some { cls := .type "tuple", dict := dc, data := .seq vals k, slots := slo } ∧ R (.ok (.ret (.ref (s.heap.push { cls := .type "tuple_iterator", data := .fields #[.ref tu, .int 0 0] }).objs.size)))
        { s with heap := (s.heap.push { cls := .type "tuple_iterator", data := .fields #[.ref tu, .int 0 0] }).push { cls := .type "enumerate", data := .fields #[.none, .bool false, .ref s.heap.objs.size, rawInt 0, .none, .none] } }) := .of_wp fun prog w A R s h => by
  obtain ⟨hp, g, d, tk, os⟩ := s; obtain ⟨ho, h⟩ := h; have sb := sub_enumerate
  have hT : Heap.IsTuple (Shared.heap ⟨hp, g, d, tk, os⟩) tu vals := ⟨_, ho, rfl, k, rfl⟩
  wp_walk using wpAny_loadPart' ho
  refine wpAny_stack_any fun fr => wpAny_pure ?_
  split
  · rename_i c _ _ _ _ _
    cases (c == Value.type "enumerate") <;> (wp_walk using wpAny_loadPart' ho, wpAny_pyIter_tuple hT; exact ⟨_, rfl, h⟩)
  · wp_walk using wpAny_loadPart' ho, wpAny_pyIter_tuple hT
    exact ⟨_, rfl, h⟩
section
variable {prog : Program} {w : World} {A : Around} {E : Value → Shared → Prop} {s : Shared}
theorem callEnumT {tu : Addr} {vals : Array Value} {Q : Value → Shared → Prop} (hT : s.heap.IsTuple tu vals)
    (q : ∀ h', IsEnum h' (s.heap.objs.size + 1) s.heap.objs.size 0 .none → h'.IsTupleIter s.heap.objs.size tu 0 → h'.objs.size = s.heap.objs.size + 2 → (∀ b o, s.heap.get? b = some o → h'.get? b = some o) → Q (.ref (s.heap.objs.size + 1)) { s with heap := h' }) :
    wpAny (model prog w) A (call (.type "enumerate") [.ref tu]) Q E s := by
  obtain ⟨⟨c, dc, dt, slo⟩, ho, hc, k, hd⟩ := hT
  replace hc : c = .type "tuple" := hc; replace hd : dt = .seq vals k := hd; subst hc hd
  refine callType_new F.called_enumerate (by decide) (F.typeCall_enumerate_1 _) (F.newCall_enumerate_1 _) (fun ob => F.args_object_init_2 ob _) F.entry_enumerate_new (newEnumT tu vals k dc slo) ⟨ho, ?_⟩
  have z : (s.heap.push { cls := .type "tuple_iterator", data := .fields #[.ref tu, .int 0 0] }).objs.size = s.heap.objs.size + 1 := Heap.size_push ..
  show _ ∧ _
  rw [z]
  have he : IsEnum ((s.heap.push { cls := .type "tuple_iterator", data := .fields #[.ref tu, .int 0 0] }).push { cls := .type "enumerate", data := .fields #[.none, .bool false, .ref s.heap.objs.size, rawInt 0, .none, .none] }) (s.heap.objs.size + 1) s.heap.objs.size 0 .none := by
    have y := Heap.get?_push_size (s.heap.push { cls := .type "tuple_iterator", data := .fields #[.ref tu, .int 0 0] }) (o := { cls := .type "enumerate", data := .fields #[.none, .bool false, .ref s.heap.objs.size, rawInt 0, .none, .none] }) rfl
    rw [z] at y; exact y
  exact ⟨⟨_, he, rfl⟩, q _ he ⟨_, Heap.get?_push_of_some _ (Heap.get?_push_size _ rfl), rfl, rfl⟩ (by rw [Heap.size_push, z]) fun b o y => Heap.get?_push_of_some _ (Heap.get?_push_of_some _ y)⟩
theorem nextT_item {it tu : Addr} {i : Nat} {vals : Array Value} {v : Value} {Q : Value → Shared → Prop} (hi : s.heap.IsTupleIter it tu i) (ht : s.heap.IsTuple tu vals) (hv : vals[i]? = some v)
    (q : ∀ h', h'.IsTupleIter it tu (i + 1) → Heap.SameBut it s.heap h' → Q v { s with heap := h' }) : wpAny (model prog w) A (Builtin.SmallTypes.nextOf (.ref it)) Q E s := by
  obtain ⟨o, ho, hc, hd⟩ := id hi; obtain ⟨o2, ho2, _, k, hd2⟩ := ht; unfold Builtin.SmallTypes.nextOf
  refine wpAny_bind (wpAny_callSpecial?_slot (name := Str.ofString "__next__") hi.typeIs F.slot_tuple_iterator_next (wpAny_call_entry F.slot_tuple_iterator_next hi.typeIs F.entry_tuple_iterator_next ?_ (F.args_tuple_iterator_next_1 _)))
  show wpAny _ _ (field (.ref it) 0 >>= _) _ _ s; refine wpAny_bind (wpAny_field ho hd (x := .ref tu) rfl ?_)
  show wpAny _ _ (if (Value.ref tu == Value.none) = true then _ else _) _ _ s; rw [if_neg (show ¬ ((Value.ref tu == Value.none) = true) from Bool.false_ne_true)]
  show wpAny _ _ (field (.ref it) 1 >>= _) _ _ s; refine wpAny_bind (wpAny_field ho hd (x := .int i 0) rfl ?_)
  show wpAny _ _ (seqItems? (.ref tu) >>= _) _ _ s; refine wpAny_bind (wpAny_seqItems ho2 hd2 ?_); simp only [Int.toNat_natCast, hv]
  refine wpAny_bind (wpAny_setField ho hd (by simp) (wpAny_pure ⟨v, rfl, wpAny_pure (q _ ?_ (Heap.SameBut.update ..))⟩))
  exact ⟨_, Heap.get?_update_self _ ho (Obj.isFreed_of_fields (Obj.data_mapFields hd _)), (Obj.cls_mapFields ..).trans hc, by rw [Obj.data_mapFields hd]; simp [rawInt]⟩
theorem nextT_end {it tu : Addr} {i : Nat} {vals : Array Value} {Q : Value → Shared → Prop} (hh : A.handled = none) (hi : s.heap.IsTupleIter it tu i) (ht : s.heap.IsTuple tu vals) (hv : vals[i]? = none)
    (q : ∀ h' e, Heap.ExtBut it s.heap h' → (∃ o, h'.get? e = some o ∧ o.cls = .type "StopIteration") → E (.ref e) { s with heap := h' }) : wpAny (model prog w) A (Builtin.SmallTypes.nextOf (.ref it)) Q E s := by
  obtain ⟨o, ho, hc, hd⟩ := id hi; obtain ⟨o2, ho2, _, k, hd2⟩ := ht; unfold Builtin.SmallTypes.nextOf
  refine wpAny_bind (wpAny_callSpecial?_slot (name := Str.ofString "__next__") hi.typeIs F.slot_tuple_iterator_next (wpAny_call_entry F.slot_tuple_iterator_next hi.typeIs F.entry_tuple_iterator_next ?_ (F.args_tuple_iterator_next_1 _)))
  show wpAny _ _ (field (.ref it) 0 >>= _) _ _ s; refine wpAny_bind (wpAny_field ho hd (x := .ref tu) rfl ?_)
  show wpAny _ _ (if (Value.ref tu == Value.none) = true then _ else _) _ _ s; rw [if_neg (show ¬ ((Value.ref tu == Value.none) = true) from Bool.false_ne_true)]
  show wpAny _ _ (field (.ref it) 1 >>= _) _ _ s; refine wpAny_bind (wpAny_field ho hd (x := .int i 0) rfl ?_)
  show wpAny _ _ (seqItems? (.ref tu) >>= _) _ _ s; refine wpAny_bind (wpAny_seqItems ho2 hd2 ?_); simp only [Int.toNat_natCast, hv]
  refine wpAny_bind (wpAny_rule (wpAny_bind (wpAny_setField ho hd (by simp) ?_))); show wpAny _ _ (newExc (.type "StopIteration") [] >>= _) _ _ _
  refine wpAny_bind ?_; simp only [newExc, newTuple]; refine wpAny_bind (wpAny_newObj_type ?_ (by size_fits))
  refine wpAny_bind (m := firstArgMember _ _) (wpAny_of_eq (a := Value.none) (by first | rfl | (simp only [firstArgMember]; rfl)) ?_); refine wpAny_newObj_type ?_ (by size_fits)
  simp only [raiseNew]; refine wpAny_bind (wpAny_handled ?_); first | rw [show A.in1.handled = none from hh] | rw [hh]
  refine wpAny_bind (wpAny_pure (wpAny_throw ?_)); exact q _ _ (((Heap.SameBut.update ..).extBut.push _).push _) ⟨_, Heap.get?_push_size _ rfl, rfl⟩
theorem enumEndT {e it tu : Addr} {vals : Array Value} {i : Nat} {j : Int} {old : Value} {Q : Option Value → Shared → Prop} (hh : A.handled = none) (he : IsEnum s.heap e it j old) (hi : s.heap.IsTupleIter it tu i) (ht : s.heap.IsTuple tu vals) (hv : vals[i]? = none)
    (q : ∀ h', Heap.ExtBut it s.heap h' → Q none { s with heap := h' }) : wpAny (model prog w) A (pyNext (.ref e)) Q E s := by
  have ty : s.TypeIs (.ref e) "enumerate" := ⟨_, he, rfl⟩
  unfold pyNext; refine wpAny_bind (wpAny_attempt (wpAny_callSpecial?_slot (name := Str.ofString "__next__") ty F.slot_enumerate_next (wpAny_call_entry F.slot_enumerate_next ty F.entry_enumerate_next ?_ (F.args_enumerate_next_1 _))))
  show wpAny _ _ (field (.ref e) 2 >>= _) _ _ _; refine wpAny_bind (wpAny_field he rfl (x := .ref it) rfl ?_); refine wpAny_bind (nextT_end (show A.in1.handled = none from hh) hi ht hv fun h' x eb hx => ?_)
  obtain ⟨o, ho, hc⟩ := hx
  exact wpAny_bind (wpAny_isInstance (T := "StopIteration") (b := true) ⟨o, ho, hc⟩ isSubtype_stop (wpAny_pure (q _ eb)))
end
theorem drawsT {prog : Program} {w : World} {A : Around} (hh : A.handled = none) (it tu : Addr) (hne : tu ≠ it) (vals : Array Value) :
    Draws prog w A it [it, tu] vals.size (fun i v => vals[i]? = some v) (fun i h => h.IsTupleIter it tu i ∧ h.IsTuple tu vals) where
  live := fun _ _ st => by obtain ⟨o, ho, _⟩ := st.1; exact ⟨o, ho⟩
  frame := fun _ _ _ st hk => by
    obtain ⟨⟨o, ho, r⟩, o2, ho2, r2⟩ := st
    exact ⟨⟨o, hk it (by simp) o ho, r⟩, o2, hk tu (by simp) o2 ho2, r2⟩
  item := fun i s Q E hi st hQ => nextT_item st.1 st.2 (v := vals[i]) (by simp [hi]) fun h' a b => hQ _ h' s.toks (by simp [hi]) ⟨a, st.2.extBut b.extBut hne⟩ b
  done := fun s Q E st hE => nextT_end hh st.1 st.2 (by simp) hE
end HT
namespace L2
open PySem PySem.Spec PyProof.Rows
section
variable {X : Cx}
def Ien2 (K : PySem.W.Frag) (tp : Bool) (a : Addr) (xs : List V) : It :=
  ⟨fun i H => SqB K tp H a xs ∧ i < xs.length, fun i H x H' => ∃ p y, xs[i]? = some y ∧ x = .ref p ∧ H p = none ∧ H' = upd H p (.tup [.int i, y]), fun i H => SqB K tp H a xs ∧ xs.length ≤ i⟩
theorem turn_enumT {P : Program} {w : World} {K : PySem.W.Frag} {es : List Expr} {k1 : Nat} {p1 : Pos} (a e it : Addr) (xs : List V) (hei : e ≠ it) :
    Turn P w K (.Tuple es k1 p1) (Ien2 K true a xs) [e, it] e (fun i h => (∃ old, IsEnum h e it i old) ∧ h.IsTupleIter it a i) where
  mem := by simp
  obj := fun i h st b hb => by
    obtain ⟨⟨old, h1⟩, o, h2, _, d⟩ := st
    rcases List.mem_cons.mp hb with z | z
    · subst z; exact ⟨_, h1, fun v z => by cases z⟩
    · have y : b = it := by simpa using z
      subst y; exact ⟨o, h2, fun v z => by rw [d] at z; cases z⟩
  keep := fun i h h' st k => ⟨let ⟨old, h1⟩ := st.1; ⟨old, k e (by simp) _ h1⟩, let ⟨o, h2, r⟩ := st.2; ⟨o, k it (by simp) o h2, r⟩⟩
  item := by
    intro X hP hw hK hc i pins s σ H E I hf st hg
    subst hP hw hK
    obtain ⟨hq, hi⟩ := hg; obtain ⟨⟨old, he⟩, hit⟩ := st
    obtain ⟨its, rv, ht, hz⟩ := I.tuple hq
    obtain ⟨u, hu, ru⟩ := rv.get (List.getElem?_eq_getElem hi)
    have hu' : its.toArray[i]? = some u := by simpa using hu
    have hla : a < s.heap.objs.size := ht.lt
    have ha : a ≠ it := by
      rintro rfl
      obtain ⟨o, q1, q2, _⟩ := hit; obtain ⟨o2, q3, q4, _⟩ := ht
      rw [q1] at q3; cases q3; rw [q2] at q4; exact absurd q4 (by decide)
    have hea : e ≠ a := by
      rintro rfl
      obtain ⟨o2, q3, q4, _⟩ := ht
      have q1 := he
      unfold IsEnum at q1
      rw [q1] at q3; cases q3; exact absurd (show Value.type "enumerate" = Value.type "tuple" from q4) (by decide)
    have hlt : e < s.heap.objs.size := Heap.lt_size he
    refine wpAny_pyNext_enum_itemD (n := its.toArray.size) (HT.drawsT (show X.A.in1.handled = none from I.ok.hd hc) it a ha its.toArray) he ⟨hit, ht⟩ (by rw [List.size_toArray, ← rv.length]; exact hi) hei (by simp [hei, hea]) fun v h1 tk1 pv heo st1 ht1 hz1 hk1 => ⟨_, rfl, ?_⟩
    have ev : v = u := by rw [hu'] at pv; exact (Option.some.inj pv).symm
    subst ev
    refine wpAny_letOwnedTupleGo_enum heo fun h2 he2 hs2 => ?_
    have ht2 : h2.get? s.heap.objs.size = some { cls := .type "tuple", data := .seq #[.int i tk1, v] } := (hs2.2 _ (Nat.ne_of_gt hlt)).trans ht1
    have kp : ∀ b o, b ∉ [e, it] → s.heap.get? b = some o → h2.get? b = some o := fun b o hb q => by
      have y : b ≠ e ∧ b ≠ it := by simpa using hb
      exact (hs2.2 b y.1).trans (hk1 b o y.1 y.2 q)
    refine ⟨.ref s.heap.objs.size, _, I.turnLaid (t' := tk1 + 1) (a := s.heap.objs.size) (o := .tup [.int i, xs[i]]) hf kp (Nat.le_refl _) ?_, rfl, ⟨_, _, List.getElem?_eq_getElem hi, rfl, I.hok.fresh (Nat.le_refl _), rfl⟩, ⟨⟨_, he2⟩, ?_⟩, fun b hb => ?_⟩
    · exact ⟨(by show 2 ≤ sizeLine; decide), [.int i tk1, v], .cons ⟨_, rfl⟩ (.cons ru .nil), ⟨_, ht2, rfl, _, rfl⟩, fun ob q => by rw [ht2] at q; cases q; rfl⟩
    · obtain ⟨o, q, r⟩ := st1.1
      exact ⟨o, (hs2.2 it (Ne.symm hei)).trans q, r⟩
    · have y : b < s.heap.objs.size := by
        rcases List.mem_cons.mp hb with z | z
        · rw [z]; exact hlt
        · have z' : b = it := by simpa using z
          obtain ⟨o, q, _⟩ := hit
          rw [z']; exact Heap.lt_size q
      rw [upd_ne (Nat.ne_of_lt y)]
      exact (hf b hb).1
  done := by
    intro X hP hw hK hc i pins s σ H E I hf st hg
    subst hP hw hK
    obtain ⟨hq, hx⟩ := hg; obtain ⟨⟨old, he⟩, hit⟩ := st
    obtain ⟨its, rv, ht, hz⟩ := I.tuple hq
    have hl := rv.length
    exact HT.enumEndT (I.ok.hd hc) he hit ht (by simp; omega) fun h' eb => ⟨rfl, I.turnL (t' := s.toks) hf fun b o hb q => eb b o (fun z => hb (by simp [z])) q⟩
  self := fun _ _ _ _ _ st h => let ⟨⟨_, he⟩, _⟩ := st; wpAny_pyIter_enum he h
def iEnum2 (K : PySem.W.Frag) (t : TA) : TI := fun σ H R => t σ H fun vs H1 => ∃ a tp xs, vs = [.ref a] ∧ SqB K tp H1 a xs ∧ R (Ien2 K tp a xs) H1
theorem pi_enum2 {es : List Expr} {k1 : Nat} {p1 p pos : Pos} {l : Expr} {t : TA} (hg : Gl X "enumerate") (hm : X.mg "enumerate" = none) (ha : PA X [l] t) (hs : starEach [l] X.env = [(false, eval l X.env)] := by rfl) :
    PI X (.Tuple es k1 p1) (.Call (.Name "enumerate" p) [l] [] pos) (iEnum2 X.K t) := by
  intro pins s σ H R I h
  refine wpAny_Call_Name_kw (ld_blt I hg hm (show bootBuiltins "enumerate" = some (.type "enumerate") by decide +kernel) ?_ (by decide) (by decide))
  refine PyProof.Rows.callWith_type1 (thn (ha pos pins s σ H _ I h) fun us s1 ⟨vs, H1, I1, r1, q1⟩ => ?_) hs rfl
  obtain ⟨a, tp, xs, rfl, hq, q⟩ := q1
  obtain ⟨u, rfl, rx⟩ := vals1 r1
  cases rx
  have hne : s1.heap.objs.size + 1 ≠ s1.heap.objs.size := Nat.succ_ne_self _
  have fp : ∀ b ∈ [s1.heap.objs.size + 1, s1.heap.objs.size], FpOk X pins H1 b := fun b hb => by
    have y : s1.heap.objs.size ≤ b := by
      rcases List.mem_cons.mp hb with z | z
      · rw [z]; exact Nat.le_succ _
      · have z' : b = s1.heap.objs.size := by simpa using z
        rw [z']; exact Nat.le_refl _
    exact I1.fpOk y (I1.hok.fresh y)
  cases tp with
  | false =>
    obtain ⟨its, rv, p, hz⟩ := I1.list hq
    refine call_enumerate_list p.isList fun h' he hit hsz kp => wpAny_pyIter_enum he ?_
    exact ⟨s1.heap.objs.size + 1, [s1.heap.objs.size + 1, s1.heap.objs.size], _, _, H1, rfl, I1.kept (t' := s1.toks) kp, turn_enum a _ _ xs hne, ⟨⟨_, he⟩, hit⟩, fp, q⟩
  | true =>
    obtain ⟨its, rv, ht, hz⟩ := I1.tuple hq
    refine HT.callEnumT ht fun h' he hit hsz kp => wpAny_pyIter_enum he ?_
    exact ⟨s1.heap.objs.size + 1, [s1.heap.objs.size + 1, s1.heap.objs.size], _, _, H1, rfl, I1.kept (t' := s1.toks) kp, turn_enumT a _ _ xs hne, ⟨⟨_, he⟩, hit⟩, fp, q⟩
theorem qi_enum2 {es : List Expr} {k1 : Nat} {p1 p pos : Pos} {l : Expr} {t : TA} (hg : Gl X "enumerate") (hm : X.mg "enumerate" = none) (ha : QA X [l] t) (hs : starEach [l] X.env = [(false, eval l X.env)] := by rfl) :
    QI X (.Tuple es k1 p1) (.Call (.Name "enumerate" p) [l] [] pos) (iEnum2 X.K t) := ⟨pi_enum2 hg hm ha.h hs⟩
end
end L2

set_option Elab.async false
set_option linter.all false
set_option maxRecDepth 100000
set_option maxHeartbeats 4000000
namespace Fz
open PySem PySem.Spec PyProof.Rows L2 Lw
/-! ### values as trees -/
inductive PV where
  | non | bl (b : Bool) | int (i : Int) | str (x : Str) | lst (xs : List PV) | tup (xs : List PV)
mutual
inductive Rep (F : Hp) : V → PV → Prop where
  | non : Rep F .non .non
  | bl (b : Bool) : Rep F (.bl b) (.bl b)
  | int (i : Int) : Rep F (.int i) (.int i)
  | str (x : Str) : Rep F (.str x) (.str x)
  | lst {a : Addr} {vs : List V} {xs : List PV} : F a = some (.lst vs) → Reps F vs xs → Rep F (.ref a) (.lst xs)
  | tup {a : Addr} {vs : List V} {xs : List PV} : F a = some (.tup vs) → Reps F vs xs → Rep F (.ref a) (.tup xs)
inductive Reps (F : Hp) : List V → List PV → Prop where
  | nil : Reps F [] []
  | cons {v : V} {p : PV} {vs : List V} {ps : List PV} : Rep F v p → Reps F vs ps → Reps F (v :: vs) (p :: ps)
end
mutual
theorem Rep.mono {F F' : Hp} (s : Same F F') : ∀ {v : V} {p : PV}, Rep F v p → Rep F' v p
  | _, _, .non => .non
  | _, _, .bl b => .bl b
  | _, _, .int i => .int i
  | _, _, .str x => .str x
  | _, _, .lst h r => .lst (s _ _ h) (Reps.mono s r)
  | _, _, .tup h r => .tup (s _ _ h) (Reps.mono s r)
theorem Reps.mono {F F' : Hp} (s : Same F F') : ∀ {vs : List V} {ps : List PV}, Reps F vs ps → Reps F' vs ps
  | _, _, .nil => .nil
  | _, _, .cons r t => .cons (Rep.mono s r) (Reps.mono s t)
end
theorem Reps.length {F : Hp} : ∀ {vs : List V} {ps : List PV}, Reps F vs ps → vs.length = ps.length
  | [], _, .nil => rfl
  | _ :: _, _, .cons _ t => by rw [List.length_cons, List.length_cons, Reps.length t]
theorem Reps.get {F : Hp} : ∀ {vs : List V} {ps : List PV} {i : Nat} {p : PV}, Reps F vs ps → ps[i]? = some p → ∃ v, vs[i]? = some v ∧ Rep F v p
  | _, _, _, _, .nil, e => by simp at e
  | _, _, 0, _, .cons r _, e => by simp at e; subst e; exact ⟨_, rfl, r⟩
  | _, _, i + 1, p, .cons _ t, e => by
    obtain ⟨u, h1, h2⟩ := Reps.get (i := i) (p := p) t (by simpa using e)
    exact ⟨u, by simpa using h1, h2⟩
theorem Reps.get' {F : Hp} : ∀ {vs : List V} {ps : List PV} {i : Nat} {v : V}, Reps F vs ps → vs[i]? = some v → ∃ p, ps[i]? = some p ∧ Rep F v p
  | _, _, _, _, .nil, e => by simp at e
  | _, _, 0, _, .cons r _, e => by simp at e; subst e; exact ⟨_, rfl, r⟩
  | _, _, i + 1, p, .cons _ t, e => by
    obtain ⟨u, h1, h2⟩ := Reps.get' (i := i) (v := p) t (by simpa using e)
    exact ⟨u, by simpa using h1, h2⟩
theorem Reps.append {F : Hp} : ∀ {vs ws : List V} {ps qs : List PV}, Reps F vs ps → Reps F ws qs → Reps F (vs ++ ws) (ps ++ qs)
  | _, _, _, _, .nil, s => s
  | _, _, _, _, .cons r t, s => .cons r (Reps.append t s)
theorem Reps.take {F : Hp} : ∀ {vs : List V} {ps : List PV} (n : Nat), Reps F vs ps → Reps F (vs.take n) (ps.take n)
  | _, _, 0, _ => by simp only [List.take_zero]; exact .nil
  | _, _, _ + 1, .nil => .nil
  | _, _, n + 1, .cons r t => .cons r (Reps.take n t)
theorem Reps.drop {F : Hp} : ∀ {vs : List V} {ps : List PV} (n : Nat), Reps F vs ps → Reps F (vs.drop n) (ps.drop n)
  | _, _, 0, r => r
  | _, _, _ + 1, .nil => .nil
  | _, _, n + 1, .cons _ t => Reps.drop n t
theorem Reps.one {F : Hp} {v : V} {p : PV} (r : Rep F v p) : Reps F [v] [p] := .cons r .nil
theorem Reps.reverse {F : Hp} : ∀ {vs : List V} {ps : List PV}, Reps F vs ps → Reps F vs.reverse ps.reverse
  | _, _, .nil => .nil
  | _, _, .cons r t => by rw [List.reverse_cons, List.reverse_cons]; exact (Reps.reverse t).append (.one r)
/-- flat things are their own values -/
def flat : PV → Bool
  | .lst _ => false
  | .tup _ => false
  | _ => true
def enc : PV → V
  | .bl b => .bl b
  | .int i => .int i
  | .str x => .str x
  | _ => .non
theorem Rep.enc {F : Hp} {v : V} {p : PV} (h : flat p = true) (r : Rep F v p) : v = enc p := by
  cases r <;> first | rfl | cases h
theorem rep_enc {F : Hp} {p : PV} (h : flat p = true) : Rep F (enc p) p := by
  cases p with
  | non => exact .non
  | bl b => exact .bl b
  | int i => exact .int i
  | str x => exact .str x
  | lst xs => cases h
  | tup xs => cases h
theorem Reps.enc {F : Hp} : ∀ {vs : List V} {ps : List PV}, ps.all flat = true → Reps F vs ps → vs = ps.map enc
  | _, _, _, .nil => rfl
  | _, _, h, .cons r t => by
    rw [List.all_cons, Bool.and_eq_true] at h
    rw [List.map_cons, ← Rep.enc h.1 r, ← Reps.enc h.2 t]
theorem reps_enc {F : Hp} : ∀ {ps : List PV}, ps.all flat = true → Reps F (ps.map enc) ps
  | [], _ => .nil
  | p :: r, h => by
    rw [List.all_cons, Bool.and_eq_true] at h
    exact .cons (rep_enc h.1) (reps_enc h.2)
theorem flat_enc {p : PV} (h : flat p = true) : flatV (Fz.enc p) = true := by cases p <;> first | rfl | cases h
theorem flat_encs {ps : List PV} (h : ps.all flat = true) : (ps.map Fz.enc).all flatV = true := by
  rw [List.all_eq_true]; intro x hx
  obtain ⟨y, hy, rfl⟩ := List.mem_map.mp hx
  exact flat_enc (List.all_eq_true.mp h y hy)
theorem strs_flat (ns : List Str) : (ns.map PV.str).all flat = true := by
  rw [List.all_eq_true]; intro x hx
  obtain ⟨y, _, rfl⟩ := List.mem_map.mp hx; rfl
theorem ints_flat (ns : List Int) : (ns.map PV.int).all flat = true := by
  rw [List.all_eq_true]; intro x hx
  obtain ⟨y, _, rfl⟩ := List.mem_map.mp hx; rfl
theorem bls_flat (ns : List Bool) : (ns.map PV.bl).all flat = true := by
  rw [List.all_eq_true]; intro x hx
  obtain ⟨y, _, rfl⟩ := List.mem_map.mp hx; rfl
theorem enc_strs (ns : List Str) : (ns.map PV.str).map Fz.enc = ns.map V.str := by rw [List.map_map]; rfl
theorem enc_bls (ns : List Bool) : (ns.map PV.bl).map Fz.enc = ns.map V.bl := by rw [List.map_map]; rfl
theorem enc_ints (ns : List Int) : (ns.map PV.int).map Fz.enc = ns.map V.int := by rw [List.map_map]; rfl
theorem Reps.strs {F : Hp} {vs : List V} {ns : List Str} (r : Reps F vs (ns.map PV.str)) : vs = ns.map V.str := (r.enc (strs_flat ns)).trans (enc_strs ns)
theorem reps_strs {F : Hp} (ns : List Str) : Reps F (ns.map V.str) (ns.map PV.str) := by rw [← enc_strs]; exact reps_enc (strs_flat ns)
theorem Reps.bls {F : Hp} {vs : List V} {ns : List Bool} (r : Reps F vs (ns.map PV.bl)) : vs = ns.map V.bl := (r.enc (bls_flat ns)).trans (enc_bls ns)
theorem Reps.ints {F : Hp} {vs : List V} {ns : List Int} (r : Reps F vs (ns.map PV.int)) : vs = ns.map V.int := (r.enc (ints_flat ns)).trans (enc_ints ns)
/-! ### the state: what stands for good (F), what is one's own -/
inductive Slot where
  | any | is (p : PV) | own (xs : List PV) | pot | sq (tp : Bool) (xs : List PV) | raw (P : Hp → V → Prop)
structure Ent where
  A : List Addr
  F0 : Hp
  H0 : Hp
def Ok (E : Ent) (F H : Hp) : Slot → Option (Option V) → Prop
  | .any, _ => True
  | .is p, o => ∃ v, o = some (some v) ∧ Rep F v p
  | .own xs, o => ∃ l vs, o = some (some (.ref l)) ∧ F l = none ∧ E.H0 l = none ∧ H l = some (.lst vs) ∧ Reps F vs xs
  | .pot, o => ∃ l, o = some (some (.ref l)) ∧ F l = none ∧ (E.H0 l = none ∨ l ∈ E.A) ∧ Pot H l
  | .sq true xs, o => ∃ v, o = some (some v) ∧ Rep F v (.tup xs)
  | .sq false xs, o => ∃ l vs, o = some (some (.ref l)) ∧ l ∉ E.A ∧ E.H0 l = some (.lst vs) ∧ Reps F vs xs
  | .raw P, o => ∃ v, o = some (some v) ∧ P F v ∧ ∀ F F', Same F F' → P F v → P F' v
def mutS : Slot → Bool
  | .own _ => true
  | .pot => true
  | _ => false
structure Fin (E : Ent) (F H : Hp) : Prop where
  fh : Same F H
  f0 : Same E.F0 F
  keep : ∀ a o, a ∉ E.A → E.H0 a = some o → H a = some o
  fresh : ∀ a o, F a = some o → E.F0 a = some o ∨ E.H0 a = none
  pots : ∀ a, a ∈ E.A → Pot H a
  potF : ∀ a, a ∈ E.A → F a = none
  a0 : ∀ a, a ∈ E.A → E.H0 a ≠ none
structure Sg (E : Ent) (ss : List Slot) (σ : L2.St) (F H : Hp) : Prop extends Fin E F H where
  len : ss.length = σ.length
  ok : ∀ (i : Nat) s, ss[i]? = some s → Ok E F H s σ[i]?
  dis : ∀ (i j : Nat) s u l, i ≠ j → ss[i]? = some s → ss[j]? = some u → mutS s = true → mutS u = true → σ[i]? = some (some (.ref l)) → σ[j]? ≠ some (some (.ref l))
def Npot (ss : List Slot) (σ : L2.St) (a : Addr) : Prop := ∀ i : Nat, ss[i]? = some .pot → σ[i]? ≠ some (some (.ref a))
structure Mv (E : Ent) (ss : List Slot) (σ : L2.St) (F H F' H' : Hp) : Prop where
  st : Sg E ss σ F' H'
  ff : Same F F'
  hh : ∀ a o, Npot ss σ a → H a = some o → H' a = some o
  nn : ∀ a o, F' a = some o → F a = some o ∨ H a = none
theorem Sg.npotN {E : Ent} {ss : List Slot} {σ : L2.St} {F H : Hp} (S : Sg E ss σ F H) {l : Addr} (h : H l = none) : Npot ss σ l := fun i hi e => by
  obtain ⟨l', e1, _, _, _, _, e2, _⟩ := S.ok i _ hi
  rw [e] at e1
  cases e1
  rw [h] at e2; cases e2
/-- what is new behind a step was new ahead of it -/
theorem Mv.none {E : Ent} {ss : List Slot} {σ : L2.St} {F H F' H' : Hp} (m : Mv E ss σ F H F' H') {a : Addr} (h : H' a = none) : H a = none := by
  cases e : H a with
  | none => rfl
  | some o => rw [m.hh a o (m.st.npotN h) e] at h; cases h
theorem Mv.refl {E : Ent} {ss : List Slot} {σ : L2.St} {F H : Hp} (S : Sg E ss σ F H) : Mv E ss σ F H F H := ⟨S, Same.refl _, fun _ _ _ e => e, fun _ _ e => .inl e⟩
theorem Mv.trans {E : Ent} {ss : List Slot} {σ : L2.St} {F H F1 H1 F2 H2 : Hp} (a : Mv E ss σ F H F1 H1) (b : Mv E ss σ F1 H1 F2 H2) : Mv E ss σ F H F2 H2 :=
  ⟨b.st, a.ff.trans b.ff, fun c o n e => b.hh c o n (a.hh c o n e), fun c o e => (b.nn c o e).elim (fun e => a.nn c o e) fun e => .inr (a.none e)⟩
section
variable {E : Ent} {ss : List Slot} {σ : L2.St} {F H F' H' : Hp}
theorem Sg.new0 (S : Sg E ss σ F H) {p : Addr} (h : H p = none) : E.H0 p = none := by
  cases e : E.H0 p with
  | none => rfl
  | some o =>
    by_cases q : p ∈ E.A
    · obtain ⟨_, _, e1, _⟩ := S.pots p q
      rw [h] at e1; cases e1
    · rw [S.keep p o q e] at h; cases h
theorem Sg.newF (S : Sg E ss σ F H) {p : Addr} (h : H p = none) : F p = none := Same.none S.fh h
theorem Pot.keep {H H' : Hp} {l : Addr} (h : Pot H l) (k : ∀ o, H l = some o → H' l = some o) : Pot H' l := by
  obtain ⟨a, b, e, r⟩ := h
  exact ⟨a, b, k _ e, r⟩
theorem Sg.npotF (S : Sg E ss σ F H) {l : Addr} {o : HO} (h : F l = some o) : Npot ss σ l := fun i hi e => by
  obtain ⟨l', e1, e2, _⟩ := S.ok i _ hi
  rw [e] at e1
  cases e1
  rw [h] at e2; cases e2
theorem Sg.npot0 (S : Sg E ss σ F H) {l : Addr} {o : HO} (hA : l ∉ E.A) (h : E.H0 l = some o) : Npot ss σ l := fun i hi e => by
  obtain ⟨l', e1, _, q, _⟩ := S.ok i _ hi
  rw [e] at e1
  cases e1
  rcases q with q | q
  · rw [h] at q; cases q
  · exact hA q
/-- a step of the heap, by what it keeps -/
theorem Sg.step (S : Sg E ss σ F H) (ff : Same F F') (fh : Same F' H') (hk : ∀ a o, Npot ss σ a → H a = some o → H' a = some o) (hn : ∀ a o, F' a = some o → F a = some o ∨ H a = none)
    (hp : ∀ (i : Nat) l, ss[i]? = some .pot → σ[i]? = some (some (.ref l)) → Pot H' l) : Mv E ss σ F H F' H' := by
  have newF : ∀ a, H a ≠ none → F a = none → F' a = none := fun a h1 h2 => by
    cases e : F' a with
    | none => rfl
    | some o =>
      rcases hn a o e with q | q
      · rw [h2] at q; cases q
      · exact absurd q h1
  have potk : ∀ a, Pot H a → Npot ss σ a → Pot H' a := fun a p n => Pot.keep p fun o e => hk a o n e
  refine ⟨⟨⟨fh, S.f0.trans ff, fun a o hA e => ?_, fun a o e => ?_, fun a hA => ?_, fun a hA => ?_, S.a0⟩, S.len, fun i s hi => ?_, S.dis⟩, ff, hk, hn⟩
  · exact hk a o (S.npot0 hA e) (S.keep a o hA e)
  · rcases hn a o e with q | q
    · exact S.fresh a o q
    · exact .inr (S.new0 q)
  · by_cases q : ∃ i : Nat, ss[i]? = some .pot ∧ σ[i]? = some (some (.ref a))
    · obtain ⟨i, q1, q2⟩ := q
      exact hp i a q1 q2
    · exact potk a (S.pots a hA) fun i h1 h2 => q ⟨i, h1, h2⟩
  · refine newF a ?_ (S.potF a hA)
    obtain ⟨_, _, e1, _⟩ := S.pots a hA
    rw [e1]; simp
  · have k := S.ok i s hi
    cases s with
    | any => trivial
    | is p => obtain ⟨v, e, r⟩ := k; exact ⟨v, e, r.mono ff⟩
    | own xs =>
      obtain ⟨l, vs, e, e1, e2, e3, r⟩ := k
      refine ⟨l, vs, e, newF l (by rw [e3]; simp) e1, e2, hk l _ (fun j hj ej => ?_) e3, r.mono ff⟩
      exact S.dis i j _ _ l (by rintro rfl; rw [hi] at hj; cases hj) hi hj rfl rfl e ej
    | pot =>
      obtain ⟨l, e, e1, e2, e3⟩ := k
      have e3' := e3
      obtain ⟨_, _, e4, _⟩ := e3'
      exact ⟨l, e, newF l (by rw [e4]; simp) e1, e2, hp i l hi e⟩
    | sq tp xs =>
      cases tp with
      | true => obtain ⟨v, e, r⟩ := k; exact ⟨v, e, r.mono ff⟩
      | false => obtain ⟨l, vs, e, e1, e2, r⟩ := k; exact ⟨l, vs, e, e1, e2, r.mono ff⟩
    | raw P => obtain ⟨v, e, r, st⟩ := k; exact ⟨v, e, st _ _ ff r, st⟩
theorem Sg.potAt (S : Sg E ss σ F H) {i : Nat} {l : Addr} (hi : ss[i]? = some .pot) (e : σ[i]? = some (some (.ref l))) : Pot H l := by
  obtain ⟨l', e1, _, _, p⟩ := S.ok i _ hi
  rw [e] at e1; cases e1; exact p
/-- something new, for good -/
theorem Sg.alloc (S : Sg E ss σ F H) {p : Addr} (h : H p = none) (o : HO) : Mv E ss σ F H (upd F p o) (upd H p o) := by
  refine S.step (same_new (S.newF h) _) (fun a u e => ?_) (fun a u _ e => same_new h o a u e) (fun a u e => ?_) fun i l hi e => Pot.keep (S.potAt hi e) fun u e => same_new h o l u e
  · by_cases q : a = p
    · subst q; rw [upd_same] at e ⊢; exact e
    · rw [upd_ne q] at e ⊢; exact S.fh a u e
  · by_cases q : a = p
    · subst q; exact .inr h
    · rw [upd_ne q] at e; exact .inl e
/-- something new, not yet for good -/
theorem Sg.make (S : Sg E ss σ F H) {p : Addr} (h : H p = none) (o : HO) : Mv E ss σ F H F (upd H p o) :=
  S.step (Same.refl _) (S.fh.trans (same_new h o)) (fun a u _ e => same_new h o a u e) (fun a u e => .inl e) fun i l hi e => Pot.keep (S.potAt hi e) fun u e => same_new h o l u e
/-- the heap grew by other things -/
theorem Sg.grow (S : Sg E ss σ F H) (s : Same H H') : Mv E ss σ F H F H' :=
  S.step (Same.refl _) (S.fh.trans s) (fun a u _ e => s a u e) (fun a u e => .inl e) fun i l hi e => Pot.keep (S.potAt hi e) fun u e => s l u e
theorem Sg.setG (S : Sg E ss σ F H) {j : Nat} {s : Slot} {v : V} (hok : Ok E F H s (some (some v))) (hdis : mutS s = true → ∀ (i : Nat) u, i ≠ j → ss[i]? = some u → mutS u = true → σ[i]? ≠ some (some v)) : Sg E (ss.set j s) (σ.set j (some v)) F H := by
  refine ⟨S.toFin, by rw [List.length_set, List.length_set]; exact S.len, fun i u hi => ?_, fun i k u w l hik hi hk mu mw ei => ?_⟩
  · by_cases q : i = j
    · subst q
      have hlt : i < ss.length := by have := (List.getElem?_eq_some_iff.mp hi).1; simpa using this
      rw [List.getElem?_set_self hlt] at hi
      cases hi
      rw [List.getElem?_set_self (by rw [← S.len]; exact hlt)]
      exact hok
    · rw [List.getElem?_set_ne (Ne.symm q)] at hi ⊢
      exact S.ok i u hi
  · by_cases q : i = j
    · subst q
      have hlt : i < ss.length := by have := (List.getElem?_eq_some_iff.mp hi).1; simpa using this
      rw [List.getElem?_set_self hlt] at hi
      rw [List.getElem?_set_self (by rw [← S.len]; exact hlt)] at ei
      cases hi; cases ei
      rw [List.getElem?_set_ne hik] at hk ⊢
      exact hdis mu k w (Ne.symm hik) hk mw
    · rw [List.getElem?_set_ne (Ne.symm q)] at hi ei
      by_cases q2 : k = j
      · subst q2
        have hlt : k < ss.length := by have := (List.getElem?_eq_some_iff.mp hk).1; simpa using this
        rw [List.getElem?_set_self hlt] at hk
        cases hk
        rw [List.getElem?_set_self (by rw [← S.len]; exact hlt)]
        intro e
        cases e
        exact hdis mw i u hik hi mu ei
      · rw [List.getElem?_set_ne (Ne.symm q2)] at hk ⊢
        exact S.dis i k u w l hik hi hk mu mw ei
theorem Sg.setIs (S : Sg E ss σ F H) {j : Nat} {v : V} {p : PV} (r : Rep F v p) : Sg E (ss.set j (.is p)) (σ.set j (some v)) F H := S.setG ⟨v, rfl, r⟩ fun h => by cases h
theorem Sg.newAddr (S : Sg E ss σ F H) {i : Nat} {s : Slot} {l : Addr} (h : ss[i]? = some s) (m : mutS s = true) (hl : H l = none) : σ[i]? ≠ some (some (.ref l)) := fun e => by
  have k := S.ok i s h
  cases s with
  | own xs => obtain ⟨l', vs, e1, _, _, e2, _⟩ := k; rw [e] at e1; cases e1; rw [hl] at e2; cases e2
  | pot => obtain ⟨l', e1, _, _, _, _, e2, _⟩ := k; rw [e] at e1; cases e1; rw [hl] at e2; cases e2
  | _ => cases m
end
end Fz

set_option Elab.async false
set_option linter.all false
set_option maxRecDepth 100000
set_option maxHeartbeats 4000000
namespace Fz
open PySem PySem.Spec PyProof.Rows L2 Lw
/-! ### judgements -/
def Sv (ss : List Slot) (σ : L2.St) (F H : Hp) (v : V) : Bool → List PV → Prop
  | true, xs => Rep F v (.tup xs)
  | false, xs => ∃ l vs, v = .ref l ∧ Npot ss σ l ∧ H l = some (.lst vs) ∧ Reps F vs xs
/-- a sequence that stays while loops go over it -/
def Fv (E : Ent) (F : Hp) (v : V) : Bool → List PV → Prop
  | true, xs => Rep F v (.tup xs)
  | false, xs => ∃ l vs, v = .ref l ∧ (F l = some (.lst vs) ∨ (l ∉ E.A ∧ E.H0 l = some (.lst vs))) ∧ Reps F vs xs
structure Wp (ss : List Slot) (t : TE) (k : PV → Prop) : Prop where
  go : ∀ (E : Ent) (σ : L2.St) (F H : Hp) (Q : VK), Sg E ss σ F H → (∀ v p F' H', Mv E ss σ F H F' H' → Rep F' v p → k p → Q v H') → t σ H Q
structure Wn (ss : List Slot) (t : TE) (k : List PV → Prop) : Prop where
  go : ∀ (E : Ent) (σ : L2.St) (F H : Hp) (Q : VK), Sg E ss σ F H → (∀ l vs xs F' H', Mv E ss σ F H F' H' → F' l = none → H l = none → H' l = some (.lst vs) → Reps F' vs xs → k xs → Q (.ref l) H') → t σ H Q
structure Wq (ss : List Slot) (t : TE) (k : Bool → List PV → Prop) : Prop where
  go : ∀ (E : Ent) (σ : L2.St) (F H : Hp) (Q : VK), Sg E ss σ F H → (∀ v tp xs F' H', Mv E ss σ F H F' H' → Sv ss σ F' H' v tp xs → k tp xs → Q v H') → t σ H Q
structure Wz (ss : List Slot) (t : TE) (k : Bool → List PV → Prop) : Prop where
  go : ∀ (E : Ent) (σ : L2.St) (F H : Hp) (Q : VK), Sg E ss σ F H → (∀ v tp xs F' H', Mv E ss σ F H F' H' → Fv E F' v tp xs → k tp xs → Q v H') → t σ H Q
structure Wt (ss : List Slot) (t : TT) (k : Bool → Prop) : Prop where
  go : ∀ (E : Ent) (σ : L2.St) (F H : Hp) (Q : Bool → Hp → Prop), Sg E ss σ F H → (∀ b F' H', Mv E ss σ F H F' H' → k b → Q b H') → t σ H Q
/-- arguments: no things of one's own among them -/
def Av (ss : List Slot) (σ : L2.St) (F H : Hp) (v : V) : Slot → Prop
  | .is p => Rep F v p
  | .sq tp xs => Sv ss σ F H v tp xs
  | .raw P => P F v ∧ ∀ F F', Same F F' → P F v → P F' v
  | _ => False
inductive Avs (ss : List Slot) (σ : L2.St) (F H : Hp) : List V → List Slot → Prop where
  | nil : Avs ss σ F H [] []
  | cons {v : V} {s : Slot} {vs : List V} {l : List Slot} : Av ss σ F H v s → Avs ss σ F H vs l → Avs ss σ F H (v :: vs) (s :: l)
structure Wa (ss : List Slot) (t : TA) (k : List Slot → Prop) : Prop where
  go : ∀ (E : Ent) (σ : L2.St) (F H : Hp) (Q : List V → Hp → Prop), Sg E ss σ F H → (∀ vs l F' H', Mv E ss σ F H F' H' → Avs ss σ F' H' vs l → k l → Q vs H') → t σ H Q
inductive Ret where
  | is (k : PV → Prop) | new (k : List PV → Prop) | pot
def Ret.ok (R : Ret) (E : Ent) (F' H' : Hp) (v : V) : Prop := match R with
  | .is k => ∃ p, Rep F' v p ∧ k p
  | .new k => ∃ l vs xs, v = .ref l ∧ F' l = none ∧ E.H0 l = none ∧ H' l = some (.lst vs) ∧ Reps F' vs xs ∧ k xs
  | .pot => ∃ l, v = .ref l ∧ F' l = none ∧ E.H0 l = none ∧ Pot H' l
structure Ws (ss : List Slot) (t : TS) (nx : List Slot → Prop) (R : Ret) : Prop where
  go : ∀ (E : Ent) (D : Ends) (σ : L2.St) (F H : Hp), Sg E ss σ F H → (∀ ss' σ' F' H', nx ss' → Sg E ss' σ' F' H' → Same F F' → D.nx σ' H') → (∀ v F' H', Fin E F' H' → R.ok E F' H' v → D.rt v H') → t D σ H
section
variable {E : Ent} {ss : List Slot} {σ : L2.St} {F H F' H' : Hp} {K : PySem.W.Frag} {ta tb tc te : TE} {k : PV → Prop} {v : V} {tp : Bool} {xs : List PV} {nx : List Slot → Prop} {R : Ret}
theorem Sv.mv (h : Sv ss σ F H v tp xs) (m : Mv E ss σ F H F' H') : Sv ss σ F' H' v tp xs := by
  cases tp with
  | true => exact Rep.mono m.ff h
  | false =>
    obtain ⟨l, vs, e, n, r, q⟩ := h
    exact ⟨l, vs, e, n, m.hh l _ n r, q.mono m.ff⟩
theorem Sv.seq (S : Sg E ss σ F H) (h : Sv ss σ F H v tp xs) : ∃ l vs, v = .ref l ∧ H l = some (HOq tp vs) ∧ Reps F vs xs := by
  cases tp with
  | true => cases h with | tup e r => exact ⟨_, _, rfl, S.fh _ _ e, r⟩
  | false => obtain ⟨l, vs, e, _, r, q⟩ := h; exact ⟨l, vs, e, r, q⟩
theorem Fv.sv (S : Sg E ss σ F H) (h : Fv E F v tp xs) : Sv ss σ F H v tp xs := by
  cases tp with
  | true => exact h
  | false =>
    obtain ⟨l, vs, e, h1 | ⟨hA, h1⟩, r⟩ := h
    · exact ⟨l, vs, e, S.npotF h1, S.fh _ _ h1, r⟩
    · exact ⟨l, vs, e, S.npot0 hA h1, S.keep _ _ hA h1, r⟩
theorem Fv.mono (h : Fv E F v tp xs) (s : Same F F') : Fv E F' v tp xs := by
  cases tp with
  | true => exact Rep.mono s h
  | false =>
    obtain ⟨l, vs, e, h1, r⟩ := h
    exact ⟨l, vs, e, h1.imp (fun h => s _ _ h) id, r.mono s⟩
theorem Av.mv {s : Slot} (h : Av ss σ F H v s) (m : Mv E ss σ F H F' H') : Av ss σ F' H' v s := by
  cases s with
  | is p => exact Rep.mono m.ff h
  | sq tp xs => exact Sv.mv h m
  | raw P => exact ⟨h.2 _ _ m.ff h.1, h.2⟩
  | _ => exact h
theorem Avs.mv {vs : List V} {l : List Slot} (h : Avs ss σ F H vs l) (m : Mv E ss σ F H F' H') : Avs ss σ F' H' vs l := by
  induction h with
  | nil => exact .nil
  | cons a _ ih => exact .cons (a.mv m) ih
/-! ### expressions -/
theorem Wp.mono {k' : PV → Prop} (h : Wp ss te k) (i : ∀ p, k p → k' p) : Wp ss te k' := ⟨fun E σ F H Q S q => h.go E σ F H Q S fun v p F' H' m r kk => q v p F' H' m r (i p kk)⟩
theorem wp_var {i : Nat} {p : PV} (h : ss[i]? = some (.is p)) (hk : k p) : Wp ss (tVar i) k := ⟨fun E σ F H Q S q => by
  obtain ⟨v, hv, r⟩ := S.ok i _ h
  exact ⟨v, hv, q v p F H (.refl S) r hk⟩⟩
theorem wp_int {i : Int} (hk : k (.int i)) : Wp ss (tC (.int i)) k := ⟨fun E σ F H Q S q => q _ _ F H (.refl S) (.int i) hk⟩
theorem wp_str {x : Str} (hk : k (.str x)) : Wp ss (tC (.str x)) k := ⟨fun E σ F H Q S q => q _ _ F H (.refl S) (.str x) hk⟩
theorem wp_bl {b : Bool} (hk : k (.bl b)) : Wp ss (tC (.bl b)) k := ⟨fun E σ F H Q S q => q _ _ F H (.refl S) (.bl b) hk⟩
theorem wp_non (hk : k .non) : Wp ss (tC .non) k := ⟨fun E σ F H Q S q => q _ _ F H (.refl S) .non hk⟩
theorem wp_of_wn (h : Wn ss te (fun xs => k (.lst xs))) : Wp ss te k := ⟨fun E σ F H Q S q => h.go E σ F H Q S fun l vs xs F' H' m fl hl hl' r kk => by
  have S' := m.st
  have fr : Mv E ss σ F H (upd F' l (.lst vs)) H' := by
    refine ⟨⟨⟨fun a u e => ?_, S'.f0.trans (same_new fl _), S'.keep, fun a u e => ?_, S'.pots, fun a hA => ?_, S'.a0⟩, S'.len, fun i s hi => ?_, S'.dis⟩, m.ff.trans (same_new fl _), m.hh, fun a u e => ?_⟩
    · by_cases q : a = l
      · subst q; rw [upd_same] at e; rw [← e]; exact hl'
      · rw [upd_ne q] at e; exact S'.fh a u e
    · by_cases q : a = l
      · subst q; exact .inr (S.new0 hl)
      · rw [upd_ne q] at e; exact S'.fresh a u e
    · by_cases q : a = l
      · subst q
        obtain ⟨_, _, e, _⟩ := S.pots _ hA
        rw [hl] at e; cases e
      · rw [upd_ne q]; exact S'.potF a hA
    · have kk := S'.ok i s hi
      cases s with
      | any => trivial
      | is p => obtain ⟨v, e, r⟩ := kk; exact ⟨v, e, r.mono (same_new fl _)⟩
      | own ys =>
        obtain ⟨l', ws, e, e1, e2, e3, r⟩ := kk
        have hne : l' ≠ l := by rintro rfl; exact S.newAddr hi rfl hl e
        exact ⟨l', ws, e, by rw [upd_ne hne]; exact e1, e2, e3, r.mono (same_new fl _)⟩
      | pot =>
        obtain ⟨l', e, e1, e2, e3⟩ := kk
        have hne : l' ≠ l := by rintro rfl; exact S.newAddr hi rfl hl e
        exact ⟨l', e, by rw [upd_ne hne]; exact e1, e2, e3⟩
      | sq tp ys =>
        cases tp with
        | true => obtain ⟨v, e, r⟩ := kk; exact ⟨v, e, r.mono (same_new fl _)⟩
        | false => obtain ⟨l', ws, e, e1, e2, r⟩ := kk; exact ⟨l', ws, e, e1, e2, r.mono (same_new fl _)⟩
      | raw P => obtain ⟨v, e, r, st⟩ := kk; exact ⟨v, e, st _ _ (same_new fl _) r, st⟩
    · by_cases q : a = l
      · subst q; exact .inr hl
      · rw [upd_ne q] at e; exact m.nn a u e
  exact q _ _ _ _ fr (.lst upd_same (r.mono (same_new fl _))) kk⟩
theorem wq_of_wp {k : Bool → List PV → Prop} (h : Wp ss te (fun p => ∃ xs, (p = .lst xs ∧ k false xs) ∨ (p = .tup xs ∧ k true xs))) : Wq ss te k := ⟨fun E σ F H Q S q => h.go E σ F H Q S fun v p F' H' m r ⟨xs, h⟩ => by
  rcases h with ⟨rfl, kk⟩ | ⟨rfl, kk⟩
  · cases r with | lst h r => exact q _ false xs F' H' m ⟨_, _, rfl, m.st.npotF h, m.st.fh _ _ h, r⟩ kk
  · exact q v true xs F' H' m r kk⟩
theorem wq_isL {i : Nat} {k : Bool → List PV → Prop} (h : ss[i]? = some (.is (.lst xs))) (hk : k false xs) : Wq ss (tVar i) k := wq_of_wp (wp_var h ⟨xs, .inl ⟨rfl, hk⟩⟩)
theorem wq_isT {i : Nat} {k : Bool → List PV → Prop} (h : ss[i]? = some (.is (.tup xs))) (hk : k true xs) : Wq ss (tVar i) k := wq_of_wp (wp_var h ⟨xs, .inr ⟨rfl, hk⟩⟩)
theorem wq_own {i : Nat} {k : Bool → List PV → Prop} (h : ss[i]? = some (.own xs)) (hk : k false xs) : Wq ss (tVar i) k := ⟨fun E σ F H Q S q => by
  obtain ⟨l, vs, e, e1, e2, e3, r⟩ := S.ok i _ h
  refine ⟨_, e, q _ false xs F H (.refl S) ⟨l, vs, rfl, fun j hj ej => ?_, e3, r⟩ hk⟩
  exact S.dis i j _ _ l (by rintro rfl; rw [h] at hj; cases hj) h hj rfl rfl e ej⟩
theorem wz_sq {i : Nat} {k : Bool → List PV → Prop} (h : ss[i]? = some (.sq tp xs)) (hk : k tp xs) : Wz ss (tVar i) k := ⟨fun E σ F H Q S q => by
  have kk := S.ok i _ h
  cases tp with
  | true => obtain ⟨v, e, r⟩ := kk; exact ⟨_, e, q _ true xs F H (.refl S) r hk⟩
  | false =>
    obtain ⟨l, vs, e, hA, h0, r⟩ := kk
    exact ⟨_, e, q _ false xs F H (.refl S) ⟨l, vs, rfl, .inr ⟨hA, h0⟩, r⟩ hk⟩⟩
theorem wz_of_wp {k : Bool → List PV → Prop} (h : Wp ss te (fun p => ∃ xs, (p = .lst xs ∧ k false xs) ∨ (p = .tup xs ∧ k true xs))) : Wz ss te k := ⟨fun E σ F H Q S q => h.go E σ F H Q S fun v p F' H' m r ⟨xs, h⟩ => by
  rcases h with ⟨rfl, kk⟩ | ⟨rfl, kk⟩
  · cases r with | lst h r => exact q _ false xs F' H' m ⟨_, _, rfl, .inl h, r⟩ kk
  · exact q _ true xs F' H' m r kk⟩
theorem wq_of_wz {k : Bool → List PV → Prop} (h : Wz ss te k) : Wq ss te k := ⟨fun E σ F H Q S q => h.go E σ F H Q S fun v tp xs F' H' m f kk => q v tp xs F' H' m (f.sv m.st) kk⟩
theorem wq_sq {i : Nat} {k : Bool → List PV → Prop} (h : ss[i]? = some (.sq tp xs)) (hk : k tp xs) : Wq ss (tVar i) k := wq_of_wz (wz_sq h hk)
/-- ints -/
theorem wp_rI {C : Int → Int → Prop} {f : Int → Int → Int} (h : Wp ss ta fun x => ∃ i, x = .int i ∧ Wp ss tb fun y => ∃ j, y = .int j ∧ C i j ∧ k (.int (f i j))) : Wp ss (tOp (rI C fun i j => .int (f i j)) ta tb) k := ⟨fun E σ F H Q S q =>
  h.go E σ F H _ S fun v p F1 H1 m1 r1 ⟨i, e1, h2⟩ => by
    subst e1; cases r1
    exact h2.go E σ F1 H1 _ m1.st fun v2 p2 F2 H2 m2 r2 ⟨j, e2, c, kk⟩ => by
      subst e2; cases r2
      exact ⟨i, j, rfl, rfl, c, q _ _ F2 H2 (m1.trans m2) (.int _) kk⟩⟩
theorem wp_rI0 {f : Int → Int → Int} (h : Wp ss ta fun x => ∃ i, x = .int i ∧ Wp ss tb fun y => ∃ j, y = .int j ∧ k (.int (f i j))) : Wp ss (tOp (rI0 fun i j => .int (f i j)) ta tb) k := ⟨fun E σ F H Q S q =>
  h.go E σ F H _ S fun v p F1 H1 m1 r1 ⟨i, e1, h2⟩ => by
    subst e1; cases r1
    exact h2.go E σ F1 H1 _ m1.st fun v2 p2 F2 H2 m2 r2 ⟨j, e2, kk⟩ => by
      subst e2; cases r2
      exact ⟨i, j, rfl, rfl, q _ _ F2 H2 (m1.trans m2) (.int _) kk⟩⟩
theorem wp_rB0 {f : Int → Int → Bool} (h : Wp ss ta fun x => ∃ i, x = .int i ∧ Wp ss tb fun y => ∃ j, y = .int j ∧ k (.bl (f i j))) : Wp ss (tOp (rI0 fun i j => .bl (f i j)) ta tb) k := ⟨fun E σ F H Q S q =>
  h.go E σ F H _ S fun v p F1 H1 m1 r1 ⟨i, e1, h2⟩ => by
    subst e1; cases r1
    exact h2.go E σ F1 H1 _ m1.st fun v2 p2 F2 H2 m2 r2 ⟨j, e2, kk⟩ => by
      subst e2; cases r2
      exact ⟨i, j, rfl, rfl, q _ _ F2 H2 (m1.trans m2) (.bl _) kk⟩⟩
theorem wp_neg {f : Int → Int} (h : Wp ss ta fun x => ∃ i, x = .int i ∧ k (.int (f i))) : Wp ss (tUn (rU fun i => .int (f i)) ta) k := ⟨fun E σ F H Q S q =>
  h.go E σ F H _ S fun v p F1 H1 m1 r1 ⟨i, e1, kk⟩ => by
    subst e1; cases r1
    exact ⟨i, rfl, q _ _ F1 H1 m1 (.int _) kk⟩⟩
/-- == of two ints, two texts, two truths -/
def alike : PV → PV → Bool
  | .int i, .int j => decide (i = j)
  | .str i, .str j => decide (i = j)
  | .bl i, .bl j => decide (i = j)
  | .non, .non => true
  | _, _ => false
def scalP (p q : PV) : Bool := flat p && flat q && scal (Fz.enc p) (Fz.enc q)
theorem alike_eq {p q : PV} (h : scalP p q = true) : decide (Fz.enc p = Fz.enc q) = alike p q := by
  unfold scalP at h
  rw [Bool.and_eq_true, Bool.and_eq_true] at h
  obtain ⟨⟨h1, h2⟩, h3⟩ := h
  cases p <;> cases q <;> first | (simp [Fz.enc, alike]; done) | (simp [flat] at h1; done) | (simp [flat] at h2; done) | (simp [Fz.enc, scal] at h3; done)
theorem wp_eq (h : Wp ss ta fun x => Wp ss tb fun y => scalP x y = true ∧ k (.bl (alike x y))) : Wp ss (tOp rEq ta tb) k := ⟨fun E σ F H Q S q =>
  h.go E σ F H _ S fun v p F1 H1 m1 r1 h2 => h2.go E σ F1 H1 _ m1.st fun v2 p2 F2 H2 m2 r2 ⟨sc, kk⟩ => by
    have sc' := sc
    unfold scalP at sc
    rw [Bool.and_eq_true, Bool.and_eq_true] at sc
    rw [r1.enc sc.1.1, r2.enc sc.1.2]
    refine ⟨sc.2, ?_⟩
    rw [alike_eq sc']
    exact q _ _ F2 H2 (m1.trans m2) (.bl _) kk⟩
theorem wp_ne (h : Wp ss ta fun x => Wp ss tb fun y => scalP x y = true ∧ k (.bl (!alike x y))) : Wp ss (tOp rNe ta tb) k := ⟨fun E σ F H Q S q =>
  h.go E σ F H _ S fun v p F1 H1 m1 r1 h2 => h2.go E σ F1 H1 _ m1.st fun v2 p2 F2 H2 m2 r2 ⟨sc, kk⟩ => by
    have sc' := sc
    unfold scalP at sc
    rw [Bool.and_eq_true, Bool.and_eq_true] at sc
    rw [r1.enc sc.1.1, r2.enc sc.1.2]
    refine ⟨sc.2, ?_⟩
    rw [alike_eq sc']
    exact q _ _ F2 H2 (m1.trans m2) (.bl _) kk⟩
theorem wp_and (h : Wp ss ta fun x => ∃ c, x = .bl c ∧ if c = true then Wp ss tb k else k (.bl false)) : Wp ss (tAndV ta tb) k := ⟨fun E σ F H Q S q =>
  h.go E σ F H _ S fun v p F1 H1 m1 r1 ⟨c, e, h2⟩ => by
    subst e; cases r1
    refine ⟨c, rfl, ?_⟩
    cases c with
    | true => rw [if_pos rfl] at h2 ⊢; exact h2.go E σ F1 H1 _ m1.st fun v2 p2 F2 H2 m2 r2 kk => q _ _ F2 H2 (m1.trans m2) r2 kk
    | false => rw [if_neg (by decide)] at h2 ⊢; exact q _ _ F1 H1 m1 (.bl _) h2⟩
theorem wp_or (h : Wp ss ta fun x => ∃ c, x = .bl c ∧ if c = true then k (.bl true) else Wp ss tb k) : Wp ss (tOrV ta tb) k := ⟨fun E σ F H Q S q =>
  h.go E σ F H _ S fun v p F1 H1 m1 r1 ⟨c, e, h2⟩ => by
    subst e; cases r1
    refine ⟨c, rfl, ?_⟩
    cases c with
    | true => rw [if_pos rfl] at h2 ⊢; exact q _ _ F1 H1 m1 (.bl _) h2
    | false => rw [if_neg (by decide)] at h2 ⊢; exact h2.go E σ F1 H1 _ m1.st fun v2 p2 F2 H2 m2 r2 kk => q _ _ F2 H2 (m1.trans m2) r2 kk⟩
theorem wp_not (h : Wp ss ta fun x => ∃ c, x = .bl c ∧ k (.bl (!c))) : Wp ss (tNotV ta) k := ⟨fun E σ F H Q S q =>
  h.go E σ F H _ S fun v p F1 H1 m1 r1 ⟨c, e, kk⟩ => by subst e; cases r1; exact ⟨c, rfl, q _ _ F1 H1 m1 (.bl _) kk⟩⟩
theorem wp_ifx {t : TT} (h : Wt ss t fun c => if c = true then Wp ss ta k else Wp ss tb k) : Wp ss (tIf t ta tb) k := ⟨fun E σ F H Q S q =>
  h.go E σ F H _ S fun c F1 H1 m1 h2 => by
    show if c = true then _ else _
    cases c with
    | true => rw [if_pos rfl] at h2 ⊢; exact h2.go E σ F1 H1 _ m1.st fun v2 p2 F2 H2 m2 r2 kk => q _ _ F2 H2 (m1.trans m2) r2 kk
    | false => rw [if_neg (by decide)] at h2 ⊢; exact h2.go E σ F1 H1 _ m1.st fun v2 p2 F2 H2 m2 r2 kk => q _ _ F2 H2 (m1.trans m2) r2 kk⟩
/-- a < b <= c of ints -/
theorem wp_chain {f g : Int → Int → Bool} (h : Wp ss ta fun x => ∃ i, x = .int i ∧ Wp ss tb fun y => ∃ j, y = .int j ∧ if f i j = true then Wp ss tc (fun z => ∃ l, z = .int l ∧ k (.bl (g j l))) else k (.bl false)) :
    Wp ss (tChain (rI0 fun i j => .bl (f i j)) (rI0 fun i j => .bl (g i j)) ta tb tc) k := ⟨fun E σ F H Q S q =>
  h.go E σ F H _ S fun v p F1 H1 m1 r1 ⟨i, e1, h2⟩ => by
    subst e1; cases r1
    exact h2.go E σ F1 H1 _ m1.st fun v2 p2 F2 H2 m2 r2 ⟨j, e2, h3⟩ => by
      subst e2; cases r2
      refine ⟨i, j, rfl, rfl, f i j, rfl, ?_⟩
      cases c : f i j with
      | true =>
        rw [c, if_pos rfl] at h3
        rw [if_pos rfl]
        exact h3.go E σ F2 H2 _ m2.st fun v3 p3 F3 H3 m3 r3 ⟨l, e3, kk⟩ => by
          subst e3; cases r3
          exact ⟨j, l, rfl, rfl, q _ _ F3 H3 (m1.trans (m2.trans m3)) (.bl _) kk⟩
      | false =>
        rw [c, if_neg (by decide)] at h3
        rw [if_neg (by decide)]
        exact q _ _ F2 H2 (m1.trans m2) (.bl _) h3⟩
/-! tests -/
theorem wt_test {k : Bool → Prop} (h : Wp ss te fun x => ∃ c, x = .bl c ∧ k c) : Wt ss (tTest te) k := ⟨fun E σ F H Q S q =>
  h.go E σ F H _ S fun v p F1 H1 m1 r1 ⟨c, e, kk⟩ => by subst e; cases r1; exact ⟨c, rfl, q _ F1 H1 m1 kk⟩⟩
theorem wt_b {k : Bool → Prop} (h : Wp ss te fun x => ∃ c, x = .bl c ∧ k c) : Wt ss (tB te) k := ⟨fun E σ F H Q S q =>
  h.go E σ F H _ S fun v p F1 H1 m1 r1 ⟨c, e, kk⟩ => by subst e; cases r1; exact ⟨c, rfl, q _ F1 H1 m1 kk⟩⟩
theorem wt_true {k : Bool → Prop} (h : k true) : Wt ss tTrue k := ⟨fun E σ F H Q S q => q _ F H (.refl S) h⟩
theorem wt_not {t : TT} {k : Bool → Prop} (h : Wt ss t fun c => k (!c)) : Wt ss (tNot t) k := ⟨fun E σ F H Q S q => h.go E σ F H _ S fun c F1 H1 m1 kk => q _ F1 H1 m1 kk⟩
theorem wt_and {t u : TT} {k : Bool → Prop} (h : Wt ss t fun c => if c = true then Wt ss u k else k false) : Wt ss (tAnd t u) k := ⟨fun E σ F H Q S q =>
  h.go E σ F H _ S fun c F1 H1 m1 h2 => by
    show if c = true then _ else _
    cases c with
    | true => rw [if_pos rfl] at h2 ⊢; exact h2.go E σ F1 H1 _ m1.st fun c2 F2 H2 m2 kk => q _ F2 H2 (m1.trans m2) kk
    | false => rw [if_neg (by decide)] at h2 ⊢; exact q _ F1 H1 m1 h2⟩
theorem wt_or {t u : TT} {k : Bool → Prop} (h : Wt ss t fun c => if c = true then k true else Wt ss u k) : Wt ss (tOr t u) k := ⟨fun E σ F H Q S q =>
  h.go E σ F H _ S fun c F1 H1 m1 h2 => by
    show if c = true then _ else _
    cases c with
    | true => rw [if_pos rfl] at h2 ⊢; exact q _ F1 H1 m1 h2
    | false => rw [if_neg (by decide)] at h2 ⊢; exact h2.go E σ F1 H1 _ m1.st fun c2 F2 H2 m2 kk => q _ F2 H2 (m1.trans m2) kk⟩
end
end Fz

set_option Elab.async false
set_option linter.all false
set_option maxRecDepth 100000
set_option maxHeartbeats 4000000
namespace Fz
open PySem PySem.Spec PyProof.Rows L2 Lw
structure We (ss : List Slot) (t : TA) (k : List PV → Prop) : Prop where
  go : ∀ (E : Ent) (σ : L2.St) (F H : Hp) (Q : List V → Hp → Prop), Sg E ss σ F H → (∀ vs ps F' H', Mv E ss σ F H F' H' → Reps F' vs ps → k ps → Q vs H') → t σ H Q
structure Wo (ss : List Slot) (t : TO) (k : Option Int → Prop) : Prop where
  go : ∀ (E : Ent) (σ : L2.St) (F H : Hp) (Q : Option Int → Hp → Prop), Sg E ss σ F H → (∀ o F' H', Mv E ss σ F H F' H' → k o → Q o H') → t σ H Q
section
variable {E : Ent} {ss : List Slot} {σ : L2.St} {F H F' H' : Hp} {K : PySem.W.Frag} {ta tb tc te : TE} {k : PV → Prop} {v : V} {tp : Bool} {xs : List PV} {nx : List Slot → Prop} {R : Ret}
theorem we_nil {k : List PV → Prop} (h : k []) : We ss tNil k := ⟨fun E σ F H Q S q => q _ _ F H (.refl S) .nil h⟩
theorem we_cons {k : List PV → Prop} {t : TA} (h : Wp ss te fun p => We ss t fun ps => k (p :: ps)) : We ss (tCons te t) k := ⟨fun E σ F H Q S q =>
  h.go E σ F H _ S fun v p F1 H1 m1 r1 h2 => h2.go E σ F1 H1 _ m1.st fun vs ps F2 H2 m2 r2 kk => q _ _ F2 H2 (m1.trans m2) (.cons (r1.mono m2.ff) r2) kk⟩
theorem wa_nil {k : List Slot → Prop} (h : k []) : Wa ss tNil k := ⟨fun E σ F H Q S q => q _ _ F H (.refl S) .nil h⟩
theorem wa_is {k : List Slot → Prop} {t : TA} (h : Wp ss te fun p => Wa ss t fun l => k (.is p :: l)) : Wa ss (tCons te t) k := ⟨fun E σ F H Q S q =>
  h.go E σ F H _ S fun v p F1 H1 m1 r1 h2 => h2.go E σ F1 H1 _ m1.st fun vs l F2 H2 m2 r2 kk => q _ _ F2 H2 (m1.trans m2) (.cons (s := .is p) (r1.mono m2.ff) r2) kk⟩
theorem wa_sq {k : List Slot → Prop} {t : TA} (h : Wq ss te fun tp xs => Wa ss t fun l => k (.sq tp xs :: l)) : Wa ss (tCons te t) k := ⟨fun E σ F H Q S q =>
  h.go E σ F H _ S fun v tp xs F1 H1 m1 r1 h2 => h2.go E σ F1 H1 _ m1.st fun vs l F2 H2 m2 r2 kk => q _ _ F2 H2 (m1.trans m2) (.cons (s := .sq tp xs) (r1.mv m2) r2) kk⟩
theorem wa_raw {k : List Slot → Prop} {t : TA} {i : Nat} {P : Hp → V → Prop} (hi : ss[i]? = some (.raw P)) (h : Wa ss t fun l => k (.raw P :: l)) : Wa ss (tCons (tVar i) t) k := ⟨fun E σ F H Q S q => by
  obtain ⟨v, e, r, st⟩ := S.ok i _ hi
  exact ⟨v, e, h.go E σ F H _ S fun vs l F2 H2 m2 r2 kk => q _ _ F2 H2 m2 (.cons (s := .raw P) ⟨st _ _ m2.ff r, st⟩ r2) kk⟩⟩
theorem wo_none {k : Option Int → Prop} (h : k none) : Wo ss tNoPart k := ⟨fun E σ F H Q S q => q _ F H (.refl S) h⟩
theorem wo_some {k : Option Int → Prop} (h : Wp ss te fun p => ∃ i, p = .int i ∧ k (some i)) : Wo ss (tPart te) k := ⟨fun E σ F H Q S q =>
  h.go E σ F H _ S fun v p F1 H1 m1 r1 ⟨i, e, kk⟩ => by subst e; cases r1; exact ⟨i, rfl, q _ F1 H1 m1 kk⟩⟩
theorem small' {n : Nat} (h : n ≤ 100000) : n ≤ sizeLine := small h
theorem small1 {n : Nat} (h : n ≤ 99999) : n < sizeLine := Nat.lt_of_lt_of_le (Nat.lt_succ_of_le h) (small (Nat.le_refl 100000))
/-! displays -/
theorem wp_tup {t : TA} (h : We ss t fun ps => ps.length ≤ 100000 ∧ k (.tup ps)) : Wp ss (tTup t) k := ⟨fun E σ F H Q S q =>
  h.go E σ F H _ S fun vs ps F1 H1 m1 r1 ⟨hz, kk⟩ => ⟨small (by rw [r1.length]; exact hz), fun a ha => by
    have m2 := m1.st.alloc ha (.tup vs)
    exact q _ _ _ _ (m1.trans m2) (.tup upd_same (r1.mono m2.ff)) kk⟩⟩
theorem wn_lst {t : TA} {k : List PV → Prop} (h : We ss t fun ps => ps.length ≤ 100000 ∧ k ps) : Wn ss (tLst t) k := ⟨fun E σ F H Q S q =>
  h.go E σ F H _ S fun vs ps F1 H1 m1 r1 ⟨hz, kk⟩ => ⟨small (by rw [r1.length]; exact hz), fun a ha => by
    have m2 := m1.st.make ha (.lst vs)
    refine q a vs ps F1 _ (m1.trans m2) (m1.st.newF ha) ?_ upd_same r1 kk
    cases e : H a with
    | none => rfl
    | some o => rw [m1.hh a o (m1.st.npotN ha) e] at ha; cases ha⟩⟩
/-! len, index, in -/
theorem wp_len (h : Wq ss te fun _ xs => k (.int xs.length)) : Wp ss (tCB (rLenS K) (tCons te tNil)) k := ⟨fun E σ F H Q S q =>
  h.go E σ F H _ S fun v tp xs F1 H1 m1 sv kk => by
    obtain ⟨l, vs, rfl, hl, r⟩ := sv.seq m1.st
    refine ⟨l, vs, rfl, (HOq.sq (K := K) hl).or, ?_⟩
    rw [r.length]
    exact q _ _ F1 H1 m1 (.int _) kk⟩
theorem Reps.atI {vs : List V} {i : Int} {p : PV} (r : Reps F vs xs) (h : L2.atI xs i = some p) : ∃ u, L2.atI vs i = some u ∧ Rep F u p := by
  unfold L2.atI at h ⊢
  rw [r.length]
  cases e : ixN xs.length i with
  | none => rw [e] at h; cases h
  | some j =>
    rw [e] at h
    exact r.get h
theorem wp_ixL (h : Wq ss ta fun tp xs => tp = false ∧ Wp ss tb fun y => ∃ i p, y = .int i ∧ L2.atI xs i = some p ∧ k p) : Wp ss (tOp (rIxL K) ta tb) k := ⟨fun E σ F H Q S q =>
  h.go E σ F H _ S fun v tp xs F1 H1 m1 sv ⟨et, h2⟩ => h2.go E σ F1 H1 _ m1.st fun v2 p2 F2 H2 m2 r2 ⟨i, p, e, ha, kk⟩ => by
    subst e; cases r2; subst et
    obtain ⟨l, vs, rfl, hl, r⟩ := (sv.mv m2).seq m2.st
    obtain ⟨u, hu, ru⟩ := r.atI ha
    exact ⟨l, vs, i, u, rfl, rfl, SqL.of hl, hu, q _ _ F2 H2 (m1.trans m2) ru kk⟩⟩
theorem wp_ixT (h : Wq ss ta fun tp xs => tp = true ∧ Wp ss tb fun y => ∃ i p, y = .int i ∧ L2.atI xs i = some p ∧ k p) : Wp ss (tOp (rIxT K) ta tb) k := ⟨fun E σ F H Q S q =>
  h.go E σ F H _ S fun v tp xs F1 H1 m1 sv ⟨et, h2⟩ => h2.go E σ F1 H1 _ m1.st fun v2 p2 F2 H2 m2 r2 ⟨i, p, e, ha, kk⟩ => by
    subst e; cases r2; subst et
    obtain ⟨l, vs, rfl, hl, r⟩ := (sv.mv m2).seq m2.st
    obtain ⟨u, hu, ru⟩ := r.atI ha
    exact ⟨l, vs, i, u, rfl, rfl, SqT.of hl, hu, q _ _ F2 H2 (m1.trans m2) ru kk⟩⟩
theorem wp_ixQ (h : Wq ss ta fun tp xs => Wp ss tb fun y => ∃ i p, y = .int i ∧ L2.atI xs i = some p ∧ k p) : Wp ss (tOp (fun x y H Q => rIxL K x y H Q ∨ rIxT K x y H Q) ta tb) k := ⟨fun E σ F H Q S q =>
  h.go E σ F H _ S fun v tp xs F1 H1 m1 sv h2 => h2.go E σ F1 H1 _ m1.st fun v2 p2 F2 H2 m2 r2 ⟨i, p, e, ha, kk⟩ => by
    subst e; cases r2
    obtain ⟨l, vs, rfl, hl, r⟩ := (sv.mv m2).seq m2.st
    obtain ⟨u, hu, ru⟩ := r.atI ha
    cases tp with
    | false => exact .inl ⟨l, vs, i, u, rfl, rfl, SqL.of hl, hu, q _ _ F2 H2 (m1.trans m2) ru kk⟩
    | true => exact .inr ⟨l, vs, i, u, rfl, rfl, SqT.of hl, hu, q _ _ F2 H2 (m1.trans m2) ru kk⟩⟩
theorem wp_in {neg : Bool} (h : Wp ss ta fun p => ∃ x, p = .str x ∧ Wq ss tb fun _ ys => ∃ ns : List Str, ys = ns.map PV.str ∧ k (.bl (if neg then !decide (x ∈ ns) else decide (x ∈ ns)))) : Wp ss (tOp (rIn K neg) ta tb) k := ⟨fun E σ F H Q S q =>
  h.go E σ F H _ S fun v p F1 H1 m1 r1 ⟨x, e, h2⟩ => by
    subst e; cases r1
    exact h2.go E σ F1 H1 _ m1.st fun v2 tp ys F2 H2 m2 sv ⟨ns, e2, kk⟩ => by
      subst e2
      obtain ⟨l, vs, rfl, hl, r⟩ := sv.seq m2.st
      rw [r.strs] at hl
      refine ⟨l, _, rfl, (HOq.sq (K := K) hl).or, rfl, flat_strs ns, ?_⟩
      rw [inV_strs]
      exact q _ _ F2 H2 (m1.trans m2) (.bl _) kk⟩
/-! new lists -/
theorem wn_list {k : List PV → Prop} {r : List V → Hp → VK → Prop} (hr : r = fun xs H Q => ∃ p ys, xs = [.ref p] ∧ (SqL K H p ys ∨ SqT K H p ys) ∧ ∀ l, H l = none → Q (.ref l) (upd H l (.lst ys))) (h : Wq ss te fun _ xs => k xs) : Wn ss (tCB r (tCons te tNil)) k := ⟨fun E σ F H Q S q =>
  h.go E σ F H _ S fun v tp xs F1 H1 m1 sv kk => by
    subst hr
    obtain ⟨l, vs, rfl, hl, r⟩ := sv.seq m1.st
    refine ⟨l, vs, rfl, (HOq.sq (K := K) hl).or, fun a ha => ?_⟩
    have m2 := m1.st.make ha (.lst vs)
    exact q a vs xs F1 _ (m1.trans m2) (m1.st.newF ha) (m1.none ha) upd_same r kk⟩
theorem wp_tupleOf {r : List V → Hp → VK → Prop} (hr : r = fun xs H Q => ∃ p ys, xs = [.ref p] ∧ ((SqL K H p ys ∧ ∀ l, H l = none → Q (.ref l) (upd H l (.tup ys))) ∨ (SqT K H p ys ∧ Q (.ref p) H))) (h : Wq ss te fun _ xs => k (.tup xs)) : Wp ss (tCB r (tCons te tNil)) k := ⟨fun E σ F H Q S q =>
  h.go E σ F H _ S fun v tp xs F1 H1 m1 sv kk => by
    subst hr
    cases tp with
    | false =>
      obtain ⟨l, vs, rfl, hl, r⟩ := sv.seq m1.st
      refine ⟨l, vs, rfl, .inl ⟨SqL.of hl, fun a ha => ?_⟩⟩
      have m2 := m1.st.alloc ha (.tup vs)
      exact q _ _ _ _ (m1.trans m2) (.tup upd_same (r.mono m2.ff)) kk
    | true =>
      have sv' : Rep F1 v (.tup xs) := sv
      cases sv' with
      | tup e r => exact ⟨_, _, rfl, .inr ⟨SqT.of (m1.st.fh _ _ e), q _ _ F1 H1 m1 (.tup e r) kk⟩⟩⟩
theorem wn_cat {k : List PV → Prop} (h : Wq ss ta fun tp xs => tp = false ∧ Wq ss tb fun tp2 ys => tp2 = false ∧ xs.length + ys.length ≤ 100000 ∧ k (xs ++ ys)) : Wn ss (tOp rCat ta tb) k := ⟨fun E σ F H Q S q =>
  h.go E σ F H _ S fun v tp xs F1 H1 m1 sv ⟨et, h2⟩ => h2.go E σ F1 H1 _ m1.st fun v2 tp2 ys F2 H2 m2 sv2 ⟨et2, hz, kk⟩ => by
    subst et; subst et2
    obtain ⟨l, vs, rfl, hl, r⟩ := (sv.mv m2).seq m2.st
    obtain ⟨l2, vs2, rfl, hl2, r2⟩ := sv2.seq m2.st
    refine ⟨l, l2, vs, vs2, rfl, rfl, hl, hl2, small (by rw [r.length, r2.length]; exact hz), fun a ha => ?_⟩
    have m3 := m2.st.make ha (.lst (vs ++ vs2))
    exact q a _ _ F2 _ (m1.trans (m2.trans m3)) (m2.st.newF ha) ((m1.trans m2).none ha) upd_same (r.append r2) kk⟩
def cutP {α : Type} (xs : List α) (lo hi : Option Int) : List α := (xs.drop (HT.sIx xs.length 0 lo)).take (HT.sIx xs.length xs.length hi - HT.sIx xs.length 0 lo)
theorem Reps.cut {vs : List V} (r : Reps F vs xs) (lo hi : Option Int) : Reps F (cutV vs lo hi) (cutP xs lo hi) := by
  unfold cutV cutP
  rw [r.length]
  exact (r.drop _).take _
theorem wn_slice {k : List PV → Prop} {tl th : TO} (h : Wq ss te fun tp xs => tp = false ∧ Wo ss tl fun lo => Wo ss th fun hi => k (cutP xs lo hi)) : Wn ss (tSl (rSlL K) te tl th) k := ⟨fun E σ F H Q S q =>
  h.go E σ F H _ S fun v tp xs F1 H1 m1 sv ⟨et, h2⟩ => h2.go E σ F1 H1 _ m1.st fun lo F2 H2 m2 h3 => h3.go E σ F2 H2 _ m2.st fun hi F3 H3 m3 kk => by
    subst et
    obtain ⟨l, vs, rfl, hl, r⟩ := (sv.mv (m2.trans m3)).seq m3.st
    refine ⟨l, vs, rfl, SqL.of hl, fun a ha => ?_⟩
    have m4 := m3.st.make ha (.lst (cutV vs lo hi))
    exact q a _ _ F3 _ (m1.trans (m2.trans (m3.trans m4))) (m3.st.newF ha) ((m1.trans (m2.trans m3)).none ha) upd_same (r.cut lo hi) kk⟩
def seqP (tp : Bool) (xs : List PV) : PV := if tp then .tup xs else .lst xs
/-- x[lo:hi] of a list or a tuple -/
def rSl2 (K : PySem.W.Frag) : V → Option Int → Option Int → Hp → VK → Prop := fun x lo hi H Q => rSlL K x lo hi H Q ∨ rSlA K x lo hi H Q
theorem sl_two {X : Cx} : SlR X (rSl2 X.K) := by
  intro pins s σ H x v vl vu lo hi sl Q I rx hs pl pu h
  rcases h with h | h
  · exact sl_list pins s σ H x v vl vu lo hi sl Q I rx hs pl pu h
  · exact sl_tupA pins s σ H x v vl vu lo hi sl Q I rx hs pl pu h
theorem freeze_new (m : Mv E ss σ F H F' H') {a : Addr} {o : HO} (ha : H' a = none) : Mv E ss σ F H (upd F' a o) (upd H' a o) := m.trans (m.st.alloc ha o)
theorem wp_slice2 {tl th : TO} (h : Wq ss te fun tp xs => Wo ss tl fun lo => Wo ss th fun hi => k (seqP tp (cutP xs lo hi))) : Wp ss (tSl (rSl2 K) te tl th) k := ⟨fun E σ F H Q S q =>
  h.go E σ F H _ S fun v tp xs F1 H1 m1 sv h2 => h2.go E σ F1 H1 _ m1.st fun lo F2 H2 m2 h3 => h3.go E σ F2 H2 _ m2.st fun hi F3 H3 m3 kk => by
    have sv3 := sv.mv (m2.trans m3)
    have m13 := m1.trans (m2.trans m3)
    cases tp with
    | false =>
      obtain ⟨l, vs, rfl, hl, r⟩ := sv3.seq m3.st
      refine .inl ⟨l, vs, rfl, SqL.of hl, fun a ha => ?_⟩
      have m4 := m3.st.alloc ha (.lst (cutV vs lo hi))
      exact q _ _ _ _ (m13.trans m4) (.lst upd_same ((r.cut lo hi).mono m4.ff)) kk
    | true =>
      have sv' : Rep F3 v (.tup xs) := sv3
      cases sv' with
      | @tup _ vs _ e r =>
        refine .inr ⟨_, vs, rfl, SqT.of (m3.st.fh _ _ e), fun hw => ?_, fun hw a ha => ?_⟩
        · have ew : cutP xs lo hi = xs := by
            rw [r.length] at hw
            unfold cutP; rw [hw.1, hw.2]; simp
          refine q _ _ F3 H3 m13 (.tup e r) ?_
          have kk' := kk
          rw [ew] at kk'
          exact kk'
        · have m4 := m3.st.alloc ha (.tup (cutV vs lo hi))
          exact q _ _ _ _ (m13.trans m4) (.tup upd_same ((r.cut lo hi).mono m4.ff)) kk⟩
theorem wn_sorted {k : List PV → Prop} (h : Wq ss te fun _ xs => ∃ ns : List Str, xs = ns.map PV.str ∧ ns.length < 64 ∧ ∀ ns' : List Str, ns'.Perm ns → sortedS ns' = true → k (ns'.map PV.str)) : Wn ss (tCB (rSorted K) (tCons te tNil)) k := ⟨fun E σ F H Q S q =>
  h.go E σ F H _ S fun v tp xs F1 H1 m1 sv ⟨ns, e, hz, kk⟩ => by
    subst e
    obtain ⟨l, vs, rfl, hl, r⟩ := sv.seq m1.st
    rw [r.strs] at hl
    refine ⟨l, tp, ns, rfl, HOq.sq hl, hz, fun a ns' ha hp hs => ?_⟩
    have m2 := m1.st.make ha (.lst (ns'.map V.str))
    exact q a _ _ F1 _ (m1.trans m2) (m1.st.newF ha) (m1.none ha) upd_same (reps_strs ns') (kk ns' hp hs)⟩
/-! == of rows of texts -/
theorem eqVs_strs2 (xs ys : List Str) : eqVs (xs.map V.str) (ys.map V.str) = decide (xs = ys) := by
  by_cases h : xs = ys
  · subst h; rw [eqVs_strs, decide_eq_true rfl]
  · rw [decide_eq_false h]
    by_cases hl : xs.length = ys.length
    · rw [eqVs_same (by simpa using hl)]
      cases c : (List.range (xs.map V.str).length).all fun j => eqV ((xs.map V.str).getD j .non) ((ys.map V.str).getD j .non) with
      | false => rfl
      | true =>
        exfalso
        apply h
        apply List.ext_getElem hl
        intro j h1 h2
        have q := List.all_eq_true.mp c j (List.mem_range.mpr (by simpa using h1))
        have e1 : (xs.map V.str)[j]? = some (.str xs[j]) := by rw [List.getElem?_map, List.getElem?_eq_getElem h1]; rfl
        have e2 : (ys.map V.str)[j]? = some (.str ys[j]) := by rw [List.getElem?_map, List.getElem?_eq_getElem h2]; rfl
        rw [getD_of e1, getD_of e2] at q
        have q' : (xs[j] == ys[j]) = true := q
        simpa using q'
    · rw [eqVs_ne (by simpa using hl)]
theorem wp_eqS {neg : Bool} (h : Wq ss ta fun tp xs => ∃ ns : List Str, xs = ns.map PV.str ∧ Wq ss tb fun tp2 ys => tp2 = tp ∧ ∃ ms : List Str, ys = ms.map PV.str ∧ k (.bl (if neg then !decide (ns = ms) else decide (ns = ms)))) : Wp ss (tOp (rEqS K neg) ta tb) k := ⟨fun E σ F H Q S q =>
  h.go E σ F H _ S fun v tp xs F1 H1 m1 sv ⟨ns, e1, h2⟩ => h2.go E σ F1 H1 _ m1.st fun v2 tp2 ys F2 H2 m2 sv2 ⟨et, ms, e2, kk⟩ => by
    subst e1; subst e2; subst et
    obtain ⟨l, vs, rfl, hl, r⟩ := (sv.mv m2).seq m2.st
    obtain ⟨l2, vs2, rfl, hl2, r2⟩ := sv2.seq m2.st
    rw [r.strs] at hl
    rw [r2.strs] at hl2
    refine ⟨l, l2, ns.map V.str, ms.map V.str, rfl, rfl, ?_, flat_strs _, flat_strs _, ?_⟩
    · cases tp2
      · exact .inl ⟨SqL.of hl, SqL.of hl2⟩
      · exact .inr ⟨SqT.of hl, SqT.of hl2⟩
    · rw [eqVs_strs2]
      cases neg
      · exact q _ _ F2 H2 (m1.trans m2) (.bl _) kk
      · exact q _ _ F2 H2 (m1.trans m2) (.bl _) kk⟩
/-! all, any, isinstance -/
theorem wp_all {r : List V → Hp → VK → Prop} (hr : r = fun xs H Q => ∃ (p : Addr) (bs : List Bool), xs = [.ref p] ∧ SqL K H p (bs.map V.bl) ∧ Q (.bl (bs.all id)) H) (h : Wq ss te fun tp xs => tp = false ∧ ∃ bs : List Bool, xs = bs.map PV.bl ∧ k (.bl (bs.all id))) : Wp ss (tCB r (tCons te tNil)) k := ⟨fun E σ F H Q S q =>
  h.go E σ F H _ S fun v tp xs F1 H1 m1 sv ⟨et, bs, e, kk⟩ => by
    subst hr; subst e; subst et
    obtain ⟨l, vs, rfl, hl, r⟩ := sv.seq m1.st
    rw [r.bls] at hl
    exact ⟨l, bs, rfl, SqL.of hl, q _ _ F1 H1 m1 (.bl _) kk⟩⟩
theorem wp_any {r : List V → Hp → VK → Prop} (hr : r = fun xs H Q => ∃ (p : Addr) (bs : List Bool), xs = [.ref p] ∧ SqL K H p (bs.map V.bl) ∧ Q (.bl (bs.any id)) H) (h : Wq ss te fun tp xs => tp = false ∧ ∃ bs : List Bool, xs = bs.map PV.bl ∧ k (.bl (bs.any id))) : Wp ss (tCB r (tCons te tNil)) k := ⟨fun E σ F H Q S q =>
  h.go E σ F H _ S fun v tp xs F1 H1 m1 sv ⟨et, bs, e, kk⟩ => by
    subst hr; subst e; subst et
    obtain ⟨l, vs, rfl, hl, r⟩ := sv.seq m1.st
    rw [r.bls] at hl
    exact ⟨l, bs, rfl, SqL.of hl, q _ _ F1 H1 m1 (.bl _) kk⟩⟩
def tyP : PV → String
  | .non => "NoneType"
  | .bl _ => "bool"
  | .int _ => "int"
  | .str _ => "str"
  | .lst _ => "list"
  | .tup _ => "tuple"
theorem Rep.tyOf {p : PV} (s : Same F H) (r : Rep F v p) : TyOf K H v (.type (tyP p)) := by
  cases r with
  | non => exact .non
  | bl b => exact .bl b
  | int i => exact .int i
  | str x => exact .str x
  | lst h _ => exact .lst (s _ _ h)
  | tup h _ => exact .tup (s _ _ h)
def kitB (a b : String) : Bool := a == b || (a == "bool" && b == "int")
theorem wp_isi {n : String} (h : Wp ss te fun p => ∃ b, PySem.W.kitOne K (.type (tyP p)) (.type n) = some b ∧ k (.bl b)) : Wp ss (tCB (rIsi K) (tCons te (tCons (tC (.ty n)) tNil))) k := ⟨fun E σ F H Q S q =>
  h.go E σ F H _ S fun v p F1 H1 m1 r ⟨b, hb, kk⟩ => ⟨v, n, _, b, rfl, r.tyOf m1.st.fh, hb, q _ _ F1 H1 m1 (.bl _) kk⟩⟩
theorem wp_isiQ {n : String} (h : Wq ss te fun tp xs => ∃ b, PySem.W.kitOne K (.type (tyP (seqP tp xs))) (.type n) = some b ∧ k (.bl b)) : Wp ss (tCB (rIsi K) (tCons te (tCons (tC (.ty n)) tNil))) k := ⟨fun E σ F H Q S q =>
  h.go E σ F H _ S fun v tp xs F1 H1 m1 sv ⟨b, hb, kk⟩ => by
    obtain ⟨l, vs, rfl, hl, r⟩ := sv.seq m1.st
    refine ⟨_, n, _, b, rfl, ?_, hb, q _ _ F1 H1 m1 (.bl _) kk⟩
    cases tp
    · exact .lst hl
    · exact .tup hl⟩
theorem wp_max {r : List V → Hp → VK → Prop} (hr : r = fun xs H Q => ∃ i j, xs = [.int i, .int j] ∧ Q (.int (if j > i then j else i)) H) (h : Wp ss ta fun x => ∃ i, x = .int i ∧ Wp ss tb fun y => ∃ j, y = .int j ∧ k (.int (if j > i then j else i))) : Wp ss (tCB r (tCons ta (tCons tb tNil))) k := ⟨fun E σ F H Q S q =>
  h.go E σ F H _ S fun v p F1 H1 m1 r1 ⟨i, e1, h2⟩ => by
    subst hr; subst e1; cases r1
    exact h2.go E σ F1 H1 _ m1.st fun v2 p2 F2 H2 m2 r2 ⟨j, e2, kk⟩ => by
      subst e2; cases r2
      exact ⟨i, j, rfl, q _ _ F2 H2 (m1.trans m2) (.int _) kk⟩⟩
theorem wp_min {r : List V → Hp → VK → Prop} (hr : r = fun xs H Q => ∃ i j, xs = [.int i, .int j] ∧ Q (.int (if j < i then j else i)) H) (h : Wp ss ta fun x => ∃ i, x = .int i ∧ Wp ss tb fun y => ∃ j, y = .int j ∧ k (.int (if j < i then j else i))) : Wp ss (tCB r (tCons ta (tCons tb tNil))) k := ⟨fun E σ F H Q S q =>
  h.go E σ F H _ S fun v p F1 H1 m1 r1 ⟨i, e1, h2⟩ => by
    subst hr; subst e1; cases r1
    exact h2.go E σ F1 H1 _ m1.st fun v2 p2 F2 H2 m2 r2 ⟨j, e2, kk⟩ => by
      subst e2; cases r2
      exact ⟨i, j, rfl, q _ _ F2 H2 (m1.trans m2) (.int _) kk⟩⟩
end
end Fz

set_option Elab.async false
set_option linter.all false
set_option maxRecDepth 100000
set_option maxHeartbeats 4000000
namespace Fz
open PySem PySem.Spec PyProof.Rows L2 Lw
/-! ### what is walked -/
structure Src (E : Ent) (F1 : Hp) (J : It) (xs : List PV) : Prop where
  go : ∀ (ss : List Slot) (σ : L2.St) (F H : Hp) (i : Nat), Same F1 F → Sg E ss σ F H → i < xs.length → J.go i H
  stop : ∀ (ss : List Slot) (σ : L2.St) (F H : Hp), Same F1 F → Sg E ss σ F H → J.stop xs.length H
  yld : ∀ (ss : List Slot) (σ : L2.St) (F H : Hp) (i : Nat) (x : V) (H' : Hp), Same F1 F → Sg E ss σ F H → i < xs.length → J.yld i H x H' → ∃ p F', xs[i]? = some p ∧ Mv E ss σ F H F' H' ∧ Rep F' x p
structure Wi (ss : List Slot) (wi : TI) (k : List PV → Prop) : Prop where
  go : ∀ (E : Ent) (σ : L2.St) (F H : Hp) (R : It → Hp → Prop), Sg E ss σ F H → (∀ J xs F' H', Mv E ss σ F H F' H' → Src E F' J xs → k xs → R J H') → wi σ H R
structure Wg (ss : List Slot) (g : TG) (p : PV) (k : List Slot → Prop) : Prop where
  go : ∀ (E : Ent) (σ : L2.St) (F H : Hp) (v : V) (Q : L2.St → Hp → Prop), Sg E ss σ F H → Rep F v p → (∀ ss' σ', k ss' → Sg E ss' σ' F H → Q σ' H) → g v σ H Q
section
variable {E : Ent} {ss : List Slot} {σ : L2.St} {F H F' H' : Hp} {K : PySem.W.Frag} {ta tb tc te : TE} {k : PV → Prop} {v : V} {tp : Bool} {xs : List PV} {nx : List Slot → Prop} {R : Ret}
theorem src_sq {l : Addr} {vs : List V} (h : ∀ (ss : List Slot) (σ : L2.St) (F H : Hp), Same F' F → Sg E ss σ F H → H l = some (HOq tp vs)) (r : Reps F' vs xs) : Src E F' (Its K tp l vs) xs where
  go := fun ss σ F H i s S hi => ⟨HOq.sq (h ss σ F H s S), by rw [r.length]; exact hi⟩
  stop := fun ss σ F H s S => ⟨HOq.sq (h ss σ F H s S), by rw [r.length]; exact Nat.le_refl _⟩
  yld := fun ss σ F H i x H' s S hi y => by
    obtain ⟨e, hx⟩ := y
    subst e
    obtain ⟨p, hp, rp⟩ := r.get' hx
    exact ⟨p, F, hp, .refl S, rp.mono s⟩
theorem wi_sq {k : List PV → Prop} (h : Wz ss te fun _ xs => k xs) : Wi ss (iSq K te) k := ⟨fun E σ F H R S q =>
  h.go E σ F H _ S fun v tp xs F1 H1 m1 f kk => by
    cases tp with
    | true =>
      have f' : Rep F1 v (.tup xs) := f
      cases f' with
      | tup e r => exact ⟨true, _, _, rfl, SqT.of (m1.st.fh _ _ e), q _ _ F1 H1 m1 (src_sq (tp := true) (fun ss σ F H s S => S.fh _ _ (s _ _ e)) r) kk⟩
    | false =>
      obtain ⟨l, vs, rfl, h1, r⟩ := f
      have hl : ∀ (ss : List Slot) (σ : L2.St) (F H : Hp), Same F1 F → Sg E ss σ F H → H l = some (.lst vs) := fun ss σ F H s S => by
        rcases h1 with h1 | ⟨hA, h1⟩
        · exact S.fh _ _ (s _ _ h1)
        · exact S.keep _ _ hA h1
      exact ⟨false, l, vs, rfl, SqL.of (hl ss σ F1 H1 (Same.refl _) m1.st), q _ _ F1 H1 m1 (src_sq (tp := false) hl r) kk⟩⟩
def rngP (n : Nat) : List PV := (List.range n).map fun i : Nat => PV.int (i : Int)
theorem rngP_len (n : Nat) : (rngP n).length = n := by simp [rngP]
theorem rngP_at {n i : Nat} {p : PV} (h : (rngP n)[i]? = some p) : i < n ∧ p = .int (i : Int) := by
  have hi : i < n := by have := (List.getElem?_eq_some_iff.mp h).1; rwa [rngP_len] at this
  unfold rngP at h
  rw [List.getElem?_map, List.getElem?_range hi] at h
  exact ⟨hi, (Option.some.inj h).symm⟩
theorem wi_rng {k : List PV → Prop} (h : Wp ss te fun p => ∃ j : Int, p = .int j ∧ j ≤ 1000000 ∧ -1000000 ≤ j ∧ k (rngP j.toNat)) : Wi ss (iRng1 (tCons te tNil)) k := ⟨fun E σ F H R S q =>
  h.go E σ F H _ S fun v p F1 H1 m1 r ⟨j, e, h1, h2, kk⟩ => by
    subst e; cases r
    refine ⟨j, rfl, by omega, by omega, q _ (rngP j.toNat) F1 H1 m1 ⟨fun ss σ F H i s S hi => ?_, fun ss σ F H s S => ?_, fun ss σ F H i x H' s S hi y => ?_⟩ kk⟩
    · rw [rngP_len] at hi; exact hi
    · show _ ≤ _
      rw [rngP_len]; exact Nat.le_refl _
    · obtain ⟨e, hx⟩ := y
      subst e; subst hx
      rw [rngP_len] at hi
      refine ⟨.int (i : Int), F, ?_, .refl S, ?_⟩
      · unfold rngP; rw [List.getElem?_map, List.getElem?_range hi]; rfl
      · rw [Int.zero_add]; exact .int _⟩
/-! ### targets -/
theorem wg_name {j : Nat} {p : PV} {k : List Slot → Prop} (h : k (ss.set j (.is p))) : Wg ss (gName j) p k := ⟨fun E σ F H v Q S r q => q _ _ h (S.setIs r)⟩
theorem wg_tup2 {i j : Nat} {p : PV} {k : List Slot → Prop} (h : ∃ a b, p = .tup [a, b] ∧ k ((ss.set i (.is a)).set j (.is b))) : Wg ss (gTup K 2 (gCons (gName i) (gCons (gName j) gNil))) p k := ⟨fun E σ F H v Q S r q => by
  obtain ⟨a, b, rfl, kk⟩ := h
  cases r with
  | tup e r =>
    cases r with
    | cons r1 r => cases r with
      | cons r2 r => cases r with
        | nil => exact ⟨_, _, rfl, SqT.of (S.fh _ _ e), rfl, _, _, rfl, _, _, rfl, rfl, q _ _ kk ((S.setIs r1).setIs r2)⟩⟩
theorem wg_tup3 {i j l : Nat} {p : PV} {k : List Slot → Prop} (h : ∃ a b c, p = .tup [a, b, c] ∧ k (((ss.set i (.is a)).set j (.is b)).set l (.is c))) : Wg ss (gTup K 3 (gCons (gName i) (gCons (gName j) (gCons (gName l) gNil)))) p k := ⟨fun E σ F H v Q S r q => by
  obtain ⟨a, b, c, rfl, kk⟩ := h
  cases r with
  | tup e r =>
    cases r with
    | cons r1 r => cases r with
      | cons r2 r => cases r with
        | cons r3 r => cases r with
          | nil => exact ⟨_, _, rfl, SqT.of (S.fh _ _ e), rfl, _, _, rfl, _, _, rfl, _, _, rfl, rfl, q _ _ kk (((S.setIs r1).setIs r2).setIs r3)⟩⟩
/-! ### statements -/
theorem ws_seq {t u : TS} (h : Ws ss t (fun ss' => Ws ss' u nx R) R) : Ws ss (tSeq t u) nx R := ⟨fun E D σ F H S hn hr =>
  h.go E { D with nx := u D } σ F H S (fun ss' σ' F' H' w S' s => w.go E D σ' F' H' S' (fun ss2 σ2 F2 H2 n2 S2 s2 => hn ss2 σ2 F2 H2 n2 S2 (s.trans s2)) hr) hr⟩
theorem ws_cut {t : TS} (h : Ws ss t nx R) : Ws ss (tCut t) nx R := ⟨fun E D σ F H S hn hr => ⟨D.nx, h.go E { D with nx := D.nx } σ F H S hn hr, fun _ _ q => q⟩⟩
theorem Ws.mono {t : TS} {nx' : List Slot → Prop} (h : Ws ss t nx R) (i : ∀ s, nx s → nx' s) : Ws ss t nx' R := ⟨fun E D σ F H S hn hr => h.go E D σ F H S (fun ss' σ' F' H' n => hn ss' σ' F' H' (i _ n)) hr⟩
/-- a join -/
theorem ws_join {t u : TS} (J : List Slot → Prop) (h : Ws ss t J R) (h2 : ∀ ss', J ss' → Ws ss' u nx R) : Ws ss (tSeq t u) nx R := ws_seq (h.mono h2)
theorem ws_asg {i : Nat} (h : Wp ss te fun p => nx (ss.set i (.is p))) : Ws ss (tAsg te (gName i)) nx R := ⟨fun E D σ F H S hn hr =>
  h.go E σ F H _ S fun v p F1 H1 m1 r kk => hn _ _ F1 H1 kk (m1.st.setIs r) m1.ff⟩
theorem ws_asgG {g : TG} (h : Wp ss te fun p => Wg ss g p nx) : Ws ss (tAsg te g) nx R := ⟨fun E D σ F H S hn hr =>
  h.go E σ F H _ S fun v p F1 H1 m1 r kk => kk.go E σ F1 H1 v _ m1.st r fun ss' σ' n S' => hn _ _ F1 H1 n S' m1.ff⟩
theorem ws_asgN {i : Nat} (h : Wn ss te fun xs => nx (ss.set i (.own xs))) : Ws ss (tAsg te (gName i)) nx R := ⟨fun E D σ F H S hn hr =>
  h.go E σ F H _ S fun l vs xs F1 H1 m1 fl hl hl1 r kk => hn _ _ F1 H1 kk (m1.st.setG ⟨l, vs, rfl, fl, S.new0 hl, hl1, r⟩ fun _ j u _ hu mu => S.newAddr hu mu hl) m1.ff⟩
theorem ws_ret {k : PV → Prop} (h : Wp ss te k) : Ws ss (tRet te) nx (.is k) := ⟨fun E D σ F H S hn hr =>
  h.go E σ F H _ S fun v p F1 H1 m1 r kk => hr v F1 H1 m1.st.toFin ⟨p, r, kk⟩⟩
theorem ws_retN {k : List PV → Prop} (h : Wn ss te k) : Ws ss (tRet te) nx (.new k) := ⟨fun E D σ F H S hn hr =>
  h.go E σ F H _ S fun l vs xs F1 H1 m1 fl hl hl1 r kk => hr _ F1 H1 m1.st.toFin ⟨l, vs, xs, rfl, fl, S.new0 hl, hl1, r, kk⟩⟩
theorem ws_retO {i : Nat} {k : List PV → Prop} (h : ss[i]? = some (.own xs)) (kk : k xs) : Ws ss (tRet (tVar i)) nx (.new k) := ⟨fun E D σ F H S hn hr => by
  obtain ⟨l, vs, e, e1, e2, e3, r⟩ := S.ok i _ h
  exact ⟨_, e, hr _ F H S.toFin ⟨l, vs, xs, rfl, e1, e2, e3, r, kk⟩⟩⟩
theorem ws_if {c : TT} {t u : TS} (h : Wt ss c fun b => if b = true then Ws ss t nx R else Ws ss u nx R) : Ws ss (tIfS c t u) nx R := ⟨fun E D σ F H S hn hr =>
  h.go E σ F H _ S fun b F1 H1 m1 w => by
    show if b = true then _ else _
    cases b with
    | true => rw [if_pos rfl] at w ⊢; exact w.go E D σ F1 H1 m1.st (fun ss2 σ2 F2 H2 n S2 s2 => hn ss2 σ2 F2 H2 n S2 (m1.ff.trans s2)) hr
    | false => rw [if_neg (by decide)] at w ⊢; exact w.go E D σ F1 H1 m1.st (fun ss2 σ2 F2 H2 n S2 s2 => hn ss2 σ2 F2 H2 n S2 (m1.ff.trans s2)) hr⟩
theorem ws_next (h : nx ss) : Ws ss tNext nx R := ⟨fun E D σ F H S hn hr => hn ss σ F H h S (Same.refl _)⟩
theorem ws_drop (h : Wp ss te fun _ => nx ss) : Ws ss (tDrop te) nx R := ⟨fun E D σ F H S hn hr =>
  h.go E σ F H _ S fun v p F1 H1 m1 r kk => hn ss σ F1 H1 kk m1.st m1.ff⟩
theorem ws_never (h : False) : Ws ss tNever nx R := h.elim
/-- an object of one's own that changes -/
theorem Sg.poke (S : Sg E ss σ F H) {a : Addr} {o : HO} (fa : F a = none) (h0 : E.H0 a = none) (hn : ∀ (i : Nat) s, ss[i]? = some s → mutS s = true → σ[i]? ≠ some (some (.ref a))) : Sg E ss σ F (upd H a o) := by
  refine ⟨⟨fun b u e => ?_, S.f0, fun b u hA e => ?_, S.fresh, fun b hA => ?_, S.potF, S.a0⟩, S.len, fun i s hi => ?_, S.dis⟩
  · rw [upd_ne (ne_of_none e fa)]; exact S.fh b u e
  · rw [upd_ne (ne_of_none e h0)]; exact S.keep b u hA e
  · by_cases q : b = a
    · subst q
      exact absurd h0 (S.a0 _ hA)
    · exact Pot.keep (S.pots b hA) fun u e => by rw [upd_ne q]; exact e
  · have kk := S.ok i s hi
    cases s with
    | own xs =>
      obtain ⟨l, vs, e, e1, e2, e3, r⟩ := kk
      have hne : l ≠ a := by rintro rfl; exact hn i _ hi rfl e
      exact ⟨l, vs, e, e1, e2, by rw [upd_ne hne]; exact e3, r⟩
    | pot =>
      obtain ⟨l, e, e1, e2, e3⟩ := kk
      have hne : l ≠ a := by rintro rfl; exact hn i _ hi rfl e
      exact ⟨l, e, e1, e2, Pot.keep e3 fun u e => by rw [upd_ne hne]; exact e⟩
    | any => trivial
    | is p => exact kk
    | sq tp xs => cases tp <;> exact kk
    | raw P => exact kk
/-- the own thing of a slot, given another content -/
theorem Sg.put (S : Sg E ss σ F H) {i : Nat} {l : Addr} {vs' : List V} {xs ys : List PV} (hi : ss[i]? = some (.own xs)) (e : σ[i]? = some (some (.ref l))) (fl : F l = none) (h0 : E.H0 l = none) (r : Reps F vs' ys) : Sg E (ss.set i (.own ys)) σ F (upd H l (.lst vs')) := by
  have es : σ.set i (some (.ref l)) = σ := by
    apply List.ext_getElem?
    intro j
    by_cases q : j = i
    · subst q
      rw [List.getElem?_set_self (List.getElem?_eq_some_iff.mp e).1, e]
    · rw [List.getElem?_set_ne (Ne.symm q)]
  have S1 : Sg E (ss.set i .any) σ F H := by
    refine ⟨S.toFin, by rw [List.length_set]; exact S.len, fun j u hj => ?_, fun j k u w l hjk hj hk mu mw ej => ?_⟩
    · by_cases q : j = i
      · subst q
        have hlt : j < ss.length := by have := (List.getElem?_eq_some_iff.mp hj).1; simpa using this
        rw [List.getElem?_set_self hlt] at hj
        cases hj; trivial
      · rw [List.getElem?_set_ne (Ne.symm q)] at hj; exact S.ok j u hj
    · by_cases q : j = i
      · subst q
        have hlt : j < ss.length := by have := (List.getElem?_eq_some_iff.mp hj).1; simpa using this
        rw [List.getElem?_set_self hlt] at hj
        cases hj; cases mu
      · by_cases q2 : k = i
        · subst q2
          have hlt : k < ss.length := by have := (List.getElem?_eq_some_iff.mp hk).1; simpa using this
          rw [List.getElem?_set_self hlt] at hk
          cases hk; cases mw
        · rw [List.getElem?_set_ne (Ne.symm q)] at hj
          rw [List.getElem?_set_ne (Ne.symm q2)] at hk
          exact S.dis j k u w l hjk hj hk mu mw ej
  have ne1 : ∀ (j : Nat) s, (ss.set i .any)[j]? = some s → mutS s = true → σ[j]? ≠ some (some (.ref l)) := fun j s hj mj ej => by
    by_cases q : j = i
    · subst q
      have hlt : j < ss.length := (List.getElem?_eq_some_iff.mp hi).1
      rw [List.getElem?_set_self hlt] at hj
      cases hj; cases mj
    · rw [List.getElem?_set_ne (Ne.symm q)] at hj
      exact S.dis j i s _ l q hj hi mj rfl ej e
  have S2 := S1.poke (o := .lst vs') fl h0 ne1
  have S3 := S2.setG (j := i) (s := .own ys) (v := .ref l) ⟨l, vs', rfl, fl, h0, upd_same, r⟩ fun _ j u hj hu mu => ne1 j u hu mu
  rw [es, List.set_set] at S3
  exact S3
theorem ws_append {i : Nat} (hi : ss[i]? = some (.own xs)) (h : Wp ss te fun p => xs.length ≤ 99999 ∧ nx (ss.set i (.own (xs ++ [p])))) : Ws ss (tDrop (tBM K "list" rAppend (tVar i) (tCons te tNil))) nx R := ⟨fun E D σ F H S hn hr => by
  obtain ⟨l, vs, e, e1, e2, e3, r⟩ := S.ok i _ hi
  refine ⟨_, e, .inl ⟨rfl, _, SqL.of e3⟩, h.go E σ F H _ S fun v p F1 H1 m1 rv ⟨hz, kk⟩ => ?_⟩
  obtain ⟨l', vs', e', e1', e2', e3', r'⟩ := m1.st.ok i _ hi
  rw [e] at e'
  cases e'
  refine ⟨l, vs', v, rfl, rfl, e3', small1 (by rw [r'.length]; exact hz), ?_⟩
  exact hn _ σ F1 _ kk (m1.st.put hi e e1' e2' (r'.append (.one rv))) m1.ff⟩
theorem ws_insert {i : Nat} (hi : ss[i]? = some (.own xs)) (h : Wp ss ta fun a => ∃ j : Int, a = .int j ∧ 0 ≤ j ∧ j ≤ xs.length ∧ Wp ss te fun p => xs.length ≤ 99999 ∧ nx (ss.set i (.own (xs.take j.toNat ++ p :: xs.drop j.toNat)))) :
    Ws ss (tDrop (tBM K "list" rInsert (tVar i) (tCons ta (tCons te tNil)))) nx R := ⟨fun E D σ F H S hn hr => by
  obtain ⟨l, vs, e, e1, e2, e3, r⟩ := S.ok i _ hi
  refine ⟨_, e, .inl ⟨rfl, _, SqL.of e3⟩, h.go E σ F H _ S fun v1 p1 F1 H1 m1 rv1 ⟨j, ej, j0, j1, h2⟩ => ?_⟩
  subst ej; cases rv1
  refine h2.go E σ F1 H1 _ m1.st fun v p F2 H2 m2 rv ⟨hz, kk⟩ => ?_
  obtain ⟨l', vs', e', e1', e2', e3', r'⟩ := m2.st.ok i _ hi
  rw [e] at e'
  cases e'
  refine ⟨l, vs', j, v, rfl, rfl, e3', j0, by rw [r'.length]; exact j1, small1 (by rw [r'.length]; exact hz), ?_⟩
  exact hn _ σ F2 _ kk (m2.st.put hi e e1' e2' ((r'.take _).append (.cons rv (r'.drop _)))) (m1.ff.trans m2.ff)⟩
theorem ws_reverse {i : Nat} (hi : ss[i]? = some (.own xs)) (h : nx (ss.set i (.own xs.reverse))) : Ws ss (tDrop (tBM0 K "list" rReverse (tVar i))) nx R := ⟨fun E D σ F H S hn hr => by
  obtain ⟨l, vs, e, e1, e2, e3, r⟩ := S.ok i _ hi
  exact ⟨_, e, .inl ⟨rfl, _, SqL.of e3⟩, l, vs, rfl, rfl, e3, hn _ σ F _ h (S.put hi e e1 e2 r.reverse) (Same.refl _)⟩⟩
/-- one's own things are given away: they stand for good then -/
theorem ws_freeze {t : TS} (i : Nat) (hi : ss[i]? = some (.own xs)) (h : Ws (ss.set i (.is (.lst xs))) t nx R) : Ws ss t nx R := ⟨fun E D σ F H S hn hr => by
  obtain ⟨l, vs, e, e1, e2, e3, r⟩ := S.ok i _ hi
  have nf := same_new (H := F) e1 (.lst vs)
  have ne : ∀ (j : Nat) s, j ≠ i → ss[j]? = some s → mutS s = true → σ[j]? ≠ some (some (.ref l)) := fun j s hj hs mj ej => S.dis j i s _ l hj hs hi mj rfl ej e
  have S1 : Sg E (ss.set i (.is (.lst xs))) σ (upd F l (.lst vs)) H := by
    refine ⟨⟨fun a u q => ?_, S.f0.trans nf, S.keep, fun a u q => ?_, S.pots, fun a hA => ?_, S.a0⟩, by rw [List.length_set]; exact S.len, fun j u hj => ?_, fun j k u w l' hjk hj hk mu mw ej => ?_⟩
    · by_cases z : a = l
      · subst z; rw [upd_same] at q; rw [← q]; exact e3
      · rw [upd_ne z] at q; exact S.fh a u q
    · by_cases z : a = l
      · subst z; exact .inr e2
      · rw [upd_ne z] at q; exact S.fresh a u q
    · have z : a ≠ l := by rintro rfl; exact S.a0 _ hA e2
      rw [upd_ne z]; exact S.potF a hA
    · by_cases z : j = i
      · subst z
        rw [List.getElem?_set_self (List.getElem?_eq_some_iff.mp hi).1] at hj
        cases hj
        exact ⟨_, e, .lst upd_same (r.mono nf)⟩
      · rw [List.getElem?_set_ne (Ne.symm z)] at hj
        have kk := S.ok j u hj
        cases u with
        | any => trivial
        | is p => obtain ⟨v, e, r⟩ := kk; exact ⟨v, e, r.mono nf⟩
        | own ys =>
          obtain ⟨l', ws, q, q1, q2, q3, r⟩ := kk
          have hne : l' ≠ l := by rintro rfl; exact ne j _ z hj rfl q
          exact ⟨l', ws, q, by rw [upd_ne hne]; exact q1, q2, q3, r.mono nf⟩
        | pot =>
          obtain ⟨l', q, q1, q2, q3⟩ := kk
          have hne : l' ≠ l := by rintro rfl; exact ne j _ z hj rfl q
          exact ⟨l', q, by rw [upd_ne hne]; exact q1, q2, q3⟩
        | sq tp ys =>
          cases tp with
          | true => obtain ⟨v, e, r⟩ := kk; exact ⟨v, e, r.mono nf⟩
          | false => obtain ⟨l', ws, q, q1, q2, r⟩ := kk; exact ⟨l', ws, q, q1, q2, r.mono nf⟩
        | raw P => obtain ⟨v, e, r, st⟩ := kk; exact ⟨v, e, st _ _ nf r, st⟩
    · by_cases q : j = i
      · subst q
        rw [List.getElem?_set_self (List.getElem?_eq_some_iff.mp hi).1] at hj
        cases hj; cases mu
      · by_cases q2 : k = i
        · subst q2
          rw [List.getElem?_set_self (List.getElem?_eq_some_iff.mp hi).1] at hk
          cases hk; cases mw
        · rw [List.getElem?_set_ne (Ne.symm q)] at hj
          rw [List.getElem?_set_ne (Ne.symm q2)] at hk
          exact S.dis j k u w l' hjk hj hk mu mw ej
  exact h.go E D σ _ H S1 (fun ss2 σ2 F2 H2 n S2 s2 => hn ss2 σ2 F2 H2 n S2 (nf.trans s2)) hr⟩
/-! ### loops -/
theorem ws_for {wi : TI} {g : TG} {tb : TS} (I : List PV → Nat → List Slot → Prop) (h : Wi ss wi fun xs => I xs 0 ss ∧ (∀ (i : Nat) p ss', xs[i]? = some p → I xs i ss' → Wg ss' g p fun ss2 => Ws ss2 tb (I xs (i + 1)) R) ∧ ∀ ss', I xs xs.length ss' → nx ss') : Ws ss (tFor wi g tb) nx R := ⟨fun E D σ F H S hn hr =>
  h.go E σ F H _ S fun J xs F1 H1 m1 sr ⟨i0, hs, hd⟩ => by
    refine ⟨fun i m σ' H' => m = xs.length - i ∧ i ≤ xs.length ∧ ∃ ss' F', I xs i ss' ∧ Sg E ss' σ' F' H' ∧ Same F1 F', ⟨_, rfl, Nat.zero_le _, ss, F1, i0, m1.st, Same.refl _⟩, ?_⟩
    rintro i m σ' H' ⟨rfl, hi, ss', F', hI, S', s'⟩
    by_cases hlt : i < xs.length
    · refine .inr ⟨sr.go ss' σ' F' H' i s' S' hlt, fun σ2 H2 => ∃ ss2 F2, I xs (i + 1) ss2 ∧ Sg E ss2 σ2 F2 H2 ∧ Same F1 F2, fun σ2 H2 ⟨ss2, F2, a, b, c⟩ => ⟨_, by omega, rfl, hlt, ss2, F2, a, b, c⟩, fun x H3 y => ?_⟩
      obtain ⟨p, F3, hp, m3, rp⟩ := sr.yld ss' σ' F' H' i x H3 s' S' hlt y
      refine (hs i p ss' hp hI).go E σ' F3 H3 x _ m3.st rp fun ss4 σ4 w S4 => ?_
      exact w.go E _ σ4 F3 H3 S4 (fun ss5 σ5 F5 H5 n5 S5 s5 => ⟨ss5, F5, n5, S5, (s'.trans m3.ff).trans s5⟩) hr
    · have e : i = xs.length := by omega
      subst e
      exact .inl ⟨sr.stop ss' σ' F' H' s' S', hn ss' σ' F' H' (hd ss' hI) S' (m1.ff.trans s')⟩⟩
theorem ws_while {c : TT} {tb : TS} (I : Nat → List Slot → Prop) (m0 : Nat) (h0 : I m0 ss) (h : ∀ m ss', I m ss' → Wt ss' c fun b => if b = true then Ws ss' tb (fun ss2 => ∃ m', m' < m ∧ I m' ss2) R else nx ss') : Ws ss (tWhile c tb) nx R := ⟨fun E D σ F H S hn hr => by
  refine ⟨fun m σ' H' => ∃ ss' F', I m ss' ∧ Sg E ss' σ' F' H' ∧ Same F F', ⟨m0, ss, F, h0, S, Same.refl _⟩, ?_⟩
  rintro m σ' H' ⟨ss', F', hI, S', s'⟩
  refine (h m ss' hI).go E σ' F' H' _ S' fun b F1 H1 m1 w => ?_
  cases b with
  | true =>
    rw [if_pos rfl] at w
    refine ⟨fun σ2 H2 => ∃ ss2 F2, (∃ m', m' < m ∧ I m' ss2) ∧ Sg E ss2 σ2 F2 H2 ∧ Same F F2, fun σ2 H2 ⟨ss2, F2, ⟨m', l, i⟩, b, c⟩ => ⟨m', l, ss2, F2, i, b, c⟩, ?_⟩
    exact w.go E _ σ' F1 H1 m1.st (fun ss5 σ5 F5 H5 n5 S5 s5 => ⟨ss5, F5, n5, S5, (s'.trans m1.ff).trans s5⟩) hr
  | false =>
    rw [if_neg (by decide)] at w
    exact hn ss' σ' F1 H1 w m1.st (s'.trans m1.ff)⟩
end
/-! ### comprehensions -/
def capS (js : List Nat) (ss : List Slot) : List Slot := js.map fun j => (ss[j]?).getD .any
def noPot (js : List Nat) (ss : List Slot) : Bool := js.all fun j => match ss[j]? with
  | some .pot => false
  | _ => true
section
variable {E : Ent} {ss : List Slot} {σ : L2.St} {F H F' H' : Hp} {K : PySem.W.Frag} {js : List Nat}
theorem capS_at {i : Nat} {s : Slot} {j : Nat} (h : js[i]? = some j) (e : (capS js ss)[i]? = some s) : s = (ss[j]?).getD .any := by
  unfold capS at e
  rw [List.getElem?_map, h] at e
  exact (Option.some.inj e).symm
theorem Sg.caps (S : Sg E ss σ F H) (nd : js.Nodup) {vs : List V} {ps : List PV} (r : Reps F vs ps) : Sg E (capS js ss ++ ps.map .is) (capSt js σ ++ vs.map some) F H := by
  have hl : (capS js ss).length = js.length := by simp [capS]
  have hl2 : (capSt js σ).length = js.length := by simp [capSt]
  have at1 : ∀ (i : Nat) (hi : i < js.length), (capS js ss ++ ps.map .is)[i]? = some ((ss[js[i]]?).getD .any) ∧ (capSt js σ ++ vs.map some)[i]? = some ((σ[js[i]]?).join) := fun i hi => by
    rw [List.getElem?_append_left (by rw [hl]; exact hi), List.getElem?_append_left (by rw [hl2]; exact hi)]
    unfold capS capSt
    rw [List.getElem?_map, List.getElem?_map, List.getElem?_eq_getElem hi]
    exact ⟨rfl, rfl⟩
  have at2 : ∀ (i : Nat) s, js.length ≤ i → (capS js ss ++ ps.map .is)[i]? = some s → ∃ p v, s = .is p ∧ (capSt js σ ++ vs.map some)[i]? = some (some v) ∧ Rep F v p := fun i s hi e => by
    rw [List.getElem?_append_right (by rw [hl]; exact hi), hl, List.getElem?_map] at e
    rw [List.getElem?_append_right (by rw [hl2]; exact hi), hl2, List.getElem?_map]
    cases q : ps[i - js.length]? with
    | none => rw [q] at e; cases e
    | some p =>
      rw [q] at e
      obtain ⟨v, hv, rv⟩ := r.get q
      rw [hv]
      exact ⟨p, v, (Option.some.inj e).symm, rfl, rv⟩
  have sm : ∀ (i : Nat) s, (capS js ss ++ ps.map .is)[i]? = some s → mutS s = true → ∃ hi : i < js.length, ss[js[i]]? = some s := fun i s e m => by
    by_cases hi : i < js.length
    · refine ⟨hi, ?_⟩
      rw [(at1 i hi).1] at e
      cases q : ss[js[i]]? with
      | none => rw [q] at e; cases e; cases m
      | some u => rw [q] at e; exact e
    · obtain ⟨p, v, rfl, _⟩ := at2 i s (by omega) e
      cases m
  refine ⟨S.toFin, ?_, fun i s e => ?_, fun i j s u l hij hi hj ms mu ei ej => ?_⟩
  · rw [List.length_append, List.length_append, hl, hl2, List.length_map, List.length_map, r.length]
  · by_cases hi : i < js.length
    · obtain ⟨a, b⟩ := at1 i hi
      rw [a] at e
      rw [b]
      cases q : ss[js[i]]? with
      | none => rw [q] at e; cases e; trivial
      | some u =>
        rw [q] at e
        have eu : u = s := Option.some.inj e
        subst eu
        have kk := S.ok _ _ q
        cases u with
        | any => trivial
        | is p => obtain ⟨v, e, r⟩ := kk; rw [e]; exact ⟨v, rfl, r⟩
        | own xs => obtain ⟨l, vs, e, r⟩ := kk; rw [e]; exact ⟨l, vs, rfl, r⟩
        | pot => obtain ⟨l, e, r⟩ := kk; rw [e]; exact ⟨l, rfl, r⟩
        | sq tp xs =>
          cases tp with
          | true => obtain ⟨v, e, r⟩ := kk; rw [e]; exact ⟨v, rfl, r⟩
          | false => obtain ⟨l, vs, e, r⟩ := kk; rw [e]; exact ⟨l, vs, rfl, r⟩
        | raw P => obtain ⟨v, e, r⟩ := kk; rw [e]; exact ⟨v, rfl, r⟩
    · obtain ⟨p, v, rfl, hv, rv⟩ := at2 i s (by omega) e
      rw [hv]; exact ⟨v, rfl, rv⟩
  · obtain ⟨li, qi⟩ := sm i s hi ms
    obtain ⟨lj, qj⟩ := sm j u hj mu
    rw [(at1 i li).2] at ei
    rw [(at1 j lj).2] at ej
    have fx : ∀ (m : Nat) (l : Addr), some (σ[m]?).join = some (some (V.ref l)) → σ[m]? = some (some (.ref l)) := fun m l e => by
      cases q : σ[m]? with
      | none => rw [q] at e; cases e
      | some o => rw [q] at e; cases o with
        | none => cases e
        | some v => simpa using e
    refine S.dis js[i] js[j] s u l (fun e => hij ?_) qi qj ms mu (fx _ _ ei) (fx _ _ ej)
    exact (List.getElem_inj nd).mp e
/-- steps inside the comprehension's block are steps of its surroundings -/
theorem Mv.out {ps : List PV} {τ : L2.St} (S : Sg E ss σ F H) (np : noPot js ss = true) (m : Mv E (capS js ss ++ ps.map .is) τ F H F' H') : Mv E ss σ F H F' H' := by
  have nn : ∀ a, Npot (capS js ss ++ ps.map .is) τ a := fun a i hi _ => by
    by_cases h : i < (capS js ss).length
    · rw [List.getElem?_append_left h] at hi
      have hj : i < js.length := by simpa [capS] using h
      have q := capS_at (List.getElem?_eq_getElem hj) hi
      have z := List.all_eq_true.mp np js[i] (List.getElem_mem hj)
      cases w : ss[js[i]]? with
      | none => rw [w] at q; cases q
      | some u => rw [w] at q z; cases q; cases z
    · rw [List.getElem?_append_right (by omega), List.getElem?_map] at hi
      cases w : ps[i - (capS js ss).length]? with
      | none => rw [w] at hi; cases hi
      | some p => rw [w] at hi; cases hi
  have hk : ∀ a o, H a = some o → H' a = some o := fun a o e => m.hh a o (nn a) e
  exact S.step m.ff m.st.fh (fun a o _ e => hk a o e) m.nn fun i l hi e => Pot.keep (S.potAt hi e) fun o e => hk l o e
theorem wn_comp {wi : TI} {tt : TT} {te : TE} {k : List PV → Prop} (f : PV → Bool) (g : PV → PV)
    (h : Wi ss wi fun xs => xs.length ≤ 100000 ∧ (∀ x ∈ xs, Wt (capS js ss ++ [.is x]) tt fun b => b = f x) ∧ (∀ x ∈ xs, f x = true → Wp (capS js ss ++ [.is x]) te fun p => p = g x) ∧ k ((xs.filter f).map g))
    (nd : js.Nodup := by decide) (np : noPot js ss = true := by rfl) : Wn ss (tComp wi js tt te) k := ⟨fun E σ F H Q S q =>
  h.go E σ F H _ S fun J xs F1 H1 m1 sr ⟨hz, ht, he, kk⟩ acc hacc => by
    have npa : Npot ss σ acc := m1.st.npotN hacc
    have h0a := m1.st.new0 hacc
    have sla : ∀ (i : Nat) s, ss[i]? = some s → mutS s = true → σ[i]? ≠ some (some (.ref acc)) := fun i s hi ms => m1.st.newAddr hi ms hacc
    refine ⟨fun i m H2 => m = xs.length - i ∧ i ≤ xs.length ∧ ∃ F2 vs, Mv E ss σ F1 H1 F2 H2 ∧ F2 acc = none ∧ H2 acc = some (.lst vs) ∧ Reps F2 vs (((xs.take i).filter f).map g), ⟨_, rfl, Nat.zero_le _, F1, [], m1.st.make hacc _, m1.st.newF hacc, upd_same, .nil⟩, ?_⟩
    rintro i m H2 ⟨rfl, hi, F2, vs, m2, fa, ha, rv⟩
    by_cases hlt : i < xs.length
    · refine .inr ⟨sr.go ss σ F2 H2 i m2.ff m2.st hlt, fun x H3 y => ?_⟩
      obtain ⟨p, F3, hp, m3, rp⟩ := sr.yld ss σ F2 H2 i x H3 m2.ff m2.st hlt y
      have hpm : p ∈ xs := List.mem_of_getElem? hp
      have htk : (xs.take (i + 1)) = xs.take i ++ [p] := by
        have e2 : xs[i] = p := by rw [List.getElem?_eq_getElem hlt] at hp; exact Option.some.inj hp
        rw [List.take_succ_eq_append_getElem hlt, e2]
      have e1 : List.filter f (xs.take (i + 1)) = (xs.take i).filter f ++ (if f p = true then [p] else []) := by
        rw [htk, List.filter_append]; congr 1
        by_cases hf : f p = true <;> simp [hf]
      have notF : ∀ {F4 : Hp}, (∀ a o, F4 a = some o → F2 a = some o ∨ H2 a = none) → F4 acc = none := fun {F4} n => by
        cases e : F4 acc with
        | none => rfl
        | some o =>
          rcases n acc o e with w | w
          · rw [fa] at w; cases w
          · rw [ha] at w; cases w
      have S3 := m3.st.caps (js := js) nd (.one rp)
      refine (ht p hpm).go E _ F3 H3 _ S3 fun b F4 H4 m4 hb => ?_
      have m34 := m3.trans (m4.out (ps := [p]) m3.st np)
      show if b = true then _ else _
      rw [hb]
      by_cases hf : f p = true
      · rw [if_pos hf]
        have S4 := m34.st.caps (js := js) nd (.one (rp.mono (m4.out (ps := [p]) m3.st np).ff))
        refine (he p hpm hf).go E _ F4 H4 _ S4 fun w pw F5 H5 m5 rw5 ew => ?_
        have m45 := m4.out (ps := [p]) m3.st np
        have m5' := m5.out (ps := [p]) m34.st np
        have m25 := m34.trans m5'
        have ha5 := m25.hh acc _ npa ha
        have fa5 := notF m25.nn
        have hlen : vs.length ≤ 99999 := by
          rw [rv.length, List.length_map]
          have := List.length_filter_le f (xs.take i)
          rw [List.length_take] at this
          omega
        refine ⟨vs, ha5, small1 hlen, xs.length - (i + 1), by omega, rfl, hlt, F5, vs ++ [w], ?_, fa5, upd_same, ?_⟩
        · have m15 := m2.trans m25
          refine ⟨m15.st.poke fa5 h0a sla, m15.ff, fun a o n e => ?_, m15.nn⟩
          rw [upd_ne (ne_of_none e hacc)]; exact m15.hh a o n e
        · rw [e1, if_pos hf, List.map_append]
          rw [ew] at rw5
          exact (rv.mono m25.ff).append (.one rw5)
      · have hf' : f p = false := by simpa using hf
        rw [hf', if_neg (by decide)]
        refine ⟨xs.length - (i + 1), by omega, rfl, hlt, F4, vs, m2.trans m34, notF m34.nn, m34.hh acc _ npa ha, ?_⟩
        rw [e1, if_neg hf, List.append_nil]
        exact rv.mono m34.ff
    · have e : i = xs.length := by omega
      subst e
      refine .inl ⟨sr.stop ss σ F2 H2 m2.ff m2.st, q acc vs _ F2 H2 (m1.trans m2) fa (m1.none hacc) ha ?_ kk⟩
      rw [List.take_length] at rv
      exact rv⟩
end
/-! ### calls -/
abbrev Pre := List Slot → Ret → Prop
def spF (pre : Pre) : Sp := fun vs H Q _ => ∃ (ss : List Slot) (R : Ret) (F : Hp) (A : List Addr), pre ss R ∧ Sg ⟨A, F, H⟩ ss (vs.map some) F H ∧ ∀ v F' H', Fin ⟨A, F, H⟩ F' H' → R.ok ⟨A, F, H⟩ F' H' v → Q v H'
section
variable {E : Ent} {ss : List Slot} {σ : L2.St} {F H F' H' : Hp} {pre : Pre} {t : TA} {k : PV → Prop}
theorem Avs.at {vs : List V} {l : List Slot} (h : Avs ss σ F H vs l) : ∀ {i : Nat} {s : Slot}, l[i]? = some s → ∃ v, vs[i]? = some v ∧ Av ss σ F H v s := by
  induction h with
  | nil => intro i s e; simp at e
  | cons a _ ih =>
    intro i s e
    cases i with
    | zero => simp at e; subst e; exact ⟨_, rfl, a⟩
    | succ i => exact ih (by simpa using e)
theorem Avs.len {vs : List V} {l : List Slot} (h : Avs ss σ F H vs l) : l.length = vs.length := by
  induction h with
  | nil => rfl
  | cons a _ ih => rw [List.length_cons, List.length_cons, ih]
theorem Av.ok {A : List Addr} {v : V} {s : Slot} (S : Sg E ss σ F H) (a : Av ss σ F H v s) (hA : ∀ l, Npot ss σ l → l ∉ A) : Ok ⟨A, F, H⟩ F H s (some (some v)) ∧ mutS s = false := by
  cases s with
  | is p => exact ⟨⟨v, rfl, a⟩, rfl⟩
  | sq tp xs =>
    cases tp with
    | true => exact ⟨⟨v, rfl, a⟩, rfl⟩
    | false => obtain ⟨l, vs, rfl, n, h, r⟩ := a; exact ⟨⟨l, vs, rfl, hA l n, h, r⟩, rfl⟩
  | raw P => exact ⟨⟨v, rfl, a⟩, rfl⟩
  | any => exact a.elim
  | own xs => exact a.elim
  | pot => exact a.elim
theorem Sg.call0 (S : Sg E ss σ F H) {vs : List V} {l : List Slot} (a : Avs ss σ F H vs l) : Sg ⟨[], F, H⟩ l (vs.map some) F H := by
  refine ⟨⟨S.fh, Same.refl _, fun _ _ _ e => e, fun _ _ e => .inl e, fun _ h => absurd h List.not_mem_nil, fun _ h => absurd h List.not_mem_nil, fun _ h => absurd h List.not_mem_nil⟩, by rw [List.length_map]; exact a.len, fun i s hi => ?_, fun i j s u l hij hi hj ms mu ei => ?_⟩
  · obtain ⟨v, hv, q⟩ := a.at hi
    rw [List.getElem?_map, hv]
    exact (q.ok S fun _ _ h => absurd h List.not_mem_nil).1
  · obtain ⟨v, hv, q⟩ := a.at hi
    rw [(q.ok S (A := []) fun _ _ h => absurd h List.not_mem_nil).2] at ms; cases ms
theorem Sg.call1 (S : Sg E ss σ F H) {i0 : Nat} {p : Addr} (hi : ss[i0]? = some .pot) (e : σ[i0]? = some (some (.ref p))) {vs : List V} {l : List Slot} (a : Avs ss σ F H vs l) : Sg ⟨[p], F, H⟩ (.pot :: l) ((V.ref p :: vs).map some) F H := by
  obtain ⟨p', e', fp, _, pp⟩ := S.ok i0 _ hi
  rw [e] at e'
  cases e'
  have hA : ∀ l, Npot ss σ l → l ∉ [p] := fun l n h => by
    have : l = p := by simpa using h
    subst this
    exact n i0 hi e
  have one : ∀ a, a ∈ [p] → a = p := fun a h => by simpa using h
  refine ⟨⟨S.fh, Same.refl _, fun _ _ _ e => e, fun _ _ e => .inl e, fun a h => (one a h) ▸ pp, fun a h => (one a h) ▸ fp, fun a h => ?_⟩, by rw [List.length_map, List.length_cons, List.length_cons]; rw [a.len], fun i s hi => ?_, fun i j s u l' hij hi hj ms mu ei => ?_⟩
  · rw [one a h]
    obtain ⟨_, _, q, _⟩ := pp
    show H p ≠ none
    rw [q]; simp
  · cases i with
    | zero => simp at hi; subst hi; exact ⟨p, rfl, fp, .inr (by simp), pp⟩
    | succ i =>
      obtain ⟨v, hv, q⟩ := a.at (i := i) (s := s) (by simpa using hi)
      have : ((V.ref p :: vs).map some)[i + 1]? = some (some v) := by rw [List.map_cons, List.getElem?_cons_succ, List.getElem?_map, hv]; rfl
      rw [this]
      exact (q.ok S hA).1
  · have z : ∀ (i : Nat) s, (Slot.pot :: l)[i]? = some s → mutS s = true → i = 0 := fun i s h m => by
      cases i with
      | zero => rfl
      | succ i =>
        obtain ⟨v, hv, q⟩ := a.at (i := i) (s := s) (by simpa using h)
        rw [(q.ok S hA).2] at m; cases m
    exact absurd ((z i s hi ms).trans (z j u hj mu).symm) hij
theorem Sg.back (S : Sg E ss σ F H) {A : List Addr} (hA : ∀ a, a ∈ A → ∃ i : Nat, ss[i]? = some .pot ∧ σ[i]? = some (some (.ref a))) (f : Fin ⟨A, F, H⟩ F' H') : Mv E ss σ F H F' H' := by
  refine S.step f.f0 f.fh (fun a o n e => f.keep a o (fun h => ?_) e) f.fresh fun i l hi e => ?_
  · obtain ⟨i, q1, q2⟩ := hA a h
    exact n i q1 q2
  · by_cases q : l ∈ A
    · exact f.pots l q
    · exact Pot.keep (S.potAt hi e) fun o e => f.keep l o q e
theorem wp_call (h : Wa ss t fun l => ∃ k', pre l (.is k') ∧ ∀ p, k' p → k p) : Wp ss (tCall (spF pre) [] E0 t) k := ⟨fun E σ F H Q S q =>
  h.go E σ F H _ S fun vs l F1 H1 m1 a ⟨k', hp, kk⟩ => by
    rw [List.append_nil]
    refine ⟨l, .is k', F1, [], hp, m1.st.call0 a, fun v F' H' f ⟨p, r, kp⟩ => ?_⟩
    exact q v p F' H' (m1.trans (m1.st.back (fun _ h => absurd h List.not_mem_nil) f)) r (kk p kp)⟩
theorem wn_call {k : List PV → Prop} (h : Wa ss t fun l => ∃ k', pre l (.new k') ∧ ∀ xs, k' xs → k xs) : Wn ss (tCall (spF pre) [] E0 t) k := ⟨fun E σ F H Q S q =>
  h.go E σ F H _ S fun vs l F1 H1 m1 a ⟨k', hp, kk⟩ => by
    rw [List.append_nil]
    refine ⟨l, .new k', F1, [], hp, m1.st.call0 a, fun v F' H' f ⟨l, vs, xs, e, fl, hl, hl', r, kx⟩ => ?_⟩
    subst e
    exact q l vs xs F' H' (m1.trans (m1.st.back (fun _ h => absurd h List.not_mem_nil) f)) fl (m1.none hl) hl' r (kk xs kx)⟩
theorem wp_callP {i : Nat} (hi : ss[i]? = some .pot) (h : Wa ss t fun l => ∃ k', pre (.pot :: l) (.is k') ∧ ∀ p, k' p → k p) : Wp ss (tCall (spF pre) [] E0 (tCons (tVar i) t)) k := ⟨fun E σ F H Q S q => by
  obtain ⟨p, e, _⟩ := S.ok i _ hi
  refine ⟨_, e, h.go E σ F H _ S fun vs l F1 H1 m1 a ⟨k', hp, kk⟩ => ?_⟩
  show spF pre ((V.ref p :: vs) ++ []) H1 Q E0
  rw [List.append_nil]
  refine ⟨.pot :: l, .is k', F1, [p], hp, m1.st.call1 hi e a, fun v F' H' f ⟨pv, r, kp⟩ => ?_⟩
  exact q v pv F' H' (m1.trans (m1.st.back (A := [p]) (fun a h => ⟨i, hi, (show a = p from by simpa using h) ▸ e⟩) f)) r (kk pv kp)⟩
theorem wn_callP {i : Nat} {k : List PV → Prop} (hi : ss[i]? = some .pot) (h : Wa ss t fun l => ∃ k', pre (.pot :: l) (.new k') ∧ ∀ xs, k' xs → k xs) : Wn ss (tCall (spF pre) [] E0 (tCons (tVar i) t)) k := ⟨fun E σ F H Q S q => by
  obtain ⟨p, e, _⟩ := S.ok i _ hi
  refine ⟨_, e, h.go E σ F H _ S fun vs l F1 H1 m1 a ⟨k', hp, kk⟩ => ?_⟩
  show spF pre ((V.ref p :: vs) ++ []) H1 Q E0
  rw [List.append_nil]
  refine ⟨.pot :: l, .new k', F1, [p], hp, m1.st.call1 hi e a, fun v F' H' f ⟨l, vs, xs, e2, fl, hl, hl', r, kx⟩ => ?_⟩
  subst e2
  exact q l vs xs F' H' (m1.trans (m1.st.back (A := [p]) (fun a h => ⟨i, hi, (show a = p from by simpa using h) ▸ e⟩) f)) fl (m1.none hl) hl' r (kk xs kx)⟩
/-! the entry of a def -/
theorem Sg.grown (S : Sg E ss σ F H) (n : Nat) : Sg E (ss ++ List.replicate n .any) (σ ++ List.replicate n none) F H := by
  have at1 : ∀ (i : Nat) s, (ss ++ List.replicate n .any)[i]? = some s → s ≠ .any → ss[i]? = some s ∧ (σ ++ List.replicate n none)[i]? = σ[i]? := fun i s e hs => by
    by_cases h : i < ss.length
    · rw [List.getElem?_append_left h] at e
      rw [List.getElem?_append_left (by rw [← S.len]; exact h)]
      exact ⟨e, rfl⟩
    · rw [List.getElem?_append_right (by omega), List.getElem?_replicate] at e
      split at e
      · exact absurd (Option.some.inj e).symm hs
      · cases e
  refine ⟨S.toFin, by simp [S.len], fun i s e => ?_, fun i j s u l hij hi hj ms mu ei => ?_⟩
  · cases s with
    | any => trivial
    | _ => obtain ⟨a, b⟩ := at1 i _ e (by simp); rw [b]; exact S.ok i _ a
  · have ns : s ≠ .any := by rintro rfl; cases ms
    have nu : u ≠ .any := by rintro rfl; cases mu
    obtain ⟨a, b⟩ := at1 i s hi ns
    obtain ⟨c, d⟩ := at1 j u hj nu
    rw [b] at ei
    rw [d]
    exact S.dis i j s u l hij a c ms mu ei
theorem fn_run {N : List Str} {n : Nat} {vs : List V} {Q : VK} {X : XK} {t : TS} (h : spF pre vs H Q X) (hl : ∀ ss R, pre ss R → ss.length = n)
    (hw : ∀ ss R, pre ss R → Ws (ss ++ List.replicate (N.length - n) .any) t (fun _ => ∃ k, R = .is k ∧ k .non) R) : t { nx := fun _ H' => Q .non H', rt := Q } (L2.start N vs) H := by
  obtain ⟨ss, R, F, A, hp, S, q⟩ := h
  have e : vs.length = n := by have := S.len; rw [List.length_map] at this; rw [← this]; exact hl ss R hp
  unfold L2.start
  rw [e]
  refine (hw ss R hp).go ⟨A, F, H⟩ _ _ F H (S.grown _) (fun ss' σ' F' H' ⟨k, e, kn⟩ S' _ => ?_) fun v F' H' f ok => q v F' H' f ok
  subst e
  exact q .non F' H' S'.toFin ⟨.non, .non, kn⟩
theorem spF_len {n : Nat} {vs : List V} {Q : VK} {X : XK} (hl : ∀ ss R, pre ss R → ss.length = n) (h : spF pre vs H Q X) : vs.length = n := by
  obtain ⟨ss, R, F, A, hp, S, q⟩ := h
  have := S.len
  rw [List.length_map] at this
  rw [← this]; exact hl ss R hp
end
end Fz

set_option Elab.async false
set_option linter.all false
set_option maxRecDepth 100000
set_option maxHeartbeats 4000000
namespace Fz
open PySem PySem.Spec PyProof.Rows L2 Lw
section
variable {E : Ent} {ss : List Slot} {σ : L2.St} {F H F' H' : Hp} {K : PySem.W.Frag} {js : List Nat} {ta tb te : TE} {k : PV → Prop} {nx : List Slot → Prop} {R : Ret}
/-- [.. for x, y in ..] -/
theorem wn_comp2 {wi : TI} {te : TE} {k : List PV → Prop} (g : PV → PV)
    (h : Wi ss wi fun xs => xs.length ≤ 100000 ∧ (∀ x ∈ xs, ∃ a b, x = .tup [a, b] ∧ Wp (capS js ss ++ [.is a, .is b]) te fun p => p = g x) ∧ k (xs.map g))
    (nd : js.Nodup := by decide) (np : noPot js ss = true := by rfl) : Wn ss (tComp2 K wi js te) k := ⟨fun E σ F H Q S q =>
  h.go E σ F H _ S fun J xs F1 H1 m1 sr ⟨hz, he, kk⟩ acc hacc => by
    have npa : Npot ss σ acc := m1.st.npotN hacc
    have h0a := m1.st.new0 hacc
    have sla : ∀ (i : Nat) s, ss[i]? = some s → mutS s = true → σ[i]? ≠ some (some (.ref acc)) := fun i s hi ms => m1.st.newAddr hi ms hacc
    refine ⟨fun i m H2 => m = xs.length - i ∧ i ≤ xs.length ∧ ∃ F2 vs, Mv E ss σ F1 H1 F2 H2 ∧ F2 acc = none ∧ H2 acc = some (.lst vs) ∧ Reps F2 vs ((xs.take i).map g), ⟨_, rfl, Nat.zero_le _, F1, [], m1.st.make hacc _, m1.st.newF hacc, upd_same, .nil⟩, ?_⟩
    rintro i m H2 ⟨rfl, hi, F2, vs, m2, fa, ha, rv⟩
    by_cases hlt : i < xs.length
    · refine .inr ⟨sr.go ss σ F2 H2 i m2.ff m2.st hlt, fun x H3 y => ?_⟩
      obtain ⟨p, F3, hp, m3, rp⟩ := sr.yld ss σ F2 H2 i x H3 m2.ff m2.st hlt y
      have hpm : p ∈ xs := List.mem_of_getElem? hp
      have htk : (xs.take (i + 1)) = xs.take i ++ [p] := by
        have e2 : xs[i] = p := by rw [List.getElem?_eq_getElem hlt] at hp; exact Option.some.inj hp
        rw [List.take_succ_eq_append_getElem hlt, e2]
      have notF : ∀ {F4 : Hp}, (∀ a o, F4 a = some o → F2 a = some o ∨ H2 a = none) → F4 acc = none := fun {F4} n => by
        cases e : F4 acc with
        | none => rfl
        | some o =>
          rcases n acc o e with w | w
          · rw [fa] at w; cases w
          · rw [ha] at w; cases w
      obtain ⟨a, b, ep, hw⟩ := he p hpm
      rw [ep] at rp
      cases rp with
      | tup e r => cases r with
        | cons r1 r => cases r with
          | cons r2 r => cases r with
            | nil =>
              refine ⟨_, _, _, rfl, SqT.of (m3.st.fh _ _ e), ?_⟩
              have S3 := m3.st.caps (js := js) nd (.cons r1 (.one r2))
              refine hw.go E _ F3 H3 _ S3 fun w pw F5 H5 m5 rw5 ew => ?_
              have m5' := m5.out (ps := [a, b]) m3.st np
              have m25 := m3.trans m5'
              have ha5 := m25.hh acc _ npa ha
              have fa5 := notF m25.nn
              have hlen : vs.length ≤ 99999 := by
                rw [rv.length, List.length_map, List.length_take]
                omega
              refine ⟨vs, ha5, small1 hlen, xs.length - (i + 1), by omega, rfl, hlt, F5, vs ++ [w], ?_, fa5, upd_same, ?_⟩
              · have m15 := m2.trans m25
                refine ⟨m15.st.poke fa5 h0a sla, m15.ff, fun a o n e => ?_, m15.nn⟩
                rw [upd_ne (ne_of_none e hacc)]; exact m15.hh a o n e
              · rw [htk, List.map_append]
                rw [ew] at rw5
                exact (rv.mono m25.ff).append (.one rw5)
    · have e : i = xs.length := by omega
      subst e
      refine .inl ⟨sr.stop ss σ F2 H2 m2.ff m2.st, q acc vs _ F2 H2 (m1.trans m2) fa (m1.none hacc) ha ?_ kk⟩
      rw [List.take_length] at rv
      exact rv⟩
/-! ### the laws' own helpers -/
theorem Sg.pstep (S : Sg E ss σ F H) {i : Nat} {p : Addr} (hi : ss[i]? = some .pot) (e : σ[i]? = some (some (.ref p))) (s : PStep p H H') : Mv E ss σ F H F H' := by
  obtain ⟨p', e', fp, _, pp⟩ := S.ok i _ hi
  rw [e] at e'
  cases e'
  refine S.step (Same.refl _) (fun a o q => s.same a o (ne_of_none q fp) (S.fh a o q)) (fun a o n q => s.same a o (fun z => ?_) q) (fun a o q => .inl q) fun j l hj ej => ?_
  · rw [z] at n; exact n i hi e
  · by_cases z : l = p
    · rw [z]; exact s.pot
    · exact Pot.keep (S.potAt hj ej) fun o q => s.same l o z q
theorem wp_take {i : Nat} (hi : ss[i]? = some .pot) (h : Wp ss te fun x => ∃ m, x = .int m ∧ 0 < m ∧ m < 10 ^ 18 ∧ ∀ r : Int, 0 ≤ r → r < m → k (.int r)) : Wp ss (tCall spTake [] E0 (tCons (tVar i) (tCons te tNil))) k := ⟨fun E σ F H Q S q => by
  obtain ⟨p, e, _⟩ := S.ok i _ hi
  refine ⟨_, e, h.go E σ F H _ S fun v x F1 H1 m1 r ⟨m, em, m0, m1', kk⟩ => ?_⟩
  subst em; cases r
  exact ⟨p, m, rfl, m1.st.potAt hi e, m0, m1', fun r H2 r0 r1 s => q _ _ F1 H2 (m1.trans (m1.st.pstep hi e s)) (.int r) (kk r r0 r1)⟩⟩
theorem wn_rowOf {sp : Sp} {i : Nat} {k : List PV → Prop} (hsp : sp = spRow) (hi : ss[i]? = some .pot) (h : Wp ss te fun x => ∃ m, x = .int m ∧ 1 ≤ m ∧ m ≤ 100 ∧ ∀ ns : List Str, (ns.length : Int) ≤ m → (∀ x ∈ ns, Nm x) → ns.Nodup → k (ns.map PV.str)) : Wn ss (tCall sp [] E0 (tCons (tVar i) (tCons te tNil))) k := ⟨fun E σ F H Q S q => by
  subst hsp
  obtain ⟨p, e, _⟩ := S.ok i _ hi
  refine ⟨_, e, h.go E σ F H _ S fun v x F1 H1 m1 r ⟨m, em, m0, m1', kk⟩ => ?_⟩
  subst em; cases r
  refine ⟨p, m, rfl, m1.st.potAt hi e, m0, m1', fun l H2 ns hl s hl2 hz hN nd => ?_⟩
  have m2 := m1.st.pstep hi e s
  exact q l _ _ F1 H2 (m1.trans m2) (m1.st.newF hl) (m1.none hl) hl2 (reps_strs ns) (kk ns hz hN nd)⟩
/-- the script -/
def scriptP (K : PySem.W.Frag) (ns : List Int) : Hp → V → Prop := fun F v => ∃ a, v = .ref a ∧ SqL K F a (ns.map V.int)
theorem scriptP_same (K : PySem.W.Frag) (ns : List Int) : ∀ (v : V) (F F' : Hp), Same F F' → scriptP K ns F v → scriptP K ns F' v := fun v F F' s ⟨a, e, h⟩ => ⟨a, e, by
  rcases h with (h | ⟨o, h⟩) | h
  · exact .inl (.inl (s _ _ h))
  · exact .inl (.inr ⟨o, s _ _ h⟩)
  · exact .inr h⟩
theorem wp_lenS {i : Nat} {ns : List Int} (hi : ss[i]? = some (.raw (scriptP K ns))) (h : k (.int ns.length)) : Wp ss (tCB (rLenS K) (tCons (tVar i) tNil)) k := ⟨fun E σ F H Q S q => by
  obtain ⟨v, e, ⟨a, ev, hq⟩, st⟩ := S.ok i _ hi
  subst ev
  obtain ⟨a', ea, hq'⟩ := scriptP_same K ns _ F H S.fh ⟨a, rfl, hq⟩
  cases ea
  refine ⟨_, e, a, _, rfl, .inl hq', ?_⟩
  rw [List.length_map]
  exact q _ _ F H (.refl S) (.int _) h⟩
theorem ws_pot {i j : Nat} {ns : List Int} (hi : ss[i]? = some (.raw (scriptP K ns))) (h : Wp ss te fun x => ∃ m, x = .int m ∧ 0 ≤ m ∧ m ≤ 1000 ∧ nx (ss.set j .pot)) : Ws ss (tAsg (tCall (spPot K) [] E0 (tCons (tVar i) (tCons te tNil))) (gName j)) nx R := ⟨fun E D σ F H S hn hr => by
  obtain ⟨v, e, ⟨a, ev, hq⟩, st⟩ := S.ok i _ hi
  subst ev
  refine ⟨_, e, h.go E σ F H _ S fun v x F1 H1 m1 r ⟨m, em, m0, m1', kk⟩ => ?_⟩
  subst em; cases r
  obtain ⟨v', e', hq1, _⟩ := m1.st.ok i _ hi
  rw [e] at e'; cases e'
  obtain ⟨a', ea, hq'⟩ := scriptP_same K ns _ F1 H1 m1.st.fh hq1
  cases ea
  refine ⟨a, ns, m, rfl, hq', m0, m1', fun p H2 hp s pp => ?_⟩
  have m2 := m1.st.grow s
  exact hn _ _ F1 H2 kk (m2.st.setG ⟨p, rfl, m1.st.newF hp, .inl (m1.st.new0 hp), pp⟩ fun _ b u _ hu mu => m1.st.newAddr hu mu hp) m1.ff⟩
/-- the law itself -/
def preLaw (K : PySem.W.Frag) : Pre := fun l R => ∃ ns : List Int, l = [.raw (scriptP K ns)] ∧ ns.length ≤ 63 ∧ R = .is fun p => p = .bl true
theorem law_run {N : List Str} {vs : List V} {Q : VK} {X : XK} {t : TS} (h : spLaw K vs H Q X) (hw : ∀ ns : List Int, ns.length ≤ 63 → Ws (.raw (scriptP K ns) :: List.replicate (N.length - 1) .any) t (fun _ => False) (.is fun p => p = .bl true)) : t { nx := fun _ H' => Q .non H', rt := Q } (L2.start N vs) H := by
  obtain ⟨a, ns, rfl, hS, h63, q⟩ := h
  have S : Sg ⟨[], H, H⟩ [.raw (scriptP K ns)] [some (.ref a)] H H := by
    refine ⟨⟨Same.refl _, Same.refl _, fun _ _ _ e => e, fun _ _ e => .inl e, fun _ h => absurd h List.not_mem_nil, fun _ h => absurd h List.not_mem_nil, fun _ h => absurd h List.not_mem_nil⟩, rfl, fun i s hi => ?_, fun i j s u l hij hi hj ms => ?_⟩
    · cases i with
      | zero => cases hi; exact ⟨_, rfl, ⟨a, rfl, hS⟩, scriptP_same K ns _⟩
      | succ i => simp at hi
    · cases i with
      | zero => cases hi; cases ms
      | succ i => simp at hi
  refine (hw ns h63).go ⟨[], H, H⟩ _ _ H H (S.grown _) (fun _ _ _ _ h => h.elim) fun v F' H' f ok => ?_
  obtain ⟨p, r, rfl⟩ := ok
  cases r
  exact q H'
end
end Fz

set_option Elab.async false
set_option linter.all false
set_option maxRecDepth 100000
set_option maxHeartbeats 4000000
namespace Fz
open PySem PySem.Spec PyProof.Rows L2 Lw
section
variable {E : Ent} {ss : List Slot} {σ : L2.St} {F H F' H' : Hp} {K : PySem.W.Frag} {js : List Nat} {ta tb te : TE} {k : PV → Prop} {nx : List Slot → Prop} {R : Ret}
theorem Wi.mono {wi : TI} {k k' : List PV → Prop} (h : Wi ss wi k) (i : ∀ xs, k xs → k' xs) : Wi ss wi k' := ⟨fun E σ F H R S q => h.go E σ F H R S fun J xs F' H' m s kk => q J xs F' H' m s (i xs kk)⟩
theorem Wt.mono {t : TT} {k k' : Bool → Prop} (h : Wt ss t k) (i : ∀ b, k b → k' b) : Wt ss t k' := ⟨fun E σ F H Q S q => h.go E σ F H Q S fun b F' H' m kk => q b F' H' m (i b kk)⟩
theorem wn_compG {α : Type} {wi : TI} {tt : TT} {te : TE} {k : List PV → Prop} (c : α → PV) (f : α → Bool) (g : α → PV)
    (h : Wi ss wi fun xs => ∃ ns : List α, xs = ns.map c ∧ ns.length ≤ 100000 ∧ (∀ x ∈ ns, Wt (capS js ss ++ [.is (c x)]) tt fun b => b = f x) ∧ (∀ x ∈ ns, f x = true → Wp (capS js ss ++ [.is (c x)]) te fun p => p = g x) ∧ k ((ns.filter f).map g))
    (inj : ∀ x y, c x = c y → x = y) (nd : js.Nodup := by decide) (np : noPot js ss = true := by rfl) : Wn ss (tComp wi js tt te) k := by
  by_cases hα : Nonempty α
  · obtain ⟨x0⟩ := hα
    have inv : ∀ p : PV, ∃ x : α, ∀ y, c y = p → y = x := fun p => by
      by_cases q : ∃ y, c y = p
      · obtain ⟨y, hy⟩ := q
        exact ⟨y, fun z hz => inj _ _ (hz.trans hy.symm)⟩
      · exact ⟨x0, fun y hy => absurd ⟨y, hy⟩ q⟩
    let d : PV → α := fun p => Classical.choose (inv p)
    have hd : ∀ x, d (c x) = x := fun x => (Classical.choose_spec (inv (c x)) x rfl).symm
    refine wn_comp (fun p => f (d p)) (fun p => g (d p)) (h.mono fun xs ⟨ns, e, hz, h1, h2, kk⟩ => ?_) nd np
    subst e
    refine ⟨by rw [List.length_map]; exact hz, fun x hx => ?_, fun x hx hf => ?_, ?_⟩
    · obtain ⟨y, hy, rfl⟩ := List.mem_map.mp hx
      rw [hd]; exact h1 y hy
    · obtain ⟨y, hy, rfl⟩ := List.mem_map.mp hx
      rw [hd] at hf ⊢; exact h2 y hy hf
    · have e : ((ns.map c).filter fun p => f (d p)).map (fun p => g (d p)) = (ns.filter f).map g := by
        rw [List.filter_map, List.map_map]
        congr 1
        · funext x; show g (d (c x)) = g x; rw [hd]
        · congr 1; funext x; show f (d (c x)) = f x; rw [hd]
      rw [e]; exact kk
  · refine wn_comp (fun _ => true) (fun p => p) (h.mono fun xs ⟨ns, e, hz, h1, h2, kk⟩ => ?_) nd np
    have en : ns = [] := by
      cases ns with
      | nil => rfl
      | cons x r => exact absurd ⟨x⟩ hα
    subst en; subst e
    exact ⟨by simp, fun x hx => absurd hx (by simp), fun x hx => absurd hx (by simp), kk⟩
theorem str_inj : ∀ x y : Str, PV.str x = PV.str y → x = y := fun _ _ e => by injection e
theorem rng_inj : ∀ x y : Nat, PV.int (x : Int) = PV.int (y : Int) → x = y := fun _ _ e => by injection e with e; omega
theorem wp_in0 (h : Wp ss ta fun p => ∃ x, p = .str x ∧ Wq ss tb fun _ ys => ∃ ns : List Str, ys = ns.map PV.str ∧ k (.bl (decide (x ∈ ns)))) : Wp ss (tOp (rIn K false) ta tb) k := wp_in h
theorem wp_in1 (h : Wp ss ta fun p => ∃ x, p = .str x ∧ Wq ss tb fun _ ys => ∃ ns : List Str, ys = ns.map PV.str ∧ k (.bl (!decide (x ∈ ns)))) : Wp ss (tOp (rIn K true) ta tb) k := wp_in h
theorem wp_eqS0 (h : Wq ss ta fun tp xs => ∃ ns : List Str, xs = ns.map PV.str ∧ Wq ss tb fun tp2 ys => tp2 = tp ∧ ∃ ms : List Str, ys = ms.map PV.str ∧ k (.bl (decide (ns = ms)))) : Wp ss (tOp (rEqS K false) ta tb) k := wp_eqS h
theorem wp_eqS1 (h : Wq ss ta fun tp xs => ∃ ns : List Str, xs = ns.map PV.str ∧ Wq ss tb fun tp2 ys => tp2 = tp ∧ ∃ ms : List Str, ys = ms.map PV.str ∧ k (.bl (!decide (ns = ms)))) : Wp ss (tOp (rEqS K true) ta tb) k := wp_eqS h
theorem Wq.mono {k k' : Bool → List PV → Prop} (h : Wq ss te k) (i : ∀ b xs, k b xs → k' b xs) : Wq ss te k' := ⟨fun E σ F H Q S q => h.go E σ F H Q S fun v tp xs F' H' m s kk => q v tp xs F' H' m s (i tp xs kk)⟩
theorem Wo.mono {t : TO} {k k' : Option Int → Prop} (h : Wo ss t k) (i : ∀ o, k o → k' o) : Wo ss t k' := ⟨fun E σ F H Q S q => h.go E σ F H Q S fun o F' H' m kk => q o F' H' m (i o kk)⟩
theorem wz_slice2 {tl th : TO} {k : Bool → List PV → Prop} (h : Wq ss te fun tp xs => Wo ss tl fun lo => Wo ss th fun hi => k tp (cutP xs lo hi)) : Wz ss (tSl (rSl2 K) te tl th) k :=
  wz_of_wp (wp_slice2 (h.mono fun tp xs h => h.mono fun lo h => h.mono fun hi h => by
    cases tp
    · exact ⟨_, .inl ⟨rfl, h⟩⟩
    · exact ⟨_, .inr ⟨rfl, h⟩⟩))
theorem wq_slice2 {tl th : TO} {k : Bool → List PV → Prop} (h : Wq ss te fun tp xs => Wo ss tl fun lo => Wo ss th fun hi => k tp (cutP xs lo hi)) : Wq ss (tSl (rSl2 K) te tl th) k := wq_of_wz (wz_slice2 h)
theorem cutP_map {α β : Type} (c : α → β) (xs : List α) (lo hi : Option Int) : cutP (xs.map c) lo hi = (cutP xs lo hi).map c := by
  unfold cutP; rw [List.length_map, List.map_take, List.map_drop]
theorem map_app {α β : Type} (c : α → β) (xs ys : List α) : xs.map c ++ ys.map c = (xs ++ ys).map c := by rw [List.map_append]
theorem cut_hi {α : Type} (xs : List α) (g : Nat) : cutP xs none (some (g : Int)) = xs.take g := by
  unfold cutP
  rw [HT.sIx_nat, HT.sIx_none, List.drop_zero, Nat.sub_zero]
  rcases Nat.le_total g xs.length with h | h
  · rw [Nat.min_eq_left h]
  · rw [Nat.min_eq_right h, List.take_length, List.take_of_length_le h]
theorem cut_lo {α : Type} (xs : List α) (g : Nat) : cutP xs (some (g : Int)) none = xs.drop g := by
  unfold cutP
  rw [HT.sIx_nat, HT.sIx_none]
  rcases Nat.le_total g xs.length with h | h
  · rw [Nat.min_eq_left h, List.take_of_length_le (by rw [List.length_drop]; omega)]
  · rw [Nat.min_eq_right h, List.drop_length, List.drop_of_length_le h]; simp
theorem cutP_le {α : Type} (xs : List α) (lo hi : Option Int) : (cutP xs lo hi).length ≤ xs.length := by
  unfold cutP; rw [List.length_take, List.length_drop]; omega
theorem map_bl {α : Type} (g : α → Bool) (xs : List α) : xs.map (fun x => PV.bl (g x)) = (xs.map g).map PV.bl := by rw [List.map_map]; rfl
theorem at_strs {ns : List Str} {i : Nat} (h : i < ns.length) : L2.atI (ns.map PV.str) (i : Int) = some (.str (ns.getD i "")) := by
  have e : (ns.map PV.str)[i]? = some (.str (ns.getD i "")) := by rw [List.getElem?_map, List.getElem?_eq_getElem h, List.getD_eq_getElem?_getD, List.getElem?_eq_getElem h]; rfl
  exact L2.atI_nat e
theorem at_strsI {ns : List Str} {i : Int} (h0 : 0 ≤ i) (h : i < ns.length) : L2.atI (ns.map PV.str) i = some (.str (ns.getD i.toNat "")) := by
  have e := at_strs (ns := ns) (i := i.toNat) (by omega)
  rwa [Int.toNat_of_nonneg h0] at e
/-- == of two truths -/
def b2 : PV → Bool
  | .bl b => b
  | _ => false
end
end Fz

set_option Elab.async false
set_option linter.all false
set_option maxRecDepth 100000
set_option maxHeartbeats 4000000
namespace Fz
open PySem PySem.Spec PyProof.Rows L2 Lw
section
variable {E : Ent} {ss : List Slot} {σ : L2.St} {F H F' H' : Hp} {K : PySem.W.Frag} {js : List Nat} {ta tb te : TE} {k : PV → Prop} {nx : List Slot → Prop} {R : Ret} {xs ys : List PV}
theorem wp_place (h : Wq ss ta fun _ xs => ∃ ns : List Str, xs = ns.map PV.str ∧ Wp ss tb fun p => ∃ x, p = .str x ∧ x ∈ ns ∧ k (.int (ns.idxOf x : Nat))) : Wp ss (tCall spPlace [] E0 (tCons ta (tCons tb tNil))) k := ⟨fun E σ F H Q S q =>
  h.go E σ F H _ S fun v tp xs F1 H1 m1 sv ⟨ns, e, h2⟩ => h2.go E σ F1 H1 _ m1.st fun v2 p2 F2 H2 m2 r2 ⟨x, e2, hx, kk⟩ => by
    subst e; subst e2; cases r2
    obtain ⟨l, vs, rfl, hl, r⟩ := (sv.mv m2).seq m2.st
    rw [r.strs] at hl
    exact ⟨l, tp, ns, x, rfl, hl, hx, q _ _ F2 H2 (m1.trans m2) (.int _) kk⟩⟩
theorem wp_indexL (h : Wq ss ta fun tp xs => tp = false ∧ ∃ ns : List Str, xs = ns.map PV.str ∧ Wp ss tb fun p => ∃ x, p = .str x ∧ x ∈ ns ∧ k (.int (ns.idxOf x : Nat))) : Wp ss (tBM K "list" (rIndexL K) ta (tCons tb tNil)) k := ⟨fun E σ F H Q S q =>
  h.go E σ F H _ S fun v tp xs F1 H1 m1 sv ⟨et, ns, e, h2⟩ => by
    subst e; subst et
    obtain ⟨l, vs, rfl, hl, r⟩ := sv.seq m1.st
    refine ⟨.inl ⟨rfl, _, SqL.of hl⟩, h2.go E σ F1 H1 _ m1.st fun v2 p2 F2 H2 m2 r2 ⟨x, e2, hx, kk⟩ => ?_⟩
    subst e2; cases r2
    obtain ⟨l', vs', e', hl', r'⟩ := (sv.mv m2).seq m2.st
    cases e'
    rw [r'.strs] at hl'
    exact ⟨l, ns, x, rfl, rfl, SqL.of hl', hx, q _ _ F2 H2 (m1.trans m2) (.int _) kk⟩⟩
/-! enumerate -/
def enumP (xs : List PV) : List PV := (List.range xs.length).map fun i : Nat => .tup [.int (i : Int), xs.getD i .non]
theorem enumP_len (xs : List PV) : (enumP xs).length = xs.length := by simp [enumP]
theorem enumP_at {xs : List PV} {i : Nat} {x : PV} (h : xs[i]? = some x) : (enumP xs)[i]? = some (.tup [.int (i : Int), x]) := by
  have hi : i < xs.length := (List.getElem?_eq_some_iff.mp h).1
  unfold enumP
  rw [List.getElem?_map, List.getElem?_range hi]
  show some (PV.tup [PV.int (i : Int), xs.getD i PV.non]) = _
  rw [List.getD_eq_getElem?_getD, h]; rfl
theorem enumP_of {xs : List PV} {i : Nat} {p : PV} (h : (enumP xs)[i]? = some p) : ∃ x, xs[i]? = some x ∧ p = .tup [.int (i : Int), x] := by
  have hi : i < xs.length := by have := (List.getElem?_eq_some_iff.mp h).1; rwa [enumP_len] at this
  have e := List.getElem?_eq_getElem hi
  refine ⟨xs[i], e, ?_⟩
  rw [enumP_at e] at h
  exact (Option.some.inj h).symm
theorem wi_enum {k : List PV → Prop} (h : Wz ss te fun _ xs => k (enumP xs)) : Wi ss (iEnum2 K (tCons te tNil)) k := ⟨fun E σ F H R S q =>
  h.go E σ F H _ S fun v tp xs F1 H1 m1 f kk => by
    obtain ⟨l, vs, ev, hl, r⟩ : ∃ l vs, v = .ref l ∧ (∀ (ss : List Slot) (σ : L2.St) (F H : Hp), Same F1 F → Sg E ss σ F H → H l = some (HOq tp vs)) ∧ Reps F1 vs xs := by
      cases tp with
      | true =>
        have f' : Rep F1 v (.tup xs) := f
        cases f' with
        | tup e r => exact ⟨_, _, rfl, fun ss σ F H s S => S.fh _ _ (s _ _ e), r⟩
      | false =>
        obtain ⟨l, vs, e, h1, r⟩ := f
        refine ⟨l, vs, e, fun ss σ F H s S => ?_, r⟩
        rcases h1 with h1 | ⟨hA, h1⟩
        · exact S.fh _ _ (s _ _ h1)
        · exact S.keep _ _ hA h1
    subst ev
    refine ⟨l, tp, vs, rfl, HOq.sq (hl ss σ F1 H1 (Same.refl _) m1.st), q _ (enumP xs) F1 H1 m1 ⟨fun ss σ F H i s S hi => ?_, fun ss σ F H s S => ?_, fun ss σ F H i x H' s S hi y => ?_⟩ kk⟩
    · rw [enumP_len] at hi; exact ⟨HOq.sq (hl ss σ F H s S), by rw [r.length]; exact hi⟩
    · refine ⟨HOq.sq (hl ss σ F H s S), ?_⟩
      rw [enumP_len, r.length]; exact Nat.le_refl _
    · obtain ⟨p, y, hy, ex, hp, eH⟩ := y
      subst ex; subst eH
      obtain ⟨z, hz, rz⟩ := r.get' hy
      have m := S.alloc hp (.tup [.int i, y])
      exact ⟨_, _, enumP_at hz, m, .tup upd_same (.cons (.int _) (.one (rz.mono (s.trans m.ff))))⟩⟩
/-- xs.append((ys.pop(), e)) -/
theorem ws_appPop {i j : Nat} {y : PV} (hi : ss[i]? = some (.own xs)) (hj : ss[j]? = some (.own ys)) (hij : i ≠ j) (hy : ys[ys.length - 1]? = some y) (h : Wp (ss.set j (.own ys.dropLast)) te fun p => xs.length ≤ 99999 ∧ nx ((ss.set j (.own ys.dropLast)).set i (.own (xs ++ [.tup [y, p]])))) :
    Ws ss (tDrop (tBM K "list" rAppend (tVar i) (tCons (tTup (tCons (tBM0 K "list" rPop (tVar j)) (tCons te tNil))) tNil))) nx R := ⟨fun E D σ F H S hn hr => by
  obtain ⟨l, vs, e, e1, e2, e3, r⟩ := S.ok i _ hi
  obtain ⟨l2, ws, f, f1, f2, f3, r2⟩ := S.ok j _ hj
  obtain ⟨u, hu, ru⟩ := r2.get hy
  have hdl : Reps F ws.dropLast ys.dropLast := by
    rw [List.dropLast_eq_take, List.dropLast_eq_take, r2.length]
    exact r2.take _
  refine ⟨_, e, .inl ⟨rfl, _, SqL.of e3⟩, _, f, .inl ⟨rfl, _, SqL.of f3⟩, l2, ws, u, rfl, rfl, f3, by rw [r2.length]; exact hu, ?_⟩
  have S1 := S.put hj f f1 f2 hdl
  refine h.go E σ F _ _ S1 fun v p F1 H1 m1 rv ⟨hz, kk⟩ => ?_
  refine ⟨(by show 2 ≤ sizeLine; decide), fun a ha => ?_⟩
  have m2 := m1.st.alloc ha (.tup [u, v])
  have hi1 : (ss.set j (.own ys.dropLast))[i]? = some (.own xs) := by rw [List.getElem?_set_ne (Ne.symm hij)]; exact hi
  obtain ⟨l', vs', e', e1', e2', e3', r'⟩ := m2.st.ok i _ hi1
  rw [e] at e'
  cases e'
  refine ⟨l, vs', _, rfl, rfl, e3', small1 (by rw [r'.length]; exact hz), ?_⟩
  have rt : Rep (upd F1 a (.tup [u, v])) (.ref a) (.tup [y, p]) := .tup upd_same (.cons (ru.mono (m1.ff.trans m2.ff)) (.one (rv.mono m2.ff)))
  exact hn _ σ _ _ kk (m2.st.put hi1 e e1' e2' (r'.append (.one rt))) (m1.ff.trans m2.ff)⟩
theorem wn_comp2G {α : Type} {wi : TI} {te : TE} {k : List PV → Prop} (c d : α → PV) (g : α → PV)
    (h : Wi ss wi fun xs => ∃ ns : List α, xs = ns.map (fun a => .tup [c a, d a]) ∧ ns.length ≤ 100000 ∧ (∀ a ∈ ns, Wp (capS js ss ++ [.is (c a), .is (d a)]) te fun p => p = g a) ∧ k (ns.map g))
    (inj : ∀ x y, c x = c y → d x = d y → x = y) (nd : js.Nodup := by decide) (np : noPot js ss = true := by rfl) : Wn ss (tComp2 K wi js te) k := by
  by_cases hα : Nonempty α
  · obtain ⟨x0⟩ := hα
    have inv : ∀ p : PV, ∃ x : α, ∀ y, PV.tup [c y, d y] = p → y = x := fun p => by
      by_cases q : ∃ y, PV.tup [c y, d y] = p
      · obtain ⟨y, hy⟩ := q
        refine ⟨y, fun z hz => ?_⟩
        have e := hz.trans hy.symm
        injection e with e
        simp only [List.cons.injEq, and_true] at e
        exact inj _ _ e.1 e.2
      · exact ⟨x0, fun y hy => absurd ⟨y, hy⟩ q⟩
    let w : PV → α := fun p => Classical.choose (inv p)
    have hw : ∀ x, w (.tup [c x, d x]) = x := fun x => (Classical.choose_spec (inv (.tup [c x, d x])) x rfl).symm
    refine wn_comp2 (fun p => g (w p)) (h.mono fun xs ⟨ns, e, hz, h1, kk⟩ => ?_) nd np
    subst e
    refine ⟨by rw [List.length_map]; exact hz, fun x hx => ?_, ?_⟩
    · obtain ⟨y, hy, rfl⟩ := List.mem_map.mp hx
      refine ⟨_, _, rfl, ?_⟩
      rw [hw]; exact h1 y hy
    · have e : (ns.map fun a => PV.tup [c a, d a]).map (fun p => g (w p)) = ns.map g := by
        rw [List.map_map]
        congr 1
        funext x; show g (w _) = g x; rw [hw]
      rw [e]; exact kk
  · refine wn_comp2 (fun p => p) (h.mono fun xs ⟨ns, e, hz, h1, kk⟩ => ?_) nd np
    have en : ns = [] := by
      cases ns with
      | nil => rfl
      | cons x r => exact absurd ⟨x⟩ hα
    subst en; subst e
    exact ⟨by simp, fun x hx => absurd hx (by simp), kk⟩
theorem wn_mapG {α : Type} {wi : TI} {te : TE} {k : List PV → Prop} (c : α → PV) (g : α → PV)
    (h : Wi ss wi fun xs => ∃ ns : List α, xs = ns.map c ∧ ns.length ≤ 100000 ∧ (∀ x ∈ ns, Wp (capS js ss ++ [.is (c x)]) te fun p => p = g x) ∧ k (ns.map g))
    (inj : ∀ x y, c x = c y → x = y) (nd : js.Nodup := by decide) (np : noPot js ss = true := by rfl) : Wn ss (tComp wi js tTrue te) k :=
  wn_compG c (fun _ => true) g (h.mono fun xs ⟨ns, e, hz, h1, kk⟩ => ⟨ns, e, hz, fun x hx => wt_true rfl, fun x hx _ => h1 x hx, by rw [List.filter_eq_self.mpr (fun _ _ => rfl)]; exact kk⟩) inj nd np
def pairP (a : Str × Str) : PV := .tup [.str a.1, .str a.2]
theorem pair_inj : ∀ x y : Str × Str, PV.str x.1 = PV.str y.1 → PV.str x.2 = PV.str y.2 → x = y := fun x y e f => by
  injection e with e; injection f with f; exact Prod.ext e f
theorem pairP_inj : ∀ x y : Str × Str, pairP x = pairP y → x = y := fun x y e => by
  unfold pairP at e
  injection e with e
  simp only [List.cons.injEq, and_true] at e
  exact pair_inj x y e.1 e.2
theorem wn_rev {k : List PV → Prop} (h : Wq ss te fun _ xs => k xs.reverse) : Wn ss (tRev K (tCons te tNil)) k := ⟨fun E σ F H Q S q =>
  h.go E σ F H _ S fun v tp xs F1 H1 m1 sv kk => by
    obtain ⟨l, vs, rfl, hl, r⟩ := sv.seq m1.st
    refine ⟨l, tp, vs, rfl, HOq.sq hl, fun a ha => ?_⟩
    have m2 := m1.st.make ha (.lst vs.reverse)
    exact q a _ _ F1 _ (m1.trans m2) (m1.st.newF ha) (m1.none ha) upd_same r.reverse kk⟩
/-- xs != [], xs == [] of any list -/
theorem wp_eqN (h : Wq ss ta fun tp xs => tp = false ∧ Wq ss tb fun tp2 ys => tp2 = false ∧ ys = [] ∧ k (.bl (decide (xs.length = 0)))) : Wp ss (tOp (rEqN K) ta tb) k := ⟨fun E σ F H Q S q =>
  h.go E σ F H _ S fun v tp xs F1 H1 m1 sv ⟨et, h2⟩ => h2.go E σ F1 H1 _ m1.st fun v2 tp2 ys F2 H2 m2 sv2 ⟨et2, ey, kk⟩ => by
    subst et; subst et2; subst ey
    obtain ⟨l, vs, rfl, hl, r⟩ := (sv.mv m2).seq m2.st
    obtain ⟨l2, vs2, rfl, hl2, r2⟩ := sv2.seq m2.st
    cases r2
    refine ⟨l, l2, vs, rfl, rfl, SqL.of hl, SqL.of hl2, ?_⟩
    have e : decide (vs = []) = decide (xs.length = 0) := by
      rw [← r.length]
      cases vs <;> simp
    rw [e]
    exact q _ _ F2 H2 (m1.trans m2) (.bl _) kk⟩
/-- the two truths of a row and another -/
theorem wp_int1 {r : List V → Hp → VK → Prop} (hr : r = fun xs H Q => (∃ i, xs = [.int i] ∧ Q (.int i) H) ∨ ∃ k, xs = [.bl k] ∧ Q (.int (if k then 1 else 0)) H) (h : Wp ss te fun p => ∃ b, p = .bl b ∧ k (.int (if b then 1 else 0))) : Wp ss (tCB r (tCons te tNil)) k := ⟨fun E σ F H Q S q =>
  h.go E σ F H _ S fun v p F1 H1 m1 r ⟨b, e, kk⟩ => by
    subst hr; subst e; cases r
    exact .inr ⟨b, rfl, q _ _ F1 H1 m1 (.int _) kk⟩⟩
end
theorem iteY {c A B : Prop} [Decidable c] (h : c) (a : A) : if c then A else B := by rw [if_pos h]; exact a
/-! sorted rows -/
theorem sorted_one {a b : List Str} (p : a.Perm b) (ha : sortedS a = true) (hb : sortedS b = true) : a = b := by
  refine List.Perm.eq_of_pairwise (le := fun a b => ¬ ltS b a) (fun x y _ _ h1 h2 => ?_) (sorted_weak ha) (sorted_weak hb) p
  rcases ltS_tot x y with z | z | z
  · exact absurd z h2
  · exact z
  · exact absurd z h1
end Fz

set_option Elab.async false
set_option linter.all false
set_option maxRecDepth 100000
set_option maxHeartbeats 4000000
namespace L2
open PySem PySem.Spec PyProof.Rows
theorem qi_range2 {X : Cx} {tg : Expr} {a b : Expr} {ta : TA} {p pos : Pos} (hg : Gl X "range") (hm : X.mg "range" = none) (ha : QA X [a, b] ta) (hs : starEach [a, b] X.env = [(false, eval a X.env), (false, eval b X.env)] := by rfl) (hs2 : starEach [b] X.env = [(false, eval b X.env)] := by rfl) : QI X tg (.Call (.Name "range" p) [a, b] [] pos) (iRng2 ta) := ⟨pi_range2 hg hm ha.h hs hs2⟩
end L2
namespace Fz
open PySem PySem.Spec PyProof.Rows L2 Lw
section
variable {E : Ent} {ss : List Slot} {σ : L2.St} {F H F' H' : Hp} {K : PySem.W.Frag} {js : List Nat} {ta tb tc te : TE} {k : PV → Prop} {nx : List Slot → Prop} {R : Ret} {xs ys : List PV}
def rng2 (i : Int) (n : Nat) : List PV := (List.range n).map fun j : Nat => PV.int (i + (j : Int))
theorem rng2_len (i : Int) (n : Nat) : (rng2 i n).length = n := by simp [rng2]
theorem rng2_at {i : Int} {n j : Nat} {p : PV} (h : (rng2 i n)[j]? = some p) : j < n ∧ p = .int (i + (j : Int)) := by
  have hj : j < n := by have := (List.getElem?_eq_some_iff.mp h).1; rwa [rng2_len] at this
  unfold rng2 at h
  rw [List.getElem?_map, List.getElem?_range hj] at h
  exact ⟨hj, (Option.some.inj h).symm⟩
theorem wi_rng2 {k : List PV → Prop} (h : Wp ss ta fun p => ∃ i : Int, p = .int i ∧ Wp ss tb fun p => ∃ j : Int, p = .int j ∧ (i ≤ 1000000 ∧ -1000000 ≤ i ∧ j ≤ 1000000 ∧ -1000000 ≤ j) ∧ k (rng2 i (j - i).toNat)) : Wi ss (iRng2 (tCons ta (tCons tb tNil))) k := ⟨fun E σ F H R S q =>
  h.go E σ F H _ S fun v p F1 H1 m1 r ⟨i, e, h2⟩ => by
    subst e; cases r
    exact h2.go E σ F1 H1 _ m1.st fun v2 p2 F2 H2 m2 r2 ⟨j, e2, hb, kk⟩ => by
      subst e2; cases r2
      refine ⟨i, j, rfl, by omega, q _ (rng2 i (j - i).toNat) F2 H2 (m1.trans m2) ⟨fun ss σ F H n s S hn => ?_, fun ss σ F H s S => ?_, fun ss σ F H n x H' s S hn y => ?_⟩ kk⟩
      · rw [rng2_len] at hn; exact hn
      · show _ ≤ _
        rw [rng2_len]; exact Nat.le_refl _
      · obtain ⟨e, hx⟩ := y
        subst e; subst hx
        rw [rng2_len] at hn
        refine ⟨.int (i + (n : Int)), F, ?_, .refl S, .int _⟩
        unfold rng2; rw [List.getElem?_map, List.getElem?_range hn]; rfl⟩
theorem wp_abs {r : List V → Hp → VK → Prop} (hr : r = fun xs H Q => ∃ i, xs = [.int i] ∧ Q (.int (if i < 0 then -i else i)) H) (h : Wp ss te fun p => ∃ i : Int, p = .int i ∧ k (.int (if i < 0 then -i else i))) : Wp ss (tCB r (tCons te tNil)) k := ⟨fun E σ F H Q S q =>
  h.go E σ F H _ S fun v p F1 H1 m1 r ⟨i, e, kk⟩ => by
    subst hr; subst e; cases r
    exact ⟨i, rfl, q _ _ F1 H1 m1 (.int _) kk⟩⟩
/-! deeds, as they are drawn and done by the laws -/
def dP : Deed → PV
  | .put x i => .tup [.str "put", .str x, .int i]
  | .take x => .tup [.str "take", .str x]
  | .move x i => .tup [.str "move", .str x, .int i]
  | .turn lo hi => .tup [.str "turn", .int lo, .int hi]
theorem dP_rep {d : Deed} {t : Addr} (h : F t = some (.tup d.vals)) : Rep F (.ref t) (dP d) := by
  cases d with
  | put x i => exact .tup h (.cons (.str _) (.cons (.str _) (.one (.int _))))
  | take x => exact .tup h (.cons (.str _) (.one (.str _)))
  | move x i => exact .tup h (.cons (.str _) (.cons (.str _) (.one (.int _))))
  | turn lo hi => exact .tup h (.cons (.str _) (.cons (.int _) (.one (.int _))))
theorem dP_vals {d : Deed} {v : V} (r : Rep F v (dP d)) : ∃ t, v = .ref t ∧ F t = some (.tup d.vals) := by
  cases d with
  | put x i => cases r with | tup h r => cases r with | cons a r => cases r with | cons b r => cases r with | cons c r => cases r; cases a; cases b; cases c; exact ⟨_, rfl, h⟩
  | take x => cases r with | tup h r => cases r with | cons a r => cases r with | cons b r => cases r; cases a; cases b; exact ⟨_, rfl, h⟩
  | move x i => cases r with | tup h r => cases r with | cons a r => cases r with | cons b r => cases r with | cons c r => cases r; cases a; cases b; cases c; exact ⟨_, rfl, h⟩
  | turn lo hi => cases r with | tup h r => cases r with | cons a r => cases r with | cons b r => cases r with | cons c r => cases r; cases a; cases b; cases c; exact ⟨_, rfl, h⟩
/-- something new that a call made stands for good -/
theorem Sg.adopt (S : Sg E ss σ F H) (m : Mv E ss σ F H F H') {t : Addr} {o : HO} (ht : H t = none) (e : H' t = some o) : Mv E ss σ F H (upd F t o) H' := by
  have fn := S.newF ht
  refine S.step (same_new fn o) (fun a u q => ?_) m.hh (fun a u q => ?_) fun i l hi ei => m.st.potAt hi ei
  · by_cases z : a = t
    · subst z; rw [upd_same] at q; rw [← q]; exact e
    · rw [upd_ne z] at q; exact m.st.fh a u q
  · by_cases z : a = t
    · subst z; exact .inr ht
    · rw [upd_ne z] at q; exact .inl q
theorem wp_deed {i : Nat} (hi : ss[i]? = some .pot) (h : Wq ss ta fun tp xs => tp = false ∧ ∃ ns : List Str, xs = ns.map PV.str ∧ Wp ss tb fun p => ∃ m : Nat, p = .int m ∧ (∀ x ∈ ns, Nm x) ∧ ns.length ≤ m ∧ 1 ≤ m ∧ m ≤ 100 ∧ ∀ d : Deed, d.Ok m ns → k (dP d)) :
    Wp ss (tCall spDeed [] E0 (tCons (tVar i) (tCons ta (tCons tb tNil)))) k := ⟨fun E σ F H Q S q => by
  obtain ⟨p, e, _⟩ := S.ok i _ hi
  refine ⟨_, e, h.go E σ F H _ S fun v tp xs F1 H1 m1 sv ⟨et, ns, ex, h2⟩ => h2.go E σ F1 H1 _ m1.st fun v2 p2 F2 H2 m2 r2 ⟨m, em, hN, hz, h1, h3, kk⟩ => ?_⟩
  subst et; subst ex; subst em; cases r2
  obtain ⟨l, vs, ev, hn, hl, r⟩ := sv.mv m2
  subst ev
  rw [r.strs] at hl
  refine ⟨p, l, m, ns, rfl, m2.st.potAt hi e, hl, fun z => hn i hi (z ▸ e), hN, hz, h1, h3, fun d t H3 ht s e3 hd => ?_⟩
  have m3 := m2.st.adopt (m2.st.pstep hi e s) ht e3
  exact q _ _ _ H3 (m1.trans (m2.trans m3)) (dP_rep upd_same) (kk d hd)⟩
theorem wn_ldone {k : List PV → Prop} (h : Wq ss ta fun tp xs => tp = false ∧ ∃ ns : List Str, xs = ns.map PV.str ∧ Wp ss tb fun p => ∃ d : Deed, p = dP d ∧ d.Ok 40 ns ∧ ns.length ≤ 40 ∧ ns.Nodup ∧ k ((d.done ns).map PV.str)) :
    Wn ss (tCall spLDone [] E0 (tCons ta (tCons tb tNil))) k := ⟨fun E σ F H Q S q =>
  h.go E σ F H _ S fun v tp xs F1 H1 m1 sv ⟨et, ns, ex, h2⟩ => h2.go E σ F1 H1 _ m1.st fun v2 p2 F2 H2 m2 r2 ⟨d, em, hd, hz, nd, kk⟩ => by
    subst et; subst ex; subst em
    obtain ⟨l, vs, ev, hl, r⟩ := (sv.mv m2).seq m2.st
    subst ev
    rw [r.strs] at hl
    obtain ⟨t, et, ht⟩ := dP_vals r2
    subst et
    refine ⟨l, t, ns, d, rfl, hl, m2.st.fh _ _ ht, hd, hz, nd, fun a H3 ha s e3 => ?_⟩
    have m3 := m2.st.grow s
    exact q a _ _ F2 H3 (m1.trans (m2.trans m3)) (m2.st.newF ha) ((m1.trans m2).none ha) e3 (reps_strs _) kk⟩
theorem avs_is : ∀ (ps : List PV) {vs : List V}, Avs ss σ F H vs (ps.map Slot.is) → Reps F vs ps
  | [], _, h => by cases h; exact .nil
  | p :: ps, _, h => by
    rw [List.map_cons] at h
    cases h with
    | cons a t => exact .cons a (avs_is ps t)
theorem avs_of {ss : List Slot} {σ : L2.St} : ∀ {ps : List PV} {vs : List V}, Reps F vs ps → Avs ss σ F H vs (ps.map Slot.is)
  | _, _, .nil => .nil
  | _, _, .cons r t => .cons (s := .is _) r (avs_of t)
/-- f(_law_pot(script, e), ..) -/
theorem wp_callNP {pre : Pre} {t : TA} {i : Nat} {ns : List Int} (hi : ss[i]? = some (.raw (scriptP K ns))) (h : Wp ss te fun x => ∃ m, x = .int m ∧ 0 ≤ m ∧ m ≤ 1000 ∧ Wa ss t fun l => ∃ (ps : List PV) (k' : PV → Prop), l = ps.map Slot.is ∧ pre (.pot :: l) (.is k') ∧ ∀ p, k' p → k p) :
    Wp ss (tCall (spF pre) [] E0 (tCons (tCall (spPot K) [] E0 (tCons (tVar i) (tCons te tNil))) t)) k := ⟨fun E σ F H Q S q => by
  obtain ⟨v, e, ⟨a, ev, hq⟩, st⟩ := S.ok i _ hi
  subst ev
  refine ⟨_, e, h.go E σ F H _ S fun v x F1 H1 m1 r ⟨m, em, m0, m1', hw⟩ => ?_⟩
  subst em; cases r
  obtain ⟨v', e', hq1, _⟩ := m1.st.ok i _ hi
  rw [e] at e'; cases e'
  obtain ⟨a', ea, hq'⟩ := scriptP_same K ns _ F1 H1 m1.st.fh hq1
  cases ea
  refine ⟨a, ns, m, rfl, hq', m0, m1', fun p H2 hp s pp => ?_⟩
  have m2 := m1.st.grow s
  refine hw.go E σ F1 H2 _ m2.st fun vs l F3 H3 m3 av ⟨ps, k', el, hpre, kk⟩ => ?_
  show spF pre ((V.ref p :: vs) ++ []) H3 Q E0
  rw [List.append_nil]
  have m03 := m1.trans (m2.trans m3)
  have pslot : ∀ (j : Nat) s, ss[j]? = some s → mutS s = true → σ[j]? ≠ some (some (.ref p)) := fun j s hj ms => m1.st.newAddr hj ms hp
  have np : Npot ss σ p := fun j hj => pslot j _ hj rfl
  have pp3 : Pot H3 p := Pot.keep pp fun o eo => m3.hh p o np eo
  have fp3 : F3 p = none := by
    cases z : F3 p with
    | none => rfl
    | some o =>
      rcases m3.nn p o z with w | w
      · rw [m1.st.newF hp] at w; cases w
      · obtain ⟨_, _, w2, _⟩ := pp
        rw [w] at w2; cases w2
  have S' : Sg E (ss ++ [.pot]) (σ ++ [some (.ref p)]) F3 H3 := by
    have S3 := m3.st
    have at1 : ∀ (j : Nat) s, (ss ++ [Slot.pot])[j]? = some s → (ss[j]? = some s ∧ (σ ++ [some (V.ref p)])[j]? = σ[j]?) ∨ (s = .pot ∧ (σ ++ [some (V.ref p)])[j]? = some (some (.ref p)) ∧ j = ss.length) := fun j s hj => by
      by_cases hlt : j < ss.length
      · rw [List.getElem?_append_left hlt] at hj
        rw [List.getElem?_append_left (by rw [← S3.len]; exact hlt)]
        exact .inl ⟨hj, rfl⟩
      · rw [List.getElem?_append_right (by omega)] at hj
        have hj0 : j - ss.length = 0 := by
          have := (List.getElem?_eq_some_iff.mp hj).1
          simpa using this
        rw [hj0] at hj
        refine .inr ⟨by simpa using hj.symm, ?_, by omega⟩
        rw [List.getElem?_append_right (by rw [← S3.len]; omega), ← S3.len, hj0]; rfl
    refine ⟨S3.toFin, by simp [S3.len], fun j s hj => ?_, fun j j2 s u l hjj hj hj2 ms mu ej => ?_⟩
    · rcases at1 j s hj with ⟨a1, a2⟩ | ⟨rfl, a2, _⟩
      · rw [a2]; exact S3.ok j s a1
      · rw [a2]; exact ⟨p, rfl, fp3, .inl (m1.st.new0 hp), pp3⟩
    · rcases at1 j s hj with ⟨a1, a2⟩ | ⟨rfl, a2, a3⟩
      · rcases at1 j2 u hj2 with ⟨b1, b2⟩ | ⟨rfl, b2, _⟩
        · rw [a2] at ej; rw [b2]; exact S3.dis j j2 s u l hjj a1 b1 ms mu ej
        · rw [a2] at ej; rw [b2]; intro z; cases z; exact pslot j s a1 ms ej
      · rcases at1 j2 u hj2 with ⟨b1, b2⟩ | ⟨rfl, b2, b3⟩
        · rw [a2] at ej; cases ej; rw [b2]; exact pslot j2 u b1 mu
        · exact absurd (a3.trans b3.symm) hjj
  have hpi : (ss ++ [Slot.pot])[ss.length]? = some .pot := by rw [List.getElem?_append_right (Nat.le_refl _)]; simp
  have hpe : (σ ++ [some (V.ref p)])[ss.length]? = some (some (.ref p)) := by rw [m3.st.len, List.getElem?_append_right (Nat.le_refl _)]; simp
  have av' : Avs (ss ++ [Slot.pot]) (σ ++ [some (V.ref p)]) F3 H3 vs l := by
    subst el
    exact avs_of (avs_is ps av)
  refine ⟨.pot :: l, .is k', F3, [p], hpre, S'.call1 hpi hpe av', fun v F' H' f ⟨pv, r, kp⟩ => ?_⟩
  have hA : ∀ a, a ≠ p → a ∉ [p] := fun a h z => h (by simpa using z)
  have hHp : H p = none := m1.none hp
  have mv : Mv E ss σ F H F' H' := by
    refine S.step (m03.ff.trans f.f0) f.fh (fun a o n e => f.keep a o (hA a (ne_of_none e hHp)) (m03.hh a o n e)) (fun a o e => ?_) fun j l hj ej => ?_
    · rcases f.fresh a o e with w | w
      · exact m03.nn a o w
      · exact .inr (m03.none w)
    · exact Pot.keep (m3.st.potAt hj ej) fun o eo => f.keep l o (hA l (by rintro rfl; exact pslot j _ hj rfl ej)) eo
  exact q v pv F' H' mv r (kk pv kp)⟩
end
end Fz

set_option Elab.async false
set_option linter.all false
set_option maxRecDepth 100000
set_option maxHeartbeats 4000000
namespace L2
open PySem PySem.Spec PyProof.Rows
section
variable {X : Cx}
/-- is True, is not False -/
theorem op_isB : OpR X (compareOp .Is) (fun x y H Q => ∃ a b, x = .bl a ∧ y = .bl b ∧ Q (.bl (a == b)) H) := by
  intro pins s σ H x y v u Q I rx ry h
  obtain ⟨a, b, rfl, rfl, q⟩ := h
  cases rx; cases ry
  refine wpAny_is_plain (by cases a <;> cases b <;> rfl) (fin_bl I q ?_)
  cases a <;> cases b <;> rfl
theorem op_notB : OpR X (compareOp .IsNot) (fun x y H Q => ∃ a b, x = .bl a ∧ y = .bl b ∧ Q (.bl (!(a == b))) H) := by
  intro pins s σ H x y v u Q I rx ry h
  obtain ⟨a, b, rfl, rfl, q⟩ := h
  cases rx; cases ry
  refine wpAny_isNot_plain (by cases a <;> cases b <;> rfl) (fin_bl I q ?_)
  cases a <;> cases b <;> rfl
end
end L2
namespace Fz
open PySem PySem.Spec PyProof.Rows L2 Lw
section
variable {E : Ent} {ss : List Slot} {σ : L2.St} {F H F' H' : Hp} {K : PySem.W.Frag} {js : List Nat} {ta tb tc te : TE} {k : PV → Prop} {nx : List Slot → Prop} {R : Ret} {xs ys : List PV} {P : Program} {w : World}
theorem wp_isB (h : Wp ss ta fun p => ∃ a, p = .bl a ∧ Wp ss tb fun q => ∃ b, q = .bl b ∧ k (.bl (a == b))) : Wp ss (tOp (fun x y H Q => ∃ a b, x = .bl a ∧ y = .bl b ∧ Q (.bl (a == b)) H) ta tb) k := ⟨fun E σ F H Q S q =>
  h.go E σ F H _ S fun v p F1 H1 m1 r1 ⟨a, e1, h2⟩ => by
    subst e1; cases r1
    exact h2.go E σ F1 H1 _ m1.st fun v2 p2 F2 H2 m2 r2 ⟨b, e2, kk⟩ => by
      subst e2; cases r2
      exact ⟨a, b, rfl, rfl, q _ _ F2 H2 (m1.trans m2) (.bl _) kk⟩⟩
theorem wp_notB (h : Wp ss ta fun p => ∃ a, p = .bl a ∧ Wp ss tb fun q => ∃ b, q = .bl b ∧ k (.bl (!(a == b)))) : Wp ss (tOp (fun x y H Q => ∃ a b, x = .bl a ∧ y = .bl b ∧ Q (.bl (!(a == b))) H) ta tb) k := ⟨fun E σ F H Q S q =>
  h.go E σ F H _ S fun v p F1 H1 m1 r1 ⟨a, e1, h2⟩ => by
    subst e1; cases r1
    exact h2.go E σ F1 H1 _ m1.st fun v2 p2 F2 H2 m2 r2 ⟨b, e2, kk⟩ => by
      subst e2; cases r2
      exact ⟨a, b, rfl, rfl, q _ _ F2 H2 (m1.trans m2) (.bl _) kk⟩⟩
theorem wp_neN (h : Wq ss ta fun tp xs => tp = false ∧ Wq ss tb fun tp2 ys => tp2 = false ∧ ys = [] ∧ k (.bl (!decide (xs.length = 0)))) : Wp ss (tOp (rNeN K) ta tb) k := ⟨fun E σ F H Q S q =>
  h.go E σ F H _ S fun v tp xs F1 H1 m1 sv ⟨et, h2⟩ => h2.go E σ F1 H1 _ m1.st fun v2 tp2 ys F2 H2 m2 sv2 ⟨et2, ey, kk⟩ => by
    subst et; subst et2; subst ey
    obtain ⟨l, vs, rfl, hl, r⟩ := (sv.mv m2).seq m2.st
    obtain ⟨l2, vs2, rfl, hl2, r2⟩ := sv2.seq m2.st
    cases r2
    refine ⟨l, l2, vs, rfl, rfl, SqL.of hl, SqL.of hl2, ?_⟩
    have e : decide (vs = []) = decide (xs.length = 0) := by
      rw [← r.length]
      cases vs <;> simp
    rw [e]
    exact q _ _ F2 H2 (m1.trans m2) (.bl _) kk⟩
/-- sorted(set(e)) of texts -/
theorem wn_sortedSet {k : List PV → Prop} (h : Wq ss te fun _ xs => ∃ ns : List Str, xs = ns.map PV.str ∧ ns.length < 64 ∧ ∀ ts : List Str, ts.length = (dd ns).length → (∀ x, (dd ns).any (· == x) = true ↔ x ∈ ts) → sortedS ts = true → k (ts.map PV.str)) :
    Wn ss (tCB (rSortedT P w) (tCons (tCB (fun xs H Q => ∃ (p : Addr) (tp : Bool) (ss : List Str), xs = [.ref p] ∧ SqB K tp H p (ss.map V.str) ∧ ss.length < 4000 ∧ ∀ l, H l = none → Q (.ref l) (upd H l (SetTO P w l (fun k' => (dd ss).any (· == k')) (dd ss).length))) (tCons te tNil)) tNil)) k := ⟨fun E σ F H Q S q =>
  h.go E σ F H _ S fun v tp xs F1 H1 m1 sv ⟨ns, e, hz, kk⟩ => by
    subst e
    obtain ⟨l, vs, rfl, hl, r⟩ := sv.seq m1.st
    rw [r.strs] at hl
    refine ⟨l, tp, ns, rfl, HOq.sq hl, by omega, fun a ha => ?_⟩
    have m2 := m1.st.make ha (SetTO P w a (fun k' => (dd ns).any (· == k')) (dd ns).length)
    refine ⟨a, _, _, rfl, upd_same, Nat.lt_of_le_of_lt (dd_len ns) hz, fun b ts hb hl2 hm hs => ?_⟩
    have m3 := m2.st.make hb (.lst (ts.map V.str))
    exact q b _ _ F1 _ (m1.trans (m2.trans m3)) (m2.st.newF hb) ((m1.trans m2).none hb) upd_same (reps_strs ts) (kk ts hl2 hm hs)⟩
/-- len(set(e)) of texts -/
theorem wp_lenSet (h : Wq ss te fun _ xs => ∃ ns : List Str, xs = ns.map PV.str ∧ ns.length < 4000 ∧ k (.int ((dd ns).length : Nat))) :
    Wp ss (tCB (fun xs H Q => ∃ l f n, xs = [.ref l] ∧ H l = some (SetO P w l f n) ∧ Q (.int (n : Nat)) H) (tCons (tCB (fun xs H Q => ∃ (p : Addr) (tp : Bool) (ss : List Str), xs = [.ref p] ∧ SqB K tp H p (ss.map V.str) ∧ ss.length < 4000 ∧ ∀ l, H l = none → Q (.ref l) (upd H l (SetO P w l (fun k' => (dd ss).any (· == k')) (dd ss).length))) (tCons te tNil)) tNil)) k := ⟨fun E σ F H Q S q =>
  h.go E σ F H _ S fun v tp xs F1 H1 m1 sv ⟨ns, e, hz, kk⟩ => by
    subst e
    obtain ⟨l, vs, rfl, hl, r⟩ := sv.seq m1.st
    rw [r.strs] at hl
    refine ⟨l, tp, ns, rfl, HOq.sq hl, hz, fun a ha => ?_⟩
    have m2 := m1.st.make ha (SetO P w a (fun k' => (dd ns).any (· == k')) (dd ns).length)
    exact ⟨a, _, _, rfl, upd_same, q _ _ F1 _ (m1.trans m2) (.int _) kk⟩⟩
end
end Fz

set_option Elab.async false
set_option linter.all false
set_option maxRecDepth 100000
set_option maxHeartbeats 4000000
namespace L2
open PySem PySem.Spec PyProof.Rows
section
variable {X : Cx} {pins : List (Addr × Obj)} {σ : St} {H : Hp} {s : Shared}
/-! lists of tuples that are alike -/
def rNeLT (K : PySem.W.Frag) : R2 := fun x y H Q => ∃ p q xs ys, x = .ref p ∧ y = .ref q ∧ SqL K H p xs ∧ SqL K H q ys ∧ xs.length = ys.length ∧ (∀ (j : Nat) (x y : V), xs[j]? = some x → ys[j]? = some y → EqT K H 8 x y) ∧ Q (.bl false) H
theorem op_neLT (hu : X.A.units + 64 < cLine) : OpR X (compareOp .NotEq) (rNeLT X.K) := by
  intro pins s σ H x y v u Q I rx ry h
  obtain ⟨p, q, xs, ys, rfl, rfl, ha, hb, hl, hE, hQ⟩ := h
  cases rx; cases ry
  obtain ⟨its, r1, p1, z1⟩ := I.list ha
  obtain ⟨its2, r2, p2, z2⟩ := I.list hb
  refine SeqAt.RcNeAt.lists (e := fun _ => true) p1.isList p2.isList (by have h1 := r1.length; have h2 := r2.length; simp only [List.size_toArray]; omega) (by omega) (items_alike r1 r2 hl fun j x y u v hx hy ru rv => eqT_at I (hE j x y hx hy) X.A.in1 u v ru rv (by show X.A.units + 1 + 8 < cLine; omega)) _ _ _ _ ⟨.bl false, H, I, ?_, hQ⟩
  rw [show (List.range its.toArray.size).all (fun _ => true) = true from List.all_eq_true.mpr fun _ _ => rfl]
  rfl
theorem vals_get : ∀ {xs : List V} {us : List Value}, xs.length = us.length → (∀ (j : Nat) (x : V) (v : Value), xs[j]? = some x → us[j]? = some v → RelV x v) → Vals xs us
  | [], [], _, _ => .nil
  | [], _ :: _, h, _ => by cases h
  | _ :: _, [], h, _ => by cases h
  | _ :: xs, _ :: us, h, f => .cons (f 0 _ _ rfl rfl) (vals_get (Nat.succ.inj h) fun j x v hx hv => f (j + 1) x v hx hv)
theorem mr_popA : MtR X "list.pop" rPopAt := mt_popAt
/-- list(range(n)) -/
def tLR (t : TA) : TE := fun σ H Q => t σ H fun vs H1 => ∃ n : Nat, vs = [.int n] ∧ n ≤ 1000 ∧ ∀ l, H1 l = none → Q (.ref l) (upd H1 l (.lst ((List.range n).map fun i : Nat => V.int i)))
theorem pe_lrng {p1 p2 pos1 pos2 : Pos} {e : Expr} {t : TA} (hc : X.calm = true) (hg1 : Gl X "list") (hm1 : X.mg "list" = none) (hg2 : Gl X "range") (hm2 : X.mg "range" = none) (ha : PA X [e] t)
    (he : starEach [e] X.env = [(false, eval e X.env)] := by rfl) (he2 : starEach [.Call (.Name "range" p2) [e] [] pos2] X.env = [(false, eval (.Call (.Name "range" p2) [e] [] pos2) X.env)] := by rfl) :
    PE X (.Call (.Name "list" p1) [.Call (.Name "range" p2) [e] [] pos2] [] pos1) (tLR t) := by
  intro pins s σ H Q I h
  refine wpAny_Call_Name_kw (ld_blt I hg1 hm1 (show bootBuiltins "list" = some (.type "list") by decide +kernel) ?_ (by decide) (by decide))
  refine PyProof.Rows.callWith_type1 ?_ he2 rfl
  rw [he2]
  show wpAny _ _ (spliced ((false, eval (.Call (.Name "range" p2) [e] [] pos2) X.env) :: [])) _ _ s
  refine Calls.spliced_cons ?_
  refine wpAny_Call_Name_kw (ld_blt I hg2 hm2 (show bootBuiltins "range" = some (.type "range") by decide +kernel) ?_ (by decide) (by decide))
  refine PyProof.Rows.callWith_type1 (thn (ha pos2 pins s σ H _ I h) fun us s1 ⟨vs, H1, I1, r1, q1⟩ => ?_) he rfl
  obtain ⟨n, rfl, hn, q⟩ := q1
  obtain ⟨u, rfl, rx⟩ := vals1 r1
  obtain ⟨tk0, rfl⟩ := rx
  have hh : X.A.handled = none := I1.ok.hd hc
  refine call_range_1 ?_
  refine Calls.spliced_nil ?_
  refine call_list_range (n := n) hh (IsRange.new ..) (small_one (by omega) (by omega) (by omega) (by omega)) (by rw [rangeSize_one]; split <;> omega) (by omega) fun h' tk acc c hk hS hacc => ?_
  have kp : ∀ b o, s1.heap.get? b = some o → h'.get? b = some o := fun b o e => hk b o (Heap.get?_push_of_some _ e)
  have hsz : ∀ ob : Obj, (s1.heap.push ob).objs.size = s1.heap.objs.size + 1 := fun ob => Heap.size_push ..
  have hv : Vals ((List.range n).map fun i : Nat => V.int i) acc.toList := by
    obtain ⟨hz, hv⟩ := hacc
    refine vals_get (by rw [List.length_map, List.length_range, Array.length_toList, hz]) fun j x v hx hv' => ?_
    rw [Array.getElem?_toList] at hv'
    obtain ⟨t, rfl⟩ := hv j v hv'
    rw [List.getElem?_map] at hx
    cases hj : (List.range n)[j]? with
    | none => rw [hj] at hx; cases hx
    | some m =>
      rw [hj] at hx
      cases hx
      have := List.getElem?_eq_some_iff.mp hj
      obtain ⟨h1, h2⟩ := this
      rw [List.getElem_range] at h2
      subst h2
      exact ⟨t, by congr 1; omega⟩
  refine ⟨.ref _, _, I1.laid (t' := tk) kp (by rw [hsz]; exact Nat.le_succ _) (show ObjOk X.prog X.w _ h' _ (.lst _) from ⟨by rw [List.length_map, List.length_range]; exact Nat.le_trans hn (by decide), acc.toList, c, hv, by rw [Array.toArray_toList]; exact hS⟩), rfl, q _ (I1.hok.fresh (by show _ ≤ _; rw [hsz]; exact Nat.le_succ _))⟩
theorem qe_lrng {p1 p2 pos1 pos2 : Pos} {e : Expr} {t : TA} (hc : X.calm = true) (hg1 : Gl X "list") (hm1 : X.mg "list" = none) (hg2 : Gl X "range") (hm2 : X.mg "range" = none) (ha : QA X [e] t)
    (he : starEach [e] X.env = [(false, eval e X.env)] := by rfl) (he2 : starEach [.Call (.Name "range" p2) [e] [] pos2] X.env = [(false, eval (.Call (.Name "range" p2) [e] [] pos2) X.env)] := by rfl) :
    QE X (.Call (.Name "list" p1) [.Call (.Name "range" p2) [e] [] pos2] [] pos1) (tLR t) := ⟨pe_lrng hc hg1 hm1 hg2 hm2 ha.h he he2⟩
end
end L2

set_option Elab.async false
set_option linter.all false
set_option maxRecDepth 100000
set_option maxHeartbeats 4000000
namespace Fz
open PySem PySem.Spec PyProof.Rows L2 Lw
section
variable {K : PySem.W.Frag} {E : Ent} {ss : List Slot} {σ : L2.St} {F H : Hp} {te ta tb : TE} {k : PV → Prop} {nx : List Slot → Prop} {R : Ret} {xs ys : List PV}
/-- list(range(n)) -/
theorem wn_lr {k : List PV → Prop} (h : Wp ss te fun p => ∃ j : Int, p = .int j ∧ 0 ≤ j ∧ j ≤ 1000 ∧ k (rngP j.toNat)) : Wn ss (tLR (tCons te tNil)) k := ⟨fun E σ F H Q S q =>
  h.go E σ F H _ S fun v p F1 H1 m1 r ⟨j, e, h0, hz, kk⟩ => by
    subst e; cases r
    generalize hn : j.toNat = n at kk
    refine ⟨n, by rw [← hn, Int.toNat_of_nonneg h0], by omega, fun a ha => ?_⟩
    have m2 := m1.st.make ha (.lst ((List.range n).map fun i : Nat => V.int i))
    have rr : Reps F1 ((List.range n).map fun i : Nat => V.int i) (rngP n) := by
      have e1 : rngP n = ((List.range n).map fun i : Nat => (i : Int)).map PV.int := by unfold rngP; rw [List.map_map]; rfl
      have e2 : ((List.range n).map fun i : Nat => V.int (i : Int)) = (rngP n).map Fz.enc := by rw [e1, enc_ints, List.map_map]; rfl
      rw [e2]
      exact reps_enc (by rw [e1]; exact ints_flat _)
    exact q a _ _ F1 _ (m1.trans m2) (m1.st.newF ha) (m1.none ha) upd_same rr kk⟩
/-- lists of pairs of texts, alike -/
theorem eqT_pairs {K : PySem.W.Frag} {F H : Hp} (fh : Same F H) {v u : V} {a : Str × Str} (r1 : Rep F v (pairP a)) (r2 : Rep F u (pairP a)) : EqT K H 8 v u := by
  cases r1 with
  | tup h1 q1 =>
    cases r2 with
    | tup h2 q2 =>
      have e1 := q1.enc (ps := [.str a.1, .str a.2]) rfl
      have e2 := q2.enc (ps := [.str a.1, .str a.2]) rfl
      subst e1; subst e2
      refine .tup (d := 7) (SqT.of (fh _ _ h1)) (SqT.of (fh _ _ h2)) rfl fun j x y hx hy => ?_
      rw [hx] at hy; cases hy
      have hm := List.mem_of_getElem? hx
      rcases List.mem_cons.mp hm with rfl | hm
      · exact .flat rfl rfl (by simp [Fz.enc, eqV])
      · have := List.mem_singleton.mp hm
        subst this
        exact .flat rfl rfl (by simp [Fz.enc, eqV])
theorem wp_neLT (h : Wq ss ta fun tp xs => tp = false ∧ Wq ss tb fun tp2 ys => tp2 = false ∧ (∃ ps : List (Str × Str), xs = ps.map pairP ∧ ys = ps.map pairP) ∧ k (.bl false)) : Wp ss (tOp (rNeLT K) ta tb) k := ⟨fun E σ F H Q S q =>
  h.go E σ F H _ S fun v tp xs F1 H1 m1 sv ⟨et, h2⟩ => h2.go E σ F1 H1 _ m1.st fun v2 tp2 ys F2 H2 m2 sv2 ⟨et2, ⟨ps, ex, ey⟩, kk⟩ => by
    subst et; subst et2; subst ex; subst ey
    obtain ⟨l, vs, rfl, hl, r⟩ := (sv.mv m2).seq m2.st
    obtain ⟨l2, vs2, rfl, hl2, r2⟩ := sv2.seq m2.st
    refine ⟨l, l2, vs, vs2, rfl, rfl, SqL.of hl, SqL.of hl2, by rw [r.length, r2.length], fun j x y hx hy => ?_, q _ _ F2 H2 (m1.trans m2) (.bl _) kk⟩
    obtain ⟨p, hp, rp⟩ := r.get' hx
    obtain ⟨p2, hp2, rp2⟩ := r2.get' hy
    rw [hp] at hp2; cases hp2
    rw [List.getElem?_map] at hp
    cases ha : ps[j]? with
    | none => rw [ha] at hp; cases hp
    | some a =>
      rw [ha] at hp; cases hp
      exact eqT_pairs m2.st.fh rp rp2⟩
/-- xs.append((ys.pop(0), e)) -/
theorem ws_appPop0 {i j : Nat} {y : PV} {zs : List PV} (hi : ss[i]? = some (.own xs)) (hj : ss[j]? = some (.own (y :: zs))) (hij : i ≠ j) (h : Wp (ss.set j (.own zs)) te fun p => xs.length ≤ 99999 ∧ nx ((ss.set j (.own zs)).set i (.own (xs ++ [.tup [y, p]])))) :
    Ws ss (tDrop (tBM K "list" rAppend (tVar i) (tCons (tTup (tCons (tBM K "list" rPopAt (tVar j) (tCons (tC (.int 0)) tNil)) (tCons te tNil))) tNil))) nx R := ⟨fun E D σ F H S hn hr => by
  obtain ⟨l, vs, e, e1, e2, e3, r⟩ := S.ok i _ hi
  obtain ⟨l2, ws, f, f1, f2, f3, r2⟩ := S.ok j _ hj
  cases r2 with
  | @cons u _ ws' _ ru rs =>
    refine ⟨_, e, .inl ⟨rfl, _, SqL.of e3⟩, _, f, .inl ⟨rfl, _, SqL.of f3⟩, l2, u :: ws', 0, 0, u, rfl, rfl, f3, by decide, by decide, by simp [seqIndex?], rfl, ?_⟩
    have S1 := S.put hj f f1 f2 rs
    refine h.go E σ F _ _ S1 fun v p F1 H1 m1 rv ⟨hz, kk⟩ => ?_
    refine ⟨(by show 2 ≤ sizeLine; decide), fun a ha => ?_⟩
    have m2 := m1.st.alloc ha (.tup [u, v])
    have hi1 : (ss.set j (.own zs))[i]? = some (.own xs) := by rw [List.getElem?_set_ne (Ne.symm hij)]; exact hi
    obtain ⟨l', vs', e', e1', e2', e3', r'⟩ := m2.st.ok i _ hi1
    rw [e] at e'
    cases e'
    refine ⟨l, vs', _, rfl, rfl, e3', small1 (by rw [r'.length]; exact hz), ?_⟩
    have rt : Rep (upd F1 a (.tup [u, v])) (.ref a) (.tup [y, p]) := .tup upd_same (.cons (ru.mono (m1.ff.trans m2.ff)) (.one (rv.mono m2.ff)))
    exact hn _ σ _ _ kk (m2.st.put hi1 e e1' e2' (r'.append (.one rt))) (m1.ff.trans m2.ff)⟩
end
end Fz

set_option Elab.async false
set_option linter.all false
set_option maxRecDepth 100000
set_option maxHeartbeats 4000000
namespace Fz
open PySem PySem.Spec PyProof.Rows L2 Lw
def shownL (ns : List Str) (g : Nat) (ms : List Str) : List Str := (ns.take g).filter (fun x => decide (x ∈ ms)) ++ (ns.drop g).filter (fun x => !decide (x ∈ ms))
def slipP (g : Nat) (ms : List Str) : PV := .tup [.int g, .tup (ms.map .str)]
def preShown : Pre := fun l R => ∃ (tp : Bool) (ns : List Str) (g : Nat) (ms : List Str), l = [.sq tp (ns.map .str), .is (.tup [.int g, .tup (ms.map .str)])] ∧ ns.length ≤ 1000 ∧ R = .new fun xs => xs = (shownL ns g ms).map .str
def preTexts : Pre := fun l R => ∃ (ns : List Str), l = [.sq false (ns.map .str)] ∧ ns.length ≤ 1000 ∧ R = .is fun p => p = .bl true
def preSome : Pre := fun l R => ∃ (ns : List Str), l = [.pot, .sq false (ns.map .str)] ∧ ns.length ≤ 1000 ∧ ns.Nodup ∧ R = .new fun xs => ∃ ms : List Str, xs = ms.map .str ∧ ms.Nodup ∧ (∀ x ∈ ms, x ∈ ns) ∧ ms.length ≤ ns.length
def preShows : Pre := fun l R => ∃ (ns : List Str) (g : Nat) (ms : List Str), l = [.sq false (ns.map .str), .is (.tup [.int g, .tup (ms.map .str)])] ∧ ns.length ≤ 1000 ∧ R = .new fun xs => xs = (shownL ns g ms).map .str
def preSlip : Pre := fun l R => ∃ (ns : List Str), l = [.pot, .is (.lst (ns.map .str))] ∧ ns.length ≤ 60 ∧ ns.Nodup ∧ R = .is fun p => ∃ (g : Nat) (ms : List Str), p = .tup [.int g, .tup (ms.map .str)] ∧ g ≤ ns.length
theorem shownL_len (ns : List Str) (g : Nat) (ms : List Str) : (shownL ns g ms).length ≤ ns.length := by
  unfold shownL
  rw [List.length_append]
  have h1 := List.length_filter_le (fun x => decide (x ∈ ms)) (ns.take g)
  have h2 := List.length_filter_le (fun x => !decide (x ∈ ms)) (ns.drop g)
  rw [List.length_take] at h1
  rw [List.length_drop] at h2
  omega
def showB (g : Nat) (ms ns : List Str) (i : Nat) : Bool := !alike (.bl (decide ((g : Int) ≤ (i : Int)))) (.bl (decide (ns.getD i "" ∈ ms)))
theorem filter_idx (f : Nat → Bool) (h : Str → Bool) (ns : List Str) (s : Nat) : (∀ i, i < ns.length → f (s + i) = h (ns.getD i "")) → (((List.range' s ns.length).filter f).map fun i => ns.getD (i - s) "") = ns.filter h := by
  induction ns generalizing s with
  | nil => intro _; rfl
  | cons x r ih =>
    intro hf
    have h0 : f s = h x := by simpa using hf 0 (by simp)
    have ih' := ih (s + 1) fun i hi => by
      have := hf (i + 1) (by simpa using hi)
      rw [show s + 1 + i = s + (i + 1) by omega]
      simpa using this
    rw [List.length_cons, List.range'_succ, List.filter_cons, List.filter_cons, h0]
    have e : ((List.range' (s + 1) r.length).filter f).map (fun i => (x :: r).getD (i - s) "") = ((List.range' (s + 1) r.length).filter f).map fun i => r.getD (i - (s + 1)) "" := by
      apply List.map_congr_left
      intro i hi
      have hi' := (List.mem_range'_1.mp (List.mem_filter.mp hi).1).1
      rw [show i - s = (i - (s + 1)) + 1 by omega]
      simp
    by_cases c : h x = true
    · rw [c, if_pos rfl, if_pos rfl, List.map_cons, e, ih', Nat.sub_self]; rfl
    · have c' : h x = false := by simpa using c
      rw [c', if_neg (by decide), if_neg (by decide), e, ih']
theorem shows_eq (ns : List Str) (g : Nat) (ms : List Str) : ((List.range ns.length).filter (showB g ms ns)).map (fun i => PV.str (ns.getD i "")) = (shownL ns g ms).map .str := by
  have key : ((List.range ns.length).filter (showB g ms ns)).map (fun i => ns.getD i "") = shownL ns g ms := by
    have split : ∀ n, n ≤ ns.length → List.range ns.length = List.range' 0 n ++ List.range' n (ns.length - n) := fun n hn => by
      rw [List.range_eq_range', show ns.length = n + (ns.length - n) by omega, ← List.range'_append_1]
      simp
    unfold shownL
    have hn : min g ns.length ≤ ns.length := Nat.min_le_right _ _
    rw [split _ hn, List.filter_append, List.map_append]
    congr 1
    · have q := filter_idx (showB g ms ns) (fun x => decide (x ∈ ms)) (ns.take g) 0 (fun i hi => by
        rw [List.length_take] at hi
        have e : (ns.take g).getD i "" = ns.getD i "" := by rw [List.getD_eq_getElem?_getD, List.getD_eq_getElem?_getD, List.getElem?_take_of_lt (by omega)]
        rw [e, Nat.zero_add]
        unfold showB alike
        have : ¬ ((g : Int) ≤ (i : Int)) := by omega
        rw [decide_eq_false this]
        cases decide (ns.getD i "" ∈ ms) <;> rfl)
      rw [← q, List.length_take]
      apply List.map_congr_left
      intro i hi
      have hi' := (List.mem_range'_1.mp (List.mem_filter.mp hi).1)
      rw [Nat.sub_zero, List.getD_eq_getElem?_getD, List.getD_eq_getElem?_getD, List.getElem?_take_of_lt (by omega)]
    · have q := filter_idx (showB g ms ns) (fun x => !decide (x ∈ ms)) (ns.drop g) (min g ns.length) (fun i hi => by
        rw [List.length_drop] at hi
        have e : (ns.drop g).getD i "" = ns.getD (g + i) "" := by rw [List.getD_eq_getElem?_getD, List.getD_eq_getElem?_getD, List.getElem?_drop]
        rw [e, Nat.min_eq_left (by omega)]
        unfold showB alike
        have : ((g : Int) ≤ ((g + i : Nat) : Int)) := by omega
        rw [decide_eq_true this]
        cases decide (ns.getD (g + i) "" ∈ ms) <;> rfl)
      rw [← q, List.length_drop]
      have e2 : ns.length - min g ns.length = ns.length - g := by omega
      rw [e2]
      apply List.map_congr_left
      intro i hi
      have hi' := (List.mem_range'_1.mp (List.mem_filter.mp hi).1)
      rw [List.getD_eq_getElem?_getD, List.getD_eq_getElem?_getD, List.getElem?_drop]
      congr 2
      omega
  rw [← key, List.map_map]; rfl
theorem ins_perm {α : Type} (ms : List α) (x : α) (j : Nat) : (ms.take j ++ x :: ms.drop j).Perm (x :: ms) := by
  have h := List.perm_middle (a := x) (l₁ := ms.take j) (l₂ := ms.drop j)
  rwa [List.take_append_drop] at h
theorem ins_nodup {ms : List Str} {x : Str} (j : Nat) (h : ms.Nodup) (hx : x ∉ ms) : (ms.take j ++ x :: ms.drop j).Nodup := (ins_perm ms x j).nodup_iff.mpr (List.nodup_cons.mpr ⟨hx, h⟩)
theorem insP_map (ms : List Str) (x : Str) (j : Nat) : (ms.map PV.str).take j ++ .str x :: (ms.map PV.str).drop j = (ms.take j ++ x :: ms.drop j).map .str := by
  rw [List.map_append, List.map_cons, List.map_take, List.map_drop]
theorem take_at {ns : List Str} {i : Nat} (hi : i < ns.length) : ns.take (i + 1) = ns.take i ++ [ns.getD i ""] := by
  rw [List.take_succ_eq_append_getElem hi, List.getD_eq_getElem?_getD, List.getElem?_eq_getElem hi]; rfl
theorem notin_take {ns : List Str} {i : Nat} (nd : ns.Nodup) (hi : i < ns.length) : ns.getD i "" ∉ ns.take i := by
  have h := nd.sublist (List.take_sublist (i + 1) ns)
  rw [take_at hi, List.nodup_append] at h
  intro hx
  exact h.2.2 _ hx _ (by simp) rfl
theorem pick5 {a b c d e : PV} {r : Int} (h0 : 0 ≤ r) (h1 : r < 5) : ∃ p, L2.atI [a, b, c, d, e] r = some p ∧ (p = a ∨ p = b ∨ p = c ∨ p = d ∨ p = e) := by
  have : r = 0 ∨ r = 1 ∨ r = 2 ∨ r = 3 ∨ r = 4 := by omega
  rcases this with rfl | rfl | rfl | rfl | rfl
  · exact ⟨a, rfl, by simp⟩
  · exact ⟨b, rfl, by simp⟩
  · exact ⟨c, rfl, by simp⟩
  · exact ⟨d, rfl, by simp⟩
  · exact ⟨e, rfl, by simp⟩
theorem maxmin {c n : Int} (hc : 1 ≤ c) (hn : 0 ≤ n) : ∃ m : Nat, (if (if c < n then c else n) > 1 then (if c < n then c else n) else 1) = (m : Int) ∧ (m : Int) ≤ c := by
  have h : ∀ z : Int, 1 ≤ z → z ≤ c → ∃ m : Nat, z = (m : Int) ∧ (m : Int) ≤ c := fun z h0 h1 => ⟨z.toNat, by omega, by omega⟩
  apply h
  · split
    · omega
    · omega
  · split
    · split <;> omega
    · omega
end Fz

set_option Elab.async false
set_option linter.all false
set_option maxRecDepth 100000
set_option maxHeartbeats 4000000
namespace Fz
open PySem PySem.Spec PyProof.Rows L2 Lw
/-! ### what is shown, what is marked -/
theorem mem_shown {ns : List Str} {g : Nat} {ms : List Str} {x : Str} : x ∈ shownL ns g ms ↔ (x ∈ ns.take g ∧ x ∈ ms) ∨ (x ∈ ns.drop g ∧ x ∉ ms) := by
  unfold shownL
  rw [List.mem_append, List.mem_filter, List.mem_filter]
  simp
theorem shown_sub {ns : List Str} {g : Nat} {ms : List Str} {x : Str} (h : x ∈ shownL ns g ms) : x ∈ ns := by
  rcases mem_shown.mp h with h | h
  · exact List.mem_of_mem_take h.1
  · exact List.mem_of_mem_drop h.1
theorem shown_nodup {ns : List Str} (nd : ns.Nodup) (g : Nat) (ms : List Str) : (shownL ns g ms).Nodup := by
  have h : (ns.take g ++ ns.drop g).Nodup := by rw [List.take_append_drop]; exact nd
  rw [List.nodup_append] at h
  unfold shownL
  rw [List.nodup_append]
  exact ⟨h.1.filter _, h.2.1.filter _, fun a ha b hb => h.2.2 a (List.mem_filter.mp ha).1 b (List.mem_filter.mp hb).1⟩
theorem split_mem {ns : List Str} (nd : ns.Nodup) {g : Nat} {x : Str} (h1 : x ∈ ns.take g) (h2 : x ∈ ns.drop g) : False := by
  have h : (ns.take g ++ ns.drop g).Nodup := by rw [List.take_append_drop]; exact nd
  rw [List.nodup_append] at h
  exact h.2.2 x h1 x h2 rfl
theorem mem_split {ns : List Str} (g : Nat) {x : Str} (h : x ∈ ns) : x ∈ ns.take g ∨ x ∈ ns.drop g := by
  rw [← List.mem_append, List.take_append_drop]; exact h
/-- the marks that a gap needs show just what is to be shown -/
theorem shown_back {ns : List Str} (nd : ns.Nodup) {g : Nat} {cs ts : List Str} (ht : ∀ x, x ∈ ts ↔ x ∈ shownL ns g cs) (x : Str) : x ∈ shownL ns g ts ↔ x ∈ ns ∧ x ∈ cs := by
  rw [mem_shown, ht, mem_shown]
  constructor
  · rintro (⟨h1, h2⟩ | ⟨h1, h2⟩)
    · rcases h2 with h2 | h2
      · exact ⟨List.mem_of_mem_take h1, h2.2⟩
      · exact (split_mem nd h1 h2.1).elim
    · refine ⟨List.mem_of_mem_drop h1, ?_⟩
      by_cases c : x ∈ cs
      · exact c
      · exact absurd (.inr ⟨h1, c⟩) h2
  · rintro ⟨h1, h2⟩
    rcases mem_split g h1 with h | h
    · exact .inl ⟨h, .inl ⟨h, h2⟩⟩
    · refine .inr ⟨h, ?_⟩
      rintro (⟨z, _⟩ | ⟨_, z⟩)
      · exact split_mem nd z h
      · exact z h2
theorem perm_of_mem {as bs : List Str} (ha : as.Nodup) (hb : bs.Nodup) (h : ∀ x, x ∈ as ↔ x ∈ bs) : as.Perm bs := (List.perm_ext_iff_of_nodup ha hb).mpr h
/-! ### the pairing along the row -/
structure Gr where
  n : Nat
  g : Nat
  u : List Str
  ps : List (Str × Str)
def grStep (cs : List Str) (s : Gr) (x : Str) : Gr :=
  if x ∈ cs then ⟨s.n + 1, s.g, s.u ++ [x], s.ps⟩
  else if s.u = [] then ⟨s.n + 1, s.n + 1, s.u, s.ps⟩
  else ⟨s.n + 1, s.g, s.u.dropLast, s.ps ++ [(s.u.getLastD "", x)]⟩
def gr (cs ns : List Str) : Gr := ns.foldl (grStep cs) ⟨0, 0, [], []⟩
theorem gr_snoc (cs ns : List Str) (x : Str) : gr cs (ns ++ [x]) = grStep cs (gr cs ns) x := by unfold gr; rw [List.foldl_append]; rfl
def cC (cs ns : List Str) : Nat := (ns.filter fun x => decide (x ∈ cs)).length
def cN (cs ns : List Str) : Nat := (ns.filter fun x => !decide (x ∈ cs)).length
theorem cC_snoc (cs ns : List Str) (x : Str) : cC cs (ns ++ [x]) = cC cs ns + if x ∈ cs then 1 else 0 := by
  unfold cC; rw [List.filter_append, List.length_append]
  by_cases h : x ∈ cs <;> simp [h]
theorem cN_snoc (cs ns : List Str) (x : Str) : cN cs (ns ++ [x]) = cN cs ns + if x ∈ cs then 0 else 1 := by
  unfold cN; rw [List.filter_append, List.length_append]
  by_cases h : x ∈ cs <;> simp [h]
structure GI (cs pre : List Str) (s : Gr) : Prop where
  hn : s.n = pre.length
  hg : s.g ≤ pre.length
  cnt1 : s.ps.length = cC cs (pre.take s.g) + cN cs (pre.drop s.g)
  cnt2 : s.ps.length + s.u.length = cC cs pre
  hu : ∀ x ∈ s.u, x ∈ pre ∧ x ∈ cs
  hp : ∀ a ∈ s.ps, (a.1 ∈ pre ∧ a.1 ∈ cs) ∧ a.2 ∈ pre ∧ a.2 ∉ cs
  ord : ∀ a ∈ s.ps, pre.idxOf a.1 < pre.idxOf a.2
  nd1 : (s.u ++ s.ps.map Prod.fst).Nodup
  nd2 : (s.ps.map Prod.snd).Nodup
theorem idx_left {pre : List Str} {x y : Str} (h : y ∈ pre) : (pre ++ [x]).idxOf y = pre.idxOf y := by
  rw [List.idxOf_append, if_pos h]
theorem idx_last {pre : List Str} {x : Str} (h : x ∉ pre) : (pre ++ [x]).idxOf x = pre.length := by
  rw [List.idxOf_append, if_neg h]; simp
theorem GI.init (cs : List Str) : GI cs [] ⟨0, 0, [], []⟩ := ⟨rfl, Nat.le_refl _, rfl, rfl, fun _ h => absurd h (by simp), fun _ h => absurd h (by simp), fun _ h => absurd h (by simp), by simp, by simp⟩
theorem getLast_mem' {u : List Str} (h : u ≠ []) : u.getLastD "" ∈ u ∧ u = u.dropLast ++ [u.getLastD ""] := by
  have e : u.getLastD "" = u.getLast h := by
    cases u with
    | nil => exact absurd rfl h
    | cons a r => rw [List.getLastD_cons, List.getLast_eq_getLastD]
  rw [e]
  exact ⟨List.getLast_mem h, (List.dropLast_concat_getLast h).symm⟩
theorem GI.step {cs pre : List Str} {s : Gr} {x : Str} (I : GI cs pre s) (hx : x ∉ pre) : GI cs (pre ++ [x]) (grStep cs s x) := by
  have hl : (pre ++ [x]).length = pre.length + 1 := by simp
  have mem1 : ∀ {y}, y ∈ pre → y ∈ pre ++ [x] := fun h => List.mem_append_left _ h
  have xin : x ∈ pre ++ [x] := by simp
  have tk : (pre ++ [x]).take s.g = pre.take s.g := List.take_append_of_le_length I.hg
  have dr : (pre ++ [x]).drop s.g = pre.drop s.g ++ [x] := List.drop_append_of_le_length I.hg
  unfold grStep
  by_cases c : x ∈ cs
  · rw [if_pos c]
    refine ⟨by show s.n + 1 = _; rw [hl, I.hn], by show s.g ≤ _; have := I.hg; omega, ?_, ?_, ?_, fun a ha => ?_, fun a ha => ?_, ?_, I.nd2⟩
    · show s.ps.length = _
      rw [tk, dr, cN_snoc, if_pos c]; exact I.cnt1
    · show s.ps.length + (s.u ++ [x]).length = _
      rw [cC_snoc, if_pos c, List.length_append, ← Nat.add_assoc, I.cnt2]; rfl
    · intro y hy
      rcases List.mem_append.mp hy with h | h
      · exact ⟨mem1 (I.hu y h).1, (I.hu y h).2⟩
      · have : y = x := by simpa using h
        rw [this]; exact ⟨xin, c⟩
    · obtain ⟨⟨a1, a2⟩, a3, a4⟩ := I.hp a ha
      exact ⟨⟨mem1 a1, a2⟩, mem1 a3, a4⟩
    · obtain ⟨⟨a1, a2⟩, a3, a4⟩ := I.hp a ha
      rw [idx_left a1, idx_left a3]; exact I.ord a ha
    · show ((s.u ++ [x]) ++ s.ps.map Prod.fst).Nodup
      have pm : ((s.u ++ [x]) ++ s.ps.map Prod.fst).Perm (x :: (s.u ++ s.ps.map Prod.fst)) := by
        rw [List.append_assoc]; exact List.perm_middle
      rw [pm.nodup_iff, List.nodup_cons]
      refine ⟨fun h => ?_, I.nd1⟩
      rcases List.mem_append.mp h with h | h
      · exact hx (I.hu x h).1
      · obtain ⟨a, ha, e⟩ := List.mem_map.mp h
        exact hx (e ▸ (I.hp a ha).1.1)
  · rw [if_neg c]
    by_cases d : s.u = []
    · rw [if_pos d]
      refine ⟨by show s.n + 1 = _; rw [hl, I.hn], by show s.n + 1 ≤ _; rw [hl, I.hn]; exact Nat.le_refl _, ?_, ?_, fun y hy => ?_, fun a ha => ?_, fun a ha => ?_, I.nd1, I.nd2⟩
      · show s.ps.length = cC cs ((pre ++ [x]).take (s.n + 1)) + cN cs ((pre ++ [x]).drop (s.n + 1))
        rw [I.hn, ← hl, List.take_length, List.drop_length, cC_snoc, if_neg c]
        have := I.cnt2
        rw [d] at this
        simpa [cN] using this
      · show s.ps.length + s.u.length = _
        rw [cC_snoc, if_neg c]; exact I.cnt2
      · exact ⟨mem1 (I.hu y hy).1, (I.hu y hy).2⟩
      · obtain ⟨⟨a1, a2⟩, a3, a4⟩ := I.hp a ha
        exact ⟨⟨mem1 a1, a2⟩, mem1 a3, a4⟩
      · obtain ⟨⟨a1, a2⟩, a3, a4⟩ := I.hp a ha
        rw [idx_left a1, idx_left a3]; exact I.ord a ha
    · rw [if_neg d]
      obtain ⟨z1, z2⟩ := getLast_mem' d
      generalize hz : s.u.getLastD "" = z at z1 z2
      have hzu := I.hu z z1
      have lenu : s.u.length = s.u.dropLast.length + 1 := by
        have := congrArg List.length z2
        rwa [List.length_append] at this
      refine ⟨by show s.n + 1 = _; rw [hl, I.hn], by show s.g ≤ _; have := I.hg; omega, ?_, ?_, fun y hy => ?_, fun a ha => ?_, fun a ha => ?_, ?_, ?_⟩
      · show (s.ps ++ [(z, x)]).length = _
        rw [tk, dr, cN_snoc, if_neg c, List.length_append, I.cnt1, Nat.add_assoc]; rfl
      · show (s.ps ++ [(z, x)]).length + s.u.dropLast.length = _
        rw [cC_snoc, if_neg c, List.length_append]
        have := I.cnt2
        simp only [List.length_cons, List.length_nil]
        omega
      · have hy' : y ∈ s.u := List.dropLast_subset _ hy
        exact ⟨mem1 (I.hu y hy').1, (I.hu y hy').2⟩
      · rcases List.mem_append.mp ha with h | h
        · obtain ⟨⟨a1, a2⟩, a3, a4⟩ := I.hp a h
          exact ⟨⟨mem1 a1, a2⟩, mem1 a3, a4⟩
        · have : a = (z, x) := by simpa using h
          rw [this]; exact ⟨⟨mem1 hzu.1, hzu.2⟩, xin, c⟩
      · rcases List.mem_append.mp ha with h | h
        · obtain ⟨⟨a1, a2⟩, a3, a4⟩ := I.hp a h
          rw [idx_left a1, idx_left a3]; exact I.ord a h
        · have : a = (z, x) := by simpa using h
          rw [this]
          show (pre ++ [x]).idxOf z < (pre ++ [x]).idxOf x
          rw [idx_left hzu.1, idx_last hx]
          exact List.idxOf_lt_length_iff.mpr hzu.1
      · show (s.u.dropLast ++ (s.ps ++ [(z, x)]).map Prod.fst).Nodup
        have pm : (s.u.dropLast ++ (s.ps ++ [(z, x)]).map Prod.fst).Perm (s.u ++ s.ps.map Prod.fst) := by
          rw [List.map_append]
          conv => rhs; rw [z2]
          rw [List.append_assoc]
          exact (List.perm_append_comm).append_left _
        exact pm.nodup_iff.mpr I.nd1
      · show ((s.ps ++ [(z, x)]).map Prod.snd).Nodup
        rw [List.map_append]
        refine nodup_snoc I.nd2 fun h => ?_
        obtain ⟨a, ha, e⟩ := List.mem_map.mp h
        have e' : a.2 = x := e
        exact hx (e' ▸ (I.hp a ha).2.1)
theorem gr_inv (cs : List Str) {ns : List Str} (nd : ns.Nodup) : ∀ i, i ≤ ns.length → GI cs (ns.take i) (gr cs (ns.take i))
  | 0, _ => GI.init cs
  | i + 1, h => by
    have hi : i < ns.length := h
    rw [take_at hi, gr_snoc]
    exact (gr_inv cs nd i (by omega)).step (notin_take nd hi)
theorem gr_all (cs : List Str) {ns : List Str} (nd : ns.Nodup) : GI cs ns (gr cs ns) := by
  have := gr_inv cs nd ns.length (Nat.le_refl _)
  rwa [List.take_length] at this
/-- as many marks as pairs -/
theorem marks_len (cs : List Str) {ns : List Str} (nd : ns.Nodup) : (shownL ns (gr cs ns).g cs).length = (gr cs ns).ps.length := by
  rw [(gr_all cs nd).cnt1]
  unfold shownL cC cN
  rw [List.length_append]
/-- any gap marks one of each pair -/
theorem gap_marks {cs ns : List Str} (nd : ns.Nodup) (g : Nat) {a : Str × Str} (ha : a ∈ (gr cs ns).ps) : a.1 ∈ shownL ns g cs ∨ a.2 ∈ shownL ns g cs := by
  obtain ⟨⟨a1, a2⟩, a3, a4⟩ := (gr_all cs nd).hp a ha
  have o := (gr_all cs nd).ord a ha
  rcases mem_split g a1 with h | h
  · exact .inl (mem_shown.mpr (.inl ⟨h, a2⟩))
  · refine .inr (mem_shown.mpr (.inr ⟨?_, a4⟩))
    rcases mem_split g a3 with q | q
    · exfalso
      have e : ns = ns.take g ++ ns.drop g := (List.take_append_drop g ns).symm
      have i2 : ns.idxOf a.2 < (ns.take g).length := by
        conv => lhs; rw [e]
        rw [List.idxOf_append, if_pos q]
        exact List.idxOf_lt_length_iff.mpr q
      have i1 : (ns.take g).length ≤ ns.idxOf a.1 := by
        conv => rhs; rw [e]
        rw [List.idxOf_append, if_neg (fun z => split_mem nd z h)]
        omega
      omega
    · exact q
theorem last_at {u : List Str} (h : u ≠ []) : (u.map PV.str)[(u.map PV.str).length - 1]? = some (.str (u.getLastD "")) := by
  have e : u.getLastD "" = u.getLast h := by
    cases u with
    | nil => exact absurd rfl h
    | cons a r => rw [List.getLastD_cons, List.getLast_eq_getLastD]
  rw [List.length_map, List.getElem?_map, e, ← List.getLast?_eq_getElem?, List.getLast?_eq_some_getLast h]; rfl
theorem map_dropLast' {α β : Type} (f : α → β) (l : List α) : (l.map f).dropLast = l.dropLast.map f := by rw [List.map_dropLast]
def metL (ps : List (Str × Str)) : List Str := ps.map Prod.fst ++ ps.map Prod.snd
theorem met_map (ps : List (Str × Str)) : (ps.map fun a => PV.str a.1) ++ (ps.map fun a => PV.str a.2) = (metL ps).map .str := by
  unfold metL; rw [List.map_append, List.map_map, List.map_map]; rfl
theorem met_len (ps : List (Str × Str)) : (metL ps).length = ps.length + ps.length := by unfold metL; simp
theorem met_good {cs ns : List Str} {s : Gr} (I : GI cs ns s) : (metL s.ps).Nodup ∧ ∀ x ∈ metL s.ps, x ∈ ns := by
  unfold metL
  constructor
  · have h := I.nd1
    rw [List.nodup_append] at h
    rw [List.nodup_append]
    refine ⟨h.2.1, I.nd2, fun a ha b hb e => ?_⟩
    obtain ⟨p, hp, rfl⟩ := List.mem_map.mp ha
    obtain ⟨q, hq, rfl⟩ := List.mem_map.mp hb
    have h1 := (I.hp p hp).1.2
    have h2 := (I.hp q hq).2.2
    rw [e] at h1
    exact h2 h1
  · intro x hx
    rcases List.mem_append.mp hx with h | h
    · obtain ⟨p, hp, rfl⟩ := List.mem_map.mp h; exact (I.hp p hp).1.1
    · obtain ⟨p, hp, rfl⟩ := List.mem_map.mp h; exact (I.hp p hp).2.1
theorem filter_mem {as ns : List Str} (ha : as.Nodup) (hn : ns.Nodup) (h : ∀ x ∈ as, x ∈ ns) : as.Perm (ns.filter fun x => decide (x ∈ as)) := perm_of_mem ha (hn.filter _) fun x => by
  rw [List.mem_filter]; simp; exact fun q => h x q
/-! ### promises -/
def LeastP (ns cs : List Str) (p : PV) : Prop := ∃ ts : List Str, ts.Perm (shownL ns (gr cs ns).g cs) ∧ sortedS ts = true ∧ p = .tup [.tup [.int ((gr cs ns).g : Nat), .tup (ts.map .str)], .lst ((gr cs ns).ps.map pairP)]
theorem least_uniq {ns cs : List Str} {p q : PV} (hp : LeastP ns cs p) (hq : LeastP ns cs q) : p = q := by
  obtain ⟨ts, a, b, rfl⟩ := hp
  obtain ⟨us, c, d, rfl⟩ := hq
  rw [sorted_one (a.trans c.symm) b d]
def preCheck : Pre := fun l R => ∃ (tp tp2 : Bool) (ns cs : List Str), l = [.sq tp (ns.map .str), .sq tp2 (cs.map .str)] ∧ (∀ x ∈ cs, x ∈ ns) ∧ R = .is fun p => p = .non
def preMarksAt : Pre := fun l R => ∃ (tp tp2 : Bool) (ns cs : List Str) (g : Nat), l = [.sq tp (ns.map .str), .is (.int g), .sq tp2 (cs.map .str)] ∧ ns.length ≤ 60 ∧ R = .is fun p => ∃ ts : List Str, ts.Perm (shownL ns g cs) ∧ sortedS ts = true ∧ p = .tup (ts.map .str)
def preLeast : Pre := fun l R => ∃ (tp tp2 : Bool) (ns cs : List Str), l = [.sq tp (ns.map .str), .sq tp2 (cs.map .str)] ∧ ns.length ≤ 60 ∧ ns.Nodup ∧ (∀ x ∈ cs, x ∈ ns) ∧ R = .is (LeastP ns cs)
def preMarked : Pre := fun l R => ∃ (tp2 : Bool) (ns cs : List Str) (g : Nat), l = [.sq false (ns.map .str), .sq tp2 (cs.map .str), .is (.int g)] ∧ ns.length ≤ 1000 ∧ R = .new fun xs => xs = (shownL ns g cs).map .str
def preWhole : Pre := fun l R => ∃ i : Int, l = [.is (.int i)] ∧ R = .is fun p => p = .bl true
def preIsSlip : Pre := fun l R => ∃ (ns ts : List Str) (g : Nat), l = [.sq false (ns.map .str), .is (.tup [.int g, .tup (ts.map .str)])] ∧ ns.length ≤ 60 ∧ ns.Nodup ∧ g ≤ ns.length ∧ (∀ x ∈ ts, x ∈ ns) ∧ ts.Nodup ∧ sortedS ts = true ∧ R = .is fun p => p = .bl true
def preMarks : Pre := fun l R => ∃ (tp tp2 : Bool) (ns cs : List Str), l = [.sq tp (ns.map .str), .sq tp2 (cs.map .str)] ∧ ns.length ≤ 60 ∧ ns.Nodup ∧ (∀ x ∈ cs, x ∈ ns) ∧ R = .is fun p => p = .int ((gr cs ns).ps.length : Nat)
def prePairsRight : Pre := fun l R => ∃ (tp2 : Bool) (ns cs : List Str), l = [.sq false (ns.map .str), .sq tp2 (cs.map .str), .is (.lst ((gr cs ns).ps.map pairP))] ∧ ns.length ≤ 60 ∧ ns.Nodup ∧ R = .is fun p => p = .bl true
end Fz

set_option Elab.async false
set_option linter.all false
set_option maxRecDepth 100000
set_option maxHeartbeats 4000000
namespace Fz
open PySem PySem.Spec PyProof.Rows L2 Lw
section
variable {E : Ent} {ss : List Slot} {σ : L2.St} {F H F' H' : Hp} {K : PySem.W.Frag} {ta tb tc te : TE} {k : PV → Prop} {v : V} {tp : Bool} {xs : List PV} {nx : List Slot → Prop} {R : Ret}
/-- a take of any size -/
def spTakeB : Sp := fun vs H Q _ => ∃ (p : Addr) (m : Int), vs = [.ref p, .int m] ∧ Pot H p ∧ 0 < m ∧ m < 10 ^ 200 ∧ ∀ r H', 0 ≤ r → r < m → PStep p H H' → Q (.int r) H'
theorem abs_big {a : Int} (h0 : 0 < a) (h1 : a < 10 ^ 200) : a.natAbs < 2 ^ 1000 := by
  have h4 : a.natAbs < 10 ^ 200 := by omega
  exact Nat.lt_trans h4 (by decide +kernel)
theorem wp_takeB {i : Nat} (hi : ss[i]? = some .pot) (h : Wp ss te fun x => ∃ m, x = .int m ∧ 0 < m ∧ m < 10 ^ 200 ∧ ∀ r : Nat, (r : Int) < m → k (.int r)) : Wp ss (tCall spTakeB [] E0 (tCons (tVar i) (tCons te tNil))) k := ⟨fun E σ F H Q S q => by
  obtain ⟨p, e, _⟩ := S.ok i _ hi
  refine ⟨_, e, h.go E σ F H _ S fun v x F1 H1 m1 r ⟨m, em, m0, m1', kk⟩ => ?_⟩
  subst em; cases r
  refine ⟨p, m, rfl, m1.st.potAt hi e, m0, m1', fun r H2 r0 r1 s => q _ _ F1 H2 (m1.trans (m1.st.pstep hi e s)) (.int r) ?_⟩
  obtain ⟨n, rfl⟩ := Int.eq_ofNat_of_zero_le r0
  exact kk n r1⟩
/-- a piece of the script -/
theorem wn_sliceS {i : Nat} {ns : List Int} {tl th : TO} {k : List PV → Prop} (hi : ss[i]? = some (.raw (scriptP K ns))) (h : Wo ss tl fun lo => Wo ss th fun hi => k ((cutP ns lo hi).map .int)) : Wn ss (tSl (rSlL K) (tVar i) tl th) k := ⟨fun E σ F H Q S q => by
  obtain ⟨v, e, ⟨a, ev, hq⟩, st⟩ := S.ok i _ hi
  subst ev
  refine ⟨_, e, h.go E σ F H _ S fun lo F2 H2 m2 h3 => h3.go E σ F2 H2 _ m2.st fun hi2 F3 H3 m3 kk => ?_⟩
  obtain ⟨v', e', hq1, _⟩ := m3.st.ok i _ hi
  rw [e] at e'; cases e'
  obtain ⟨a', ea, hq'⟩ := scriptP_same K ns _ F3 H3 m3.st.fh hq1
  cases ea
  refine ⟨a, _, rfl, hq', fun b hb => ?_⟩
  have m4 := m3.st.make hb (.lst (cutV (ns.map V.int) lo hi2))
  refine q b _ _ F3 _ (m2.trans (m3.trans m4)) (m3.st.newF hb) ((m2.trans m3).none hb) upd_same ?_ kk
  have e1 : cutV (ns.map V.int) lo hi2 = (cutP ns lo hi2).map V.int := by
    unfold cutV cutP
    rw [List.length_map, ← List.map_drop, ← List.map_take]
  rw [e1, ← enc_ints]
  exact reps_enc (ints_flat _)⟩
end
/-! the bits turned about -/
def rv (n : Nat) : Nat → Nat
  | 0 => 0
  | i + 1 => 2 * rv n i + n / 2 ^ i % 2
theorem rv_lt (n m : Nat) : rv n m < 2 ^ m := by
  induction m with
  | zero => exact Nat.one_pos
  | succ m ih => rw [rv, Nat.pow_succ]; omega
theorem bit_mod {n i m : Nat} (h : i < m) : n % 2 ^ m / 2 ^ i % 2 = n / 2 ^ i % 2 := by
  have e : (n % 2 ^ m).testBit i = n.testBit i := by rw [Nat.testBit_mod_two_pow, decide_eq_true h, Bool.true_and]
  rw [Nat.testBit_eq_decide_div_mod_eq, Nat.testBit_eq_decide_div_mod_eq, decide_eq_decide] at e
  omega
theorem rv_congr {n n' m : Nat} (h : ∀ i, i < m → n / 2 ^ i % 2 = n' / 2 ^ i % 2) : rv n m = rv n' m := by
  induction m with
  | zero => rfl
  | succ m ih => rw [rv, rv, ih fun i hi => h i (by omega), h m (by omega)]
theorem rv_mod (n m : Nat) : rv (n % 2 ^ m) m = rv n m := rv_congr fun i hi => bit_mod hi
theorem rv_add (n m c : Nat) : rv (n + 2 ^ m * c) m = rv n m := by rw [← rv_mod (n + 2 ^ m * c), Nat.add_mul_mod_self_left, rv_mod]
theorem rv_front (n m : Nat) : rv n (m + 1) = (n % 2) * 2 ^ m + rv (n / 2) m := by
  induction m with
  | zero => simp [rv]
  | succ m ih =>
    have e1 : n % 2 * 2 ^ (m + 1) = 2 * (n % 2 * 2 ^ m) := by rw [Nat.pow_succ, ← Nat.mul_assoc, Nat.mul_comm]
    have e2 : n / 2 / 2 ^ m = n / 2 ^ (m + 1) := by rw [Nat.div_div_eq_div_mul, Nat.pow_succ, Nat.mul_comm 2]
    rw [rv, ih, rv, e1, e2]
    omega
theorem rv_rv (n m : Nat) : rv (rv n m) m = n % 2 ^ m := by
  induction m generalizing n with
  | zero => simp [rv, Nat.mod_one]
  | succ m ih =>
    have h1 := rv_lt (n / 2) m
    have e1 : rv (n % 2 * 2 ^ m + rv (n / 2) m) m = rv (rv (n / 2) m) m := by rw [Nat.add_comm, Nat.mul_comm, rv_add]
    have e2 : (n % 2 * 2 ^ m + rv (n / 2) m) / 2 ^ m = n % 2 := by rw [Nat.mul_comm, Nat.mul_add_div (Nat.two_pow_pos m), Nat.div_eq_of_lt h1]; rfl
    rw [rv, rv_front, e1, e2, ih, Nat.pow_succ, Nat.mul_comm (2 ^ m) 2, Nat.mod_mul]
    omega
theorem pow8 {m : Nat} (h : m ≤ 8) : 2 ^ m ≤ 256 := Nat.pow_le_pow_right (by decide) h
theorem pick9 {m : Nat} (h : m ≤ 8) : L2.atI [PV.int 1, .int 2, .int 4, .int 8, .int 16, .int 32, .int 64, .int 128, .int 256] (m : Int) = some (.int ((2 ^ m : Nat) : Int)) := by
  have : m = 0 ∨ m = 1 ∨ m = 2 ∨ m = 3 ∨ m = 4 ∨ m = 5 ∨ m = 6 ∨ m = 7 ∨ m = 8 := by omega
  rcases this with rfl | rfl | rfl | rfl | rfl | rfl | rfl | rfl | rfl <;> rfl
def preTurned : Pre := fun l R => ∃ (n m : Nat), l = [.is (.int n), .is (.int m)] ∧ m ≤ 8 ∧ R = .is fun p => p = .int ((rv n m : Nat) : Int)
def prePower : Pre := fun l R => ∃ (m : Nat), l = [.is (.int m)] ∧ m ≤ 8 ∧ R = .is fun p => p = .int ((2 ^ m : Nat) : Int)
theorem bit_small (n i : Nat) : ((n / 2 ^ i % 2 : Nat) : Int).natAbs < 2 ^ 1000 := by
  have : n / 2 ^ i % 2 < 2 := Nat.mod_lt _ (by decide)
  exact Nat.lt_trans (show _ < 2 by omega) (by decide +kernel)
theorem p_small {i : Nat} (h : i ≤ 100000) : ((i : Nat) : Int).natAbs < 2 ^ 1000 := Nat.lt_trans (show _ < 100001 by omega) (by decide +kernel)
theorem pw_small {m : Nat} (h : m ≤ 8) : ((2 ^ m : Nat) : Int).natAbs < 2 ^ 1000 := p_small (Nat.le_trans (pow8 h) (by decide))
theorem rv_small {n m : Nat} (h : m ≤ 8) : ((rv n m : Nat) : Int).natAbs < 2 ^ 1000 := p_small (Nat.le_trans (Nat.le_of_lt (rv_lt n m)) (Nat.le_trans (pow8 h) (by decide)))
theorem due_next {n m i : Nat} (h : i < m) : rv n i * 2 ^ (m - i) + n / 2 ^ i % 2 * 2 ^ (m - 1 - i) = rv n (i + 1) * 2 ^ (m - (i + 1)) := by
  rw [show m - i = (m - 1 - i) + 1 by omega, show m - (i + 1) = m - 1 - i by omega, rv, Nat.pow_succ, Nat.add_mul, Nat.mul_comm 2 (rv n i), Nat.mul_assoc (rv n i) 2, Nat.mul_comm 2]
theorem lt_cast (a b : Nat) : decide ((a : Int) < (b : Int)) = decide (a < b) := by
  by_cases h : a < b
  · rw [decide_eq_true h, decide_eq_true (by omega)]
  · rw [decide_eq_false h, decide_eq_false (by omega)]
end Fz

set_option Elab.async false
set_option linter.all false
set_option maxRecDepth 100000
set_option maxHeartbeats 8000000
set_option exponentiation.threshold 5000

namespace Pf
open PySem PySem.Spec PyProof.Rows L2 Lw
abbrev St := L2.St
def top (i : Nat) : Stmt := PySem.Challenge.pw_stirround_k81_turned_about.main.body.getD i (.Pass ⟨0, 0, 0, 0⟩)
abbrev s__law_pot : Stmt := top 3
abbrev s__law_take : Stmt := top 4
abbrev s_turned : Stmt := top 1
abbrev s__law_whole : Stmt := top 5
abbrev s__law_power : Stmt := top 6
abbrev s__law_due : Stmt := top 7
abbrev s_law : Stmt := top 8
variable {P : Program} {w : World} {K : PySem.W.Frag} {mg : Str → Option Value} {base : Heap} {f : Addr} {fd : FuncData}
open Fz
local macro_rules | `(tactic| walk_at "wp") => `(tactic| first
  | ((with_reducible refine' wp_takeB ?wk ?_); (case wk => rfl))
  | (with_reducible refine' wp_eqI0 ?_)
  | (with_reducible refine' wp_eqI1 ?_)
  | ((with_reducible refine' wp_var ?wk ?_); (case wk => rfl))
  | (with_reducible refine' wp_int ?_)
  | (with_reducible refine' wp_str ?_)
  | (with_reducible refine' wp_bl ?_)
  | (with_reducible refine' wp_non ?_)
  | (with_reducible refine' wp_rI ?_)
  | (with_reducible refine' wp_rI0 ?_)
  | (with_reducible refine' wp_rB0 ?_)
  | (with_reducible refine' wp_eq ?_)
  | (with_reducible refine' wp_ne ?_)
  | (with_reducible refine' wp_and ?_)
  | (with_reducible refine' wp_or ?_)
  | (with_reducible refine' wp_not ?_)
  | (with_reducible refine' wp_chain ?_)
  | (with_reducible refine' wp_neg ?_)
  | ((with_reducible refine' wp_lenS ?wk ?_); (case wk => rfl))
  | (with_reducible refine' wp_len ?_)
  | (with_reducible refine' wp_ixL ?_)
  | (with_reducible refine' wp_ixT ?_)
  | (with_reducible refine' wp_ixQ ?_)
  | (with_reducible refine' wp_in0 ?_)
  | (with_reducible refine' wp_in1 ?_)
  | (with_reducible refine' wp_tup ?_)
  | (with_reducible refine' wp_slice2 ?_)
  | ((with_reducible refine' wp_take ?wk ?_); (case wk => rfl))
  | (with_reducible refine' wp_place ?_)
  | (with_reducible refine' wp_isB ?_)
  | (with_reducible refine' wp_notB ?_)
  | (refine' wp_lenSet ?_)
  | (with_reducible refine' wp_indexL ?_)
  | (with_reducible refine' wp_eqN ?_)
  | (with_reducible refine' wp_neN ?_)
  | (with_reducible refine' wp_neLT ?_)
  | (refine' wp_max ?wk ?_; (case wk => rfl))
  | (refine' wp_int1 ?wk ?_; (case wk => rfl))
  | (refine' wp_abs ?wk ?_; (case wk => rfl))
  | (refine' wp_min ?wk ?_; (case wk => rfl))
  | (refine' wp_all ?wk ?_; (case wk => rfl))
  | (refine' wp_any ?wk ?_; (case wk => rfl))
  | (refine' wp_tupleOf ?wk ?_; (case wk => rfl)))
local macro_rules | `(tactic| walk_at "wn") => `(tactic| first
  | (with_reducible refine' wn_lr3 ?_)
  | ((with_reducible refine' wn_sliceS ?wk ?_); (case wk => rfl))
  | (with_reducible refine' wn_lst ?_)
  | (with_reducible refine' wn_cat ?_)
  | (with_reducible refine' wn_slice ?_)
  | (with_reducible refine' wn_sorted ?_)
  | (refine' wn_sortedSet ?_)
  | (with_reducible refine' wn_rev ?_)
  | (with_reducible refine' wn_lr ?_)
  | (refine' wn_list ?wk ?_; (case wk => rfl))
  | (refine' wn_rowOf ?wj ?wk ?_; (case wj => rfl); (case wk => rfl)))
local macro_rules | `(tactic| walk_at "wq") => `(tactic| first
  | ((with_reducible refine' wq_own ?wk ?_); (case wk => rfl))
  | ((with_reducible refine' wq_sq ?wk ?_); (case wk => rfl))
  | ((with_reducible refine' wq_isL ?wk ?_); (case wk => rfl))
  | ((with_reducible refine' wq_isT ?wk ?_); (case wk => rfl))
  | (with_reducible refine' wq_slice2 ?_)
  | (refine wq_of_wp (wp_of_wn ?_); walk_at "wn")
  | (refine wq_of_wp ?_; walk_at "wp"))
local macro_rules | `(tactic| walk_at "wz") => `(tactic| first
  | ((with_reducible refine' wz_sq ?wk ?_); (case wk => rfl))
  | (with_reducible refine' wz_slice2 ?_)
  | (refine wz_of_wp (wp_of_wn ?_); walk_at "wn")
  | (refine wz_of_wp ?_; walk_at "wp"))
local macro_rules | `(tactic| walk_at "wt") => `(tactic| first
  | (with_reducible refine' wt_test ?_)
  | (with_reducible refine' wt_b ?_)
  | (with_reducible refine' wt_true ?_)
  | (with_reducible refine' wt_not ?_)
  | (with_reducible refine' wt_and ?_)
  | (with_reducible refine' wt_or ?_))
local macro_rules | `(tactic| walk_at "we") => `(tactic| first
  | (with_reducible refine' we_cons ?_)
  | (with_reducible refine' we_nil ?_)
  | (with_reducible refine' wo_none ?_)
  | (with_reducible refine' wo_some ?_)
  | (with_reducible refine' wi_rng ?_)
  | (with_reducible refine' wi_rng2 ?_)
  | (with_reducible refine' wi_enum ?_)
  | (with_reducible refine' wi_sq ?_))
local macro_rules | `(tactic| walk_at "w") => `(tactic| first
  | ((with_reducible show Wp _ _ _); first | walk_at "wp" | (refine wp_of_wn ?_; walk_at "wn"))
  | ((with_reducible show Wn _ _ _); walk_at "wn")
  | ((with_reducible show Wq _ _ _); walk_at "wq")
  | ((with_reducible show Wz _ _ _); walk_at "wz")
  | ((with_reducible show Wt _ _ _); walk_at "wt")
  | ((with_reducible show We _ _ _); walk_at "we")
  | ((with_reducible show Wo _ _ _); walk_at "we")
  | ((with_reducible show Wi _ _ _); walk_at "we")
  | ((with_reducible show Ws _ _ _ _); first
    | (with_reducible refine' ws_seq ?_)
    | (with_reducible refine' ws_cut ?_)
    | (with_reducible refine' ws_if ?_)
    | (with_reducible refine' ws_next ?_)
    | ((with_reducible refine' ws_append ?wk ?_); (case wk => rfl))
    | ((with_reducible refine' ws_extend ?wk ?_); (case wk => rfl))
    | ((with_reducible refine' ws_aug ?wk ?_); (case wk => rfl))
    | ((with_reducible refine' ws_insert ?wk ?_); (case wk => rfl))
    | ((with_reducible refine' ws_reverse ?wk ?_); (case wk => rfl))
    | ((with_reducible refine' ws_pot ?wk ?_); (case wk => rfl))
    | ((with_reducible refine' ws_asgN ?_); walk_at "wn")
    | ((with_reducible refine' ws_asg ?_); walk_at "wp")
    | ((with_reducible refine' ws_retO ?wk ?_); (case wk => rfl))
    | ((with_reducible refine' ws_retN ?_); walk_at "wn")
    | ((with_reducible refine' ws_ret ?_); walk_at "wp"))
  | ((with_reducible show ∃ _, _ = PV.int _ ∧ _); refine ⟨_, rfl, ?_⟩)
  | ((with_reducible show ∃ _, _ = PV.str _ ∧ _); refine ⟨_, rfl, ?_⟩)
  | ((with_reducible show ∃ _, _ = PV.bl _ ∧ _); refine ⟨_, rfl, ?_⟩)
  | ((with_reducible show _ = false ∧ _); refine ⟨rfl, ?_⟩)
  | ((with_reducible show _ = true ∧ _); refine ⟨rfl, ?_⟩)
  | ((with_reducible show (_ : Bool) = _ ∧ _); refine ⟨rfl, ?_⟩)
  | ((with_reducible show ∃ _ _, _ = PV.int _ ∧ L2.atI _ _ = some _ ∧ _); refine ⟨_, _, rfl, rfl, ?_⟩)
  | ((with_reducible show ∃ _, (_ = PV.lst _ ∧ _) ∨ (_ = PV.tup _ ∧ _)); first | refine ⟨_, .inl ⟨rfl, ?_⟩⟩ | refine ⟨_, .inr ⟨rfl, ?_⟩⟩)
  | ((with_reducible show ∃ _, _ = List.map _ _ ∧ _); first | refine ⟨_, rfl, ?_⟩ | refine ⟨[], rfl, ?_⟩ | refine ⟨_, cutP_map _ _ _ _, ?_⟩ | refine ⟨_, map_app _ _ _, ?_⟩ | refine ⟨_, map_bl _ _, ?_⟩))
local macro_rules | `(tactic| walk_at "ww") => `(tactic| repeat walk_at "w")
theorem sc__law_pot : FnScope ["script", "k", "cell", "rest_here"] ["script", "k"] (defScope s__law_pot) := ⟨rfl, rfl, rfl, by decide +kernel, rfl, by decide +kernel, by decide +kernel⟩
theorem ok__law_pot (F : Fun K "_law_pot" "_law_pot" s__law_pot f fd) (bd : Binds K fd ["script", "k"] []) (m : mg "_law_pot" = some (.ref f)) (b_len : mg "len" = none) :
    Has P w K mg base "_law_pot" 1 ["script", "k"] (spPot K) := by
  refine Has.mk F bd m (F.okq (k := 0) sc__law_pot (fun vs H Q E h => ?_) (fun cdv A outer s H vs Q E hr h => ?_))
  · obtain ⟨a, ns, k, rfl, hS, k0, k1, q⟩ := h; rfl
  obtain ⟨a, ns, k, rfl, hS, k0, k1, q⟩ := h
  refine ⟨_, (qss_c rfl (qs_set (i := 2) sc__law_pot.nd rfl (Or.inl rfl) qe_int)
      (qss_c rfl (qs_cut (qs_if (qt_cmpR op_lt (qv 1) (qe_callB call_len_seq (by rfl) b_len (by decide +kernel) (qa_cons (qv 0) qa_nil)) (nomark _)) (qss_o rfl (qs_set (i := 2) sc__law_pot.nd rfl (Or.inl rfl) (qe_op op_mod (qe_ix ix_list (qv 0) (qv 1) (fun _ _ => rfl)) (qe_op op_mulB (qe_op op_mulB (qe_op op_mulB (qe_op op_pow qe_int qe_int) (qe_op op_pow qe_int qe_int)) (qe_op op_pow qe_int qe_int)) (qe_op op_pow qe_int qe_int))))) qss_nil))
      (qss_c rfl (qs_set (i := 3) sc__law_pot.nd rfl (Or.inl rfl) qe_int)
      (qss_c rfl (qs_cut (qs_if (qt_cmpR op_ge (qv 2) (qe_op op_pow qe_int qe_int) (nomark _)) (qss_o rfl (qs_set (i := 3) sc__law_pot.nd rfl (Or.inl rfl) (qv 2))) qss_nil))
      (qss_o rfl (qs_ret (qe_lst (qa_cons (qv 3) (qa_cons (qe_op op_mod (qe_op op_mulB (qe_op op_add (qe_op op_add (qe_op op_mod (qv 2) qe_int) (qe_op op_mulB qe_int (qv 1))) qe_int) qe_int) qe_int) qa_nil))))))))), ?_⟩
  have hl : (ns.map V.int).length = ns.length := List.length_map _
  refine ⟨fun σ' H' => ∃ c : Int, σ' = [some (.ref a), some (.int k), some (.int c), none] ∧ H = H' ∧ 0 ≤ c ∧ c < 10 ^ 256, ?_, ?_⟩
  · refine ⟨_, rfl, _, rfl, a, _, rfl, .inl hS, _, _, rfl, rfl, _, rfl, ?_⟩
    refine ite2 (fun c => ?_) (fun c => ?_)
    · have c' : k < (((ns.map V.int).length : Nat) : Int) := of_decide_eq_true c
      rw [hl] at c'
      have hk : k.toNat < ns.length := by omega
      have hv : atI (ns.map V.int) k = some (.int ns[k.toNat]) := atI_of k0 (by rw [List.getElem?_map, List.getElem?_eq_getElem hk] <;> rfl)
      refine ⟨_, rfl, _, rfl, a, _, _, _, rfl, rfl, hS, hv, _, _, rfl, rfl, ⟨by decide, by decide, by decide +kernel⟩, _, _, rfl, rfl, ⟨by decide, by decide, by decide +kernel⟩, _, _, rfl, rfl, ⟨by decide +kernel, by decide +kernel⟩, _, _, rfl, rfl, ⟨by decide, by decide, by decide +kernel⟩, _, _, rfl, rfl, ⟨by decide +kernel, by decide +kernel⟩,
        _, _, rfl, rfl, ⟨by decide, by decide, by decide +kernel⟩, _, _, rfl, rfl, ⟨by decide +kernel, by decide +kernel⟩, _, _, rfl, rfl, (by show (0 : Int) < _; decide +kernel), ?_⟩
      exact ⟨_, rfl, rfl, Int.emod_nonneg _ (by decide +kernel), Int.emod_lt_of_pos _ (by decide +kernel)⟩
    · exact ⟨0, rfl, rfl, by decide, by decide +kernel⟩
  rintro σ' H' ⟨c, rfl, rfl, c0, c1⟩
  refine ⟨fun σ' H' => ∃ d : Int, σ' = [some (.ref a), some (.int k), some (.int c), some (.int d)] ∧ H = H' ∧ 0 ≤ d ∧ d < 10 ^ 256, ?_, ?_⟩
  · refine ⟨_, rfl, _, _, rfl, rfl, ⟨by decide, by decide, by decide +kernel⟩, _, _, rfl, rfl, _, rfl, ?_⟩
    refine ite2 (fun _ => ?_) (fun _ => ?_)
    · exact ⟨_, rfl, c, rfl, rfl, c0, c1⟩
    · exact ⟨0, rfl, rfl, by decide, by decide +kernel⟩
  rintro σ' H' ⟨d, rfl, rfl, d0, d1⟩
  have e0 : 0 ≤ c % 2147483629 := Int.emod_nonneg _ (by decide)
  have e1 : c % 2147483629 < 2147483629 := Int.emod_lt_of_pos _ (by decide)
  refine ⟨_, rfl, _, rfl, _, _, rfl, rfl, (by show (0 : Int) < 2147483629; decide), _, rfl, _, _, rfl, rfl, ⟨by decide +kernel, abs_small (by omega) (by omega)⟩, _, _, rfl, rfl, _, _, rfl, rfl, _, _, rfl, rfl, ⟨abs_small (by omega) (by omega), by decide +kernel⟩, _, _, rfl, rfl, (by show (0 : Int) < 2147483647; decide), ?_⟩
  refine ⟨(by show 2 ≤ sizeLine; decide), fun p hp => ?_⟩
  exact q p _ hp (same_new hp _) ⟨d, _, upd_same, d0, d1, Int.emod_nonneg _ (by decide), Int.emod_lt_of_pos _ (by decide)⟩
theorem sc__law_take : FnScope ["pot", "many", "found"] ["pot", "many"] (defScope s__law_take) := ⟨rfl, rfl, rfl, by decide +kernel, rfl, by decide +kernel, by decide +kernel⟩
theorem ok__law_take (F : Fun K "_law_take" "_law_take" s__law_take f fd) (bd : Binds K fd ["pot", "many"] []) (m : mg "_law_take" = some (.ref f))  :
    Has P w K mg base "_law_take" 1 ["pot", "many"] (spTakeB) := by
  refine Has.mk F bd m (F.okq (k := 0) sc__law_take (fun vs H Q E h => ?_) (fun cdv A outer s H vs Q E hr h => ?_))
  · obtain ⟨p, m, rfl, ⟨a, b, hp, a0, a1, b0, b1⟩, m0, m1, q⟩ := h; rfl
  obtain ⟨p, m, rfl, ⟨a, b, hp, a0, a1, b0, b1⟩, m0, m1, q⟩ := h
  refine ⟨_, (qss_c rfl (qs_if (qt_cmpR op_gt (qe_ix ix_list (qv 0) qe_int (fun _ _ => rfl)) qe_int (nomark _)) (qss_c rfl (qs_set (i := 2) sc__law_take.nd rfl (Or.inl rfl) (qe_op op_mod (qe_ix ix_list (qv 0) qe_int (fun _ _ => rfl)) (qv 1)))
      (qss_c rfl (qs_asg (qe_op op_fdivB (qe_ix ix_list (qv 0) qe_int (fun _ _ => rfl)) (qv 1)) (qg_sub (qv 0) qe_int set_list))
      (qss_o rfl (qs_ret (qv 2))))) qss_nil)
      (qss_c rfl (qs_asg (qe_op op_mod (qe_op op_add (qe_op op_mulB (qe_ix ix_list (qv 0) qe_int (fun _ _ => rfl)) qe_int) qe_int) qe_int) (qg_sub (qv 0) qe_int set_list))
      (qss_o rfl (qs_ret (qe_op op_mod (qe_op op_fdivB (qe_op op_mod (qe_op op_mulB (qe_ix ix_list (qv 0) qe_int (fun _ _ => rfl)) (qe_ix ix_list (qv 0) qe_int (fun _ _ => rfl))) qe_int) qe_int) (qv 1)))))), ?_⟩
  refine ⟨_, rfl, p, _, _, _, rfl, rfl, SqL.of hp, rfl, _, _, rfl, rfl, _, rfl, ?_⟩
  refine ite2 (fun c => ?_) (fun c => ?_)
  · have c' : 0 < a := of_decide_eq_true c
    refine ⟨_, rfl, p, _, _, _, rfl, rfl, SqL.of hp, rfl, _, rfl, _, _, rfl, rfl, m0, ?_⟩
    refine ⟨_, rfl, p, _, _, _, rfl, rfl, SqL.of hp, rfl, _, rfl, _, _, rfl, rfl, ⟨m0, abs_big m0 m1⟩, ?_⟩
    refine ⟨_, rfl, p, _, _, _, rfl, rfl, hp, rfl, ?_⟩
    refine ⟨_, rfl, ?_⟩
    refine q _ _ (Int.emod_nonneg _ (by omega)) (Int.emod_lt_of_pos _ m0) ⟨⟨a / m, b, upd_same, Int.ediv_nonneg a0 (by omega), Int.lt_of_le_of_lt (Int.ediv_le_self _ a0) a1, b0, b1⟩, SameX.upd⟩
  · refine ⟨_, rfl, p, _, _, _, rfl, rfl, SqL.of hp, rfl, _, _, rfl, rfl, ⟨abs_small (by omega) (by omega), by decide +kernel⟩, _, _, rfl, rfl, _, _, rfl, rfl, (by show (0 : Int) < 2147483647; decide), ?_⟩
    refine ⟨_, rfl, p, _, _, _, rfl, rfl, hp, rfl, ?_⟩
    have hb0 : 0 ≤ (b * 69621 + 12345) % 2147483647 := Int.emod_nonneg _ (by decide)
    have hb1 : (b * 69621 + 12345) % 2147483647 < 2147483647 := Int.emod_lt_of_pos _ (by decide)
    generalize hb : (b * 69621 + 12345) % 2147483647 = b' at hb0 hb1
    have hp' : (upd H p (.lst [.int a, .int ((b * 69621 + 12345) % 2147483647)])) p = some (.lst [.int a, .int b']) := by rw [upd_same, hb]
    refine ⟨_, rfl, p, _, _, _, rfl, rfl, SqL.of hp', rfl, _, rfl, p, _, _, _, rfl, rfl, SqL.of hp', rfl, _, _, rfl, rfl, ⟨abs_small (by omega) (by omega), abs_small (by omega) (by omega)⟩, _, _, rfl, rfl, (by show (0 : Int) < 2147483629; decide), ?_⟩
    refine ⟨_, _, rfl, rfl, ⟨(by show (0 : Int) < 64; decide), by decide +kernel⟩, _, rfl, _, _, rfl, rfl, m0, ?_⟩
    exact q _ _ (Int.emod_nonneg _ (by omega)) (Int.emod_lt_of_pos _ m0) ⟨⟨a, b', hp', a0, a1, hb0, hb1⟩, SameX.upd⟩
theorem sc_turned : FnScope ["n", "m", "answer", "bit"] ["n", "m"] (defScope s_turned) := ⟨rfl, rfl, rfl, by decide +kernel, rfl, by decide +kernel, by decide +kernel⟩
theorem len_turned : ∀ ss R, preTurned ss R → ss.length = 2 := by rintro _ _ ⟨n, m, rfl, hm, rfl⟩; rfl
theorem ok_turned (F : Fun K "turned" "turned" s_turned f fd) (bd : Binds K fd ["n", "m"] []) (m : mg "turned" = some (.ref f)) (b_range : mg "range" = none) :
    Has P w K mg base "turned" 1 ["n", "m"] (spF preTurned) := by
  refine Has.mk F bd m (F.okq (k := 0) sc_turned (fun vs H Q E h => Fz.spF_len len_turned h) (fun cdv A outer s H vs Q E hr h => ?_))
  refine ⟨_, (qss_c rfl (qs_set (i := 2) sc_turned.nd rfl (Or.inl rfl) qe_int)
      (qss_c rfl (qs_cut (qs_for PassesOwn.never rfl (qi_range1 rfl b_range (qa_cons (qv 1) qa_nil)) (qg_name (i := 3) sc_turned.nd rfl (Or.inl rfl)) (qss_c rfl (qs_set (i := 2) sc_turned.nd rfl (Or.inl rfl) (qe_op op_add (qe_op op_mulB qe_int (qv 2)) (qe_op op_mod (qv 0) qe_int)))
      (qss_o rfl (qs_set (i := 0) sc_turned.nd rfl (Or.inl rfl) (qe_op op_fdivB (qv 0) qe_int))))))
      (qss_o rfl (qs_ret (qv 2))))), ?_⟩
  refine Fz.fn_run h len_turned ?_
  rintro _ _ ⟨n, m, rfl, hm, rfl⟩
  show Ws [_, _, .any, .any] _ _ _
  walk_at "ww"
  refine ws_for (fun _ i ss' => ∃ s3 : Slot, ss' = [.is (.int ((n / 2 ^ i : Nat) : Int)), .is (.int m), .is (.int ((rv n i : Nat) : Int)), s3]) ?_
  walk_at "ww"
  rw [Int.toNat_natCast]
  refine ⟨by omega, by omega, ⟨_, by rw [Nat.pow_zero, Nat.div_one]; rfl⟩, ?_, ?_⟩
  · rintro i p ss' hp ⟨s3, rfl⟩
    obtain ⟨hi, rfl⟩ := rngP_at hp
    refine wg_name ?_
    walk_at "ww"
    refine ⟨⟨by decide +kernel, rv_small (by omega)⟩, ?_⟩
    walk_at "ww"
    refine ⟨by decide, ?_⟩
    walk_at "ww"
    refine ⟨⟨by decide, by decide +kernel⟩, ?_⟩
    refine ⟨_, by rw [rv, Nat.pow_succ, ← Nat.div_div_eq_div_mul]; rfl⟩
  · rw [rngP_len]
    rintro ss' ⟨s3, rfl⟩
    walk_at "ww"
    rfl
theorem sc__law_whole : FnScope ["found"] ["found"] (defScope s__law_whole) := ⟨rfl, rfl, rfl, by decide +kernel, rfl, by decide +kernel, by decide +kernel⟩
theorem len__law_whole : ∀ ss R, preWhole ss R → ss.length = 1 := by rintro _ _ ⟨i, rfl, rfl⟩; rfl
theorem ok__law_whole (F : Fun K "_law_whole" "_law_whole" s__law_whole f fd) (bd : Binds K fd ["found"] []) (m : mg "_law_whole" = some (.ref f)) (b_bool : mg "bool" = none) (b_int : mg "int" = none) (b_isinstance : mg "isinstance" = none) :
    Has P w K mg base "_law_whole" 1 ["found"] (spF preWhole) := by
  refine Has.mk F bd m (F.okq (k := 0) sc__law_whole (fun vs H Q E h => Fz.spF_len len__law_whole h) (fun cdv A outer s H vs Q E hr h => ?_))
  refine ⟨_, (qss_o rfl (qs_ret (qe_and (qe_callB call_isi (by rfl) b_isinstance (by decide +kernel) (qa_cons (qv 0) (qa_cons (qe_ty "int" b_int) qa_nil))) (qe_one (qe_not (qe_callB call_isi (by rfl) b_isinstance (by decide +kernel) (qa_cons (qv 0) (qa_cons (qe_ty "bool" b_bool) qa_nil)))))))), ?_⟩
  refine Fz.fn_run h len__law_whole ?_
  rintro _ _ ⟨i, rfl, rfl⟩
  show Ws [_] _ _ _
  refine ws_ret (wp_and (wp_isi (wp_var rfl ⟨true, kit_same _ _, _, rfl, iteT ?_⟩)))
  exact wp_not (wp_isi (wp_var rfl ⟨false, kit_int_bool _, _, rfl, rfl⟩))
theorem sc__law_power : FnScope ["m"] ["m"] (defScope s__law_power) := ⟨rfl, rfl, rfl, by decide +kernel, rfl, by decide +kernel, by decide +kernel⟩
theorem len__law_power : ∀ ss R, prePower ss R → ss.length = 1 := by rintro _ _ ⟨m, rfl, hm, rfl⟩; rfl
theorem ok__law_power (F : Fun K "_law_power" "_law_power" s__law_power f fd) (bd : Binds K fd ["m"] []) (m : mg "_law_power" = some (.ref f))  :
    Has P w K mg base "_law_power" 1 ["m"] (spF prePower) := by
  refine Has.mk F bd m (F.okq (k := 0) sc__law_power (fun vs H Q E h => Fz.spF_len len__law_power h) (fun cdv A outer s H vs Q E hr h => ?_))
  refine ⟨_, (qss_o rfl (qs_ret (qe_ix ix_tup (qe_tup (qa_cons qe_int (qa_cons qe_int (qa_cons qe_int (qa_cons qe_int (qa_cons qe_int (qa_cons qe_int (qa_cons qe_int (qa_cons qe_int (qa_cons qe_int qa_nil)))))))))) (qv 0) (fun _ _ => rfl)))), ?_⟩
  refine Fz.fn_run h len__law_power ?_
  rintro _ _ ⟨m, rfl, hm, rfl⟩
  show Ws [_] _ _ _
  walk_at "ww"
  refine ⟨by simp, ?_⟩
  walk_at "ww"
  exact ⟨_, _, rfl, pick9 hm, rfl⟩
theorem sc__law_due : FnScope ["n", "m", "found", "k", "bit"] ["n", "m"] (defScope s__law_due) := ⟨rfl, rfl, rfl, by decide +kernel, rfl, by decide +kernel, by decide +kernel⟩
theorem len__law_due : ∀ ss R, preTurned ss R → ss.length = 2 := by rintro _ _ ⟨n, m, rfl, hm, rfl⟩; rfl
theorem ok__law_due (F : Fun K "_law_due" "_law_due" s__law_due f fd) (bd : Binds K fd ["n", "m"] []) (m : mg "_law_due" = some (.ref f)) (h__law_power : Has P w K mg base "_law_power" 1 ["m"] (spF prePower)) (b_range : mg "range" = none) :
    Has P w K mg base "_law_due" 2 ["n", "m"] (spF preTurned) := by
  refine Has.mk F bd m (F.okq (k := 1) sc__law_due (fun vs H Q E h => Fz.spF_len len__law_due h) (fun cdv A outer s H vs Q E hr h => ?_))
  refine ⟨_, (qss_c rfl (qs_set (i := 2) sc__law_due.nd rfl (Or.inl rfl) qe_int)
      (qss_c rfl (qs_cut (qs_for PassesOwn.never rfl (qi_range1 rfl b_range (qa_cons (qv 1) qa_nil)) (qg_name (i := 3) sc__law_due.nd rfl (Or.inl rfl)) (qss_c rfl (qs_set (i := 4) sc__law_due.nd rfl (Or.inl rfl) (qe_op op_mod (qe_op op_fdivB (qv 0) (qe_fn h__law_power hr (by decide) (qa_cons (qv 3) qa_nil))) qe_int))
      (qss_o rfl (qs_set (i := 2) sc__law_due.nd rfl (Or.inl rfl) (qe_op op_add (qv 2) (qe_op op_mulB (qv 4) (qe_fn h__law_power hr (by decide) (qa_cons (qe_op op_sub (qe_op op_sub (qv 1) qe_int) (qv 3)) qa_nil)))))))))
      (qss_o rfl (qs_ret (qv 2))))), ?_⟩
  refine Fz.fn_run h len__law_due ?_
  rintro _ _ ⟨n, m, rfl, hm, rfl⟩
  show Ws [_, _, .any, .any, .any] _ _ _
  walk_at "ww"
  refine ws_for (fun _ i ss' => ∃ s3 s4 : Slot, ss' = [.is (.int n), .is (.int m), .is (.int ((rv n i * 2 ^ (m - i) : Nat) : Int)), s3, s4]) ?_
  walk_at "ww"
  rw [Int.toNat_natCast]
  refine ⟨by omega, by omega, ⟨_, _, by rw [rv, Nat.zero_mul]; rfl⟩, ?_, ?_⟩
  · rintro i p ss' hp ⟨s3, s4, rfl⟩
    obtain ⟨hi, rfl⟩ := rngP_at hp
    refine wg_name ?_
    walk_at "ww"
    refine wp_call (wa_is (wp_var rfl (wa_nil ⟨_, ⟨i, rfl, by omega, rfl⟩, ?_⟩)))
    rintro _ rfl
    refine ⟨_, rfl, ⟨Int.natCast_pos.mpr (Nat.two_pow_pos i), pw_small (by omega)⟩, ?_⟩
    walk_at "ww"
    refine ⟨by decide, ?_⟩
    walk_at "ww"
    refine wp_call (wa_is ?_)
    walk_at "ww"
    refine wa_nil ⟨_, ⟨m - 1 - i, by rw [show ((m - 1 - i : Nat) : Int) = (m : Int) - 1 - (i : Int) by omega], by omega, rfl⟩, ?_⟩
    rintro _ rfl
    refine ⟨_, rfl, ⟨bit_small n i, pw_small (by omega)⟩, ?_⟩
    walk_at "ww"
    refine ⟨_, _, by rw [← due_next hi]; rfl⟩
  · rw [rngP_len]
    rintro ss' ⟨s3, s4, rfl⟩
    walk_at "ww"
    rw [Nat.sub_self, Nat.pow_zero, Nat.mul_one]
theorem sc_law : FnScope ["script", "k", "pot", "n", "m", "found"] ["script"] (defScope s_law) := ⟨rfl, rfl, rfl, by decide +kernel, rfl, by decide +kernel, by decide +kernel⟩
theorem ok_law (F : Fun K "law" "law" s_law f fd) (bd : Binds K fd ["script"] []) (m : mg "law" = some (.ref f)) (h__law_due : Has P w K mg base "_law_due" 2 ["n", "m"] (spF preTurned)) (h__law_pot : Has P w K mg base "_law_pot" 1 ["script", "k"] (spPot K)) (h__law_power : Has P w K mg base "_law_power" 1 ["m"] (spF prePower)) (h__law_take : Has P w K mg base "_law_take" 1 ["pot", "many"] (spTakeB)) (h__law_whole : Has P w K mg base "_law_whole" 1 ["found"] (spF preWhole)) (h_turned : Has P w K mg base "turned" 1 ["n", "m"] (spF preTurned)) (b_len : mg "len" = none) (b_max : mg "max" = none) (b_range : mg "range" = none) :
    FnOk P w K mg base CX0 6 f fd ["script"] (spLaw K) := by
  refine (F.okq (k := 5) sc_law (fun vs H Q E h => by obtain ⟨a, ns, rfl, _⟩ := h; rfl) (fun cdv A outer s H vs Q E hr h => ?_))
  refine ⟨_, (qss_c rfl (qs_cut (qs_for PassesOwn.never rfl (qi_range1 rfl b_range (qa_cons (qe_callB (call_max2 rfl) (by rfl) b_max (by decide +kernel) (qa_cons qe_int (qa_cons (qe_callB call_lenS (by rfl) b_len (by decide +kernel) (qa_cons (qe_slice sl_list (qv 0) qo_none (qo_some qe_int)) qa_nil)) qa_nil))) qa_nil)) (qg_name (i := 1) sc_law.nd rfl (Or.inl rfl)) (qss_c rfl (qs_set (i := 2) sc_law.nd rfl (Or.inl rfl) (qe_fn h__law_pot hr (by decide) (qa_cons (qv 0) (qa_cons (qv 1) qa_nil))))
      (qss_c rfl (qs_set (i := 3) sc_law.nd rfl (Or.inl rfl) (qe_fn h__law_take hr (by decide) (qa_cons (qv 2) (qa_cons qe_int qa_nil))))
      (qss_c rfl (qs_cut (qs_if (qt_cmpR op_eq (qe_fn h__law_take hr (by decide) (qa_cons (qv 2) (qa_cons qe_int qa_nil))) qe_int (nomark _)) (qss_o rfl (qs_set (i := 3) sc_law.nd rfl (Or.inl rfl) (qe_fn h__law_take hr (by decide) (qa_cons (qv 2) (qa_cons (qe_op op_sub (qe_op op_pow qe_int qe_int) (qe_op op_pow qe_int qe_int)) qa_nil))))) qss_nil))
      (qss_o rfl (qs_for PassesOwn.never rfl (qi_range1 rfl b_range (qa_cons qe_int qa_nil)) (qg_name (i := 4) sc_law.nd rfl (Or.inl rfl)) (qss_c rfl (qs_set (i := 5) sc_law.nd rfl (Or.inl rfl) (qe_fn h_turned hr (by decide) (qa_cons (qv 3) (qa_cons (qv 4) qa_nil))))
      (qss_c rfl (qs_if (qw_or (qt_not (qt_val (qe_fn h__law_whole hr (by decide) (qa_cons (qv 5) qa_nil)))) (qw_or (qt_cmpR op_ne (qv 5) (qe_fn h__law_due hr (by decide) (qa_cons (qv 3) (qa_cons (qv 4) qa_nil))) (nomark _)) (qw_or1 (qt_not (qt_chain op_le op_lt qe_int (qv 5) (qe_fn h__law_power hr (by decide) (qa_cons (qv 4) qa_nil))))))).pt (qss_o rfl (qs_ret qe_bl)) qss_nil)
      (qss_c rfl (qs_if (qt_cmpR op_ne (qe_fn h_turned hr (by decide) (qa_cons (qv 5) (qa_cons (qv 4) qa_nil))) (qe_op op_mod (qv 3) (qe_fn h__law_power hr (by decide) (qa_cons (qv 4) qa_nil))) (nomark _)) (qss_o rfl (qs_ret qe_bl)) qss_nil)
      (qss_o rfl (qs_if (qt_cmpR op_ne (qe_fn h_turned hr (by decide) (qa_cons (qe_op op_add (qv 3) (qe_op op_mulB (qe_fn h__law_power hr (by decide) (qa_cons (qv 4) qa_nil)) (qe_op op_add qe_int (qe_fn h__law_take hr (by decide) (qa_cons (qv 2) (qa_cons qe_int qa_nil)))))) (qa_cons (qv 4) qa_nil))) (qv 5) (nomark _)) (qss_o rfl (qs_ret qe_bl)) qss_nil))))))))))))
      (qss_o rfl (qs_ret (qe_and (qe_cmpR op_eq (qe_fn h_turned hr (by decide) (qa_cons qe_int (qa_cons qe_int qa_nil))) qe_int (nomark _)) (qe_and (qe_cmpR op_eq (qe_fn h_turned hr (by decide) (qa_cons qe_int (qa_cons qe_int qa_nil))) qe_int (nomark _)) (qe_one (qe_cmpR op_eq (qe_fn h_turned hr (by decide) (qa_cons qe_int (qa_cons qe_int qa_nil))) qe_int (nomark _)))))))), ?_⟩
  refine Fz.law_run h ?_
  intro sc h63
  show Ws [_, .any, .any, .any, .any, .any] _ _ _
  refine ws_seq (ws_cut (ws_for (fun _ i ss' => ∃ s1 s2 s3 s4 s5 : Slot, ss' = [.raw (scriptP K sc), s1, s2, s3, s4, s5]) ?_))
  walk_at "ww"
  rw [List.length_map]
  have hl := cutP_le sc none (some 63)
  refine ⟨by split <;> omega, by split <;> omega, ⟨_, _, _, _, _, rfl⟩, ?_, ?_⟩
  · rintro i p ss' hp ⟨s1, s2, s3, s4, s5, rfl⟩
    obtain ⟨hi, rfl⟩ := rngP_at hp
    have hi' : i < 64 := by
      revert hi
      split <;> omega
    refine wg_name ?_
    walk_at "ww"
    refine ⟨by omega, by omega, ?_⟩
    walk_at "ww"
    refine ⟨by decide, by decide +kernel, fun n0 h0 => ?_⟩
    refine ws_join (fun ss' => ∃ n : Nat, ss' = [.raw (scriptP K sc), .is (.int i), .pot, .is (.int n), s4, s5]) ?_ ?_
    · walk_at "ww"
      refine ⟨by decide, by decide +kernel, fun r hr => ?_⟩
      walk_at "ww"
      refine ite2 (fun c => ?_) (fun c => ws_next ⟨_, rfl⟩)
      walk_at "ww"
      refine ⟨⟨by decide, by decide, by decide +kernel⟩, ?_⟩
      walk_at "ww"
      refine ⟨⟨by decide, by decide, by decide +kernel⟩, ?_⟩
      walk_at "ww"
      refine ⟨by decide +kernel, by decide +kernel, fun n hn => ⟨n, rfl⟩⟩
    rintro _ ⟨n, rfl⟩
    refine ws_for (fun _ j ss' => ∃ s4 s5 : Slot, ss' = [.raw (scriptP K sc), .is (.int i), .pot, .is (.int n), s4, s5]) ?_
    walk_at "ww"
    refine ⟨by decide, by decide, ⟨_, _, rfl⟩, ?_, fun ss' ⟨s4, s5, e⟩ => ⟨_, _, _, _, _, e⟩⟩
    rintro j p ss' hp ⟨s4, s5, rfl⟩
    obtain ⟨hj, rfl⟩ := rngP_at hp
    have hj' : j ≤ 8 := by have : (Int.toNat 9) = 9 := rfl; omega
    refine wg_name ?_
    refine ws_seq (ws_asg (wp_call (wa_is (wp_var rfl (wa_is (wp_var rfl (wa_nil ⟨_, ⟨n, j, rfl, hj', rfl⟩, ?_⟩)))))))
    rintro _ rfl
    refine ws_seq (ws_if (wt_or (wt_not (wt_b (wp_call (wa_is (wp_var rfl (wa_nil ⟨_, ⟨_, rfl, rfl⟩, ?_⟩))))))))
    rintro _ rfl
    refine ⟨true, rfl, iteF ?_⟩
    walk_at "ww"
    refine wp_call (wa_is (wp_var rfl (wa_is (wp_var rfl (wa_nil ⟨_, ⟨n, j, rfl, hj', rfl⟩, ?_⟩)))))
    rintro _ rfl
    refine ⟨rfl, _, rfl, iteN (by simp [alike]) ?_⟩
    walk_at "ww"
    refine iteY (decide_eq_true (by omega)) ?_
    refine wp_call (wa_is (wp_var rfl (wa_nil ⟨_, ⟨j, rfl, hj', rfl⟩, ?_⟩)))
    rintro _ rfl
    have hlt := rv_lt n j
    refine ⟨_, rfl, _, rfl, iteN (by rw [lt_cast, decide_eq_true hlt]; decide) ?_⟩
    refine ws_next ?_
    walk_at "ww"
    refine wp_call (wa_is (wp_var rfl (wa_is (wp_var rfl (wa_nil ⟨_, ⟨rv n j, j, rfl, hj', rfl⟩, ?_⟩)))))
    rintro _ rfl
    walk_at "ww"
    refine wp_call (wa_is (wp_var rfl (wa_nil ⟨_, ⟨j, rfl, hj', rfl⟩, ?_⟩)))
    rintro _ rfl
    refine ⟨_, rfl, Int.natCast_pos.mpr (Nat.two_pow_pos j), ?_⟩
    refine ⟨rfl, _, rfl, iteN (by rw [rv_rv]; simp [alike]) ?_⟩
    refine ws_next ?_
    walk_at "ww"
    refine wp_call (wa_is ?_)
    walk_at "ww"
    refine wp_call (wa_is (wp_var rfl (wa_nil ⟨_, ⟨j, rfl, hj', rfl⟩, ?_⟩)))
    rintro _ rfl
    refine ⟨_, rfl, ?_⟩
    walk_at "ww"
    refine ⟨by decide, by decide +kernel, fun c hc => ?_⟩
    walk_at "ww"
    refine ⟨⟨pw_small hj', ?_⟩, ?_⟩
    · rw [show (1 : Int) + (c : Int) = ((1 + c : Nat) : Int) by omega]
      exact p_small (by omega)
    walk_at "ww"
    refine wa_is (wp_var rfl (wa_nil ⟨_, ⟨n + 2 ^ j * (1 + c), j, by rw [Int.natCast_add, Int.natCast_mul, Int.natCast_add]; rfl, hj', rfl⟩, ?_⟩))
    rintro _ rfl
    walk_at "ww"
    refine iteN (by rw [rv_add]; simp [alike]) ?_
    exact ws_next ⟨_, _, rfl⟩
  · rintro ss' ⟨s1, s2, s3, s4, s5, rfl⟩
    walk_at "ww"
    refine wp_call (wa_is (wp_int (wa_is (wp_int (wa_nil ⟨_, ⟨1, 3, rfl, by decide, rfl⟩, ?_⟩)))))
    rintro _ rfl
    walk_at "ww"
    refine iteT ?_
    walk_at "ww"
    refine wp_call (wa_is (wp_int (wa_is (wp_int (wa_nil ⟨_, ⟨6, 3, rfl, by decide, rfl⟩, ?_⟩)))))
    rintro _ rfl
    walk_at "ww"
    refine iteT ?_
    walk_at "ww"
    refine wp_call (wa_is (wp_int (wa_is (wp_int (wa_nil ⟨_, ⟨9, 3, rfl, by decide, rfl⟩, ?_⟩)))))
    rintro _ rfl
    walk_at "ww"
    rfl
theorem all_mk {l : PySem.W.OpenLaw} {w : World} {K : PySem.W.Frag} {h : Heap} {mg : Str → Option Value} {fa f1 f2 f3 f4 f5 f6 f7 : Addr} (X : K.In h) (G : h.Ns mainGlobals mg) (hfa : mg "law" = some (.ref fa))
    {od1 od2 od3 od4 od5 od6 od7 an1 an2 an3 an4 an5 an6 an7 : Option Addr} {sl1 sl2 sl3 sl4 sl5 sl6 sl7 : Array (Option Value)} {oc1 oc2 oc3 oc4 oc5 oc6 oc7 kV1 kV2 kV3 kV4 kV5 kV6 kV7 dc1 dc2 dc3 dc4 dc5 dc6 dc7 pm1 pm2 pm3 pm4 pm5 pm6 pm7 cd1 cd2 cd3 cd4 cd5 cd6 cd7 ct1 ct2 ct3 ct4 ct5 ct6 ct7 : Value} 
    (a1 : PySem.W.nsIn K mainGlobals "_law_pot" = some (some (.ref f1))) (l1 : K.lookup f1 = some ⟨oc1, od1, .func (PySem.W.fnOf "_law_pot" "_law_pot" (defArgs s__law_pot) (defBody s__law_pot) (defScope s__law_pot) .none kV1 dc1 pm1 an1 cd1 ct1), sl1⟩) (c1 : PySem.W.codeIn K cd1 "_law_pot" = true) (k1 : PySem.W.keepIn K (.ref f1) = true)
    (a2 : PySem.W.nsIn K mainGlobals "_law_take" = some (some (.ref f2))) (l2 : K.lookup f2 = some ⟨oc2, od2, .func (PySem.W.fnOf "_law_take" "_law_take" (defArgs s__law_take) (defBody s__law_take) (defScope s__law_take) .none kV2 dc2 pm2 an2 cd2 ct2), sl2⟩) (c2 : PySem.W.codeIn K cd2 "_law_take" = true) (k2 : PySem.W.keepIn K (.ref f2) = true)
    (a3 : PySem.W.nsIn K mainGlobals "turned" = some (some (.ref f3))) (l3 : K.lookup f3 = some ⟨oc3, od3, .func (PySem.W.fnOf "turned" "turned" (defArgs s_turned) (defBody s_turned) (defScope s_turned) .none kV3 dc3 pm3 an3 cd3 ct3), sl3⟩) (c3 : PySem.W.codeIn K cd3 "turned" = true) (k3 : PySem.W.keepIn K (.ref f3) = true)
    (a4 : PySem.W.nsIn K mainGlobals "_law_whole" = some (some (.ref f4))) (l4 : K.lookup f4 = some ⟨oc4, od4, .func (PySem.W.fnOf "_law_whole" "_law_whole" (defArgs s__law_whole) (defBody s__law_whole) (defScope s__law_whole) .none kV4 dc4 pm4 an4 cd4 ct4), sl4⟩) (c4 : PySem.W.codeIn K cd4 "_law_whole" = true) (k4 : PySem.W.keepIn K (.ref f4) = true)
    (a5 : PySem.W.nsIn K mainGlobals "_law_power" = some (some (.ref f5))) (l5 : K.lookup f5 = some ⟨oc5, od5, .func (PySem.W.fnOf "_law_power" "_law_power" (defArgs s__law_power) (defBody s__law_power) (defScope s__law_power) .none kV5 dc5 pm5 an5 cd5 ct5), sl5⟩) (c5 : PySem.W.codeIn K cd5 "_law_power" = true) (k5 : PySem.W.keepIn K (.ref f5) = true)
    (a6 : PySem.W.nsIn K mainGlobals "_law_due" = some (some (.ref f6))) (l6 : K.lookup f6 = some ⟨oc6, od6, .func (PySem.W.fnOf "_law_due" "_law_due" (defArgs s__law_due) (defBody s__law_due) (defScope s__law_due) .none kV6 dc6 pm6 an6 cd6 ct6), sl6⟩) (c6 : PySem.W.codeIn K cd6 "_law_due" = true) (k6 : PySem.W.keepIn K (.ref f6) = true)
    (a7 : PySem.W.nsIn K mainGlobals "law" = some (some (.ref f7))) (l7 : K.lookup f7 = some ⟨oc7, od7, .func (PySem.W.fnOf "law" "law" (defArgs s_law) (defBody s_law) (defScope s_law) .none kV7 dc7 pm7 an7 cd7 ct7), sl7⟩) (c7 : PySem.W.codeIn K cd7 "law" = true) (k7 : PySem.W.keepIn K (.ref f7) = true)
    (z_bool : PySem.W.nsIn K mainGlobals "bool" = some none)
    (z_int : PySem.W.nsIn K mainGlobals "int" = some none)
    (z_isinstance : PySem.W.nsIn K mainGlobals "isinstance" = some none)
    (z_len : PySem.W.nsIn K mainGlobals "len" = some none)
    (z_max : PySem.W.nsIn K mainGlobals "max" = some none)
    (z_range : PySem.W.nsIn K mainGlobals "range" = some none)
    : ∃ fd : FuncData, (∀ (s : Shared) (v : Value), BindsTo s fd ⟨[v], []⟩ [("script", v)]) ∧ ∀ base : Heap, K.In base → base.Ns mainGlobals mg → FnOk l.prog w K mg base CX0 6 fa fd ["script"] (spLaw K) := by
  have e := hfa.symm.trans (PySem.W.mg_of X G a7)
  cases e
  have F1 := fun_mk (st := s__law_pot) l1 c1 k1
  have d1 := F1.binds (ps := ["script", "k"]) fun _ _ _ _ _ _ us hl => match us, hl with | [_, _], _ => rfl
  have F2 := fun_mk (st := s__law_take) l2 c2 k2
  have d2 := F2.binds (ps := ["pot", "many"]) fun _ _ _ _ _ _ us hl => match us, hl with | [_, _], _ => rfl
  have F3 := fun_mk (st := s_turned) l3 c3 k3
  have d3 := F3.binds (ps := ["n", "m"]) fun _ _ _ _ _ _ us hl => match us, hl with | [_, _], _ => rfl
  have F4 := fun_mk (st := s__law_whole) l4 c4 k4
  have d4 := F4.binds (ps := ["found"]) fun _ _ _ _ _ _ us hl => match us, hl with | [_], _ => rfl
  have F5 := fun_mk (st := s__law_power) l5 c5 k5
  have d5 := F5.binds (ps := ["m"]) fun _ _ _ _ _ _ us hl => match us, hl with | [_], _ => rfl
  have F6 := fun_mk (st := s__law_due) l6 c6 k6
  have d6 := F6.binds (ps := ["n", "m"]) fun _ _ _ _ _ _ us hl => match us, hl with | [_, _], _ => rfl
  have F7 := fun_mk (st := s_law) l7 c7 k7
  have d7 := F7.binds (ps := ["script"]) fun _ _ _ _ _ _ us hl => match us, hl with | [_], _ => rfl
  have b_bool := PySem.W.mg_none_of X G z_bool
  have b_int := PySem.W.mg_none_of X G z_int
  have b_isinstance := PySem.W.mg_none_of X G z_isinstance
  have b_len := PySem.W.mg_none_of X G z_len
  have b_max := PySem.W.mg_none_of X G z_max
  have b_range := PySem.W.mg_none_of X G z_range
  refine ⟨PySem.W.fnOf "law" "law" (defArgs s_law) (defBody s_law) (defScope s_law) .none kV7 dc7 pm7 an7 cd7 ct7, fun s v => .of_eq rfl, fun base _ _ => ?_⟩
  have h__law_pot := ok__law_pot (P := l.prog) (w := w) (base := base) F1 d1 (PySem.W.mg_of X G a1) b_len
  have h__law_take := ok__law_take (P := l.prog) (w := w) (base := base) F2 d2 (PySem.W.mg_of X G a2) 
  have h_turned := ok_turned (P := l.prog) (w := w) (base := base) F3 d3 (PySem.W.mg_of X G a3) b_range
  have h__law_whole := ok__law_whole (P := l.prog) (w := w) (base := base) F4 d4 (PySem.W.mg_of X G a4) b_bool b_int b_isinstance
  have h__law_power := ok__law_power (P := l.prog) (w := w) (base := base) F5 d5 (PySem.W.mg_of X G a5) 
  have h__law_due := ok__law_due (P := l.prog) (w := w) (base := base) F6 d6 (PySem.W.mg_of X G a6) h__law_power b_range
  exact ok_law (P := l.prog) (w := w) (base := base) F7 d7 (PySem.W.mg_of X G a7) h__law_due h__law_pot h__law_power h__law_take h__law_whole h_turned b_len b_max b_range
theorem walk {l : PySem.W.OpenLaw} {q : Program} {loose : List Str} {XP : (Str → Option Value) → Heap → Prop} {YP : World → Heap → Prop} {d : DefRec} {K : Params → PySem.W.Frag} (hn : l.most = some 63) (hdf : d.params.defaults = [])
    (hY : ∀ (w : World) (h : Heap), YP w h → (K w.params).In h)
    (F : ∀ (w : World) (mg : Str → Option Value) (fa : Addr) (h : Heap), (K w.params).In h → h.Ns mainGlobals mg → mg d.name = some (.ref fa) →
      ∃ fd : FuncData, (∀ (s : Shared) (u : Value), BindsTo s fd ⟨[u], []⟩ [("script", u)]) ∧ ∀ base : Heap, (K w.params).In base → base.Ns mainGlobals mg → FnOk l.prog w (K w.params) mg base CX0 6 fa fd ["script"] (spLaw (K w.params))) :
    PySem.W.WalkO q loose XP YP l.row.toRowW d [] (fun f vs => PySem.call f vs) :=
  L2.walk_of (n := 63) (k := 6) (x := "script") (CX := fun _ => CX0) (sp := fun w => spLaw (K w.params)) hn (by decide) hdf ⟨rfl, by decide, by decide⟩ hY F (fun _ _ a ns hl _ hS => ⟨a, ns, rfl, hS, hl, fun _ => rfl⟩) fun _ _ _ _ _ z => z
end Pf
open PySem PySem.W PyProof.Rows
set_option maxRecDepth 100000 in
set_option maxHeartbeats 0 in
theorem PySem.Challenge.cw_stirround_k81_turned_about_holds : PySem.Challenge.rw_stirround_k81_turned_about.Holds := by
  w_on; o_law; k_head; (case hw => w_witness2)
  k_fill
  refine Pf.walk (l := PySem.Challenge.rw_stirround_k81_turned_about) rfl rfl (fun w h Y => PySem.W.kIn_of Y) ?F
  case F =>
    intro w mg fa h KX G hmg
    refine' Pf.all_mk KX G hmg ?a1 ?l1 ?c1 ?k1 ?a2 ?l2 ?c2 ?k2 ?a3 ?l3 ?c3 ?k3 ?a4 ?l4 ?c4 ?k4 ?a5 ?l5 ?c5 ?k5 ?a6 ?l6 ?c6 ?k6 ?a7 ?l7 ?c7 ?k7 ?z_bool ?z_int ?z_isinstance ?z_len ?z_max ?z_range
    (case a1 => k_is); (case l1 => k_is); (case c1 => k_is); (case k1 => k_is)
    (case a2 => k_is); (case l2 => k_is); (case c2 => k_is); (case k2 => k_is)
    (case a3 => k_is); (case l3 => k_is); (case c3 => k_is); (case k3 => k_is)
    (case a4 => k_is); (case l4 => k_is); (case c4 => k_is); (case k4 => k_is)
    (case a5 => k_is); (case l5 => k_is); (case c5 => k_is); (case k5 => k_is)
    (case a6 => k_is); (case l6 => k_is); (case c6 => k_is); (case k6 => k_is)
    (case a7 => k_is); (case l7 => k_is); (case c7 => k_is); (case k7 => k_is)
    (case z_bool => k_is); (case z_int => k_is); (case z_isinstance => k_is); (case z_len => k_is)
    (case z_max => k_is); (case z_range => k_is)
#print axioms PySem.Challenge.cw_stirround_k81_turned_about_holds
