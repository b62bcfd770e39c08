import PyProof.Rows.All
import Wide.All
import OpenK.AllK
import Wide.FinOn
import Lean
import PyProof.EqAt
import PyProof.EqKinds
import PyProof.TupleCall
import PyProof.NeKinds
import PyProof.ConsumeWalk
import PyProof.SumAny
import PyProof.Rows.SumGenD
import KE.IntBitsLaws
import PyProof.Rows.Range3
import PyProof.WalkInts
import PyProof.MinMaxWalk
import PyProof.TupleOfSeq
import PyProof.Rows.SortShell
import PyProof.WalksS
import PyProof.SeqWrite
import PyProof.ListRange
import PySem.Challenge.RW_lettertoll_k42_lies_on_steps
set_option Elab.async false
set_option linter.all false
set_option maxRecDepth 100000
/-! THE HAND LAYER, for ints, bools, texts, own classes, LISTS and tuples (index, slices, in, append, pop ..), calls, loops. Paste it whole ahead of your own text; what your proof does not reach may be deleted. -/
namespace L2
open PySem PySem.Spec PyProof.Rows

/-- a key: an int or a str -/
abbrev Key := Sum Int Str
def keyIs : Key → Value → Bool
  | .inl k, v => Value.isInt k v
  | .inr x, v => Value.isStrOf x v
def keyH (w : World) : Key → Int
  | .inl k => hashInt k
  | .inr x => hashStr w x
theorem keyIs_shape : ∀ {k : Key} {v : Value}, keyIs k v = true → (∃ i t, k = Sum.inl i ∧ v = Value.int i t) ∨ (∃ x t, k = Sum.inr x ∧ v = Value.str x t)
  | .inl i, v, h => by
    obtain ⟨t, e⟩ := Value.isInt_shape (k := i) (v := v) h
    exact .inl ⟨i, t, rfl, e⟩
  | .inr x, v, h => by
    obtain ⟨t, e⟩ := Value.isStrOf_shape (x := x) (v := v) h
    exact .inr ⟨x, t, rfl, e⟩
theorem key_ll (a b : Int) : decide ((Sum.inl a : Key) = Sum.inl b) = (a == b) := by
  by_cases e : a = b
  · subst e; simp
  · have h : ¬ (Sum.inl a : Key) = Sum.inl b := fun q => e (Sum.inl.inj q)
    rw [decide_eq_false h]
    exact (beq_eq_false_iff_ne.mpr e).symm
theorem key_rr (a b : Str) : decide ((Sum.inr a : Key) = Sum.inr b) = decide (a = b) := by
  by_cases e : a = b
  · subst e; simp
  · have h : ¬ (Sum.inr a : Key) = Sum.inr b := fun q => e (Sum.inr.inj q)
    rw [decide_eq_false h, decide_eq_false e]
theorem key_lr (a : Int) (b : Str) : decide ((Sum.inl a : Key) = Sum.inr b) = false := decide_eq_false (fun q => nomatch q)
theorem key_rl (a : Str) (b : Int) : decide ((Sum.inr a : Key) = Sum.inl b) = false := decide_eq_false (fun q => nomatch q)

def mixKind (prog : Program) (w : World) : PySem.KeyKind prog w Key where
  is := keyIs
  hash := keyH w
  inj := fun v a b ha hb => by
    rcases keyIs_shape ha with ⟨i, t, rfl, rfl⟩ | ⟨x, t, rfl, rfl⟩
    · rcases keyIs_shape hb with ⟨j, u, rfl, e⟩ | ⟨y, u, rfl, e⟩
      · injection e with e1 _; rw [e1]
      · exact nomatch e
    · rcases keyIs_shape hb with ⟨j, u, rfl, e⟩ | ⟨y, u, rfl, e⟩
      · exact nomatch e
      · injection e with e1 _; rw [e1]
  byValue := fun k v h => by
    rcases keyIs_shape h with ⟨i, t, rfl, rfl⟩ | ⟨x, t, rfl, rfl⟩ <;> rfl
  pyHash := fun hv h => by
    rcases keyIs_shape hv with ⟨i, t, rfl, rfl⟩ | ⟨x, t, rfl, rfl⟩
    · exact wpAny_pyHash_int h
    · exact wpAny_pyHash_str h
  eqBool := fun hu hv h => by
    rcases keyIs_shape hu with ⟨i, t, rfl, rfl⟩ | ⟨x, t, rfl, rfl⟩
    · rcases keyIs_shape hv with ⟨j, u, rfl, rfl⟩ | ⟨y, u, rfl, rfl⟩
      · rw [key_ll] at h; exact wpAny_eqBool_int h
      · rw [key_lr] at h; exact SeqAt.EqAt.int_str i t y u _ _ _ _ h
    · rcases keyIs_shape hv with ⟨j, u, rfl, rfl⟩ | ⟨y, u, rfl, rfl⟩
      · rw [key_rl] at h; exact SeqAt.EqAt.str_int x t j u _ _ _ _ h
      · rw [key_rr] at h; exact wpAny_eqBool_str h
  «strs» := fun k x t v h => by
    rcases keyIs_shape h with ⟨i, u, rfl, e⟩ | ⟨y, u, rfl, e⟩
    · exact nomatch e
    · injection e with e1 _
      subst e1
      cases v <;> rfl

end L2

namespace L2
open PySem PySem.Spec PyProof.Rows

/-- a value, without the heap -/
inductive V where
  | non | bl (b : Bool) | int (i : Int) | str (x : Str) | byt (b : Array UInt8) | flt (b : UInt64) | ref (a : Addr) | ty (n : String)
  deriving DecidableEq

def RelV : V → Value → Prop
  | .non, u => u = Value.none
  | .bl b, u => u = Value.bool b
  | .int i, u => ∃ t, u = Value.int i t
  | .str x, u => ∃ t, u = Value.str x t
  | .byt b, u => ∃ t, u = Value.bytes b t
  | .flt b, u => ∃ t, u = Value.float b t
  | .ref a, u => u = Value.ref a
  | .ty n, u => u = Value.type n

abbrev Vals : List V → List Value → Prop := Paired RelV
theorem Vals.length {xs : List V} {us : List Value} (r : Vals xs us) : xs.length = us.length := Paired.length r
theorem Vals.get : ∀ {xs : List V} {us : List Value} {i : Nat} {x : V}, Vals xs us → xs[i]? = some x → ∃ u, us[i]? = some u ∧ RelV x u
  | _, _, _, _, .nil, e => by simp at e
  | _, _, 0, _, .cons r _, e => by simp at e; subst e; exact ⟨_, rfl, r⟩
  | _, _, i + 1, x, .cons _ t, e => by
    obtain ⟨u, h1, h2⟩ := Vals.get (i := i) (x := x) t (by simpa using e)
    exact ⟨u, by simpa using h1, h2⟩
theorem Vals.set {x : V} {u : Value} (r : RelV x u) : ∀ {xs : List V} {us : List Value} (i : Nat), Vals xs us → Vals (xs.set i x) (us.set i u)
  | _, _, _, .nil => .nil
  | _, _, 0, .cons _ t => .cons r t
  | _, _, i + 1, .cons q t => .cons q (Vals.set r i t)
theorem Vals.append : ∀ {xs ys : List V} {us ws : List Value}, Vals xs us → Vals ys ws → Vals (xs ++ ys) (us ++ ws)
  | _, _, _, _, .nil, s => s
  | _, _, _, _, .cons r t, s => .cons r (Vals.append t s)
theorem Vals.take : ∀ {xs : List V} {us : List Value} (n : Nat), Vals xs us → Vals (xs.take n) (us.take n)
  | _, _, 0, _ => .nil
  | _, _, _ + 1, .nil => .nil
  | _, _, n + 1, .cons r t => .cons r (Vals.take n t)
theorem Vals.drop : ∀ {xs : List V} {us : List Value} (n : Nat), Vals xs us → Vals (xs.drop n) (us.drop n)
  | _, _, 0, r => r
  | _, _, _ + 1, .nil => .nil
  | _, _, n + 1, .cons _ t => Vals.drop n t

def RelO : Option V → Option Value → Prop
  | some v, some u => RelV v u
  | none, none => True
  | _, _ => False
def KV {κ : Type} : List (κ × V) → List (κ × Value) → Prop := Paired fun (p : κ × V) (q : κ × Value) => p.1 = q.1 ∧ RelV p.2 q.2

/-- a key of a dict (00_mix): an int or a text -/
def kV : Key → V
  | .inl i => .int i
  | .inr x => .str x

/-- what stands at a tracked address -/
inductive HO where
  /-- a list -/
  | lst (xs : List V)
  /-- a tuple (never changes) -/
  | tup (xs : List V)
  /-- a dict whose keys are ints and texts; one whose keys are tuples of ints and texts (the empty one is both) -/
  | dK (kvs : List (Key × V)) | dT (kvs : List (List Key × V))
  /-- a set of ints: its members, its size -/
  | set (S : Int → Bool) (n : Nat)
  /-- an instance of the class at C, its dict at dx, its attributes -/
  | ins (C dx : Addr) (fs : List (Str × V))
  /-- the dict of the instance at x -/
  | own (x : Addr)
  /-- the dict of an exception -/
  | xd (fs : List (Str × V))
  /-- a bound method, f of x -/
  | met (f x : Addr)
  /-- a range object lo, lo + 1, .. below hi -/
  | rng (lo hi : Int)
  /-- a thing that is known to the object (the script; a dict while a loop walks it): read, never written while it is so -/
  | frz (o : Obj) (u : HO)
  /-- a code object's table -/
  | tbl (ps : Array Value)
  /-- any other thing, by what is true of its one object (a def of one's own: SetO a S n := HO.ext fun h => ..) -/
  | ext (φ : Heap → Prop)

abbrev Hp := Addr → Option HO
def upd (H : Hp) (a : Addr) (o : HO) : Hp := fun b => if b = a then some o else H b
theorem upd_same {H : Hp} {a : Addr} {o : HO} : upd H a o a = some o := by unfold upd; rw [if_pos rfl]
theorem upd_ne {H : Hp} {a b : Addr} {o : HO} (h : b ≠ a) : upd H a o b = H b := by unfold upd; rw [if_neg h]
/-- two objects of different content stand apart -/
theorem ne_of {H : Hp} {a b : Addr} {o u : HO} (h : H a = some o) (h' : H b = some u) (d : o ≠ u) : a ≠ b := by
  intro e; subst e; rw [h] at h'; exact d (Option.some.inj h')
theorem ne_of_none {H : Hp} {a b : Addr} {o : HO} (h : H a = some o) (h' : H b = none) : a ≠ b := by
  intro e; subst e; rw [h] at h'; cases h'

/-- a bare tuple -/
def IsTp (h : Heap) (a : Addr) (items : Array Value) : Prop := ∃ o, h.get? a = some o ∧ ∃ n, o = { cls := .type "tuple", data := .seq items n }
theorem IsTp.is {h : Heap} {a : Addr} {items : Array Value} (x : IsTp h a items) : IsTup h a items := by
  obtain ⟨o, e, n, rfl⟩ := x
  exact ⟨_, e, rfl, n, rfl⟩
instance {h : Heap} {a : Addr} {items : Array Value} : Coe (IsTp h a items) (IsTup h a items) := ⟨IsTp.is⟩
instance {h : Heap} {a : Addr} {items : Array Value} : Coe (IsTp h a items) (Heap.IsTuple h a items) := ⟨fun x => x.is⟩
theorem IsTp.lt {h : Heap} {a : Addr} {items : Array Value} (x : IsTp h a items) : a < h.objs.size := x.is.lt
theorem IsTp.new (h : Heap) (items : Array Value) : IsTp (h.push { cls := .type "tuple", data := .seq items }) h.objs.size items := ⟨_, Heap.get?_push_size _ rfl, _, rfl⟩

section
variable (P : Program) (w : World)
def ObjOk (H : Hp) (h : Heap) (a : Addr) : HO → Prop
  | .lst xs => xs.length ≤ sizeLine ∧ ∃ (its : List Value) (n : Nat), Vals xs its ∧ h.get? a = some { cls := .type "list", data := .seq its.toArray n }
  | .tup xs => xs.length ≤ sizeLine ∧ ∃ its : List Value, Vals xs its ∧ IsTp h a its.toArray
  | .dK kvs => kvs.length ≤ sizeLine ∧ (a == sysModules) = false ∧ ∃ vs, KV kvs vs ∧ h.DictOf (mixKind P w) a vs
  | .dT kvs => kvs.length ≤ sizeLine ∧ (a == sysModules) = false ∧ ∃ xs : List (List Key × Addr × Value),
      Paired (fun (p : List Key × V) (q : List Key × Addr × Value) => p.1 = q.1 ∧ H q.2.1 = some (.tup (p.1.map kV)) ∧ RelV p.2 q.2.2) kvs xs ∧
      ∃ o es ep, h.get? a = some o ∧ o.ExactDict ∧ o.data = .dict es ep ∧ es.toList = xs.map (entryOfKey (tupleKind (mixKind P w))) ∧ (xs.map (·.1)).Nodup
  | .set S n => h.SetOf (intKind P w) a S n
  | .ins C dx fs => H dx = some (.own a) ∧ fs.length ≤ 1000 ∧ dx ≠ a ∧ h.get? a = some (PySem.W.instObj C dx) ∧
      ∃ mA, h.Ns1 dx mA ∧ (∀ f, RelO (fs.lookup f) (mA f)) ∧ PySem.Within mA (fs.map (·.1))
  | .own _ => ∃ o, h.get? a = some o
  | .xd fs => ∃ mA, h.Ns1 a mA ∧ ∀ f, RelO (fs.lookup f) (mA f)
  | .rng lo hi => ∃ t u v, h.get? a = some { cls := .type "range", data := .fields #[.int lo t, .int hi u, .int 1 v] }
  | .frz o u => h.get? a = some o ∧ ObjOk H h a u
  | .tbl ps => h.get? a = some { cls := .none, data := .fields ps }
  | .met f x => h.get? a = some (PySem.W.methodObj (.ref f) (.ref x))
  | .ext φ => φ h ∧ (∃ o, h.get? a = some o) ∧ ∀ h1 h2 : Heap, φ h1 → (∀ o, h1.get? a = some o → h2.get? a = some o) → φ h2
/-- the abstract heap is held -/
def HOk (H : Hp) (h : Heap) : Prop := ∀ a o, H a = some o → ObjOk P w H h a o
end

section
variable {P : Program} {w : World} {H H' : Hp} {h h' : Heap} {a : Addr} {o : HO}
theorem ObjOk.lt (x : ObjOk P w H h a o) : a < h.objs.size := by
  cases o with
  | lst xs => obtain ⟨_, _, _, _, e⟩ := x; exact Heap.lt_size e
  | tup xs => obtain ⟨_, _, _, p⟩ := x; exact p.lt
  | dK kvs => obtain ⟨_, _, _, _, o, _, _, e, _⟩ := x; exact Heap.lt_size e
  | dT kvs => obtain ⟨_, _, _, _, o, _, _, e, _⟩ := x; exact Heap.lt_size e
  | set S n => obtain ⟨o, _, _, _, e, _⟩ := x; exact Heap.lt_size e
  | ins C dx fs => obtain ⟨_, _, _, e, _⟩ := x; exact Heap.lt_size e
  | own y => obtain ⟨_, e⟩ := x; exact Heap.lt_size e
  | xd fs => obtain ⟨_, ⟨_, _, _, e, _⟩, _⟩ := x; exact Heap.lt_size e
  | rng lo hi => obtain ⟨_, _, _, e⟩ := x; exact Heap.lt_size e
  | frz ob u => obtain ⟨e, _⟩ := x; exact Heap.lt_size e
  | tbl ps => exact Heap.lt_size (show h.get? a = some _ from x)
  | met f y => exact Heap.lt_size (show h.get? a = some _ from x)
  | ext φ => obtain ⟨_, ⟨_, e⟩, _⟩ := x; exact Heap.lt_size e
theorem Paired.mapP {α β : Type} {F G : α → β → Prop} : ∀ {l₁ : List α} {l₂ : List β}, Paired F l₁ l₂ → (∀ a b, F a b → G a b) → Paired G l₁ l₂
  | _, _, .nil, _ => .nil
  | _, _, .cons r t, f => .cons (f _ _ r) (Paired.mapP t f)
/-- what an object's description leans on: its own object, its own dict, the tuples -/
theorem ObjOk.stay (x : ObjOk P w H h a o) (k : ∀ b u, (b = a ∨ H b = some (.own a)) → h.get? b = some u → h'.get? b = some u)
    (ho : ∀ b, H b = some (.own a) → H' b = some (.own a)) (ht : ∀ b xs, H b = some (.tup xs) → H' b = some (.tup xs)) : ObjOk P w H' h' a o := by
  induction o with
  | lst xs => obtain ⟨z, its, n, r, e⟩ := x; exact ⟨z, its, n, r, k _ _ (.inl rfl) e⟩
  | tup xs => obtain ⟨z, its, r, ob, e, c⟩ := x; exact ⟨z, its, r, ob, k _ _ (.inl rfl) e, c⟩
  | dK kvs => obtain ⟨z, y, vs, r, ob, es, ep, e, c⟩ := x; exact ⟨z, y, vs, r, ob, es, ep, k _ _ (.inl rfl) e, c⟩
  | dT kvs =>
    obtain ⟨z, y, xs, r, ob, es, ep, e, c⟩ := x
    exact ⟨z, y, xs, Paired.mapP r fun p q z => ⟨z.1, ht _ _ z.2.1, z.2.2⟩, ob, es, ep, k _ _ (.inl rfl) e, c⟩
  | set S n => obtain ⟨ob, es, ep, t, e, c⟩ := x; exact ⟨ob, es, ep, t, k _ _ (.inl rfl) e, c⟩
  | ins C dx fs =>
    obtain ⟨d, z, ne, e, mA, ⟨od, es, ep, e2, c⟩, r⟩ := x
    exact ⟨ho _ d, z, ne, k _ _ (.inl rfl) e, mA, ⟨od, es, ep, k _ _ (.inr d) e2, c⟩, r⟩
  | own y => obtain ⟨ob, e⟩ := x; exact ⟨ob, k _ _ (.inl rfl) e⟩
  | xd fs => obtain ⟨mA, ⟨od, es, ep, e, c⟩, r⟩ := x; exact ⟨mA, ⟨od, es, ep, k _ _ (.inl rfl) e, c⟩, r⟩
  | rng lo hi => obtain ⟨t, u, v, e⟩ := x; exact ⟨t, u, v, k _ _ (.inl rfl) e⟩
  | frz ob u ih => obtain ⟨e, q⟩ := x; exact ⟨k _ _ (.inl rfl) e, ih q⟩
  | tbl ps =>
    have e : h.get? a = some { cls := .none, data := .fields ps } := x
    show h'.get? a = some { cls := .none, data := .fields ps }
    exact k a _ (.inl rfl) e
  | met f y =>
    have e : h.get? a = some (PySem.W.methodObj (.ref f) (.ref y)) := x
    show h'.get? a = some (PySem.W.methodObj (.ref f) (.ref y))
    exact k a _ (.inl rfl) e
  | ext φ => obtain ⟨p, ⟨o, e⟩, st⟩ := x; exact ⟨st _ _ p fun o q => k _ _ (.inl rfl) q, ⟨o, k _ _ (.inl rfl) e⟩, st⟩
theorem HOk.lt (x : HOk P w H h) (e : H a = some o) : a < h.objs.size := (x a o e).lt
theorem HOk.fresh (x : HOk P w H h) (e : h.objs.size ≤ a) : H a = none := by
  cases q : H a with
  | none => rfl
  | some u => exact absurd (Nat.lt_of_lt_of_le (x.lt q) e) (Nat.lt_irrefl _)
/-- every object of the heap is kept -/
theorem HOk.kept (x : HOk P w H h) (k : ∀ b u, h.get? b = some u → h'.get? b = some u) : HOk P w H h' := fun a o e =>
  (x a o e).stay (fun b u _ q => k b u q) (fun _ q => q) fun _ _ q => q
/-- a new object is laid and tracked -/
theorem HOk.laid (x : HOk P w H h) (k : ∀ b u, h.get? b = some u → h'.get? b = some u) (hp : h.objs.size ≤ a) (new : ObjOk P w (upd H a o) h' a o) : HOk P w (upd H a o) h' := fun b u e => by
  have hn := x.fresh hp
  by_cases hb : b = a
  · subst hb; rw [upd_same] at e; cases e; exact new
  · rw [upd_ne hb] at e
    exact (x b u e).stay (fun c v _ q => k c v q) (fun c q => by rw [upd_ne (ne_of_none q hn)]; exact q) fun c xs q => by rw [upd_ne (ne_of_none q hn)]; exact q
end

/-- what may be read as u: it is u, or a known u -/
def Rd (H : Hp) (a : Addr) (u : HO) : Prop := H a = some u ∨ ∃ o, H a = some (.frz o u)
theorem Rd.ok {P : Program} {w : World} {H : Hp} {h : Heap} {a : Addr} {u : HO} (r : Rd H a u) (x : HOk P w H h) : ObjOk P w H h a u := by
  rcases r with r | ⟨o, r⟩
  · exact x a u r
  · obtain ⟨_, q⟩ := x a _ r
    exact q
/-- what may be written -/
def Mut : Option HO → Prop
  | some (.lst _) => True
  | some (.dK _) => True
  | some (.dT _) => True
  | some (.set _ _) => True
  | some (.ins _ _ _) => True
  | some (.ext _) => True
  | _ => False
section
variable {P : Program} {w : World} {H : Hp} {h h' : Heap} {x e : Addr} {o' : HO}
/-- the object at e is changed: x itself, or the dict of the instance x -/
theorem HOk.write (ok : HOk P w H h) (mu : Mut (H x)) (he : e = x ∨ H e = some (.own x)) (k : ∀ b u, b ≠ e → h.get? b = some u → h'.get? b = some u) (heo : ∃ u, h'.get? e = some u)
    (new : ObjOk P w (upd H x o') h' x o') : HOk P w (upd H x o') h' := fun b u q => by
  have nown : ∀ c y, H c = some (.own y) → c ≠ x := fun c y r z => by subst z; rw [r] at mu; exact mu
  have ntup : ∀ c xs, H c = some (.tup xs) → c ≠ x := fun c xs r z => by subst z; rw [r] at mu; exact mu
  by_cases hb : b = x
  · subst hb; rw [upd_same] at q; cases q; exact new
  · rw [upd_ne hb] at q
    by_cases hbe : b = e
    · have q' : H b = some (.own x) := by
        rcases he with z | z
        · exact absurd (hbe.trans z) hb
        · rw [hbe]; exact z
      rw [q] at q'; cases q'
      obtain ⟨v, hv⟩ := heo
      exact ⟨v, by rw [hbe]; exact hv⟩
    · refine (ok b u q).stay (fun c v hc r => k c v ?_ r) (fun c r => by rw [upd_ne (nown c b r)]; exact r) fun c xs r => by rw [upd_ne (ntup c xs r)]; exact r
      rcases hc with rfl | hc
      · exact hbe
      · rintro rfl
        rcases he with z | z
        · exact nown c b hc z
        · rw [hc] at z; cases z; exact hb rfl
end

/-! ### kept unless tracked; of the frames at fs (the callers') the slots may change (an exception that passes writes there); of the records at ex (iterators) nothing is said -/
structure Un (fs ex : List Addr) (H H' : Hp) (h h' : Heap) : Prop where
  keep : ∀ b o, h.get? b = some o → H b = none → b ∉ fs → b ∉ ex → h'.get? b = some o
  slot : ∀ b o, h.get? b = some o → H b = none → b ∈ fs → b ∉ ex → ∃ sl, h'.get? b = some { o with slots := sl }
  free : ∀ b o, h.get? b = some o → H b = none → b ∉ ex → H' b = none
  there : ∀ b o, h.get? b = some o → b ∉ ex → ∃ o', h'.get? b = some o'
  tups : ∀ b xs, H b = some (.tup xs) → H' b = some (.tup xs)
  frzs : ∀ b o u, H b = some (.frz o u) → H' b = some (.frz o u)
  tbls : ∀ b ps, H b = some (.tbl ps) → ∃ more, H' b = some (.tbl (ps ++ more))
section
variable {fs fs' ex ex' : List Addr} {H H1 H2 : Hp} {h h1 h2 h' : Heap} {a x e : Addr} {o : HO}
theorem Un.any (u : Un fs ex H H1 h h1) {b : Addr} {ob : Obj} (q : h.get? b = some ob) (n : H b = none) (hx : b ∉ ex) : ∃ sl, h1.get? b = some { ob with slots := sl } := by
  by_cases hb : b ∈ fs
  · exact u.slot b ob q n hb hx
  · exact ⟨ob.slots, u.keep b ob q n hb hx⟩
theorem Un.kept (k : ∀ b u, h.get? b = some u → h'.get? b = some u) : Un fs ex H H h h' :=
  ⟨fun b ob q _ _ _ => k b ob q, fun b ob q _ _ _ => ⟨ob.slots, k b ob q⟩, fun _ _ _ n _ => n, fun b ob q _ => ⟨ob, k b ob q⟩, fun _ _ q => q, fun _ _ _ q => q, fun _ ps q => ⟨#[], by rw [q]; simp⟩⟩
theorem Un.refl : Un fs ex H H h h := Un.kept fun _ _ q => q
theorem Un.laid (k : ∀ b u, h.get? b = some u → h'.get? b = some u) (hp : h.objs.size ≤ a) (hn : H a = none) : Un fs ex H (upd H a o) h h' where
  keep := fun b u q _ _ _ => k b u q
  slot := fun b u q _ _ _ => ⟨u.slots, k b u q⟩
  free := fun b u q n _ => by rw [upd_ne (Nat.ne_of_lt (Nat.lt_of_lt_of_le (Heap.lt_size q) hp))]; exact n
  there := fun b u q _ => ⟨u, k b u q⟩
  tups := fun b xs q => by rw [upd_ne (ne_of_none q hn)]; exact q
  frzs := fun b u xs q => by rw [upd_ne (ne_of_none q hn)]; exact q
  tbls := fun b ps q => ⟨#[], by rw [upd_ne (ne_of_none q hn), q]; simp⟩
theorem Un.write (mu : Mut (H x)) (he : e = x ∨ H e = some (.own x)) (k : ∀ b u, b ≠ e → h.get? b = some u → h'.get? b = some u) (heo : ∃ u, h'.get? e = some u) : Un fs ex H (upd H x o) h h' := by
  have hx : ∀ b, H b = none → b ≠ x := fun b n z => by subst z; rw [n] at mu; exact mu
  have hb : ∀ b, H b = none → b ≠ e := fun b n z => by
    subst z
    rcases he with r | r
    · exact hx b n r
    · rw [n] at r; cases r
  have hm : ∀ b u, H b = some u → ¬ Mut (some u) → b ≠ x := fun b u q nm z => by subst z; rw [q] at mu; exact nm mu
  refine ⟨fun b u q n _ _ => k b u (hb b n) q, fun b u q n _ _ => ⟨u.slots, k b u (hb b n) q⟩, fun b u q n _ => by rw [upd_ne (hx b n)]; exact n, fun b u q _ => ?_,
    fun b xs q => by rw [upd_ne (hm b _ q fun z => z)]; exact q, fun b u xs q => by rw [upd_ne (hm b _ q fun z => z)]; exact q, fun b ps q => ⟨#[], by rw [upd_ne (hm b _ q fun z => z), q]; simp⟩⟩
  by_cases hbe : b = e
  · subst hbe; exact heo
  · exact ⟨u, k b u hbe q⟩
end

/-! ### the heap without what is tracked -/
def trk (h : Heap) (H : Hp) : List Addr := (List.range h.objs.size).filter fun a => (H a).isSome
def hidT (h : Heap) (H : Hp) : Heap := PySem.W.hideAll h (trk h H)
theorem hidT_size (h : Heap) (H : Hp) : (hidT h H).objs.size = h.objs.size := PySem.W.hideAll_size _ _
theorem hidT_get {h : Heap} {H : Hp} {b : Addr} {o : Obj} (e : h.get? b = some o) (n : H b = none) : (hidT h H).get? b = some o :=
  PySem.W.hideAll_get _ e fun hm => by
    have q : (H b).isSome = true := (List.mem_filter.mp hm).2
    rw [n] at q; simp at q
theorem of_hidT {h : Heap} {H : Hp} {b : Addr} {o : Obj} (e : (hidT h H).get? b = some o) : h.get? b = some o ∧ H b = none := by
  have e' : h.get? b = some o := PySem.W.of_hideAll (trk h H) e
  refine ⟨e', ?_⟩
  cases q : H b with
  | none => rfl
  | some x =>
    have hm : b ∈ trk h H := List.mem_filter.mpr ⟨List.mem_range.mpr (Heap.lt_size e'), by simp [q]⟩
    have z : (hidT h H).get? b = none := PySem.W.hideAll_none (trk h H) hm
    rw [z] at e; cases e

/-! ### OpenK's ledger, filled with every new object but one -/
def allNews (g h : Heap) (L : Addr) : List (Addr × Obj) := (List.range h.objs.size).filterMap fun a => if a = L ∨ (g.get? a).isSome = true then none else (h.get? a).map fun o => (a, o)
def rest (g h : Heap) (L d : Addr) : List (Addr × Obj) := (allNews g h L).filter fun p => decide (p.1 ≠ d)
end L2

namespace L2
open PySem PySem.Spec PyProof.Rows

/-- the module's facts, over the base: the heap at the law's entry without what is tracked there -/
structure Mod (K : PySem.W.Frag) (mg : Str → Option Value) (base : Heap) : Prop where
  kin : K.In base
  glob : base.Ns mainGlobals mg
  blt : ∃ mb, base.Ns builtinsNs mb ∧ ∀ x : Str, x ≠ "__name__" → mb x = bootBuiltins x
  nolimit : base.NoLimit

/-- the context: a def's body (or a comprehension's block) running. base: fixed through the whole law; s₀, H₀: the entry; outer: the frames whose slots others may change (a def's callers); stack: all frames that run;
   ex: iterators that were made ahead of the entry and are walked here (a comprehension's); fn: the names whose cells were made at the entry (a def: all; a comprehension's block: its own); calm: not within an except suite; pn: pins that every state bears; xe: what is wanted of an exception that leaves the code -/
structure Cx where
  prog : Program
  w : World
  K : PySem.W.Frag
  mg : Str → Option Value
  base : Heap
  A : Around
  N : List Str
  s₀ : Shared
  H₀ : Hp
  env : Env
  outer : List Env
  stack : List Env
  ex : List Addr
  fn : Str → Bool
  calm : Bool
  pn : List (Addr × Obj)
  xe : Value → Shared → Prop
/-- the callers' frames -/
def frs (l : List Env) : List Addr := l.filterMap (·.frame)
abbrev Cx.fs (X : Cx) : List Addr := frs X.outer

def Vis (sc : Scope) (x : Str) : Prop := sc.names.lookup x = some .local ∨ sc.names.lookup x = some .cell ∨ sc.names.lookup x = some .free
def Loc (sc : Scope) (x : Str) : Prop := sc.names.lookup x = some .local ∨ sc.names.lookup x = some .cell
def Look (env : Env) (h : Heap) (m : Str → Option Value) (x : Str) (u : Value) : Prop :=
  (env.kindOf x = some .local ∧ m x = some u) ∨ ((env.kindOf x = some .cell ∨ env.kindOf x = some .free) ∧ ∃ c, env.cells.lookup x = some c ∧ h.IsCell c (some u))

structure Cx.Ok (X : Cx) : Prop where
  mod : Mod X.K X.mg X.base
  kind : X.env.scope.kind = .function
  glob : X.env.globals = mainGlobals
  blt : X.env.builtins = builtinsNs
  above : X.s₀.heap.objs.size ≤ X.env.locals
  inj : ∀ x y c, X.env.cells.lookup x = some c → X.env.cells.lookup y = some c → x = y
  has : ∀ x, (X.env.kindOf x = some .cell ∨ X.env.kindOf x = some .free) → ∃ c, X.env.cells.lookup x = some c
  cab : ∀ x c, X.fn x = true → X.env.cells.lookup x = some c → X.s₀.heap.objs.size ≤ c
  hd : X.calm = true → X.A.handled = none
  frames : X.A.frames = some X.stack
  stk : X.stack = X.outer ∨ (X.stack = X.env :: X.outer ∧ X.env.frame = some X.env.locals)
  exf : ∀ b ∈ X.ex, b ≠ X.env.locals ∧ ∀ x c, X.env.cells.lookup x = some c → c ≠ b
  bs : ∀ b o, X.base.get? b = some o → X.s₀.heap.get? b = some o ∧ X.H₀ b = none
  bsz : X.base.objs.size ≤ X.s₀.heap.objs.size
  noex : ∀ b o, X.base.get? b = some o → b ∉ X.ex
  exfs : ∀ b ∈ X.ex, b ∉ X.fs
  funs : X.s₀.heap.FunFrames X.base X.outer
  frf : ∀ b ∈ X.fs, X.H₀ b = none

structure Inv (X : Cx) (pins : List (Addr × Obj)) (σ : List (Option V)) (H : Hp) (s : Shared) : Prop where
  ok : X.Ok
  os : s.os = X.s₀.os
  bare : AllBare s.gens
  base : Un X.fs X.ex X.H₀ H X.s₀.heap s.heap
  loc : ∃ m, s.heap.Ns X.env.locals m ∧ ∀ (i : Nat) (x : Str) (v : V), X.N[i]? = some x → σ[i]? = some (some v) → Vis X.env.scope x → ∃ u, RelV v u ∧ Look X.env s.heap m x u
  cell : ∀ x c, X.env.cells.lookup x = some c → ∃ v, s.heap.IsCell c v
  free : H X.env.locals = none
  freeC : ∀ x c, X.env.cells.lookup x = some c → H c = none
  pin : ∀ p ∈ X.pn ++ pins, s.heap.get? p.1 = some p.2 ∧ H p.1 = none ∧ p.1 ≠ X.env.locals ∧ p.1 ∉ X.fs ∧ ∀ v, p.2.data ≠ .cell v
  hok : HOk X.prog X.w H s.heap
  len : σ.length = X.N.length

section
variable {X : Cx} {pins : List (Addr × Obj)} {σ : List (Option V)} {H H' : Hp} {s : Shared} {h' : Heap}

theorem Cx.Ok.nofr (ok : X.Ok) {b : Addr} {o : Obj} (e : X.base.get? b = some o) : b ∉ X.fs := fun hb => by
  have := (ok.funs.mem hb).1
  rw [e] at this; cases this
theorem Inv.bs (I : Inv X pins σ H s) : ∀ b o, X.base.get? b = some o → s.heap.get? b = some o ∧ H b = none := fun b o e =>
  ⟨I.base.keep b o (I.ok.bs b o e).1 (I.ok.bs b o e).2 (I.ok.nofr e) (I.ok.noex b o e), I.base.free b o (I.ok.bs b o e).1 (I.ok.bs b o e).2 (I.ok.noex b o e)⟩
theorem Inv.bk (I : Inv X pins σ H s) : ∀ b o, X.base.get? b = some o → s.heap.get? b = some o := fun b o e => (I.bs b o e).1
theorem Inv.mod (I : Inv X pins σ H s) : Mod X.K X.mg X.base := I.ok.mod
theorem Inv.kIn (I : Inv X pins σ H s) : X.K.In s.heap := I.ok.mod.kin.keeps I.bk
theorem Inv.lt (I : Inv X pins σ H s) : X.env.locals < s.heap.objs.size := let ⟨_, hn, _⟩ := I.loc; hn.lt
theorem Inv.sz (I : Inv X pins σ H s) : X.s₀.heap.objs.size ≤ s.heap.objs.size := Nat.le_trans I.ok.above (Nat.le_of_lt I.lt)
theorem Inv.nofs (I : Inv X pins σ H s) {a : Addr} (h : s.heap.objs.size ≤ a) : a ∉ X.fs := fun hb => by
  obtain ⟨_, o, ho, _⟩ := I.ok.funs.mem hb
  exact absurd (Nat.lt_of_lt_of_le (Heap.lt_size ho) (Nat.le_trans I.sz h)) (Nat.lt_irrefl _)
theorem Inv.cne (I : Inv X pins σ H s) : ∀ x c, X.env.cells.lookup x = some c → c ≠ X.env.locals := fun x c e z => by
  obtain ⟨v, o, ho, hd⟩ := I.cell x c e
  obtain ⟨m, ⟨o', es, ep, ho', hd', _⟩, _⟩ := I.loc
  rw [z, ho'] at ho; cases ho; rw [hd'] at hd; cases hd
theorem Inv.funs (I : Inv X pins σ H s) : s.heap.FunFrames X.base X.outer := by
  have all : ∀ (l : List Env), (∀ b ∈ frs l, b ∈ X.fs) → X.s₀.heap.FunFrames X.base l → s.heap.FunFrames X.base l := by
    intro l
    induction l with
    | nil => intro _ _; trivial
    | cons env r ih =>
      intro hs hl
      obtain ⟨hk, ⟨L, o, hf, hn, ho, hd⟩, hr⟩ := hl
      have hL : L ∈ X.fs := hs L (by unfold frs; rw [List.filterMap_cons, hf]; exact List.mem_cons_self)
      obtain ⟨sl, e⟩ := I.base.slot L o ho (I.ok.frf L hL) hL fun z => I.ok.exfs L z hL
      exact ⟨hk, ⟨L, _, hf, hn, e, hd⟩, ih (fun b hb => hs b (by unfold frs; rw [List.filterMap_cons, hf]; exact List.mem_cons_of_mem _ hb)) hr⟩
  exact all X.outer (fun _ hb => hb) I.ok.funs

/-- the frames that run, for a call -/
theorem Inv.stack (I : Inv X pins σ H s) : s.heap.FunFrames X.base X.stack := by
  rcases I.ok.stk with e | ⟨e, hf⟩
  · rw [e]; exact I.funs
  · rw [e]
    obtain ⟨m, hn, _⟩ := I.loc
    refine .cons (by rw [I.ok.kind]; decide) hf hn ?_ I.funs
    exact Heap.get?_none_of_le (Nat.le_trans I.ok.bsz I.ok.above)
theorem Inv.stkSub (I : Inv X pins σ H s) : ∀ b ∈ frs X.stack, b ∈ X.env.locals :: X.fs := fun b hb => by
  rcases I.ok.stk with e | ⟨e, hf⟩
  · rw [e] at hb; exact List.mem_cons_of_mem _ hb
  · rw [e] at hb
    unfold frs at hb
    rw [List.filterMap_cons, hf] at hb
    exact hb
theorem Inv.stkFree (I : Inv X pins σ H s) : ∀ b ∈ frs X.stack, H b = none := fun b hb => by
  rcases List.mem_cons.mp (I.stkSub b hb) with e | hb
  · rw [e]; exact I.free
  · obtain ⟨_, o, ho, _⟩ := I.ok.funs.mem hb
    exact I.base.free b o ho (I.ok.frf b hb) fun z => I.ok.exfs b z hb

/-- THE STEP: the untracked objects but the frame and the records at ch are kept (the callers' frames up to slots), the frame's map is kept, the new abstract heap is held -/
theorem Inv.step {g' : Array GenState} {t' : Nat} {d' : Drawn} {ch : List Addr} (I : Inv X pins σ H s)
    (hch : ∀ b ∈ ch, (b ∈ X.ex ∨ X.s₀.heap.objs.size ≤ b) ∧ b ≠ X.env.locals ∧ (∀ x c, X.env.cells.lookup x = some c → c ≠ b) ∧ ∀ p ∈ X.pn ++ pins, p.1 ≠ b)
    (keep : ∀ b o, b ≠ X.env.locals → b ∉ X.fs → b ∉ ch → s.heap.get? b = some o → H b = none → h'.get? b = some o)
    (slot : ∀ b o, b ≠ X.env.locals → b ∈ X.fs → b ∉ ch → s.heap.get? b = some o → H b = none → ∃ sl, h'.get? b = some { o with slots := sl }) (free : ∀ b o, b ∉ ch → s.heap.get? b = some o → H b = none → H' b = none)
    (there : ∀ b o, b ∉ ch → s.heap.get? b = some o → ∃ o', h'.get? b = some o')
    (tups : ∀ b xs, H b = some (.tup xs) → H' b = some (.tup xs)) (frzs : ∀ b o u, H b = some (.frz o u) → H' b = some (.frz o u)) (tbls : ∀ b ps, H b = some (.tbl ps) → ∃ more, H' b = some (.tbl (ps ++ more)))
    (ns : ∀ m, s.heap.Ns X.env.locals m → h'.Ns X.env.locals m) (hok : HOk X.prog X.w H' h') (hg : AllBare g') :
    Inv X pins σ H' { s with heap := h', gens := g', drawn := d', toks := t' } := by
  have neL : ∀ b o, X.s₀.heap.get? b = some o → b ≠ X.env.locals := fun b o e => Nat.ne_of_lt (Nat.lt_of_lt_of_le (Heap.lt_size e) I.ok.above)
  have neC : ∀ b o, X.s₀.heap.get? b = some o → b ∉ X.ex → b ∉ ch := fun b o e hx hb => by
    rcases (hch b hb).1 with z | z
    · exact hx z
    · exact absurd (Nat.lt_of_lt_of_le (Heap.lt_size e) z) (Nat.lt_irrefl _)
  have cellK : ∀ x c, X.env.cells.lookup x = some c → ∀ v, s.heap.IsCell c v → h'.IsCell c v := fun x c e v ⟨o, ho, hd⟩ => by
    have nch : c ∉ ch := fun z => (hch c z).2.2.1 x c e rfl
    by_cases hc : c ∈ X.fs
    · obtain ⟨sl, q⟩ := slot c o (I.cne x c e) hc nch ho (I.freeC x c e)
      exact ⟨_, q, hd⟩
    · exact ⟨o, keep c o (I.cne x c e) hc nch ho (I.freeC x c e), hd⟩
  refine ⟨I.ok, I.os, hg, ⟨fun b o e n hb hx => ?_, fun b o e n hb hx => ?_, fun b o e n hx => ?_, fun b o e hx => ?_, fun b xs e => tups b xs (I.base.tups b xs e), fun b o xs e => frzs b o xs (I.base.frzs b o xs e), fun b ps e => ?_⟩, ?_, fun x c e => ?_, ?_, fun x c e => ?_, fun p hp => ?_, hok, I.len⟩
  · exact keep b o (neL b o e) hb (neC b o e hx) (I.base.keep b o e n hb hx) (I.base.free b o e n hx)
  · obtain ⟨sl, e1⟩ := I.base.slot b o e n hb hx
    obtain ⟨sl', e2⟩ := slot b _ (neL b o e) hb (neC b o e hx) e1 (I.base.free b o e n hx)
    exact ⟨sl', e2⟩
  · obtain ⟨o', e1⟩ := I.base.there b o e hx
    exact free b o' (neC b o e hx) e1 (I.base.free b o e n hx)
  · obtain ⟨o', e1⟩ := I.base.there b o e hx
    exact there b o' (neC b o e hx) e1
  · obtain ⟨m1, e1⟩ := I.base.tbls b ps e
    obtain ⟨m2, e2⟩ := tbls b _ e1
    exact ⟨m1 ++ m2, by rw [e2, Array.append_assoc]⟩
  · obtain ⟨m, hn, hl⟩ := I.loc
    refine ⟨m, ns m hn, fun i x v e1 e2 e3 => ?_⟩
    obtain ⟨u, r, l⟩ := hl i x v e1 e2 e3
    refine ⟨u, r, ?_⟩
    rcases l with l | ⟨k, c, e, z⟩
    · exact .inl l
    · exact .inr ⟨k, c, e, cellK x c e _ z⟩
  · obtain ⟨v, z⟩ := I.cell x c e
    exact ⟨v, cellK x c e v z⟩
  · obtain ⟨m, ⟨o, _, _, ho, _⟩, _⟩ := I.loc
    exact free _ o (fun z => (hch _ z).2.1 rfl) ho I.free
  · obtain ⟨v, o, ho, hd⟩ := I.cell x c e
    exact free c o (fun z => (hch c z).2.2.1 x c e rfl) ho (I.freeC x c e)
  · obtain ⟨e, n, ne, nf, d⟩ := I.pin p hp
    have nch : p.1 ∉ ch := fun z => (hch p.1 z).2.2.2 p hp rfl
    exact ⟨keep p.1 p.2 ne nf nch e n, free p.1 p.2 nch e n, ne, nf, d⟩
/-- .. where the frame's own object is kept too -/
theorem Inv.un {t' : Nat} (I : Inv X pins σ H s) (u : Un X.fs [] H H' s.heap h') (hok : HOk X.prog X.w H' h') : Inv X pins σ H' { s with heap := h', toks := t' } := by
  obtain ⟨m, ⟨o, es, ep, ho, r⟩, _⟩ := id I.loc
  obtain ⟨sl, hL⟩ := u.any ho I.free (by simp)
  exact I.step (g' := s.gens) (d' := s.drawn) (ch := []) (fun _ z => nomatch z) (fun b o _ hb _ e n => u.keep b o e n hb (by simp)) (fun b o _ hb _ e n => u.slot b o e n hb (by simp)) (fun b o _ e n => u.free b o e n (by simp)) (fun b o _ e => u.there b o e (by simp)) u.tups u.frzs u.tbls (fun m' hm => by
    obtain ⟨o', es', ep', ho', r'⟩ := hm
    rw [ho] at ho'; cases ho'
    exact ⟨_, es', ep', hL, r'⟩) hok I.bare
/-- behind a call (or a comprehension's block): the slots of this frame may have changed too, the records at ch may have turned -/
theorem Inv.call {g' : Array GenState} {t' : Nat} {d' : Drawn} {ch : List Addr} (I : Inv X pins σ H s) (u : Un (frs X.stack) ch H H' s.heap h') (hok : HOk X.prog X.w H' h') (hg : AllBare g')
    (hch : ∀ b ∈ ch, (b ∈ X.ex ∨ X.s₀.heap.objs.size ≤ b) ∧ b ≠ X.env.locals ∧ (∀ x c, X.env.cells.lookup x = some c → c ≠ b) ∧ ∀ p ∈ X.pn ++ pins, p.1 ≠ b) :
    Inv X pins σ H' { s with heap := h', gens := g', drawn := d', toks := t' } := by
  obtain ⟨m, ⟨o, es, ep, ho, r⟩, _⟩ := id I.loc
  obtain ⟨sl, hL⟩ := u.any ho I.free fun z => (hch _ z).2.1 rfl
  exact I.step (ch := ch) hch (fun b o hL hb hc e n => u.keep b o e n (fun z => (List.mem_cons.mp (I.stkSub b z)).elim hL hb) hc) (fun b o _ _ hc e n => u.any e n hc) (fun b o hc e n => u.free b o e n hc) (fun b o hc e => u.there b o e hc) u.tups u.frzs u.tbls (fun m' hm => by
    obtain ⟨o', es', ep', ho', r'⟩ := hm
    rw [ho] at ho'; cases ho'
    exact ⟨_, es', ep', hL, r'⟩) hok hg
/-- an untracked record of ours (an iterator) has turned -/
theorem Inv.turned {t' : Nat} {it : Addr} (I : Inv X pins σ H s) (k : ∀ b o, b ≠ it → s.heap.get? b = some o → h'.get? b = some o) (hn : H it = none) (hL : it ≠ X.env.locals)
    (h1 : it ∈ X.ex ∨ X.s₀.heap.objs.size ≤ it) (h2 : ∀ x c, X.env.cells.lookup x = some c → c ≠ it) (h3 : ∀ p ∈ X.pn ++ pins, p.1 ≠ it) : Inv X pins σ H { s with heap := h', toks := t' } := by
  have nit : ∀ b u, H b = some u → b ≠ it := fun b u e z => by rw [z, hn] at e; cases e
  refine I.step (g' := s.gens) (d' := s.drawn) (ch := [it]) (fun b hb => ?_) (fun b o _ _ hc e _ => k b o (fun z => hc (by simp [z])) e) (fun b o _ _ hc e _ => ⟨o.slots, k b o (fun z => hc (by simp [z])) e⟩) (fun _ _ _ _ n => n)
    (fun b o hc e => ⟨o, k b o (fun z => hc (by simp [z])) e⟩) (fun _ _ e => e) (fun _ _ _ e => e) (fun b ps e => ⟨#[], by rw [e]; simp⟩) (fun m hm => ?_) (fun b u e => ?_) I.bare
  · have e : b = it := by simpa using hb
    subst e
    exact ⟨h1, hL, h2, h3⟩
  · obtain ⟨o, es, ep, ho, r⟩ := hm
    exact ⟨o, es, ep, k _ o (Ne.symm hL) ho, r⟩
  · refine (I.hok b u e).stay (fun c v hc q => k c v ?_ q) (fun _ q => q) fun _ _ q => q
    rcases hc with z | z
    · rw [z]; exact nit b u e
    · exact nit c _ z
theorem Inv.tok (I : Inv X pins σ H s) (t : Nat) : Inv X pins σ H { s with toks := t } := I.un (h' := s.heap) (t' := t) Un.refl I.hok
/-- all objects kept -/
theorem Inv.kept {t' : Nat} (I : Inv X pins σ H s) (k : ∀ b u, s.heap.get? b = some u → h'.get? b = some u) : Inv X pins σ H { s with heap := h', toks := t' } := I.un (Un.kept k) (I.hok.kept k)
/-- a new object laid and tracked -/
theorem Inv.laid {a : Addr} {o : HO} {t' : Nat} (I : Inv X pins σ H s) (k : ∀ b u, s.heap.get? b = some u → h'.get? b = some u) (hp : s.heap.objs.size ≤ a) (new : ObjOk X.prog X.w (upd H a o) h' a o) :
    Inv X pins σ (upd H a o) { s with heap := h', toks := t' } := I.un (Un.laid k hp (I.hok.fresh hp)) (I.hok.laid k hp new)
/-- an object written -/
theorem Inv.write {x e : Addr} {o : HO} {t' : Nat} (I : Inv X pins σ H s) (mu : Mut (H x)) (he : e = x ∨ H e = some (.own x)) (k : ∀ b u, b ≠ e → s.heap.get? b = some u → h'.get? b = some u) (heo : ∃ u, h'.get? e = some u)
    (new : ObjOk X.prog X.w (upd H x o) h' x o) : Inv X pins σ (upd H x o) { s with heap := h', toks := t' } := I.un (Un.write mu he k heo) (I.hok.write mu he k heo new)
/-- forgetting slots, pins -/
theorem Inv.weak {σ' : List (Option V)} (I : Inv X pins σ H s) (hl : σ'.length = σ.length) (w : ∀ (i : Nat) v, σ'[i]? = some (some v) → σ[i]? = some (some v)) : Inv X pins σ' H s :=
  ⟨I.ok, I.os, I.bare, I.base, let ⟨m, hn, hl'⟩ := I.loc; ⟨m, hn, fun i x v e1 e2 e3 => hl' i x v e1 (w i v e2) e3⟩, I.cell, I.free, I.freeC, I.pin, I.hok, hl.trans I.len⟩
theorem Inv.pins_of {pins' : List (Addr × Obj)} (I : Inv X pins σ H s) (h : ∀ p ∈ pins', s.heap.get? p.1 = some p.2 ∧ H p.1 = none ∧ p.1 ≠ X.env.locals ∧ p.1 ∉ X.fs ∧ ∀ v, p.2.data ≠ .cell v) : Inv X pins' σ H s :=
  ⟨I.ok, I.os, I.bare, I.base, I.loc, I.cell, I.free, I.freeC, fun p hp => (List.mem_append.mp hp).elim (fun z => I.pin p (List.mem_append_left _ z)) (h p), I.hok, I.len⟩

theorem nodup_ix {N : List Str} (hN : N.Nodup) {i j : Nat} {x : Str} (a : N[i]? = some x) (b : N[j]? = some x) : i = j := by
  obtain ⟨h1, e1⟩ := List.getElem?_eq_some_iff.mp a
  obtain ⟨h2, e2⟩ := List.getElem?_eq_some_iff.mp b
  exact (List.getElem_inj hN).mp (e1.trans e2.symm)

/-- a name is stored; what changed -/
theorem store_ok2 {M : Model} {A : Around} {E : Value → Shared → Prop} {i : Nat} {x : Str} {v : V} {u : Value} {Q : Unit → Shared → Prop} (I : Inv X pins σ H s) (hN : X.N.Nodup) (hi : X.N[i]? = some x) (hx : Loc X.env.scope x) (r : RelV v u)
    (h : ∀ s', Inv X pins (σ.set i (some v)) H s' → (∃ a, Heap.SameBut a s.heap s'.heap ∧ (a = X.env.locals ∨ X.env.cells.lookup x = some a)) → Q () s') (hf : X.fn x = true ∨ X.env.scope.names.lookup x = some .local := by first | exact .inl rfl | exact .inr rfl | assumption) : wpAny M A (storeName X.env x u) Q E s := by
  obtain ⟨m, hn, hl⟩ := id I.loc
  have hcls : (X.env.scope.kind == .class || (X.env.scope.kind == .module && X.env.locals != X.env.globals)) = false := by rw [I.ok.kind]; rfl
  have hiσ : i < σ.length := by rw [I.len]; exact (List.getElem?_eq_some_iff.mp hi).1
  have cne := I.cne
  have tracked : ∀ {a : Addr} {h' : Heap}, (∃ o, s.heap.get? a = some o ∧ H a = none) → Heap.SameBut a s.heap h' → HOk X.prog X.w H h' := fun {a h'} ha hs b ob e => by
    obtain ⟨_, _, hfree⟩ := ha
    refine (I.hok b ob e).stay (fun c w' hc q => (hs.2 c ?_).trans q) (fun _ q => q) fun _ _ q => q
    rintro rfl
    rcases hc with rfl | hc
    · rw [hfree] at e; cases e
    · rw [hfree] at hc; cases hc
  rcases hx with hk | hk
  · refine wpAny_storeName_local hk hn (fun h' hn' hs => ?_) hcls
    obtain ⟨oL, _, _, hoL, _⟩ := id hn
    refine h _ ⟨I.ok, I.os, I.bare, ⟨fun b o e n hb hx => ?_, fun b o e n hb hx => ?_, I.base.free, fun b o e hx => ?_, I.base.tups, I.base.frzs, I.base.tbls⟩, ⟨_, hn', fun j y v' e1 e2 e3 => ?_⟩, fun y c e => ?_, I.free, I.freeC, fun p hp => ?_, tracked ⟨oL, hoL, I.free⟩ hs, by simpa using I.len⟩ ⟨_, hs, .inl rfl⟩
    · exact (hs.2 b (Nat.ne_of_lt (Nat.lt_of_lt_of_le (Heap.lt_size e) I.ok.above))).trans (I.base.keep b o e n hb hx)
    · obtain ⟨sl, e1⟩ := I.base.slot b o e n hb hx
      exact ⟨sl, (hs.2 b (Nat.ne_of_lt (Nat.lt_of_lt_of_le (Heap.lt_size e) I.ok.above))).trans e1⟩
    · obtain ⟨o', e1⟩ := I.base.there b o e hx
      exact ⟨o', (hs.2 b (Nat.ne_of_lt (Nat.lt_of_lt_of_le (Heap.lt_size e) I.ok.above))).trans e1⟩
    · by_cases hj : j = i
      · subst hj
        rw [hi] at e1; cases e1
        rw [List.getElem?_set_self hiσ] at e2
        cases e2
        exact ⟨u, r, .inl ⟨hk, by simp⟩⟩
      · rw [List.getElem?_set_ne (Ne.symm hj)] at e2
        obtain ⟨u', r', q⟩ := hl j y v' e1 e2 e3
        refine ⟨u', r', ?_⟩
        rcases q with ⟨k, e⟩ | ⟨k, c, e, z⟩
        · refine .inl ⟨k, ?_⟩
          have : y ≠ x := fun e => hj (nodup_ix hN e1 (e ▸ hi))
          simp [this, e]
        · exact .inr ⟨k, c, e, z.sameBut hs (cne y c e)⟩
    · obtain ⟨w', z⟩ := I.cell y c e
      exact ⟨w', z.sameBut hs (cne y c e)⟩
    · obtain ⟨e, n, ne, nf, d⟩ := I.pin p hp
      exact ⟨(hs.2 p.1 ne).trans e, n, ne, nf, d⟩
  · have hfn : X.fn x = true := by
      rcases hf with z | z
      · exact z
      · rw [z] at hk; cases hk
    obtain ⟨c, hc⟩ := I.ok.has x (.inl hk)
    obtain ⟨w', z⟩ := I.cell x c hc
    refine wpAny_storeName_cell I.ok.kind hk hc z (fun h' hc' hs => ?_)
    obtain ⟨oc, hoc, hocd⟩ := id z
    refine h { s with heap := h' } ⟨I.ok, I.os, I.bare, ⟨fun b o e n hb hx => ?_, fun b o e n hb hx => ?_, I.base.free, fun b o e hx => ?_, I.base.tups, I.base.frzs, I.base.tbls⟩, ⟨m, hn.sameBut hs (Ne.symm (cne x c hc)), fun j y v' e1 e2 e3 => ?_⟩, fun y c' e => ?_, I.free, I.freeC, fun p hp => ?_, tracked ⟨oc, hoc, I.freeC x c hc⟩ hs, by simpa using I.len⟩ ⟨c, hs, .inr hc⟩
    · exact (hs.2 b (Nat.ne_of_lt (Nat.lt_of_lt_of_le (Heap.lt_size e) (I.ok.cab x c hfn hc)))).trans (I.base.keep b o e n hb hx)
    · obtain ⟨sl, e1⟩ := I.base.slot b o e n hb hx
      exact ⟨sl, (hs.2 b (Nat.ne_of_lt (Nat.lt_of_lt_of_le (Heap.lt_size e) (I.ok.cab x c hfn hc)))).trans e1⟩
    · obtain ⟨o', e1⟩ := I.base.there b o e hx
      exact ⟨o', (hs.2 b (Nat.ne_of_lt (Nat.lt_of_lt_of_le (Heap.lt_size e) (I.ok.cab x c hfn hc)))).trans e1⟩
    · by_cases hj : j = i
      · subst hj
        rw [hi] at e1; cases e1
        rw [List.getElem?_set_self hiσ] at e2
        cases e2
        exact ⟨u, r, .inr ⟨.inl hk, c, hc, hc'⟩⟩
      · rw [List.getElem?_set_ne (Ne.symm hj)] at e2
        obtain ⟨u', r', q⟩ := hl j y v' e1 e2 e3
        refine ⟨u', r', ?_⟩
        rcases q with q | ⟨k, c', e, z'⟩
        · exact .inl q
        · refine .inr ⟨k, c', e, z'.sameBut hs ?_⟩
          rintro rfl
          exact hj (nodup_ix hN e1 (I.ok.inj _ _ _ e hc ▸ hi))
    · by_cases hcc : c' = c
      · subst hcc; exact ⟨_, hc'⟩
      · obtain ⟨w2, z2⟩ := I.cell y c' e
        exact ⟨w2, z2.sameBut hs hcc⟩
    · obtain ⟨e, n, ne, nf, d⟩ := I.pin p hp
      refine ⟨(hs.2 p.1 ?_).trans e, n, ne, nf, d⟩
      intro q
      rw [q, hoc] at e
      have q' : oc = p.2 := Option.some.inj e
      exact d w' (by rw [← q']; exact hocd)
theorem store_ok {M : Model} {A : Around} {E : Value → Shared → Prop} {i : Nat} {x : Str} {v : V} {u : Value} {Q : Unit → Shared → Prop} (I : Inv X pins σ H s) (hN : X.N.Nodup) (hi : X.N[i]? = some x) (hx : Loc X.env.scope x) (r : RelV v u)
    (h : ∀ s', Inv X pins (σ.set i (some v)) H s' → Q () s') (hf : X.fn x = true ∨ X.env.scope.names.lookup x = some .local := by first | exact .inl rfl | exact .inr rfl | assumption) : wpAny M A (storeName X.env x u) Q E s :=
  store_ok2 I hN hi hx r (fun s' I' _ => h s' I') hf
/-- behind a call or a block, the state as it is -/
theorem Inv.call' {s' : Shared} {ch : List Addr} (I : Inv X pins σ H s) (ho : s'.os = s.os) (u : Un (frs X.stack) ch H H' s.heap s'.heap) (hok : HOk X.prog X.w H' s'.heap) (hg : AllBare s'.gens)
    (hch : ∀ b ∈ ch, (b ∈ X.ex ∨ X.s₀.heap.objs.size ≤ b) ∧ b ≠ X.env.locals ∧ (∀ x c, X.env.cells.lookup x = some c → c ≠ b) ∧ ∀ p ∈ X.pn ++ pins, p.1 ≠ b) : Inv X pins σ H' s' := by
  obtain ⟨h', g', d', t', o'⟩ := s'
  have e : o' = s.os := ho
  subst e
  exact I.call (g' := g') (t' := t') (d' := d') u hok hg hch
end

/-! ### the judgements -/
/-- an exception: its class, its own dict's address (where it has one), the abstract heap behind it -/
abbrev XK := Value → Option Addr → Hp → Prop
abbrev St := List (Option V)
abbrev VK := V → Hp → Prop
/-- an expression's reading; a test's; an argument list's -/
abbrev TE := St → Hp → VK → Prop
abbrev TT := St → Hp → (Bool → Hp → Prop) → Prop
abbrev TA := St → Hp → (List V → Hp → Prop) → Prop
/-- what is wanted behind a statement -/
structure Ends where
  nx : St → Hp → Prop
  rt : VK
  bk : St → Hp → Prop := fun _ _ => False
  ct : St → Hp → Prop := fun _ _ => False
abbrev TS := Ends → St → Hp → Prop

def EP (X : Cx) (pins : List (Addr × Obj)) (σ : St) (Q : VK) (u : Value) (s' : Shared) : Prop := ∃ v H', Inv X pins σ H' s' ∧ RelV v u ∧ Q v H'
def TP (X : Cx) (pins : List (Addr × Obj)) (σ : St) (Q : Bool → Hp → Prop) (b : Bool) (s' : Shared) : Prop := ∃ H', Inv X pins σ H' s' ∧ Q b H'
def AP (X : Cx) (pins : List (Addr × Obj)) (σ : St) (Q : List V → Hp → Prop) (us : List Value) (s' : Shared) : Prop := ∃ vs H', Inv X pins σ H' s' ∧ Vals vs us ∧ Q vs H'
def SP (X : Cx) (pins : List (Addr × Obj)) (D : Ends) (f : Flow) (s' : Shared) : Prop :=
  match f with
  | .next => ∃ σ' H', Inv X pins σ' H' s' ∧ D.nx σ' H'
  | .brk => ∃ σ' H', Inv X pins σ' H' s' ∧ D.bk σ' H'
  | .cont => ∃ σ' H', Inv X pins σ' H' s' ∧ D.ct σ' H'
  | .ret u => ∃ v σ' H', Inv X pins σ' H' s' ∧ RelV v u ∧ D.rt v H'

def PE (X : Cx) (e : Expr) (t : TE) : Prop :=
  ∀ (pins : List (Addr × Obj)) (s : Shared) (σ : St) (H : Hp) (Q : VK), Inv X pins σ H s → t σ H Q → wpAny (model X.prog X.w) X.A (eval e X.env) (EP X pins σ Q) X.xe s
def PT (X : Cx) (e : Expr) (t : TT) : Prop :=
  ∀ (pins : List (Addr × Obj)) (s : Shared) (σ : St) (H : Hp) (Q : Bool → Hp → Prop), Inv X pins σ H s → t σ H Q → wpAny (model X.prog X.w) X.A (isTrue e X.env (eval e X.env)) (TP X pins σ Q) X.xe s
/-- a test whatever its 'whole' is (and, or) -/
def PW (X : Cx) (e : Expr) (t : TT) : Prop :=
  ∀ (whole : Sem Value) (pins : List (Addr × Obj)) (s : Shared) (σ : St) (H : Hp) (Q : Bool → Hp → Prop), Inv X pins σ H s → t σ H Q → wpAny (model X.prog X.w) X.A (isTrue e X.env whole) (TP X pins σ Q) X.xe s
theorem PW.pt {X : Cx} {e : Expr} {t : TT} (h : PW X e t) : PT X e t := h _
/-- an argument list (no star), from the left -/
def PA (X : Cx) (es : List Expr) (t : TA) : Prop :=
  ∀ (pos : Pos) (pins : List (Addr × Obj)) (s : Shared) (σ : St) (H : Hp) (Q : List V → Hp → Prop), Inv X pins σ H s → t σ H Q → wpAny (model X.prog X.w) X.A (spliced (backTo pos (starEach es X.env))) (AP X pins σ Q) X.xe s
def PS (X : Cx) (st : Stmt) (t : TS) : Prop :=
  ∀ (pins : List (Addr × Obj)) (s : Shared) (σ : St) (H : Hp) (D : Ends), Inv X pins σ H s → t D σ H → wpAny (model X.prog X.w) X.A (exec st X.env) (SP X pins D) X.xe s
def PSs (X : Cx) (st : List Stmt) (t : TS) : Prop :=
  ∀ (pins : List (Addr × Obj)) (s : Shared) (σ : St) (H : Hp) (D : Ends), Inv X pins σ H s → t D σ H → wpAny (model X.prog X.w) X.A (execs st X.env) (SP X pins D) X.xe s
/-- weaken the end -/
theorem thn {α : Type} {t : Sem α} {Q Q' : α → Shared → Prop} {M : Model} {A : Around} {E : Value → Shared → Prop} {s : Shared} (h : wpAny M A t Q E s) (hQ : ∀ a s, Q a s → Q' a s) : wpAny M A t Q' E s := wpAny_mono h hQ fun _ _ x => x
end L2

namespace L2
open PySem PySem.Spec PyProof.Rows
section
variable {X : Cx}


/-! ### names and constants -/
def tVar (i : Nat) : TE := fun σ H Q => ∃ v, σ[i]? = some (some v) ∧ Q v H
def tC (v : V) : TE := fun _ H Q => Q v H
theorem pe_var {i : Nat} {x : Str} {pos : Pos} (hN : X.N[i]? = some x) (hv : Vis X.env.scope x) (hd : (x == ("__debug__" : Str)) = false := by decide) (hcd : (x == ("__classdict__" : Str)) = false := by decide) : PE X (.Name x pos) (tVar i) := by
  intro pins s σ H Q I h
  obtain ⟨v, e, h⟩ := h
  obtain ⟨m, hn, hl⟩ := I.loc
  obtain ⟨u, r, l⟩ := hl i x v hN e hv
  have fin : EP X pins σ Q u s := ⟨v, H, I, r, h⟩
  rcases l with ⟨hk, hm⟩ | ⟨hk, c, hc, hcell⟩
  · exact wpAny_Name (wpAny_loadName_local I.ok.kind hk hn hm fin) hd
  · rcases hk with hk | hk
    · exact wpAny_Name (wpAny_loadName_cell I.ok.kind hk hc hcell fin) hd
    · exact wpAny_Name (wpAny_loadName_free I.ok.kind hk hc hcell fin hcd) hd
theorem pe_int {i j pos} : PE X (.Constant (.int i) j pos) (tC (.int i)) := fun _ _ _ H _ I h => wpAny_Constant_int ⟨.int i, H, I.tok _, ⟨_, rfl⟩, h⟩
theorem pe_bl {b j pos} : PE X (.Constant (.bool b) j pos) (tC (.bl b)) := fun _ _ _ H _ I h => Constant_bool ⟨.bl b, H, I, rfl, h⟩
theorem pe_non {j pos} : PE X (.Constant .none j pos) (tC .non) := fun _ _ _ H _ I h => Constant_none ⟨.non, H, I, rfl, h⟩
theorem pe_str {x j pos} : PE X (.Constant (.str x) j pos) (tC (.str x)) := fun _ _ _ H _ I h => Calls.Constant_str ⟨.str x, H, I.tok _, ⟨_, rfl⟩, h⟩

/-- a global name of the def -/
def Gl (X : Cx) (x : Str) : Prop := X.env.kindOf x = some .globalImplicit
theorem ld_glob {E : Value → Shared → Prop} {pins : List (Addr × Obj)} {s : Shared} {σ : St} {H : Hp} {x : Str} {u : Value} {pos : Pos} {Q : Value → Shared → Prop} (I : Inv X pins σ H s) (hg : Gl X x) (hm : X.mg x = some u) (h : Q u s)
    (hd : (x == ("__debug__" : Str)) = false := by decide) : wpAny (model X.prog X.w) X.A (eval (.Name x pos) X.env) Q E s :=
  Calls.Name_function_global I.ok.kind hg (Calls.loadGlobal_global (by rw [I.ok.glob]; exact I.mod.glob.keeps I.bk) hm h) hd
theorem ld_blt {E : Value → Shared → Prop} {pins : List (Addr × Obj)} {s : Shared} {σ : St} {H : Hp} {x : Str} {u : Value} {pos : Pos} {Q : Value → Shared → Prop} (I : Inv X pins σ H s) (hg : Gl X x) (hm : X.mg x = none) (hv : bootBuiltins x = some u) (h : Q u s)
    (hn : x ≠ "__name__" := by decide) (hd : (x == ("__debug__" : Str)) = false := by decide) : wpAny (model X.prog X.w) X.A (eval (.Name x pos) X.env) Q E s := by
  obtain ⟨mb, h1, h2⟩ := I.mod.blt
  exact Calls.Name_function_global I.ok.kind hg (Calls.loadGlobal_builtin (by rw [I.ok.glob]; exact I.mod.glob.keeps I.bk) hm (by rw [I.ok.blt]; exact h1.keeps I.bk) ((h2 x hn).trans hv) h) hd
/-- a module's constant, a class, a function, as a value -/
theorem pe_glob {x : Str} {v : V} {u : Value} {pos : Pos} (hg : Gl X x) (hm : X.mg x = some u) (r : RelV v u) (hd : (x == ("__debug__" : Str)) = false := by decide) : PE X (.Name x pos) (tC v) :=
  fun _ _ _ H _ I h => ld_glob I hg hm ⟨v, H, I, r, h⟩ hd
theorem pe_bltn {x : Str} {v : V} {u : Value} {pos : Pos} (hg : Gl X x) (hm : X.mg x = none) (hv : bootBuiltins x = some u) (r : RelV v u) (hn : x ≠ "__name__" := by decide) (hd : (x == ("__debug__" : Str)) = false := by decide) : PE X (.Name x pos) (tC v) :=
  fun _ _ _ H _ I h => ld_blt I hg hm hv ⟨v, H, I, r, h⟩ hn hd

/-! ### arithmetic -/
/-- two ints -/
def t2I (ta tb : TE) (k : Int → Int → Hp → Prop) : St → Hp → Prop := fun σ H => ta σ H fun x H1 => tb σ H1 fun y H2 => ∃ i j, x = .int i ∧ y = .int j ∧ k i j H2
def tAdd (ta tb : TE) : TE := fun σ H Q => t2I ta tb (fun i j H2 => Q (.int (i + j)) H2) σ H
def tSub (ta tb : TE) : TE := fun σ H Q => t2I ta tb (fun i j H2 => Q (.int (i - j)) H2) σ H
/-- the left factor below 2^64 -/
def tMul (ta tb : TE) : TE := fun σ H Q => t2I ta tb (fun i j H2 => (-(2 ^ 64) < i ∧ i < 2 ^ 64) ∧ Q (.int (i * j)) H2) σ H
variable {a b : Expr} {ta tb : TE} {pos : Pos}

/-! ### comparisons -/
def PC (X : Cx) (op : CmpOp) (a b : Expr) (t : TE) : Prop :=
  ∀ (pins : List (Addr × Obj)) (s : Shared) (σ : St) (H : Hp) (Q : VK), Inv X pins σ H s → t σ H Q →
    wpAny (model X.prog X.w) X.A (eval a X.env) (fun v s₁ => wpAny (model X.prog X.w) X.A (eval b X.env) (fun u s₂ => wpAny (model X.prog X.w) X.A (compareOp op v u) (EP X pins σ Q) X.xe s₂) X.xe s₁) X.xe s
theorem nobehind (b : Expr) {op : CmpOp} (h : op ≠ .In) (h2 : op ≠ .NotIn) : behindInMarks op b = false := by
  have e1 : (op == CmpOp.In) = false := by cases op <;> first | rfl | exact absurd rfl h
  have e2 : (op == CmpOp.NotIn) = false := by cases op <;> first | rfl | exact absurd rfl h2
  cases b <;> simp [behindInMarks, e1, e2]
def tCmp (p : Int → Int → Bool) (ta tb : TE) : TE := fun σ H Q => t2I ta tb (fun i j H2 => Q (.bl (p i j)) H2) σ H
abbrev tLt : TE → TE → TE := tCmp fun i j => decide (i < j)
abbrev tLe : TE → TE → TE := tCmp fun i j => decide (i ≤ j)
abbrev tGt : TE → TE → TE := tCmp fun i j => decide (j < i)
abbrev tGe : TE → TE → TE := tCmp fun i j => decide (j ≤ i)
abbrev tEqI : TE → TE → TE := tCmp fun i j => decide (i = j)
abbrev tNeI : TE → TE → TE := tCmp fun i j => !decide (i = j)
/-- is None -/
def tIsN (ta : TE) : TE := fun σ H Q => ta σ H fun x H1 => Q (.bl (decide (x = .non))) H1
def tNotN (ta : TE) : TE := fun σ H Q => ta σ H fun x H1 => Q (.bl (!decide (x = .non))) H1
theorem RelV.none_iff {x : V} {v : Value} (r : RelV x v) : (v == Value.none) = decide (x = .non) := by
  cases x with
  | non => cases r; rfl
  | bl _ => cases r; rfl
  | int _ => obtain ⟨t, rfl⟩ := r; rfl
  | str _ => obtain ⟨t, rfl⟩ := r; rfl
  | byt _ => obtain ⟨t, rfl⟩ := r; rfl
  | flt _ => obtain ⟨t, rfl⟩ := r; rfl
  | ref _ => cases r; rfl
  | ty _ => cases r; rfl
theorem pc_isN {j pos'} (ha : PE X a ta) : PC X .Is a (.Constant .none j pos') (tIsN ta) := by
  intro pins s σ H Q I h
  refine thn (ha pins s σ H _ I h) fun v s1 ⟨x, H1, I1, r1, q1⟩ => ?_
  exact Constant_none (is_none_gen ⟨.bl _, H1, I1, by rw [r1.none_iff]; rfl, q1⟩)
theorem pc_notN {j pos'} (ha : PE X a ta) : PC X .IsNot a (.Constant .none j pos') (tNotN ta) := by
  intro pins s σ H Q I h
  refine thn (ha pins s σ H _ I h) fun v s1 ⟨x, H1, I1, r1, q1⟩ => ?_
  exact Constant_none (isnot_none_gen ⟨.bl _, H1, I1, by rw [r1.none_iff]; rfl, q1⟩)
/-- a comparison as a value, as a test -/
def tB (t : TE) : TT := fun σ H Q => t σ H fun x H1 => ∃ c, x = .bl c ∧ Q c H1
theorem pe_cmp {op : CmpOp} {t : TE} (h : PC X op a b t) (h1 : behindInMarks op b = false := by first | exact nobehind _ (by decide) (by decide) | rfl) : PE X (.Compare a [op] [b] pos) t := fun pins s σ H Q I hw => wpAny_Compare1 (h pins s σ H Q I hw) h1
theorem pt_cmp {op : CmpOp} {t : TE} (h : PC X op a b t) (h1 : behindInMarks op b = false := by first | exact nobehind _ (by decide) (by decide) | rfl) : PT X (.Compare a [op] [b] pos) (tB t) := by
  intro pins s σ H Q I hw
  refine wpAny_isTrue_Compare1 (thn (h pins s σ H _ I hw) fun v s1 h1 => thn h1 fun u s2 h2 => thn h2 fun c s3 ⟨x, H1, I1, r1, q1⟩ => ?_) h1
  obtain ⟨d, rfl, q⟩ := q1
  cases r1
  exact wpAny_truthy_bool ⟨H1, I1, q⟩
/-- an expression whose value is a bool, as a test -/
theorem pt_val {e : Expr} {t : TE} (h : PE X e t) (he : ∀ whole, isTrue e X.env whole = (do let v ← whole; standAt e.pos; holding [v] (truthy v)) := by intro _; rfl) : PT X e (tB t) := by
  intro pins s σ H Q I hw
  refine isTrue_plain (thn (h pins s σ H _ I hw) fun v s1 ⟨x, H1, I1, r1, q1⟩ => ?_) (he _)
  obtain ⟨d, rfl, q⟩ := q1
  cases r1
  exact wpAny_truthy_bool ⟨H1, I1, q⟩

/-! ### and, or, not -/
variable {tA tB' : TT} {rest : List Expr}
def tAnd (t u : TT) : TT := fun σ H Q => t σ H fun c H1 => if c = true then u σ H1 Q else Q false H1
def tOr (t u : TT) : TT := fun σ H Q => t σ H fun c H1 => if c = true then Q true H1 else u σ H1 Q
def tNot (t : TT) : TT := fun σ H Q => t σ H fun c H1 => Q (!c) H1
theorem pw_and1 (ha : PT X a tA) : PW X (.BoolOp .And [a] pos) tA := by
  intro wh pins s σ H Q I h
  refine isTrue_and (thn (ha pins s σ H Q I h) fun c s1 e => ?_)
  cases c with
  | true => exact isTrue_and_nil e
  | false => exact e
theorem pw_or1 (ha : PT X a tA) : PW X (.BoolOp .Or [a] pos) tA := by
  intro wh pins s σ H Q I h
  refine isTrue_or (thn (ha pins s σ H Q I h) fun c s1 e => ?_)
  cases c with
  | false => exact isTrue_or_nil e
  | true => exact e
theorem pw_and (ha : PT X a tA) (hb : PW X (.BoolOp .And (b :: rest) pos) tB') : PW X (.BoolOp .And (a :: b :: rest) pos) (tAnd tA tB') := by
  intro wh pins s σ H Q I h
  refine isTrue_and (thn (ha pins s σ H _ I h) fun c s1 ⟨H1, I1, q1⟩ => ?_)
  cases c with
  | true => exact hb wh pins s1 σ H1 Q I1 q1
  | false => exact ⟨H1, I1, q1⟩
theorem pw_or (ha : PT X a tA) (hb : PW X (.BoolOp .Or (b :: rest) pos) tB') : PW X (.BoolOp .Or (a :: b :: rest) pos) (tOr tA tB') := by
  intro wh pins s σ H Q I h
  refine isTrue_or (thn (ha pins s σ H _ I h) fun c s1 ⟨H1, I1, q1⟩ => ?_)
  cases c with
  | true => exact ⟨H1, I1, q1⟩
  | false => exact hb wh pins s1 σ H1 Q I1 q1
theorem pt_not (ha : PT X a tA) : PT X (.UnaryOp .Not a pos) (tNot tA) := by
  intro pins s σ H Q I h
  exact isTrue_not (ha pins s σ H (fun c H1 => Q (!c) H1) I h)
/-- .. as values (bools) -/
def tAndV (ta tb : TE) : TE := fun σ H Q => ta σ H fun x H1 => ∃ c, x = .bl c ∧ if c = true then tb σ H1 Q else Q (.bl false) H1
def tOrV (ta tb : TE) : TE := fun σ H Q => ta σ H fun x H1 => ∃ c, x = .bl c ∧ if c = true then Q (.bl true) H1 else tb σ H1 Q
def tNotV (ta : TE) : TE := fun σ H Q => ta σ H fun x H1 => ∃ c, x = .bl c ∧ Q (.bl (!c)) H1
theorem pe_one {op} {t : TE} (h : PE X a t) : PE X (.BoolOp op [a] pos) t := fun pins s σ H Q I hw => BoolOp_one (h pins s σ H Q I hw)
theorem pe_and (ha : PE X a ta) (hb : PE X (.BoolOp .And (b :: rest) pos) tb) : PE X (.BoolOp .And (a :: b :: rest) pos) (tAndV ta tb) := by
  intro pins s σ H Q I h
  refine BoolOp_and (thn (ha pins s σ H _ I h) fun v s1 ⟨x, H1, I1, r1, q1⟩ => ?_)
  obtain ⟨c, rfl, q1⟩ := q1
  cases r1
  refine wpAny_truthy_bool ?_
  cases c with
  | true => exact hb pins s1 σ H1 Q I1 q1
  | false => exact ⟨.bl false, H1, I1, rfl, q1⟩
theorem pe_or (ha : PE X a ta) (hb : PE X (.BoolOp .Or (b :: rest) pos) tb) : PE X (.BoolOp .Or (a :: b :: rest) pos) (tOrV ta tb) := by
  intro pins s σ H Q I h
  refine BoolOp_or (thn (ha pins s σ H _ I h) fun v s1 ⟨x, H1, I1, r1, q1⟩ => ?_)
  obtain ⟨c, rfl, q1⟩ := q1
  cases r1
  refine wpAny_truthy_bool ?_
  cases c with
  | false => exact hb pins s1 σ H1 Q I1 q1
  | true => exact ⟨.bl true, H1, I1, rfl, q1⟩
theorem pe_not (ha : PE X a ta) : PE X (.UnaryOp .Not a pos) (tNotV ta) := by
  intro pins s σ H Q I h
  refine UnaryOp_ (thn (ha pins s σ H _ I h) fun v s1 ⟨x, H1, I1, r1, q1⟩ => ?_)
  obtain ⟨c, rfl, q1⟩ := q1
  cases r1
  exact not_of (wpAny_truthy_bool ⟨.bl (!c), H1, I1, rfl, q1⟩)
/-- a if t else b -/
def tIf (t : TT) (ta tb : TE) : TE := fun σ H Q => t σ H fun c H1 => if c = true then ta σ H1 Q else tb σ H1 Q
end
end L2

namespace L2
open PySem PySem.Spec PyProof.Rows

/-! ### a list, a tuple that is read: tracked, frozen, or an object of the module -/
def SqL (K : PySem.W.Frag) (H : Hp) (a : Addr) (xs : List V) : Prop :=
  Rd H a (.lst xs) ∨
    ∃ (o : Obj) (its : Array Value) (n : Nat), K.lookup a = some o ∧ o.cls = .type "list" ∧ o.dict = none ∧ o.data = .seq its n ∧ its.size ≤ sizeLine ∧ Vals xs its.toList
def SqT (K : PySem.W.Frag) (H : Hp) (a : Addr) (xs : List V) : Prop :=
  Rd H a (.tup xs) ∨
    ∃ (o : Obj) (its : Array Value) (n : Nat), K.lookup a = some o ∧ o.cls = .type "tuple" ∧ o.data = .seq its n ∧ its.size ≤ sizeLine ∧ Vals xs its.toList
def absV : Value → Option V
  | .none => some .non
  | .bool b => some (.bl b)
  | .int i _ => some (.int i)
  | .str x _ => some (.str x)
  | .bytes b _ => some (.byt b)
  | .float b _ => some (.flt b)
  | .ref a => some (.ref a)
  | .type n => some (.ty n)
  | _ => none
theorem RelV.abs {x : V} {u : Value} (r : RelV x u) : absV u = some x := by
  cases x with
  | non => cases r; rfl
  | bl _ => cases r; rfl
  | int _ => obtain ⟨t, rfl⟩ := r; rfl
  | str _ => obtain ⟨t, rfl⟩ := r; rfl
  | byt _ => obtain ⟨t, rfl⟩ := r; rfl
  | flt _ => obtain ⟨t, rfl⟩ := r; rfl
  | ref _ => cases r; rfl
  | ty _ => cases r; rfl
theorem RelV.inj {x y : V} {u : Value} (r : RelV x u) (q : RelV y u) : x = y := Option.some.inj (r.abs.symm.trans q.abs)
theorem Vals.inj : ∀ {xs ys : List V} {us : List Value}, Vals xs us → Vals ys us → xs = ys
  | _, _, _, .nil, .nil => rfl
  | _, _, _, .cons r t, .cons r' t' => by rw [r.inj r', Vals.inj t t']
section
variable {X : Cx} {pins : List (Addr × Obj)} {σ : St} {H : Hp} {s : Shared} {a : Addr} {xs ys : List V}
theorem SqL.of {K : PySem.W.Frag} (h : H a = some (.lst xs)) : SqL K H a xs := .inl (.inl h)
theorem SqT.of {K : PySem.W.Frag} (h : H a = some (.tup xs)) : SqT K H a xs := .inl (.inl h)
theorem Inv.list (I : Inv X pins σ H s) (h : SqL X.K H a xs) : ∃ its : List Value, Vals xs its ∧ PlainL s.heap a its.toArray ∧ xs.length ≤ sizeLine := by
  rcases h with h | ⟨o, its, n, hk, hc, hd, hs, hz, r⟩
  · obtain ⟨z, its, n, r, e⟩ := h.ok I.hok
    exact ⟨its, r, ⟨_, n, e, rfl, rfl, rfl⟩, z⟩
  · refine ⟨its.toList, r, ⟨o, n, I.kIn a o hk, hc, hd, by simpa using hs⟩, ?_⟩
    have e := r.length
    simp only [Array.length_toList] at e
    omega
theorem Inv.tuple (I : Inv X pins σ H s) (h : SqT X.K H a xs) : ∃ its : List Value, Vals xs its ∧ IsTup s.heap a its.toArray ∧ xs.length ≤ sizeLine := by
  rcases h with h | ⟨o, its, n, hk, hc, hs, hz, r⟩
  · obtain ⟨z, its, r, p⟩ := h.ok I.hok
    exact ⟨its, r, p.is, z⟩
  · refine ⟨its.toList, r, ⟨o, I.kIn a o hk, hc, n, by simpa using hs⟩, ?_⟩
    have e := r.length
    simp only [Array.length_toList] at e
    omega
theorem Inv.list_inj (I : Inv X pins σ H s) (h : SqL X.K H a xs) (h' : SqL X.K H a ys) : xs = ys := by
  obtain ⟨its, r, ⟨o, n, e, _, _, d⟩, _⟩ := I.list h
  obtain ⟨its', r', ⟨o', n', e', _, _, d'⟩, _⟩ := I.list h'
  rw [e] at e'; cases e'
  rw [d] at d'
  injection d' with d1 _
  have : its = its' := by simpa using congrArg Array.toList d1
  subst this
  exact r.inj r'
theorem Inv.tuple_inj (I : Inv X pins σ H s) (h : SqT X.K H a xs) (h' : SqT X.K H a ys) : xs = ys := by
  obtain ⟨its, r, ⟨o, e, _, n, d⟩, _⟩ := I.tuple h
  obtain ⟨its', r', ⟨o', e', _, n', d'⟩, _⟩ := I.tuple h'
  rw [e] at e'; cases e'
  rw [d] at d'
  injection d' with d1 _
  have : its = its' := by simpa using congrArg Array.toList d1
  subst this
  exact r.inj r'
end

/-! ### another wish about exceptions -/
abbrev Cx.wish (X : Cx) (E : Value → Shared → Prop) : Cx := { X with xe := E }
/-- no exception leaves -/
abbrev Cx.nox (X : Cx) : Cx := X.wish fun _ _ => False
theorem Cx.Ok.wish {X : Cx} (ok : X.Ok) (E : Value → Shared → Prop) : (X.wish E).Ok :=
  ⟨ok.mod, ok.kind, ok.glob, ok.blt, ok.above, ok.inj, ok.has, ok.cab, ok.hd, ok.frames, ok.stk, ok.exf, ok.bs, ok.bsz, ok.noex, ok.exfs, ok.funs, ok.frf⟩
theorem Cx.Ok.unwish {X : Cx} {E : Value → Shared → Prop} (ok : (X.wish E).Ok) : X.Ok :=
  ⟨ok.mod, ok.kind, ok.glob, ok.blt, ok.above, ok.inj, ok.has, ok.cab, ok.hd, ok.frames, ok.stk, ok.exf, ok.bs, ok.bsz, ok.noex, ok.exfs, ok.funs, ok.frf⟩
section
variable {X : Cx} {pins : List (Addr × Obj)} {σ : St} {H : Hp} {s : Shared} {E : Value → Shared → Prop}
theorem Inv.wish (I : Inv X pins σ H s) (E : Value → Shared → Prop) : Inv (X.wish E) pins σ H s := ⟨I.ok.wish E, I.os, I.bare, I.base, I.loc, I.cell, I.free, I.freeC, I.pin, I.hok, I.len⟩
theorem Inv.unwish (I : Inv (X.wish E) pins σ H s) : Inv X pins σ H s := ⟨I.ok.unwish, I.os, I.bare, I.base, I.loc, I.cell, I.free, I.freeC, I.pin, I.hok, I.len⟩
theorem SP.unwish {D : Ends} {f : Flow} {s' : Shared} (h : SP (X.wish E) pins D f s') : SP X pins D f s' := by
  cases f with
  | next => obtain ⟨σ', H', I, q⟩ := h; exact ⟨σ', H', I.unwish, q⟩
  | brk => obtain ⟨σ', H', I, q⟩ := h; exact ⟨σ', H', I.unwish, q⟩
  | cont => obtain ⟨σ', H', I, q⟩ := h; exact ⟨σ', H', I.unwish, q⟩
  | ret u => obtain ⟨v, σ', H', I, r, q⟩ := h; exact ⟨v, σ', H', I.unwish, r, q⟩
theorem PSs.nox {st : List Stmt} {t : TS} (h : PSs X.nox st t) : PSs X st t := fun pins s σ H D I hw =>
  wpAny_mono (h pins s σ H D (I.wish _) hw) (fun _ _ q => q.unwish) fun _ _ z => False.elim z
end

/-! ### blocks and small statements -/
section
variable {X : Cx} {st : Stmt} {rest : List Stmt} {t u : TS} {e : Expr} {te : TE} {pos : Pos}
def tNext : TS := fun D σ H => D.nx σ H
def tSeq (t u : TS) : TS := fun D σ H => t { D with nx := u D } σ H
theorem pss_nil : PSs X [] tNext := fun _ _ σ H _ I h => wpAny_execs_nil ⟨σ, H, I, h⟩
theorem pss_cons (h1 : PS X st t) (h2 : PSs X rest u) : PSs X (st :: rest) (tSeq t u) := by
  intro pins s σ H D I h
  refine wpAny_execs_cons (thn (h1 pins s σ H { D with nx := u D } I h) fun f s1 q => ?_)
  cases f with
  | next =>
    obtain ⟨σ', H', I', q⟩ := q
    exact h2 pins s1 σ' H' D I' q
  | ret v => exact q
  | brk => exact q
  | cont => exact q
theorem pss_one (h1 : PS X st t) : PSs X [st] t := by
  intro pins s σ H D I h
  refine wpAny_execs_cons (thn (h1 pins s σ H D I h) fun f s1 q => ?_)
  cases f with
  | next => exact wpAny_execs_nil q
  | ret v => exact q
  | brk => exact q
  | cont => exact q
def tBreak : TS := fun D σ H => D.bk σ H
def tCont : TS := fun D σ H => D.ct σ H
/-- in a def's body nothing is shown -/
theorem Inv.quiet {pins : List (Addr × Obj)} {σ : St} {H : Hp} {s : Shared} (I : Inv X pins σ H s) : interactive X.env = false := by simp [interactive, I.ok.kind]
/-- an expression whose value is dropped -/
def tDrop (te : TE) : TS := fun D σ H => te σ H fun _ H1 => D.nx σ H1
theorem ps_expr (he : PE X e te) (hs : swapsWith e none pos.line X.env = pure false := by rfl) : PS X (.Expr e pos) (tDrop te) := by
  intro pins s σ H D I h
  exact wpAny_Expr_any (thn (he pins s σ H _ I h) fun v s1 ⟨x, H1, I1, r1, q1⟩ => ⟨σ, H1, I1, q1⟩) I.quiet hs
def tRet (te : TE) : TS := fun D σ H => te σ H D.rt
theorem ps_ret (he : PE X e te) : PS X (.Return (some e) pos) (tRet te) := by
  intro pins s σ H D I h
  exact wpAny_Return_some (thn (he pins s σ H _ I h) fun v s1 ⟨x, H1, I1, r1, q1⟩ => ⟨x, σ, H1, I1, r1, q1⟩)
def tRetN : TS := fun D _ H => D.rt .non H
def tIfS (c : TT) (t u : TS) : TS := fun D σ H => c σ H fun b H1 => if b = true then t D σ H1 else u D σ H1
theorem ps_if {c : Expr} {a b : List Stmt} {tc : TT} (hc : PT X c tc) (ha : PSs X a t) (hb : PSs X b u) : PS X (.If c a b pos) (tIfS tc t u) := by
  intro pins s σ H D I h
  refine wpAny_If (thn (hc pins s σ H _ I h) fun d s1 ⟨H1, I1, q1⟩ => ?_)
  cases d with
  | true => exact ha pins s1 σ H1 D I1 q1
  | false => exact hb pins s1 σ H1 D I1 q1
/-- code that the proof never comes to -/
def tNever : TS := fun _ _ _ => False
end

/-! ### targets -/
abbrev TG := V → St → Hp → (St → Hp → Prop) → Prop
abbrev TGs := List V → St → Hp → (St → Hp → Prop) → Prop
def PG (X : Cx) (target : Expr) (t : TG) : Prop :=
  ∀ (pins : List (Addr × Obj)) (s : Shared) (σ : St) (H : Hp) (v : V) (u : Value) (Q : St → Hp → Prop), Inv X pins σ H s → RelV v u → t v σ H Q →
    wpAny (model X.prog X.w) X.A (assign target X.env u) (fun _ s' => ∃ σ' H', Inv X pins σ' H' s' ∧ Q σ' H') X.xe s
/-- several targets, one after another -/
def PGs (X : Cx) (ts : List Expr) (t : TGs) : Prop :=
  ∀ (pins : List (Addr × Obj)) (s : Shared) (σ : St) (H : Hp) (vs : List V) (us : List Value) (Q : St → Hp → Prop), Inv X pins σ H s → Vals vs us → t vs σ H Q →
    wpAny (model X.prog X.w) X.A (assignInOrder ((assignEach ts X.env).map (·.2)) us) (fun _ s' => ∃ σ' H', Inv X pins σ' H' s' ∧ Q σ' H') X.xe s
/-- o[i] = v, by values -/
abbrev TSet := V → V → V → Hp → (Hp → Prop) → Prop
def PSet (X : Cx) (t : TSet) : Prop :=
  ∀ (pins : List (Addr × Obj)) (s : Shared) (σ : St) (H : Hp) (o i v : V) (ov iv u : Value) (Q : Hp → Prop), Inv X pins σ H s → RelV o ov → RelV i iv → RelV v u → t o i v H Q →
    wpAny (model X.prog X.w) X.A (setItem ov iv u) (fun _ s' => ∃ H', Inv X pins σ H' s' ∧ Q H') X.xe s
/-- a op= b, by values -/
abbrev TIp := V → V → Hp → VK → Prop
def PIp (X : Cx) (op : Operator) (t : TIp) : Prop :=
  ∀ (pins : List (Addr × Obj)) (s : Shared) (σ : St) (H : Hp) (x y : V) (v u : Value) (Q : VK), Inv X pins σ H s → RelV x v → RelV y u → t x y H Q →
    wpAny (model X.prog X.w) X.A (inplaceOp op v u) (EP X pins σ Q) X.xe s
section
variable {X : Cx} {pos : Pos}
def gName (i : Nat) : TG := fun v σ H Q => Q (σ.set i (some v)) H
theorem pg_name {i : Nat} {x : Str} (hN : X.N.Nodup) (hi : X.N[i]? = some x) (hx : Loc X.env.scope x) (hf : X.fn x = true ∨ X.env.scope.names.lookup x = some .local := by first | exact .inl rfl | exact .inr rfl | assumption) : PG X (.Name x pos) (gName i) := by
  intro pins s σ H v u Q I r h
  exact wpAny_assign_Name (store_ok I hN hi hx r (fun s' I' => ⟨_, H, I', h⟩) hf)
def gNil : TGs := fun vs σ H Q => vs = [] ∧ Q σ H
def gCons (t : TG) (u : TGs) : TGs := fun vs σ H Q => ∃ v r, vs = v :: r ∧ t v σ H fun σ' H' => u r σ' H' Q
theorem pgs_nil : PGs X [] gNil := by
  intro pins s σ H vs us Q I r h
  obtain ⟨e, h⟩ := h
  subst e
  cases r
  exact assignInOrder_nil ⟨σ, H, I, h⟩
theorem pgs_cons {e : Expr} {es : List Expr} {t : TG} {u : TGs} (h1 : PG X e t) (h2 : PGs X es u)
    (hs : (assignEach (e :: es) X.env).map (·.2) = assign e X.env :: (assignEach es X.env).map (·.2) := by rfl) : PGs X (e :: es) (gCons t u) := by
  intro pins s σ H vs us Q I r h
  obtain ⟨v, vr, e1, h⟩ := h
  subst e1
  cases r with
  | cons r rr =>
    rw [hs]
    refine assignInOrder_cons (thn (h1 pins s σ H _ _ _ I r h) fun _ s1 ⟨σ1, H1, I1, q1⟩ => ?_)
    exact h2 pins s1 σ1 H1 _ _ Q I1 rr q1
/-- (a, b, ..) = a tuple of that length -/
def gTup (K : PySem.W.Frag) (n : Nat) (t : TGs) : TG := fun v σ H Q => ∃ a xs, v = .ref a ∧ SqT K H a xs ∧ xs.length = n ∧ t xs σ H Q
theorem pg_tup {es : List Expr} {k : Nat} {t : TGs} {n : Nat} (hc : X.calm = true) (h : PGs X es t)
    (hn : (assignEach es X.env).length = n := by rfl) (hst : (assignEach es X.env).findIdx? (·.1) = none := by rfl) : PG X (.Tuple es k pos) (gTup X.K n t) := by
  intro pins s σ H v u Q I r hw
  obtain ⟨a, xs, e1, hq, hl, hw⟩ := hw
  subst e1
  cases r
  obtain ⟨its, rv, ht, hz⟩ := I.tuple hq
  refine assign_Tuple_tuple (I.ok.hd hc) ht (by simp [hn, ← hl, rv.length]) hst fun h' hx => ?_
  have I1 : Inv X pins σ H { s with heap := h' } := I.kept (t' := s.toks) fun b o e => hx b o (Nat.ne_of_lt (Heap.lt_size e)) e
  exact h pins _ σ H xs _ Q I1 (by simpa using rv) hw
/-- o[i] = .. -/
def gSub (to ti : TE) (t : TSet) : TG := fun v σ H Q => to σ H fun o H1 => ti σ H1 fun i H2 => t o i v H2 fun H3 => Q σ H3
theorem pg_sub {o i : Expr} {to ti : TE} {t : TSet} (ho : PE X o to) (hi : PE X i ti) (hs : PSet X t)
    (ha : ∀ v, assign (.Subscript o i pos) X.env v = (do
      let ov ← holding [v] (eval o X.env)
      let iv ← holding [v, ov] (eval i X.env)
      standAt pos
      holding [v, ov, iv] (setItem ov iv v)
      release [v, ov, iv] []) := by intro _; rfl) : PG X (.Subscript o i pos) (gSub to ti t) := by
  intro pins s σ H v u Q I r h
  rw [ha]
  refine wpAny_bind (wpAny_holding (thn (ho pins s σ H _ I h) fun ov s1 ⟨x, H1, I1, r1, q1⟩ => ?_))
  refine wpAny_bind (wpAny_holding (thn (hi pins s1 σ H1 _ I1 q1) fun iv s2 ⟨y, H2, I2, r2, q2⟩ => ?_))
  refine wpAny_bind (wpAny_standAt (wpAny_bind (wpAny_holding (thn (hs pins s2 σ H2 x y v ov iv u _ I2 r1 r2 r q2) fun _ s3 ⟨H3, I3, q3⟩ => ?_))))
  exact wpAny_release ⟨σ, H3, I3, q3⟩
/-- target = value -/
def tAsg (te : TE) (g : TG) : TS := fun D σ H => te σ H fun x H1 => g x σ H1 D.nx
theorem ps_asg {tg e : Expr} {te : TE} {g : TG} (he : PE X e te) (hg : PG X tg g) (hs : swapsWithSole [tg] e pos.line X.env = pure false := by rfl) (hw : swappedStores [tg] e X.env = pure none := by rfl)
    (h1 : (assignEach [tg] X.env).map (·.2) = [assign tg X.env] := by rfl) : PS X (.Assign [tg] e pos) (tAsg te g) := by
  intro pins s σ H D I h
  refine wpAny_Assign_stores (thn (he pins s σ H _ I h) fun v s1 ⟨x, H1, I1, r1, q1⟩ => ?_) hs hw
  rw [h1]
  exact thn (hg pins s1 σ H1 x v _ I1 r1 q1) fun _ s2 q => q
/-- name = value -/
theorem ps_set {i : Nat} {x : Str} {e : Expr} {te : TE} {pos' : Pos} (hN : X.N.Nodup) (hi : X.N[i]? = some x) (hx : Loc X.env.scope x) (he : PE X e te) (hs : swapsWith e (some (.Name x pos')) pos.line X.env = pure false := by rfl) (hf : X.fn x = true ∨ X.env.scope.names.lookup x = some .local := by first | exact .inl rfl | exact .inr rfl | assumption) :
    PS X (.Assign [.Name x pos'] e pos) (tAsg te (gName i)) := by
  intro pins s σ H D I h
  refine wpAny_Assign_Name (thn (he pins s σ H _ I h) fun v s1 ⟨y, H1, I1, r1, q1⟩ => ?_) hs
  exact store_ok I1 hN hi hx r1 (fun s2 I2 => ⟨_, H1, I2, q1⟩) hf
/-- a, b = x, y with plain local names: stored from the right; the pair itself is not tracked (the opening rows as in PyProof/Rows/TupAssign.lean:23) -/
def tPar (i j : Nat) (ta : TA) : TS := fun D σ H => ta σ H fun vs H1 => ∃ v w, vs = [v, w] ∧ D.nx ((σ.set i (some v)).set j (some w)) H1
/-- name op= e -/
def tAug (i : Nat) (te : TE) (ti : TIp) : TS := fun D σ H => ∃ x, σ[i]? = some (some x) ∧ te σ H fun y H1 => ti x y H1 fun z H2 => D.nx (σ.set i (some z)) H2
/-- o[i] op= e -/
def tAugS (to ti te : TE) (tget : V → V → Hp → VK → Prop) (tip : TIp) (tset : TSet) : TS := fun D σ H => to σ H fun o H1 => ti σ H1 fun i H2 => tget o i H2 fun x H3 => te σ H3 fun y H4 => tip x y H4 fun z H5 => tset o i z H5 fun H6 => D.nx σ H6
/-- o[i], by values -/
def PGet (X : Cx) (t : V → V → Hp → VK → Prop) : Prop :=
  ∀ (pins : List (Addr × Obj)) (s : Shared) (σ : St) (H : Hp) (o i : V) (ov iv : Value) (Q : VK), Inv X pins σ H s → RelV o ov → RelV i iv → t o i H Q →
    wpAny (model X.prog X.w) X.A (getItem ov iv) (EP X pins σ Q) X.xe s
/-- ints -/
def ipI (f : Int → Int → Int) : TIp := fun x y H Q => ∃ i j, x = .int i ∧ y = .int j ∧ Q (.int (f i j)) H
end

/-! ### while -/
section
variable {X : Cx} {pos : Pos}
/-- the invariant W with its measure -/
def tWhile (c : TT) (tb : TS) : TS := fun D σ H => ∃ W : Nat → St → Hp → Prop, (∃ m, W m σ H) ∧ ∀ m σ H, W m σ H →
  c σ H fun b H1 => if b = true then ∃ N : St → Hp → Prop, (∀ σ' H', N σ' H' → ∃ m', m' < m ∧ W m' σ' H') ∧ tb { D with nx := N, ct := N, bk := D.nx } σ H1 else D.nx σ H1
end

/-! ### what a loop or a comprehension walks -/
/-- at turn i: it yields x (the heap may grow), or it stops -/
structure It where
  go : Nat → Hp → Prop
  yld : Nat → Hp → V → Hp → Prop
  stop : Nat → Hp → Prop
/-- the iterator's own objects may turn: they are not the frame's, not pinned, younger than the entry (or a comprehension's own) -/
def FpOk (X : Cx) (pins : List (Addr × Obj)) (H : Hp) (b : Addr) : Prop :=
  H b = none ∧ b ≠ X.env.locals ∧ b ∉ X.fs ∧ (b ∈ X.ex ∨ X.s₀.heap.objs.size ≤ b) ∧ (∀ x c, X.env.cells.lookup x = some c → c ≠ b) ∧ ∀ p ∈ X.pn ++ pins, p.1 ≠ b
theorem Inv.fpOk {X : Cx} {pins : List (Addr × Obj)} {σ : St} {H H' : Hp} {s : Shared} {b : Addr} (I : Inv X pins σ H s) (hb : s.heap.objs.size ≤ b) (hn : H' b = none) : FpOk X pins H' b := by
  refine ⟨hn, Nat.ne_of_gt (Nat.lt_of_lt_of_le I.lt hb), I.nofs hb, .inr (Nat.le_trans I.sz hb), fun x c e z => ?_, fun p hp z => ?_⟩
  · obtain ⟨v, q⟩ := I.cell x c e
    exact absurd (Nat.lt_of_lt_of_le q.lt (by rw [z]; exact hb)) (Nat.lt_irrefl _)
  · exact absurd (Nat.lt_of_lt_of_le (Heap.lt_size (I.pin p hp).1) (by rw [z]; exact hb)) (Nat.lt_irrefl _)
structure Turn (P : Program) (w : World) (K : PySem.W.Frag) (tg : Expr) (J : It) (fp : List Addr) (it : Addr) (tn : Nat → Heap → Prop) : Prop where
  mem : it ∈ fp
  obj : ∀ i h, tn i h → ∀ b ∈ fp, ∃ o, h.get? b = some o ∧ ∀ v, o.data ≠ .cell v
  keep : ∀ i h h', tn i h → (∀ b ∈ fp, ∀ o, h.get? b = some o → h'.get? b = some o) → tn i h'
  item : ∀ (X : Cx), X.prog = P → X.w = w → X.K = K → X.calm = true → ∀ (i : Nat) (pins : List (Addr × Obj)) (s : Shared) (σ : St) (H : Hp) (E : Value → Shared → Prop), Inv X pins σ H s → (∀ b ∈ fp, FpOk X pins H b) → tn i s.heap → J.go i H →
    wpAny (model P w) X.A (pyNext (.ref it)) (fun r s1 => ∃ u, r = some u ∧
      wpAny (model P w) X.A (letOwnedTupleGo tg (.ref it) u) (fun _ s2 => ∃ x H', Inv X pins σ H' s2 ∧ RelV x u ∧ J.yld i H x H' ∧ tn (i + 1) s2.heap ∧ ∀ b ∈ fp, H' b = none) E s1) E s
  done : ∀ (X : Cx), X.prog = P → X.w = w → X.K = K → X.calm = true → ∀ (i : Nat) (pins : List (Addr × Obj)) (s : Shared) (σ : St) (H : Hp) (E : Value → Shared → Prop), Inv X pins σ H s → (∀ b ∈ fp, FpOk X pins H b) → tn i s.heap → J.stop i H →
    wpAny (model P w) X.A (pyNext (.ref it)) (fun r s1 => r = none ∧ Inv X pins σ H s1) E s
  self : ∀ (A : Around) (i : Nat) (s : Shared) (Q : Value → Shared → Prop) (E : Value → Shared → Prop), tn i s.heap → Q (.ref it) s → wpAny (model P w) A (pyIter (.ref it)) Q E s
abbrev TI := St → Hp → (It → Hp → Prop) → Prop
/-- an iterator has come -/
def PIE (X : Cx) (pins : List (Addr × Obj)) (σ : St) (tg : Expr) (R : It → Hp → Prop) (itv : Value) (s2 : Shared) : Prop :=
  ∃ (it : Addr) (fp : List Addr) (tn : Nat → Heap → Prop) (J : It) (H' : Hp), itv = .ref it ∧ Inv X pins σ H' s2 ∧ Turn X.prog X.w X.K tg J fp it tn ∧ tn 0 s2.heap ∧ (∀ b ∈ fp, FpOk X pins H' b) ∧ R J H'
def PI (X : Cx) (tg iter : Expr) (wi : TI) : Prop :=
  ∀ (pins : List (Addr × Obj)) (s : Shared) (σ : St) (H : Hp) (R : It → Hp → Prop), Inv X pins σ H s → wi σ H R →
    wpAny (model X.prog X.w) X.A (eval iter X.env) (fun v s1 => wpAny (model X.prog X.w) X.A (pyIter v) (PIE X pins σ tg R) X.xe s1) X.xe s

/-- the step ahead of the store is nothing for an iterator that keeps no tuple -/
theorem go_of {M : Model} {A : Around} {E : Value → Shared → Prop} {s : Shared} {tg : Expr} {it : Addr} {u : Value} {o : Obj} {n : String} {vs : Array Value} {Q : Unit → Shared → Prop} (ho : s.heap.get? it = some o) (hc : o.cls = .type n) (hd : o.data = .fields vs)
    (hn : ["enumerate", "zip", "dict_itemiterator", "dict_reverseitemiterator", "odict_iterator", "itertools.zip_longest", "itertools.pairwise"].contains n = false) (hQ : Q () s) : wpAny M A (letOwnedTupleGo tg (.ref it) u) Q E s := by
  unfold letOwnedTupleGo
  cases tg <;> first
    | exact wpAny_pure hQ
    | (cases u <;> first
        | exact wpAny_pure hQ
        | (refine wpAny_bind (wpAny_load ho ?_)
           rw [hc, hd]
           show wpAny M A (if (["enumerate", "zip", "dict_itemiterator", "dict_reverseitemiterator", "odict_iterator", "itertools.zip_longest", "itertools.pairwise"].contains n && vs[0]? == some (rawInt _)) = true then _ else _) Q E s
           rw [if_neg (by intro h; rw [hn, Bool.false_and] at h; cases h)]
           exact wpAny_pure hQ))

/-- the list at a, as it stands at each turn (a loop may append to it) -/
def Itl (K : PySem.W.Frag) (a : Addr) : It :=
  ⟨fun i H => ∃ xs x, SqL K H a xs ∧ xs[i]? = some x, fun i H x H' => H' = H ∧ ∀ xs, SqL K H a xs → xs[i]? = some x, fun i H => ∃ xs, SqL K H a xs ∧ xs.length ≤ i⟩
def Itt (K : PySem.W.Frag) (a : Addr) : It :=
  ⟨fun i H => ∃ xs x, SqT K H a xs ∧ xs[i]? = some x, fun i H x H' => H' = H ∧ ∀ xs, SqT K H a xs → xs[i]? = some x, fun i H => ∃ xs, SqT K H a xs ∧ xs.length ≤ i⟩
/-- lo, lo + 1, .. (n of them) -/
def Itr (lo : Int) (n : Nat) : It := ⟨fun i _ => i < n, fun i H x H' => H' = H ∧ x = .int (lo + i), fun i _ => n ≤ i⟩
theorem turn_list {P : Program} {w : World} {K : PySem.W.Frag} {tg : Expr} (a it : Addr) : Turn P w K tg (Itl K a) [it] it (fun i h => h.IsListIter it a i) where
  mem := by simp
  obj := fun i h st b hb => by
    have e : b = it := by simpa using hb
    subst e
    obtain ⟨o, e, c, d⟩ := st
    exact ⟨o, e, fun v z => by rw [d] at z; cases z⟩
  keep := fun i h h' st k => st.at fun o e => k it (by simp) o e
  item := by
    intro X hP hw hK hc i pins s σ H E I hf st hg
    subst hP hw hK
    obtain ⟨xs, x, hq, hx⟩ := hg
    obtain ⟨its, rv, p, hz⟩ := I.list hq
    obtain ⟨u, hu, ru⟩ := rv.get hx
    obtain ⟨f0, f1, f2, f3, f4, f5⟩ := hf it (by simp)
    refine wpAny_pyNext_list_item st p.isList (x := u) (by simpa using hu) fun h' st' sb => ?_
    have I1 : Inv X pins σ H { s with heap := h' } := I.turned (t' := s.toks) (fun b o hb e => (sb.2 b hb).trans e) f0 f1 f3 f4 f5
    obtain ⟨o, e, c, d⟩ := id st'
    exact ⟨u, rfl, go_of (s := { s with heap := h' }) e c d (by decide) ⟨x, H, I1, ru, ⟨rfl, fun ys hy => by rw [I.list_inj hy hq]; exact hx⟩, st', fun b hb => (hf b hb).1⟩⟩
  done := by
    intro X hP hw hK hc i pins s σ H E I hf st hg
    subst hP hw hK
    obtain ⟨xs, hq, hx⟩ := hg
    obtain ⟨its, rv, p, hz⟩ := I.list hq
    obtain ⟨f0, f1, f2, f3, f4, f5⟩ := hf it (by simp)
    have hl := rv.length
    exact wpAny_pyNext_list_end (I.ok.hd hc) st p.isList (by simp; omega) fun h' eb => ⟨rfl, I.turned (t' := s.toks) (fun b o hb e => eb b o hb e) f0 f1 f3 f4 f5⟩
  self := fun _ _ _ _ _ st h => wpAny_pyIter_listiter st h
theorem turn_tuple {P : Program} {w : World} {K : PySem.W.Frag} {tg : Expr} (a it : Addr) : Turn P w K tg (Itt K a) [it] it (fun i h => h.IsTupleIter it a i) where
  mem := by simp
  obj := fun i h st b hb => by
    have e : b = it := by simpa using hb
    subst e
    obtain ⟨o, e, c, d⟩ := st
    exact ⟨o, e, fun v z => by rw [d] at z; cases z⟩
  keep := fun i h h' st k => st.at fun o e => k it (by simp) o e
  item := by
    intro X hP hw hK hc i pins s σ H E I hf st hg
    subst hP hw hK
    obtain ⟨xs, x, hq, hx⟩ := hg
    obtain ⟨its, rv, p, hz⟩ := I.tuple hq
    obtain ⟨u, hu, ru⟩ := rv.get hx
    obtain ⟨f0, f1, f2, f3, f4, f5⟩ := hf it (by simp)
    refine wpAny_pyNext_tuple_item st (show s.heap.IsTuple a its.toArray from p) (x := u) (by simpa using hu) fun h' st' sb => ?_
    have I1 : Inv X pins σ H { s with heap := h' } := I.turned (t' := s.toks) (fun b o hb e => (sb.2 b hb).trans e) f0 f1 f3 f4 f5
    obtain ⟨o, e, c, d⟩ := id st'
    exact ⟨u, rfl, go_of (s := { s with heap := h' }) e c d (by decide) ⟨x, H, I1, ru, ⟨rfl, fun ys hy => by rw [I.tuple_inj hy hq]; exact hx⟩, st', fun b hb => (hf b hb).1⟩⟩
  done := by
    intro X hP hw hK hc i pins s σ H E I hf st hg
    subst hP hw hK
    obtain ⟨xs, hq, hx⟩ := hg
    obtain ⟨its, rv, p, hz⟩ := I.tuple hq
    obtain ⟨f0, f1, f2, f3, f4, f5⟩ := hf it (by simp)
    have hl := rv.length
    exact wpAny_pyNext_tuple_end (I.ok.hd hc) st (show s.heap.IsTuple a its.toArray from p) (by simp; omega) fun h' eb => ⟨rfl, I.turned (t' := s.toks) (fun b o hb e => eb b o hb e) f0 f1 f3 f4 f5⟩
  self := fun _ _ _ _ _ st h => wpAny_pyIter_tupleiter st h
theorem turn_range {P : Program} {w : World} {K : PySem.W.Frag} {tg : Expr} (it : Addr) (lo : Int) (n : Nat) : Turn P w K tg (Itr lo n) [it] it (fun i h => IsRangeIter h it (lo + (i : Nat) * 1) ((n : Int) - (i : Nat)) 1) where
  mem := by simp
  obj := fun i h st b hb => by
    have e : b = it := by simpa using hb
    subst e
    exact ⟨_, st, fun v z => by
      have z' : Data.fields _ = Data.cell v := z
      cases z'⟩
  keep := fun i h h' st k => k it (by simp) _ st
  item := by
    intro X hP hw hK hc i pins s σ H E I hf st hg
    subst hP hw hK
    obtain ⟨f0, f1, f2, f3, f4, f5⟩ := hf it (by simp)
    have W := Walks.range (prog := X.prog) (w := X.w) (I.ok.hd hc) it lo 1 n
    refine W.item i s _ _ hg st fun v h' tk hv st' kk => ?_
    obtain ⟨t, rfl⟩ := hv
    have I1 : Inv X pins σ H { s with heap := h', toks := tk } := I.turned (fun b o hb e => kk b o (by simpa using hb) e) f0 f1 f3 f4 f5
    refine ⟨_, rfl, go_of (s := { s with heap := h', toks := tk }) (n := "range_iterator") st' rfl rfl (by decide) ⟨.int (lo + i), H, I1, ⟨t, ?_⟩, ⟨rfl, rfl⟩, st', fun b hb => (hf b hb).1⟩⟩
    rw [Int.mul_one]
  done := by
    intro X hP hw hK hc i pins s σ H E I hf st hg
    subst hP hw hK
    obtain ⟨f0, f1, f2, f3, f4, f5⟩ := hf it (by simp)
    exact wpAny_pyNext_range_end (I.ok.hd hc) st (by have : n ≤ i := hg; omega) fun h' eb => ⟨rfl, I.turned (t' := s.toks) (fun b o hb e => eb b o hb e) f0 f1 f3 f4 f5⟩
  self := fun _ _ _ _ _ st h => wpAny_pyIter_rangeiter st h
end L2

namespace L2
open PySem PySem.Spec PyProof.Rows
section
variable {X : Cx} {tg : Expr}
def iList (K : PySem.W.Frag) (tl : TE) : TI := fun σ H R => tl σ H fun x H1 => ∃ a, x = .ref a ∧ (∃ xs, SqL K H1 a xs) ∧ R (Itl K a) H1
def iTup (K : PySem.W.Frag) (tl : TE) : TI := fun σ H R => tl σ H fun x H1 => ∃ a, x = .ref a ∧ (∃ xs, SqT K H1 a xs) ∧ R (Itt K a) H1
theorem pi_list {l : Expr} {tl : TE} (hl : PE X l tl) : PI X tg l (iList X.K tl) := by
  intro pins s σ H R I h
  refine thn (hl pins s σ H _ I h) fun v s1 ⟨x, H1, I1, r1, q1⟩ => ?_
  obtain ⟨a, e, ⟨xs, hq⟩, q⟩ := q1
  subst e
  cases r1
  obtain ⟨its, rv, p, hz⟩ := I1.list hq
  refine wpAny_pyIter_list p.isList ?_
  refine ⟨s1.heap.objs.size, [s1.heap.objs.size], _, _, H1, rfl, I1.kept (t' := s1.toks) fun b o e => Heap.get?_push_of_some _ e, turn_list a _, ⟨_, Heap.get?_push_size _ rfl, rfl, rfl⟩, fun b hb => ?_, q⟩
  have e : b = s1.heap.objs.size := by simpa using hb
  subst e
  exact I1.fpOk (Nat.le_refl _) (I1.hok.fresh (Nat.le_refl _))
theorem pi_tup {l : Expr} {tl : TE} (hl : PE X l tl) : PI X tg l (iTup X.K tl) := by
  intro pins s σ H R I h
  refine thn (hl pins s σ H _ I h) fun v s1 ⟨x, H1, I1, r1, q1⟩ => ?_
  obtain ⟨a, e, ⟨xs, hq⟩, q⟩ := q1
  subst e
  cases r1
  obtain ⟨its, rv, p, hz⟩ := I1.tuple hq
  refine wpAny_pyIter_tuple (show s1.heap.IsTuple a its.toArray from p) ?_
  refine ⟨s1.heap.objs.size, [s1.heap.objs.size], _, _, H1, rfl, I1.kept (t' := s1.toks) fun b o e => Heap.get?_push_of_some _ e, turn_tuple a _, ⟨_, Heap.get?_push_size _ rfl, rfl, rfl⟩, fun b hb => ?_, q⟩
  have e : b = s1.heap.objs.size := by simpa using hb
  subst e
  exact I1.fpOk (Nat.le_refl _) (I1.hok.fresh (Nat.le_refl _))
/-- a range object just made, walked -/
theorem range_it {pins : List (Addr × Obj)} {σ : St} {H : Hp} {s : Shared} {R : It → Hp → Prop} {E : Value → Shared → Prop} {lo hi : Int} {t u v : Tok} {tk : Nat} (I : Inv X pins σ H s) (h1 : -(2 ^ 62) ≤ lo) (h2 : lo < 2 ^ 62) (h3 : -(2 ^ 62) ≤ hi) (h4 : hi < 2 ^ 62)
    (q : R (Itr lo (hi - lo).toNat) H) : wpAny (model X.prog X.w) X.A (pyIter (.ref s.heap.objs.size)) (PIE X pins σ tg R) E { s with heap := s.heap.push { cls := .type "range", data := .fields #[.int lo t, .int hi u, .int 1 v] }, toks := tk } := by
  refine wpAny_pyIter_range (IsRange.new ..) (small_one h1 h2 h3 h4) ?_
  have I1 : Inv X pins σ H { s with heap := s.heap.push { cls := .type "range", data := .fields #[.int lo t, .int hi u, .int 1 v] }, toks := tk } := I.kept fun b o e => Heap.get?_push_of_some _ e
  refine ⟨(s.heap.push { cls := .type "range", data := .fields #[.int lo t, .int hi u, .int 1 v] }).objs.size, [(s.heap.push { cls := .type "range", data := .fields #[.int lo t, .int hi u, .int 1 v] }).objs.size], _, _, H, rfl,
    I1.kept (t' := tk) fun b o e => Heap.get?_push_of_some _ e, turn_range _ lo (hi - lo).toNat, ?_, fun b hb => ?_, q⟩
  · have e1 : lo + ((0 : Nat) : Int) * 1 = lo := by simp
    have e2 : (((hi - lo).toNat : Nat) : Int) - ((0 : Nat) : Int) = Builtin.Range.rangeSize lo hi 1 := by rw [rangeSize_one]; split <;> omega
    show IsRangeIter _ _ (lo + ((0 : Nat) : Int) * 1) ((((hi - lo).toNat : Nat) : Int) - ((0 : Nat) : Int)) 1
    rw [e1, e2]
    exact Heap.get?_push_size _ rfl
  · have e : b = (s.heap.push { cls := .type "range", data := .fields #[.int lo t, .int hi u, .int 1 v] }).objs.size := by simpa using hb
    subst e
    exact I1.fpOk (Nat.le_refl _) (I1.hok.fresh (Nat.le_refl _))
def iRng1 (ta : TA) : TI := fun σ H R => ta σ H fun vs H1 => ∃ j : Int, vs = [.int j] ∧ -(2 ^ 62) ≤ j ∧ j < 2 ^ 62 ∧ R (Itr 0 j.toNat) H1
def iRng2 (ta : TA) : TI := fun σ H R => ta σ H fun vs H1 => ∃ i j : Int, vs = [.int i, .int j] ∧ (-(2 ^ 62) ≤ i ∧ i < 2 ^ 62 ∧ -(2 ^ 62) ≤ j ∧ j < 2 ^ 62) ∧ R (Itr i (j - i).toNat) H1
theorem pi_range1 {a : Expr} {ta : TA} {p pos : Pos} (hg : Gl X "range") (hm : X.mg "range" = none) (ha : PA X [a] ta) (hs : starEach [a] X.env = [(false, eval a X.env)] := by rfl) : PI X tg (.Call (.Name "range" p) [a] [] pos) (iRng1 ta) := by
  intro pins s σ H R I h
  refine Call_ (ld_blt I hg hm boot_range (PyProof.Rows.callWith_type1 (thn (ha pos pins s σ H _ I h) fun us s1 ⟨vs, H1, I1, r1, q1⟩ => ?_) hs rfl))
  obtain ⟨j, e, q1, q2, q⟩ := q1
  subst e
  cases r1 with
  | cons r rr =>
    cases rr
    obtain ⟨t, rfl⟩ := r
    exact call_range_1 (range_it I1 (by omega) (by omega) q1 q2 (by simpa using q))
theorem pi_range2 {a b : Expr} {ta : TA} {p pos : Pos} (hg : Gl X "range") (hm : X.mg "range" = none) (ha : PA X [a, b] ta) (hs : starEach [a, b] X.env = [(false, eval a X.env), (false, eval b X.env)] := by rfl) (hs2 : starEach [b] X.env = [(false, eval b X.env)] := by rfl) :
    PI X tg (.Call (.Name "range" p) [a, b] [] pos) (iRng2 ta) := by
  intro pins s σ H R I h
  refine Call_ (ld_blt I hg hm boot_range (PyProof.Rows.callWith_type1 (thn (ha pos pins s σ H _ I h) fun us s1 ⟨vs, H1, I1, r1, q1⟩ => ?_) (by rw [hs, hs2]) (by rw [hs2]; rfl)))
  obtain ⟨i, j, e, ⟨q1, q2, q3, q4⟩, q⟩ := q1
  subst e
  cases r1 with
  | cons r rr =>
    cases rr with
    | cons r' rr =>
      cases rr
      obtain ⟨t, rfl⟩ := r
      obtain ⟨t', rfl⟩ := r'
      exact call_range_2 (range_it I1 q1 q2 q3 q4 q)

/-! ### for -/
/-- W: the invariant by the turn and a measure; N: what the body is to reach -/
def tFor (wi : TI) (g : TG) (tb : TS) : TS := fun D σ H => wi σ H fun J H1 => ∃ W : Nat → Nat → St → Hp → Prop, (∃ m, W 0 m σ H1) ∧ ∀ i m σ H, W i m σ H →
  (J.stop i H ∧ D.nx σ H) ∨ (J.go i H ∧ ∃ N : St → Hp → Prop, (∀ σ' H', N σ' H' → ∃ m', m' < m ∧ W (i + 1) m' σ' H') ∧ ∀ x H', J.yld i H x H' → g x σ H' fun σ2 H2 => tb { D with nx := N, ct := N, bk := D.nx } σ2 H2)
/-- the records at fp as they stand -/
def pinsAt (fp : List Addr) (h : Heap) : List (Addr × Obj) := fp.filterMap fun b => (h.get? b).map fun o => (b, o)
theorem mem_pinsAt {fp : List Addr} {h : Heap} {b : Addr} {o : Obj} (hb : b ∈ fp) (e : h.get? b = some o) : (b, o) ∈ pinsAt fp h := List.mem_filterMap.mpr ⟨b, hb, by rw [e]; rfl⟩
theorem of_pinsAt {fp : List Addr} {h : Heap} {p : Addr × Obj} (hp : p ∈ pinsAt fp h) : p.1 ∈ fp ∧ h.get? p.1 = some p.2 := by
  obtain ⟨b, hb, e⟩ := List.mem_filterMap.mp hp
  cases q : h.get? b with
  | none => rw [q] at e; cases e
  | some o =>
    rw [q] at e
    have e' : (b, o) = p := Option.some.inj e
    subst e'
    exact ⟨hb, q⟩
theorem Inv.pinned {pins : List (Addr × Obj)} {σ : St} {H : Hp} {s : Shared} {fp : List Addr} (I : Inv X pins σ H s) (hf : ∀ b ∈ fp, FpOk X pins H b) (ho : ∀ b ∈ fp, ∃ o, s.heap.get? b = some o ∧ ∀ v, o.data ≠ .cell v) : Inv X (pins ++ pinsAt fp s.heap) σ H s :=
  I.pins_of fun p hp => (List.mem_append.mp hp).elim (fun z => I.pin p (List.mem_append_right _ z)) fun z => by
    obtain ⟨hb, e⟩ := of_pinsAt z
    obtain ⟨f0, f1, f2, _⟩ := hf p.1 hb
    obtain ⟨o, e', d⟩ := ho p.1 hb
    rw [e] at e'; cases e'
    exact ⟨e, f0, f1, f2, d⟩
theorem Inv.unpinned {pins pl : List (Addr × Obj)} {σ : St} {H : Hp} {s : Shared} (I : Inv X (pins ++ pl) σ H s) : Inv X pins σ H s := I.pins_of fun p hp => I.pin p (List.mem_append_right _ (List.mem_append_left _ hp))
theorem ps_for {iter : Expr} {body : List Stmt} {wi : TI} {g : TG} {tb : TS} {pos : Pos} (hp : PassesOwn (model X.prog X.w) X.A X.env X.xe) (hc : X.calm = true) (hi : PI X tg iter wi) (hg : PG X tg g) (hb : PSs X body tb)
    (hs : ∀ x, foldedSetIterable iter X.env x = pure x := by intro _; rfl) : PS X (.For tg iter body [] pos) (tFor wi g tb) := by
  intro pins s σ H D I h
  refine wpAny_For (thn (hi pins s σ H _ I h) fun v s1 h1 => thn h1 fun itv s2 h2 => ?_) hs
  obtain ⟨it, fp, tn, J, H2, e, I2, T, st2, f2, W, ⟨m0, w0⟩, turn⟩ := h2
  subst e
  -- what stays true of the iterator's objects through the loop
  have stat : ∀ {H' : Hp}, (∀ b ∈ fp, H' b = none) → ∀ b ∈ fp, FpOk X pins H' b := fun hn b hb => ⟨hn b hb, (f2 b hb).2⟩
  refine codeAny_forLoop_any (fun n s' => ∃ i σ' H', Inv X pins σ' H' s' ∧ tn i s'.heap ∧ (∀ b ∈ fp, H' b = none) ∧ W i n σ' H') ?_ m0 ⟨0, σ, H2, I2, st2, fun b hb => (f2 b hb).1, w0⟩
  rintro n s3 ⟨i, σ3, H3, I3, st3, fr3, w3⟩
  rcases turn i n σ3 H3 w3 with ⟨stop, qn⟩ | ⟨go, N, hN, step⟩
  · refine wpAny_passesOwn hp (thn (T.done X rfl rfl rfl hc i pins s3 σ3 H3 X.xe I3 (stat fr3) st3 stop) fun r s4 ⟨hr, I4⟩ => ?_)
    subst hr
    exact wpAny_execs_nil ⟨σ3, H3, I4, qn⟩
  · refine wpAny_passesOwn hp (thn (T.item X rfl rfl rfl hc i pins s3 σ3 H3 X.xe I3 (stat fr3) st3 go) fun r s4 ⟨u, hr, h4⟩ => ?_)
    subst hr
    refine wpAny_passesOwn hp (thn h4 fun _ s5 ⟨x, H5, I5, r5, y5, st5, fr5⟩ => ?_)
    have I5' := I5.pinned (stat fr5) (T.obj _ _ st5)
    refine wpAny_passesOwn hp (thn (hg _ s5 σ3 H5 x u _ I5' r5 (step x H5 y5)) fun _ s6 ⟨σ6, H6, I6, q6⟩ => ?_)
    refine wpAny_passesOwn hp (thn (hb _ s6 σ6 H6 _ I6 q6) fun f s7 q7 => ?_)
    have again : ∀ {σ7 : St} {H7 : Hp}, Inv X (pins ++ pinsAt fp s5.heap) σ7 H7 s7 → N σ7 H7 → ∃ m, m < n ∧ ∃ i σ' H', Inv X pins σ' H' s7 ∧ tn i s7.heap ∧ (∀ b ∈ fp, H' b = none) ∧ W i m σ' H' := fun {σ7 H7} I7 n7 => by
      obtain ⟨m', hm, w7⟩ := hN σ7 H7 n7
      refine ⟨m', hm, i + 1, σ7, H7, I7.unpinned, T.keep _ _ _ st5 fun b hb o e => (I7.pin (b, o) (List.mem_append_right _ (List.mem_append_right _ (mem_pinsAt hb e)))).1, fun b hb => ?_, w7⟩
      obtain ⟨o, e, d⟩ := T.obj _ _ st5 b hb
      exact (I7.pin (b, o) (List.mem_append_right _ (List.mem_append_right _ (mem_pinsAt hb e)))).2.1
    cases f with
    | next => obtain ⟨σ7, H7, I7, n7⟩ := q7; exact again I7 n7
    | cont => obtain ⟨σ7, H7, I7, n7⟩ := q7; exact again I7 n7
    | brk => obtain ⟨σ7, H7, I7, q7⟩ := q7; exact ⟨σ7, H7, I7.unpinned, q7⟩
    | ret v => obtain ⟨x7, σ7, H7, I7, r7, q7⟩ := q7; exact ⟨x7, σ7, H7, I7.unpinned, r7, q7⟩
end

/-! ### the forms one uses -/
/-- over a list that the body leaves as it is -/
theorem for_list {K : PySem.W.Frag} {a : Addr} {xs : List V} {g : TG} {tb : TS} {D : Ends} {σ : St} {H : Hp} (Pv : Nat → St → Hp → Prop) (h0 : Pv 0 σ H) (hl : ∀ i σ H, i ≤ xs.length → Pv i σ H → SqL K H a xs)
    (hs : ∀ i x σ H, xs[i]? = some x → Pv i σ H → g x σ H fun σ2 H2 => tb { D with nx := Pv (i + 1), ct := Pv (i + 1), bk := D.nx } σ2 H2) (hd : ∀ σ H, Pv xs.length σ H → D.nx σ H) :
    ∃ W : Nat → Nat → St → Hp → Prop, (∃ m, W 0 m σ H) ∧ ∀ i m σ H, W i m σ H →
      ((Itl K a).stop i H ∧ D.nx σ H) ∨ ((Itl K a).go i H ∧ ∃ N : St → Hp → Prop, (∀ σ' H', N σ' H' → ∃ m', m' < m ∧ W (i + 1) m' σ' H') ∧ ∀ x H', (Itl K a).yld i H x H' → g x σ H' fun σ2 H2 => tb { D with nx := N, ct := N, bk := D.nx } σ2 H2) := by
  refine ⟨fun i m σ H => m = xs.length - i ∧ i ≤ xs.length ∧ Pv i σ H, ⟨xs.length, by simp, Nat.zero_le _, h0⟩, ?_⟩
  rintro i m σ H ⟨rfl, hi, p⟩
  have q := hl i σ H hi p
  by_cases hlt : i < xs.length
  · refine .inr ⟨⟨xs, xs[i], q, by simp [hlt]⟩, Pv (i + 1), fun σ' H' p' => ⟨xs.length - (i + 1), by omega, rfl, hlt, p'⟩, fun x H' y => ?_⟩
    obtain ⟨e, y⟩ := y
    subst e
    exact hs i x σ _ (y xs q) p
  · have e : i = xs.length := by omega
    subst e
    exact .inl ⟨⟨xs, q, Nat.le_refl _⟩, hd σ H p⟩
theorem for_tup {K : PySem.W.Frag} {a : Addr} {xs : List V} {g : TG} {tb : TS} {D : Ends} {σ : St} {H : Hp} (Pv : Nat → St → Hp → Prop) (h0 : Pv 0 σ H) (hl : ∀ i σ H, i ≤ xs.length → Pv i σ H → SqT K H a xs)
    (hs : ∀ i x σ H, xs[i]? = some x → Pv i σ H → g x σ H fun σ2 H2 => tb { D with nx := Pv (i + 1), ct := Pv (i + 1), bk := D.nx } σ2 H2) (hd : ∀ σ H, Pv xs.length σ H → D.nx σ H) :
    ∃ W : Nat → Nat → St → Hp → Prop, (∃ m, W 0 m σ H) ∧ ∀ i m σ H, W i m σ H →
      ((Itt K a).stop i H ∧ D.nx σ H) ∨ ((Itt K a).go i H ∧ ∃ N : St → Hp → Prop, (∀ σ' H', N σ' H' → ∃ m', m' < m ∧ W (i + 1) m' σ' H') ∧ ∀ x H', (Itt K a).yld i H x H' → g x σ H' fun σ2 H2 => tb { D with nx := N, ct := N, bk := D.nx } σ2 H2) := by
  refine ⟨fun i m σ H => m = xs.length - i ∧ i ≤ xs.length ∧ Pv i σ H, ⟨xs.length, by simp, Nat.zero_le _, h0⟩, ?_⟩
  rintro i m σ H ⟨rfl, hi, p⟩
  have q := hl i σ H hi p
  by_cases hlt : i < xs.length
  · refine .inr ⟨⟨xs, xs[i], q, by simp [hlt]⟩, Pv (i + 1), fun σ' H' p' => ⟨xs.length - (i + 1), by omega, rfl, hlt, p'⟩, fun x H' y => ?_⟩
    obtain ⟨e, y⟩ := y
    subst e
    exact hs i x σ _ (y xs q) p
  · have e : i = xs.length := by omega
    subst e
    exact .inl ⟨⟨xs, q, Nat.le_refl _⟩, hd σ H p⟩
theorem for_range {lo : Int} {n : Nat} {g : TG} {tb : TS} {D : Ends} {σ : St} {H : Hp} (Pv : Nat → St → Hp → Prop) (h0 : Pv 0 σ H)
    (hs : ∀ i σ H, i < n → Pv i σ H → g (.int (lo + i)) σ H fun σ2 H2 => tb { D with nx := Pv (i + 1), ct := Pv (i + 1), bk := D.nx } σ2 H2) (hd : ∀ σ H, Pv n σ H → D.nx σ H) :
    ∃ W : Nat → Nat → St → Hp → Prop, (∃ m, W 0 m σ H) ∧ ∀ i m σ H, W i m σ H →
      ((Itr lo n).stop i H ∧ D.nx σ H) ∨ ((Itr lo n).go i H ∧ ∃ N : St → Hp → Prop, (∀ σ' H', N σ' H' → ∃ m', m' < m ∧ W (i + 1) m' σ' H') ∧ ∀ x H', (Itr lo n).yld i H x H' → g x σ H' fun σ2 H2 => tb { D with nx := N, ct := N, bk := D.nx } σ2 H2) := by
  refine ⟨fun i m σ H => m = n - i ∧ i ≤ n ∧ Pv i σ H, ⟨n, by simp, Nat.zero_le _, h0⟩, ?_⟩
  rintro i m σ H ⟨rfl, hi, p⟩
  by_cases hlt : i < n
  · refine .inr ⟨hlt, Pv (i + 1), fun σ' H' p' => ⟨n - (i + 1), by omega, rfl, hlt, p'⟩, fun x H' y => ?_⟩
    obtain ⟨e, y⟩ := y
    subst e y
    exact hs i σ _ hlt p
  · have e : i = n := by omega
    subst e
    exact .inl ⟨Nat.le_refl _, hd σ H p⟩
end L2

namespace L2
open PySem PySem.Spec PyProof.Rows

abbrev R2 := V → V → Hp → VK → Prop
/-- a two-place operation on values: f is binaryOp op, inplaceOp op or compareOp op -/
def OpR (X : Cx) (f : Value → Value → Sem Value) (r : R2) : Prop :=
  ∀ (pins : List (Addr × Obj)) (s : Shared) (σ : St) (H : Hp) (x y : V) (v u : Value) (Q : VK), Inv X pins σ H s → RelV x v → RelV y u → r x y H Q →
    wpAny (model X.prog X.w) X.A (f v u) (EP X pins σ Q) X.xe s
/-- a one-place operation -/
def UnR (X : Cx) (f : Value → Sem Value) (r : V → Hp → VK → Prop) : Prop :=
  ∀ (pins : List (Addr × Obj)) (s : Shared) (σ : St) (H : Hp) (x : V) (v : Value) (Q : VK), Inv X pins σ H s → RelV x v → r x H Q →
    wpAny (model X.prog X.w) X.A (f v) (EP X pins σ Q) X.xe s
/-- a call of a value that is known (a builtin, a type) with values -/
def CallR (X : Cx) (f : Value) (r : List V → Hp → VK → Prop) : Prop :=
  ∀ (pins : List (Addr × Obj)) (s : Shared) (σ : St) (H : Hp) (xs : List V) (us : List Value) (Q : VK), Inv X pins σ H s → Vals xs us → r xs H Q →
    wpAny (model X.prog X.w) X.A (call f us) (EP X pins σ Q) X.xe s
/-- a value's truth -/
def TruR (X : Cx) (r : V → Hp → (Bool → Hp → Prop) → Prop) : Prop :=
  ∀ (pins : List (Addr × Obj)) (s : Shared) (σ : St) (H : Hp) (x : V) (v : Value) (Q : Bool → Hp → Prop), Inv X pins σ H s → RelV x v → r x H Q →
    wpAny (model X.prog X.w) X.A (truthy v) (TP X pins σ Q) X.xe s

def tOp (r : R2) (ta tb : TE) : TE := fun σ H Q => ta σ H fun x H1 => tb σ H1 fun y H2 => r x y H2 Q
def tUn (r : V → Hp → VK → Prop) (ta : TE) : TE := fun σ H Q => ta σ H fun x H1 => r x H1 Q
/-- ints in, under C, and a value out -/
def rI (C : Int → Int → Prop) (g : Int → Int → V) : R2 := fun x y H Q => ∃ i j, x = .int i ∧ y = .int j ∧ C i j ∧ Q (g i j) H
def rI0 (g : Int → Int → V) : R2 := fun x y H Q => ∃ i j, x = .int i ∧ y = .int j ∧ Q (g i j) H
def rU (g : Int → V) : V → Hp → VK → Prop := fun x H Q => ∃ i, x = .int i ∧ Q (g i) H

section
variable {X : Cx} {a b c : Expr} {ta tb tc : TE} {pos : Pos}

theorem binT (ha : PE X a ta) (hb : PE X b tb) {pins : List (Addr × Obj)} {s : Shared} {σ : St} {H : Hp} {R : V → V → Hp → Prop} (I : Inv X pins σ H s)
    (h : ta σ H fun x H1 => tb σ H1 fun y H2 => R x y H2) {Q : Value → Shared → Prop} {f : Value → Value → Sem Value}
    (hf : ∀ v u s2 x y H2, Inv X pins σ H2 s2 → RelV x v → RelV y u → R x y H2 → wpAny (model X.prog X.w) X.A (f v u) Q X.xe s2) :
    wpAny (model X.prog X.w) X.A (eval a X.env) (fun v s₁ => wpAny (model X.prog X.w) X.A (eval b X.env) (fun u s₂ => wpAny (model X.prog X.w) X.A (f v u) Q X.xe s₂) X.xe s₁) X.xe s := by
  refine thn (ha pins s σ H _ I h) fun v s1 ⟨x, H1, I1, r1, q1⟩ => ?_
  refine thn (hb pins s1 σ H1 _ I1 q1) fun u s2 ⟨y, H2, I2, r2, q2⟩ => ?_
  exact hf v u s2 x y H2 I2 r1 r2 q2

theorem pe_op {op : Operator} {r : R2} (ho : OpR X (binaryOp op) r) (ha : PE X a ta) (hb : PE X b tb) : PE X (.BinOp a op b pos) (tOp r ta tb) := by
  intro pins s σ H Q I h
  exact wpAny_BinOp (binT ha hb I h fun v u s2 x y H2 I2 rx ry q => ho pins s2 σ H2 x y v u Q I2 rx ry q)
theorem pe_un {op : UnaryOp} {r : V → Hp → VK → Prop} (ho : UnR X (unaryOp op) r) (ha : PE X a ta) : PE X (.UnaryOp op a pos) (tUn r ta) := by
  intro pins s σ H Q I h
  exact UnaryOp_ (thn (ha pins s σ H _ I h) fun v s1 ⟨x, H1, I1, r1, q1⟩ => ho pins s1 σ H1 x v Q I1 r1 q1)

/-! ### ints -/
theorem opI {f : Value → Value → Sem Value} {C : Int → Int → Prop} {g : Int → Int → Int}
    (rule : ∀ (i j : Int) (t u : Tok) (s : Shared) (Q : Value → Shared → Prop) (E : Value → Shared → Prop), C i j → Q (.int (g i j) s.toks) { s with toks := s.toks + 1 } → wpAny (model X.prog X.w) X.A (f (.int i t) (.int j u)) Q E s) :
    OpR X f (rI C fun i j => .int (g i j)) := by
  intro pins s σ H x y v u Q I rx ry h
  obtain ⟨i, j, rfl, rfl, hc, q⟩ := h
  obtain ⟨t, rfl⟩ := rx
  obtain ⟨t', rfl⟩ := ry
  exact rule i j t t' s _ _ hc ⟨.int (g i j), H, I.tok _, ⟨_, rfl⟩, q⟩
theorem opI0 {f : Value → Value → Sem Value} {g : Int → Int → Int}
    (rule : ∀ (i j : Int) (t u : Tok) (s : Shared) (Q : Value → Shared → Prop) (E : Value → Shared → Prop), Q (.int (g i j) s.toks) { s with toks := s.toks + 1 } → wpAny (model X.prog X.w) X.A (f (.int i t) (.int j u)) Q E s) :
    OpR X f (rI0 fun i j => .int (g i j)) := by
  intro pins s σ H x y v u Q I rx ry h
  obtain ⟨i, j, rfl, rfl, q⟩ := h
  obtain ⟨t, rfl⟩ := rx
  obtain ⟨t', rfl⟩ := ry
  exact rule i j t t' s _ _ ⟨.int (g i j), H, I.tok _, ⟨_, rfl⟩, q⟩
theorem opB0 {f : Value → Value → Sem Value} {g : Int → Int → Bool}
    (rule : ∀ (i j : Int) (t u : Tok) (s : Shared) (Q : Value → Shared → Prop) (E : Value → Shared → Prop), Q (.bool (g i j)) s → wpAny (model X.prog X.w) X.A (f (.int i t) (.int j u)) Q E s) :
    OpR X f (rI0 fun i j => .bl (g i j)) := by
  intro pins s σ H x y v u Q I rx ry h
  obtain ⟨i, j, rfl, rfl, q⟩ := h
  obtain ⟨t, rfl⟩ := rx
  obtain ⟨t', rfl⟩ := ry
  exact rule i j t t' s _ _ ⟨.bl (g i j), H, I, rfl, q⟩

def CDiv (i j : Int) : Prop := 0 < j ∧ j < 1073741824
def CDivN (i j : Int) : Prop := j ≠ 0 ∧ j.natAbs < 1073741824
def CPow (i j : Int) : Prop := 0 ≤ j ∧ j ≤ 1000000 ∧ i.natAbs < 2 ^ 64
def CMul (i j : Int) : Prop := (-(2 ^ 64) < i ∧ i < 2 ^ 64) ∨ (-(2 ^ 64) < j ∧ j < 2 ^ 64)
theorem CMul.ok {i j : Int} (h : CMul i j) : IntMulOk i j := by
  rcases h with ⟨h1, h2⟩ | ⟨h1, h2⟩
  · exact .of_left (intBits_le_64 h1 h2)
  · exact .of_right (intBits_le_64 h1 h2)

theorem op_add : OpR X (binaryOp .Add) (rI0 fun i j => .int (i + j)) := opI0 fun _ _ _ _ _ _ _ q => add_int q
theorem op_sub : OpR X (binaryOp .Sub) (rI0 fun i j => .int (i - j)) := opI0 fun _ _ _ _ _ _ _ q => sub_int q
theorem op_mul : OpR X (binaryOp .Mult) (rI CMul fun i j => .int (i * j)) := opI fun _ _ _ _ _ _ _ hc q => mul_int q hc.ok
/-- // by a positive divisor -/
theorem op_fdiv : OpR X (binaryOp .FloorDiv) (rI CDiv fun i j => .int (i / j)) := opI fun i j _ _ _ _ _ hc q => by
  have h1 : (0 : Int) < j := hc.1
  have h2 : j < 1073741824 := hc.2
  exact floordiv_int (by omega) (by rw [Int.fdiv_eq_ediv_of_nonneg i (by omega)]; exact q) (.inl (PyProof.noPylong_small (by omega)))
/-- % by a positive divisor of any size -/
theorem op_mod : OpR X (binaryOp .Mod) (rI (fun _ j => 0 < j) fun i j => .int (i % j)) := opI fun i j _ _ _ _ _ hc q => by
  have h1 : (0 : Int) < j := hc
  exact mod_int' (by omega) (by rw [Int.fmod_eq_emod_of_nonneg i (by omega)]; exact q)
theorem op_pow : OpR X (binaryOp .Pow) (rI CPow fun i j => .int (i ^ j.toNat)) := opI fun _ _ _ _ _ _ _ hc q => pow_int_small hc.1 hc.2.1 hc.2.2 q


theorem unI {f : Value → Sem Value} {g : Int → Int}
    (rule : ∀ (i : Int) (t : Tok) (s : Shared) (Q : Value → Shared → Prop) (E : Value → Shared → Prop), Q (.int (g i) s.toks) { s with toks := s.toks + 1 } → wpAny (model X.prog X.w) X.A (f (.int i t)) Q E s) :
    UnR X f (rU fun i => .int (g i)) := by
  intro pins s σ H x v Q I rx h
  obtain ⟨i, rfl, q⟩ := h
  obtain ⟨t, rfl⟩ := rx
  exact rule i t s _ _ ⟨.int (g i), H, I.tok _, ⟨_, rfl⟩, q⟩
theorem un_neg : UnR X (unaryOp .USub) (rU fun i => .int (-i)) := unI fun _ _ _ _ _ q => neg_int q

/-! ### bools among ints: n += (a < b) -/
end

/-! ### comparisons -/
/-- the scalars that == tells apart as data does -/
def scal : V → V → Bool
  | .non, .non => true | .non, .int _ => true | .int _, .non => true | .non, .bl _ => true | .bl _, .non => true | .non, .str _ => true | .str _, .non => true
  | .int _, .int _ => true | .bl _, .bl _ => true | .str _, .str _ => true | .byt _, .byt _ => true
  | .int _, .str _ => true | .str _, .int _ => true | .bl _, .str _ => true | .str _, .bl _ => true
  | _, _ => false
def rEq : R2 := fun x y H Q => scal x y = true ∧ Q (.bl (decide (x = y))) H
def rNe : R2 := fun x y H Q => scal x y = true ∧ Q (.bl (!decide (x = y))) H

theorem dec_int {i j : Int} : decide (V.int i = V.int j) = (i == j) := by
  rw [Bool.eq_iff_iff]
  simp
theorem dec_bl {i j : Bool} : decide (V.bl i = V.bl j) = (i == j) := by
  rw [Bool.eq_iff_iff]
  simp
theorem dec_str {i j : Str} : decide (V.str i = V.str j) = (i == j) := by
  rw [Bool.eq_iff_iff]
  simp
theorem dec_byt {i j : Array UInt8} : decide (V.byt i = V.byt j) = (i.toList == j.toList) := by
  rw [Bool.eq_iff_iff]
  cases i
  cases j
  simp

section
variable {X : Cx} {a b c : Expr} {ta tb tc : TE} {pos : Pos}
theorem fin_bl {pins : List (Addr × Obj)} {σ : St} {H : Hp} {s : Shared} {Q : VK} {k k' : Bool} (I : Inv X pins σ H s) (q : Q (.bl k) H) (e : k = k') : EP X pins σ Q (.bool k') s := by
  subst e
  exact ⟨.bl k, H, I, rfl, q⟩
theorem op_eq : OpR X (compareOp .Eq) rEq := by
  intro pins s σ H x y v u Q I rx ry h
  obtain ⟨hs, q⟩ := h
  cases x with
  | non =>
    cases rx
    cases y with
    | non => cases ry; exact PySem.EqNone.eq_none_none (fin_bl I q (by simp))
    | bl j => cases ry; exact PySem.EqNone.eq_none_bool (fin_bl I q (by simp))
    | int j => obtain ⟨t', rfl⟩ := ry; exact PySem.EqNone.eq_none_int (fin_bl I q (by simp))
    | str j => obtain ⟨t', rfl⟩ := ry; exact PySem.EqNone.eq_none_str (fin_bl I q (by simp))
    | _ => exact absurd (show false = true from hs) Bool.false_ne_true
  | bl i =>
    cases rx
    cases y with
    | non => cases ry; exact PySem.EqNone.eq_bool_none (fin_bl I q (by simp))
    | bl j => cases ry; exact eq_bool (fin_bl I q dec_bl)
    | str j => obtain ⟨t', rfl⟩ := ry; exact PySem.EqMixed.eq_bool_str (fin_bl I q (by simp))
    | _ => exact absurd (show false = true from hs) Bool.false_ne_true
  | int i =>
    obtain ⟨t, rfl⟩ := rx
    cases y with
    | non => cases ry; exact PySem.EqNone.eq_int_none (fin_bl I q (by simp))
    | int j => obtain ⟨t', rfl⟩ := ry; exact eq_int (fin_bl I q dec_int)
    | str j => obtain ⟨t', rfl⟩ := ry; exact PySem.EqMixed.eq_int_str (fin_bl I q (by simp))
    | _ => exact absurd (show false = true from hs) Bool.false_ne_true
  | str i =>
    obtain ⟨t, rfl⟩ := rx
    cases y with
    | non => cases ry; exact PySem.EqNone.eq_str_none (fin_bl I q (by simp))
    | bl j => cases ry; exact PySem.EqMixed.eq_str_bool (fin_bl I q (by simp))
    | int j => obtain ⟨t', rfl⟩ := ry; exact PySem.EqMixed.eq_str_int (fin_bl I q (by simp))
    | str j => obtain ⟨t', rfl⟩ := ry; exact eq_str (fin_bl I q dec_str)
    | _ => exact absurd (show false = true from hs) Bool.false_ne_true
  | byt i =>
    obtain ⟨t, rfl⟩ := rx
    cases y with
    | byt j => obtain ⟨t', rfl⟩ := ry; exact PySem.W.eq_bytes (fin_bl I q dec_byt)
    | _ => exact absurd (show false = true from hs) Bool.false_ne_true
  | _ => cases y <;> exact absurd (show false = true from hs) Bool.false_ne_true
theorem op_ne : OpR X (compareOp .NotEq) rNe := by
  intro pins s σ H x y v u Q I rx ry h
  obtain ⟨hs, q⟩ := h
  cases x with
  | non =>
    cases rx
    cases y with
    | non => cases ry; exact PySem.EqNone.ne_none_none (fin_bl I q (by simp))
    | bl j => cases ry; exact PySem.EqNone.ne_none_bool (fin_bl I q (by simp))
    | int j => obtain ⟨t', rfl⟩ := ry; exact PySem.EqNone.ne_none_int (fin_bl I q (by simp))
    | str j => obtain ⟨t', rfl⟩ := ry; exact PySem.EqNone.ne_none_str (fin_bl I q (by simp))
    | _ => exact absurd (show false = true from hs) Bool.false_ne_true
  | bl i =>
    cases rx
    cases y with
    | non => cases ry; exact PySem.EqNone.ne_bool_none (fin_bl I q (by simp))
    | bl j => cases ry; exact ne_bool (fin_bl I q (congrArg not dec_bl))
    | str j => obtain ⟨t', rfl⟩ := ry; exact PySem.EqMixed.ne_bool_str (fin_bl I q (by simp))
    | _ => exact absurd (show false = true from hs) Bool.false_ne_true
  | int i =>
    obtain ⟨t, rfl⟩ := rx
    cases y with
    | non => cases ry; exact PySem.EqNone.ne_int_none (fin_bl I q (by simp))
    | int j => obtain ⟨t', rfl⟩ := ry; exact ne_int (fin_bl I q (congrArg not dec_int))
    | str j => obtain ⟨t', rfl⟩ := ry; exact PySem.EqMixed.ne_int_str (fin_bl I q (by simp))
    | _ => exact absurd (show false = true from hs) Bool.false_ne_true
  | str i =>
    obtain ⟨t, rfl⟩ := rx
    cases y with
    | non => cases ry; exact PySem.EqNone.ne_str_none (fin_bl I q (by simp))
    | bl j => cases ry; exact PySem.EqMixed.ne_str_bool (fin_bl I q (by simp))
    | int j => obtain ⟨t', rfl⟩ := ry; exact PySem.EqMixed.ne_str_int (fin_bl I q (by simp))
    | str j => obtain ⟨t', rfl⟩ := ry; exact ne_str (fin_bl I q (congrArg not dec_str))
    | _ => exact absurd (show false = true from hs) Bool.false_ne_true
  | byt i =>
    obtain ⟨t, rfl⟩ := rx
    cases y with
    | byt j => obtain ⟨t', rfl⟩ := ry; exact PySem.W.ne_bytes (fin_bl I q (congrArg not dec_byt))
    | _ => exact absurd (show false = true from hs) Bool.false_ne_true
  | _ => cases y <;> exact absurd (show false = true from hs) Bool.false_ne_true

theorem op_lt : OpR X (compareOp .Lt) (rI0 fun i j => .bl (decide (i < j))) := opB0 fun _ _ _ _ _ _ _ q => lt_int q
theorem op_le : OpR X (compareOp .LtE) (rI0 fun i j => .bl (decide (i ≤ j))) := opB0 fun _ _ _ _ _ _ _ q => le_int q
theorem op_gt : OpR X (compareOp .Gt) (rI0 fun i j => .bl (decide (j < i))) := opB0 fun _ _ _ _ _ _ _ q => gt_int q


/-- is, is not of two objects that are tracked lists or instances -/
def isObj : HO → Bool
  | .lst _ => true
  | .ins _ _ _ => true
  | _ => false


theorem nomark (b : Expr) {op : CmpOp} (h : op ≠ .In := by decide) (h2 : op ≠ .NotIn := by decide) : behindInMarks op b = false := by
  have e1 : (op == CmpOp.In) = false := by cases op <;> first | rfl | exact absurd rfl h
  have e2 : (op == CmpOp.NotIn) = false := by cases op <;> first | rfl | exact absurd rfl h2
  cases b <;> simp [behindInMarks, e1, e2]
/-- a comparison as a value; hm: nomark b, or (for in, not in) by with_unfolding_all rfl -/
theorem pe_cmpR {op : CmpOp} {r : R2} (ho : OpR X (compareOp op) r) (ha : PE X a ta) (hb : PE X b tb) (hm : behindInMarks op b = false) : PE X (.Compare a [op] [b] pos) (tOp r ta tb) := by
  intro pins s σ H Q I h
  exact wpAny_Compare1 (binT ha hb I h fun v u s2 x y H2 I2 rx ry q => ho pins s2 σ H2 x y v u Q I2 rx ry q) hm
/-- a reading of a value as a test -/
def tTest (t : TE) : TT := fun σ H Q => t σ H fun x H' => ∃ k, x = .bl k ∧ Q k H'
theorem pt_cmpR {op : CmpOp} {r : R2} (ho : OpR X (compareOp op) r) (ha : PE X a ta) (hb : PE X b tb) (hm : behindInMarks op b = false) : PT X (.Compare a [op] [b] pos) (tTest (tOp r ta tb)) := by
  intro pins s σ H Q I h
  refine wpAny_isTrue_Compare1 (thn (ha pins s σ H _ I h) fun v s1 ⟨x, H1, I1, r1, q1⟩ => thn (hb pins s1 σ H1 _ I1 q1) fun u s2 ⟨y, H2, I2, r2, q2⟩ =>
    thn (ho pins s2 σ H2 x y v u _ I2 r1 r2 q2) fun c s3 ⟨z, H3, I3, r3, k, e, q3⟩ => ?_) hm
  subst e
  cases r3
  exact wpAny_truthy_bool ⟨H3, I3, q3⟩
/-- a op1 b op2 c -/
def tChain (r r' : R2) (ta tb tc : TE) : TE := fun σ H Q => ta σ H fun x H1 => tb σ H1 fun y H2 => r x y H2 fun z H3 => ∃ k, z = .bl k ∧
  (if k = true then tc σ H3 fun w' H4 => r' y w' H4 Q else Q (.bl false) H3)
theorem pt_chain {op op' : CmpOp} {r r' : R2} (ho : OpR X (compareOp op) r) (ho' : OpR X (compareOp op') r') (ha : PE X a ta) (hb : PE X b tb) (hc : PE X c tc)
    (hm : lastMarks [op, op'] [b, c] = false := by with_unfolding_all rfl) : PT X (.Compare a [op, op'] [b, c] pos) (tTest (tChain r r' ta tb tc)) := by
  intro pins s σ H Q I h
  refine isTrue_chain (thn (ha pins s σ H _ I h) fun v s1 ⟨x, H1, I1, r1, q1⟩ => test_link (thn (hb pins s1 σ H1 _ I1 q1) fun u s2 ⟨y, H2, I2, r2, q2⟩ =>
    thn (ho pins s2 σ H2 x y v u _ I2 r1 r2 q2) fun d s3 ⟨z, H3, I3, r3, k, e, q3⟩ => ?_)) hm
  subst e
  cases r3
  refine wpAny_truthy_bool ?_
  cases k with
  | false =>
    obtain ⟨k', e', q'⟩ := q3
    cases e'
    exact ite_ff ⟨H3, I3, q'⟩
  | true =>
    refine ite_tt (test_last (thn (hc pins s3 σ H3 _ I3 q3) fun w' s4 ⟨z', H4, I4, r4, q4⟩ => thn (ho' pins s4 σ H4 y z' u w' _ I4 r2 r4 q4) fun d' s5 ⟨z2, H5, I5, r5, k2, e2, q5⟩ => ?_))
    subst e2
    cases r5
    exact wpAny_truthy_bool ⟨H5, I5, q5⟩

/-! ### truth -/
/-- a value's truth by the abstract heap -/
def TruV (K : PySem.W.Frag) (x : V) (H : Hp) (k : Bool) : Prop :=
  match x with
  | .non => k = false
  | .bl b => k = b
  | .int i => k = (i != 0)
  | .str y => y.length ≤ sizeLine ∧ k = ((y.length : Int) != 0)
  | .byt y => y.size ≤ sizeLine ∧ k = ((y.size : Int) != 0)
  | .ref p => (∃ xs, SqL K H p xs ∧ k = !xs.isEmpty) ∨ (∃ xs, SqT K H p xs ∧ k = !xs.isEmpty) ∨ ∃ kvs, H p = some (.dK kvs) ∧ k = !kvs.isEmpty
  | _ => False
theorem line63 : (sizeLine : Nat) < 2 ^ 63 := by rw [sizeLine_eq]; decide

/-! ### strs and bytes -/

def PlainIxT (b : Expr) : Prop := ∀ o i, subscripted b false o i = operate [o, i] (getItem o i)

/-! ### scalar builtins, by CallR -/
theorem vals1 {x : V} {us : List Value} (r : Vals [x] us) : ∃ u, us = [u] ∧ RelV x u := by
  cases r with
  | cons r1 r2 => cases r2; exact ⟨_, rfl, r1⟩
/-- len of a str, a bytes, a list, a tuple -/
def LenV (K : PySem.W.Frag) (x : V) (H : Hp) (n : Nat) : Prop :=
  match x with
  | .str y => y.length ≤ sizeLine ∧ n = y.length
  | .byt y => y.size ≤ sizeLine ∧ n = y.size
  | .ref p => (∃ xs, SqL K H p xs ∧ n = xs.length) ∨ ∃ xs, SqT K H p xs ∧ n = xs.length
  | _ => False
end
end L2

namespace L2
open PySem PySem.Spec PyProof.Rows

/-! ### an instance, its attributes a map -/
structure ObjM (h : Heap) (x dx C : Addr) (mA : Str → Option Value) : Prop where
  obj : h.get? x = some (PySem.W.instObj C dx)
  ns : h.Ns1 dx mA
  ne : dx ≠ x

theorem lookIn_ns {h : Heap} {dx : Addr} {mA : Str → Option Value} (n : h.Ns1 dx mA) : ∃ od, h.get? dx = some od ∧ ∀ name, PySem.W.lookIn name od = some (mA name) := by
  obtain ⟨o, es, ep, ho, hd, hk, _, hm⟩ := n
  refine ⟨o, ho, fun name => ?_⟩
  have e := hm name
  unfold nsFind findBy at e
  rw [← Array.find?_toList] at e
  unfold PySem.W.lookIn
  rw [hd]
  dsimp only
  split
  · rename_i y q
    rw [q] at e
    exact congrArg some e
  · rename_i q
    rw [q] at e
    have a : es.toList.any (·.refKey) = false := by
      rw [List.any_eq_false]
      intro y hy
      obtain ⟨z, t, hkey⟩ := hk y (Array.mem_toList_iff.mp hy)
      simp [DictEntry.refKey, hkey]
    have a' : ¬ es.toList.any (·.refKey) = true := by rw [a]; exact Bool.false_ne_true
    rw [if_neg a']
    exact congrArg some e

theorem ObjM.look {h : Heap} {x dx C : Addr} {mA : Str → Option Value} (I : ObjM h x dx C mA) : ∃ od, PySem.W.InstAt h x (PySem.W.instObj C dx) C (some od) ∧ ∀ name, PySem.W.lookIn name od = some (mA name) :=
  let ⟨od, ho, hl⟩ := lookIn_ns I.ns
  ⟨od, ⟨I.obj, rfl, rfl, ho⟩, hl⟩

section
variable {prog : Program} {w : World} {A : Around} {E : Value → Shared → Prop} {s : Shared} {K : PySem.W.Frag} {x dx C f : Addr} {mA : Str → Option Value} {name : Str} {v : Value}

theorem get_map {expr : Bool} {Q : Value → Shared → Prop} (X : K.In s.heap) (I : ObjM s.heap x dx C mA) (hg : PySem.W.plainGet K C name = true) (hh : PySem.W.hasDictIn K C = true)
    (ha : PySem.W.findIn K (.ref C) name = some none) (hv : mA name = some v) (hv' : PySem.W.handedIn v = true) (h : Q v { s with toks := s.toks + 1 }) :
    wpAny (model prog w) A (getAttr (.ref x) name expr) Q E s := by
  obtain ⟨od, J, hl⟩ := I.look
  exact PySem.W.get_value X J (PySem.W.plainGet_of hg).1 (PySem.W.findObj_own hh ha rfl (by rw [hl, hv])) hv' h


theorem get_meth {pl : Sem Bool} {Q : Value × List Value → Shared → Prop} (X : K.In s.heap) (I : ObjM s.heap x dx C mA) (hg : PySem.W.plainGet K C name = true)
    (hf : PySem.W.findIn K (.ref C) name = some (some (.ref f))) (ht : PySem.W.isFn K (.ref f) = true) (hv : mA name = none) (h : Q (.ref f, [.ref x]) s) :
    wpAny (model prog w) A (getMethod (.ref x) name pl) Q E s := by
  obtain ⟨od, J, hl⟩ := I.look
  exact PySem.W.method_fn X J (PySem.W.plainGet_of hg).1 (PySem.W.plainGet_of hg).2 hf (beq_iff_eq.mp ht) (by show (PySem.W.lookIn name od).map (·.isSome) = some false; rw [hl, hv]; rfl) h

theorem set_map {ns : List Str} {Q : Unit → Shared → Prop} (X : K.In s.heap) (I : ObjM s.heap x dx C mA)
    (hs : PySem.W.findIn K (.ref C) "__setattr__" = some (some (.builtin "object.__setattr__"))) (hp : PySem.W.plainOver K C = true) (ht : PySem.W.takerIn K C name = some none) (hh : PySem.W.hasDictIn K C = true)
    (hw : PySem.Within mA ns) (hsz : ns.length ≤ sizeLine)
    (h : ∀ h', ObjM h' x dx C (fun y => if y = name then some v else mA y) → Heap.SameBut dx s.heap h' → Q () { s with heap := h', toks := s.toks + 2 }) :
    wpAny (model prog w) A (setAttr (.ref x) name v) Q E s := by
  obtain ⟨od, J, hl⟩ := I.look
  refine PySem.W.set_plain X J hs (PySem.W.osa_open (s := { s with toks := s.toks + 1 }) (r := none) X J hp ht fun b => ?_)
  obtain ⟨cd, hc, hd'⟩ := PySem.W.any_some hh
  have hx : s.heap.get? x = some ⟨.ref C, some dx, .plain, #[]⟩ := I.obj
  refine wpAny_bind (wpAny_pure (wpAny_bind (wpAny_bind (wpAny_loadPart hx (wpAny_bind (PySem.W.Looks.here (s := { s with toks := s.toks + 1 }) (PySem.W.looks_clsIn X hc) ?_))))))
  rw [hd']
  refine wpAny_pure (a := some dx) (wpAny_bind (wpAny_pure (wpAny_bind ?_)))
  refine wpAny_nsSet1 (s := { s with toks := s.toks + 1 }) I.ns fun h' hn2 hs2 => ?_
  obtain ⟨oD, esD, epD, hoD, hdD, hcD⟩ := hn2.count (PySem.Within.cons name v hw)
  refine wpAny_bind (wpAny_lookBehind hoD (by rw [hdD]; exact pastItsLine_dict (Nat.le_trans hcD (by rw [List.length_cons]; omega))) ?_)
  exact wpAny_pure (h _ ⟨(hs2.2 _ (Ne.symm I.ne)).trans I.obj, hn2, I.ne⟩ hs2)

/-- C(..): the dict at the heap's end, the instance behind it; then its __init__ -/
theorem make_map {R : Result → Shared → Prop} {vs : List Value} {kw : List (Str × Value)} (X : K.In s.heap) (hm : PySem.W.makesIn K C = true)
    (hi : PySem.W.findIn K (.ref C) "__init__" = some (some (.ref f))) (hf : PySem.W.typeIn K (.ref f) = some (.type "function"))
    (h : codeAny (model prog w) (A.under (.builtin "type.__call__" ⟨.ref C :: vs, kw⟩)) (.call (.ref f) ⟨.ref (s.heap.objs.size + 1) :: vs, kw⟩) (PySem.W.InitBack (s.heap.objs.size + 1) R)
      { s with heap := (s.heap.push PySem.W.emptyDict).push (PySem.W.instObj C s.heap.objs.size) }) :
    codeAny (model prog w) A (.call (.ref C) ⟨vs, kw⟩) R s := by
  obtain ⟨hh, g, d, t, os⟩ := s
  exact PySem.W.make_core (PySem.W.makes_of X hm) (PySem.W.looks_findIn X hi) (fun self => PySem.W.bind_fn X self hf) (.inl rfl) h
end

/-! ### the attributes as a list of pairs -/
def putF (f : Str) (v : V) : List (Str × V) → List (Str × V)
  | [] => [(f, v)]
  | (g, x) :: r => if g = f then (g, v) :: r else (g, x) :: putF f v r
theorem lookup_putF (f g : Str) (v : V) : ∀ fs : List (Str × V), (putF f v fs).lookup g = if g = f then some v else fs.lookup g
  | [] => by
    show List.lookup g [(f, v)] = _
    by_cases h : g = f
    · have hb : (g == f) = true := beq_iff_eq.mpr h
      simp only [List.lookup, hb, if_pos h]
    · have hb : (g == f) = false := beq_eq_false_iff_ne.mpr h
      simp only [List.lookup, hb, if_neg h]
  | (k, x) :: r => by
    have ih := lookup_putF f g v r
    rw [show putF f v ((k, x) :: r) = (if k = f then (k, v) :: r else (k, x) :: putF f v r) from rfl]
    by_cases hk : k = f
    · rw [if_pos hk]
      by_cases h : g = k
      · have hb : (g == k) = true := beq_iff_eq.mpr h
        simp only [List.lookup, hb, if_pos (h.trans hk)]
      · have hb : (g == k) = false := beq_eq_false_iff_ne.mpr h
        simp only [List.lookup, hb, if_neg (fun e : g = f => h (e.trans hk.symm))]
    · rw [if_neg hk]
      by_cases h : g = k
      · have hb : (g == k) = true := beq_iff_eq.mpr h
        simp only [List.lookup, hb, if_neg (fun e : g = f => hk (h.symm.trans e))]
      · have hb : (g == k) = false := beq_eq_false_iff_ne.mpr h
        simp only [List.lookup, hb]
        exact ih
theorem keys_putF (f : Str) (v : V) : ∀ fs : List (Str × V), f ∈ (putF f v fs).map (·.1) ∧ ∀ g, g ∈ fs.map (·.1) → g ∈ (putF f v fs).map (·.1)
  | [] => ⟨by simp [putF], fun g h => by simp at h⟩
  | (k, x) :: r => by
    obtain ⟨i1, i2⟩ := keys_putF f v r
    rw [show putF f v ((k, x) :: r) = (if k = f then (k, v) :: r else (k, x) :: putF f v r) from rfl]
    by_cases hk : k = f
    · rw [if_pos hk]
      subst hk
      exact ⟨by simp, fun g h => by simpa using h⟩
    · rw [if_neg hk]
      refine ⟨?_, fun g h => ?_⟩
      · rw [List.map_cons]
        exact List.mem_cons_of_mem _ i1
      · rw [List.map_cons] at h ⊢
        rcases List.mem_cons.mp h with e | e
        · exact List.mem_cons.mpr (.inl e)
        · exact List.mem_cons_of_mem _ (i2 g e)
theorem length_putF (f : Str) (v : V) : ∀ fs : List (Str × V), (putF f v fs).length ≤ fs.length + 1
  | [] => by simp [putF]
  | (k, x) :: r => by
    have ih := length_putF f v r
    rw [show putF f v ((k, x) :: r) = (if k = f then (k, v) :: r else (k, x) :: putF f v r) from rfl]
    by_cases hk : k = f
    · rw [if_pos hk, List.length_cons, List.length_cons]; omega
    · rw [if_neg hk, List.length_cons, List.length_cons]; omega

theorem RelO.some_of {v : V} {o : Option Value} (r : RelO (some v) o) : ∃ u, o = some u ∧ RelV v u := by
  cases o with
  | none => exact (show False from r).elim
  | some u => exact ⟨u, rfl, r⟩
theorem RelO.none_of {o : Option Value} (r : RelO none o) : o = none := by
  cases o with
  | none => rfl
  | some u => exact (show False from r).elim
theorem handed_of {v : V} {u : Value} (r : RelV v u) : PySem.W.handedIn u = true := by
  cases v with
  | non => cases (show u = Value.none from r); rfl
  | bl b => cases (show u = Value.bool b from r); rfl
  | int i => obtain ⟨t, e⟩ := (show ∃ t, u = Value.int i t from r); cases e; rfl
  | str x => obtain ⟨t, e⟩ := (show ∃ t, u = Value.str x t from r); cases e; rfl
  | byt b => obtain ⟨t, e⟩ := (show ∃ t, u = Value.bytes b t from r); cases e; rfl
  | flt b => obtain ⟨t, e⟩ := (show ∃ t, u = Value.float b t from r); cases e; rfl
  | ref a => cases (show u = Value.ref a from r); rfl
  | ty n => cases (show u = Value.type n from r); rfl

section
variable {P : Program} {w : World} {H H' : Hp} {h h' : Heap} {a C dx : Addr} {fs fs' : List (Str × V)}
theorem ins_get (hok : HOk P w H h) (e : H a = some (.ins C dx fs)) : ∃ mA, ObjM h a dx C mA ∧ (∀ f, RelO (fs.lookup f) (mA f)) ∧ PySem.Within mA (fs.map (·.1)) ∧ fs.length ≤ 1000 ∧ H dx = some (.own a) := by
  obtain ⟨d, z, ne, ob, mA, n, r, q⟩ := (show ObjOk P w H h a (.ins C dx fs) from hok a _ e)
  exact ⟨mA, ⟨ob, n, ne⟩, r, q, z, d⟩
end

/-! ### what of the text a class must have -/
structure Cls (K : PySem.W.Frag) (C : Addr) : Prop where
  pg : PySem.W.plainGet K C Str.empty = true
  hd : PySem.W.hasDictIn K C = true
  po : PySem.W.plainOver K C = true
  sa : PySem.W.findIn K (.ref C) "__setattr__" = some (some (.builtin "object.__setattr__"))
theorem Cls.get {K : PySem.W.Frag} {C : Addr} (c : Cls K C) (f : Str) : PySem.W.plainGet K C f = true := c.pg
/-- no class of it has the name -/
def NoAttr (K : PySem.W.Frag) (C : Addr) (f : Str) : Prop := PySem.W.findIn K (.ref C) f = some none
theorem NoAttr.taker {K : PySem.W.Frag} {C : Addr} {f : Str} (n : NoAttr K C f) : PySem.W.takerIn K C f = some none := by
  unfold PySem.W.takerIn
  rw [show PySem.W.findIn K (.ref C) f = some none from n]
  rfl
/-- a constant of the class -/
structure Con (K : PySem.W.Frag) (C : Addr) (f : Str) (v : V) (u : Value) : Prop where
  at_ : PySem.W.findIn K (.ref C) f = some (some u)
  rel : RelV v u
  get : PySem.W.specialIn K u "__get__" = some none
  cp : PySem.W.copiedNames.contains f = false
/-- a method: a plain def of the class or of one above it -/
structure Meth (K : PySem.W.Frag) (C : Addr) (m : Str) (f : Addr) : Prop where
  at_ : PySem.W.findIn K (.ref C) m = some (some (.ref f))
  fn : PySem.W.isFn K (.ref f) = true
  kp : PySem.W.keepIn K (.ref f) = true

section
variable {X : Cx} {pins : List (Addr × Obj)} {σ : St} {H : Hp} {s : Shared} {a C dx : Addr} {fs : List (Str × V)} {f : Str} {v : V} {A : Around} {E : Value → Shared → Prop}

theorem getattr_ok {b : Bool} {Q : Value → Shared → Prop} (I : Inv X pins σ H s) (e : H a = some (.ins C dx fs)) (c : Cls X.K C) (n : NoAttr X.K C f) (l : fs.lookup f = some v)
    (h : ∀ u s', Inv X pins σ H s' → RelV v u → Q u s') : wpAny (model X.prog X.w) A (getAttr (.ref a) f b) Q E s := by
  obtain ⟨mA, O, r, _, _, _⟩ := ins_get I.hok e
  obtain ⟨u, hu, ru⟩ := RelO.some_of (v := v) (o := mA f) (by rw [← l]; exact r f)
  exact get_map I.kIn O (c.get f) c.hd n hu (handed_of ru) (h u _ (I.tok _) ru)


theorem getmeth_ok {m : Str} {g : Addr} {pl : Sem Bool} {Q : Value × List Value → Shared → Prop} (I : Inv X pins σ H s) (e : H a = some (.ins C dx fs)) (c : Cls X.K C) (k : Meth X.K C m g) (l : fs.lookup m = none)
    (h : Q (.ref g, [.ref a]) s) : wpAny (model X.prog X.w) A (getMethod (.ref a) m pl) Q E s := by
  obtain ⟨mA, O, r, _, _, _⟩ := ins_get I.hok e
  have hn : mA m = none := RelO.none_of (by rw [← l]; exact r m)
  exact get_meth I.kIn O (c.get m) k.at_ k.fn hn h

theorem setattr_ok {y : V} {u : Value} {Q : Unit → Shared → Prop} (I : Inv X pins σ H s) (e : H a = some (.ins C dx fs)) (c : Cls X.K C) (n : NoAttr X.K C f) (hl : fs.length < 1000) (ry : RelV y u)
    (h : ∀ s', Inv X pins σ (upd H a (.ins C dx (putF f y fs))) s' → Q () s') : wpAny (model X.prog X.w) A (setAttr (.ref a) f u) Q E s := by
  obtain ⟨mA, O, r, wi, _, ho⟩ := ins_get I.hok e
  have hz : (fs.map (·.1)).length ≤ sizeLine := by rw [List.length_map, sizeLine_eq]; omega
  refine set_map I.kIn O c.sa c.po n.taker c.hd wi hz fun h' O' sb => h _ ?_
  have hd : ∃ o, h'.get? dx = some o := let ⟨o, _, _, e', _⟩ := O'.ns; ⟨o, e'⟩
  refine I.write (x := a) (e := dx) (by rw [e]; exact True.intro) (.inr ho) (fun b q hb z => (sb.2 b hb).trans z) hd ?_
  refine ⟨by rw [upd_ne O.ne]; exact ho, ?_, O.ne, O'.obj, _, O'.ns, fun g => ?_, fun g hg => ?_⟩
  · have := length_putF f y fs; omega
  · show RelO ((putF f y fs).lookup g) (if g = f then some u else mA g)
    rw [lookup_putF]
    by_cases q : g = f
    · rw [if_pos q, if_pos q]; exact ry
    · rw [if_neg q, if_neg q]; exact r g
  · by_cases q : g = f
    · rw [q]; exact (keys_putF f y fs).1
    · refine (keys_putF f y fs).2 g (wi g fun z => hg ?_)
      show (if g = f then some u else mA g) = none
      rw [if_neg q]; exact z

/-- a new instance, tracked, without attributes -/
theorem Inv.made (I : Inv X pins σ H s) : Inv X pins σ (upd (upd H s.heap.objs.size (.own (s.heap.objs.size + 1))) (s.heap.objs.size + 1) (.ins C s.heap.objs.size []))
    { s with heap := (s.heap.push PySem.W.emptyDict).push (PySem.W.instObj C s.heap.objs.size) } := by
  have e1 : (s.heap.push PySem.W.emptyDict).get? s.heap.objs.size = some PySem.W.emptyDict := Heap.get?_push_size s.heap rfl
  have e2 : ((s.heap.push PySem.W.emptyDict).push (PySem.W.instObj C s.heap.objs.size)).get? (s.heap.objs.size + 1) = some (PySem.W.instObj C s.heap.objs.size) := by
    have := Heap.get?_push_size (s.heap.push PySem.W.emptyDict) (o := PySem.W.instObj C s.heap.objs.size) rfl
    rwa [Heap.size_push] at this
  have e3 : (s.heap.push PySem.W.emptyDict).Ns s.heap.objs.size (fun _ => none) := ⟨PySem.W.emptyDict, #[], _, e1, rfl, (fun e he => absurd he (by simp)), fun _ => rfl⟩
  have I1 := I.laid (a := s.heap.objs.size) (o := .own (s.heap.objs.size + 1)) (h' := s.heap.push PySem.W.emptyDict) (t' := s.toks) (fun b u q => Heap.get?_push_of_some _ q) (Nat.le_refl _) ⟨_, e1⟩
  refine I1.laid (a := s.heap.objs.size + 1) (o := .ins C s.heap.objs.size []) (t' := s.toks) (fun b u q => Heap.get?_push_of_some _ q) (Nat.le_of_eq (Heap.size_push _ _)) ?_
  have ne : s.heap.objs.size ≠ s.heap.objs.size + 1 := Nat.ne_of_lt (Nat.lt_succ_self _)
  refine ⟨by rw [upd_ne ne, upd_same], Nat.zero_le _, ne, e2, fun _ => none, (Heap.Ns1.of_empty e3).at fun o q => Heap.get?_push_of_some _ q, fun _ => True.intro, fun y hy => absurd rfl hy⟩

/-- e.f where nothing but the object is asked: through attributeBase (super) and the last hold -/
theorem attr_of {prog : Program} {w : World} {env : Env} {e : Expr} {f : Str} {pos : Pos} {s : Shared} {Q : Value → Shared → Prop} (hb : attributeBase e f env (eval e env) = eval e env)
    (h : wpAny (model prog w) A (eval e env) (fun o s₁ => wpAny (model prog w) A (getAttr o f true) Q E s₁) E s) : wpAny (model prog w) A (eval (.Attribute e f pos) env) Q E s :=
  Attribute_any_ h (by rw [arm_eval_Attribute, hb])
end

/-! ### readings and rules -/
/-- e.f, an attribute of the instance -/
def tFld (K : PySem.W.Frag) (ta : TE) (f : Str) : TE := fun σ H Q => ta σ H fun x H1 => ∃ a C dx fs v, x = .ref a ∧ H1 a = some (.ins C dx fs) ∧ Cls K C ∧ NoAttr K C f ∧ fs.lookup f = some v ∧ Q v H1
/-- e.f, a constant of the class -/
def tCon (K : PySem.W.Frag) (ta : TE) (f : Str) : TE := fun σ H Q => ta σ H fun x H1 => ∃ a C dx fs v u, x = .ref a ∧ H1 a = some (.ins C dx fs) ∧ Cls K C ∧ Con K C f v u ∧ fs.lookup f = none ∧ Q v H1
/-- e.f = value -/
def sFld (K : PySem.W.Frag) (ta tv : TE) (f : Str) : TS := fun D σ H => tv σ H fun y H1 => ta σ H1 fun x H2 => ∃ a C dx fs, x = .ref a ∧ H2 a = some (.ins C dx fs) ∧ Cls K C ∧ NoAttr K C f ∧ fs.length < 1000 ∧
  D.nx σ (upd H2 a (.ins C dx (putF f y fs)))
/-- an augmented operator on two values -/
def InOp (X : Cx) (op : Operator) (rd : V → V → Hp → VK → Prop) : Prop :=
  ∀ (pins : List (Addr × Obj)) (s : Shared) (σ : St) (H : Hp) (x y : V) (u v : Value) (Q : VK), Inv X pins σ H s → RelV x u → RelV y v → rd x y H Q → wpAny (model X.prog X.w) X.A (inplaceOp op u v) (EP X pins σ Q) X.xe s
/-- e.f op= value -/
def sFldAug (K : PySem.W.Frag) (ta tv : TE) (rd : V → V → Hp → VK → Prop) (f : Str) : TS := fun D σ H => ta σ H fun x H1 => ∃ a C dx fs v, x = .ref a ∧ H1 a = some (.ins C dx fs) ∧ Cls K C ∧ NoAttr K C f ∧ fs.lookup f = some v ∧
  tv σ H1 fun y H2 => rd v y H2 fun z H3 => ∃ dx' fs', H3 a = some (.ins C dx' fs') ∧ fs'.length < 1000 ∧ D.nx σ (upd H3 a (.ins C dx' (putF f z fs')))

section
variable {X : Cx} {o e value : Expr} {f : Str} {pos pos' tpos : Pos} {ta tv : TE}
theorem pe_fld (he : PE X e ta) (hb : attributeBase e f X.env (eval e X.env) = eval e X.env) : PE X (.Attribute e f pos) (tFld X.K ta f) := by
  intro pins s σ H Q I h
  refine attr_of hb (thn (he pins s σ H _ I h) fun u s1 ⟨x, H1, I1, rx, a, C, dx, fs, v, ex, ea, c, n, l, q⟩ => ?_)
  subst ex
  obtain rfl : u = Value.ref a := rx
  exact getattr_ok I1 ea c n l fun u' s2 I2 ru => ⟨v, H1, I2, ru, q⟩
theorem ps_fld (ha : PE X o ta) (hv : PE X value tv) (hs : swapsWith value (some (.Attribute o f pos')) pos.line X.env = pure false) : PS X (.Assign [.Attribute o f pos'] value pos) (sFld X.K ta tv f) := by
  intro pins s σ H D I h
  refine plainObj_wpAny_Assign_Attribute (thn (hv pins s σ H _ I h) fun u s1 ⟨y, H1, I1, ry, q⟩ => thn (ha pins s1 σ H1 _ I1 q) fun ov s2 ⟨x, H2, I2, rx, a, C, dx, fs, ex, ea, c, n, l, q2⟩ => ?_) hs
  subst ex
  obtain rfl : ov = Value.ref a := rx
  exact setattr_ok I2 ea c n l ry fun s3 I3 => ⟨σ, _, I3, q2⟩
def rAdd : V → V → Hp → VK → Prop := fun x y H Q => ∃ i j, x = .int i ∧ y = .int j ∧ Q (.int (i + j)) H
def rSub : V → V → Hp → VK → Prop := fun x y H Q => ∃ i j, x = .int i ∧ y = .int j ∧ Q (.int (i - j)) H

end

/-! ### isinstance -/
section
variable {X : Cx} {pins : List (Addr × Obj)} {σ : St} {H : Hp} {s : Shared} {A : Around} {E : Value → Shared → Prop} {Q : Value → Shared → Prop} {c : Value} {b : Bool}
/-- the type of a value, as the fragment's deciders take it; for an instance its class -/
inductive TyOf (K : PySem.W.Frag) (H : Hp) : V → Value → Prop where
  | non : TyOf K H .non (.type "NoneType")
  | bl (x : Bool) : TyOf K H (.bl x) (.type "bool")
  | int (i : Int) : TyOf K H (.int i) (.type "int")
  | str (x : Str) : TyOf K H (.str x) (.type "str")
  | flt (x : UInt64) : TyOf K H (.flt x) (.type "float")
  | lst {a : Addr} {xs : List V} (e : H a = some (.lst xs)) : TyOf K H (.ref a) (.type "list")
  | frz {a : Addr} {o : Obj} {xs : List V} (e : H a = some (.frz o (.lst xs))) : TyOf K H (.ref a) (.type "list")
  | tup {a : Addr} {xs : List V} (e : H a = some (.tup xs)) : TyOf K H (.ref a) (.type "tuple")
  | dK {a : Addr} {kvs : List (Key × V)} (e : H a = some (.dK kvs)) : TyOf K H (.ref a) (.type "dict")
  | dT {a : Addr} {kvs : List (List Key × V)} (e : H a = some (.dT kvs)) : TyOf K H (.ref a) (.type "dict")
  | ins {a C dx : Addr} {fs : List (Str × V)} (e : H a = some (.ins C dx fs)) (cl : Cls K C) (ha : PySem.W.findIn K (.ref C) "__class__" = some (some (.builtin "object.__class__")))
      (hn : PySem.W.specialIn K (.builtin "object.__class__") "__get__" = some (some (.builtin "getset_descriptor.__get__"))) (htk : PySem.W.takesIn K (.builtin "object.__class__") = some true)
      (hm : PySem.W.mroIn K C (.type "object") = some true) : TyOf K H (.ref a) (.ref C)
/-- isinstance(x, c) for one class c, a built-in or an own one: kitOne's answer -/
theorem isinst_ok {x : V} {u t : Value} (I : Inv X pins σ H s) (rx : RelV x u) (ty : TyOf X.K H x t) (e : PySem.W.kitOne X.K t c = some b) (h : ∀ tk, Q (.bool b) { s with toks := tk }) :
    wpAny (model X.prog X.w) A (call (.builtin "isinstance") [u, c]) Q E s := by
  cases ty with
  | non => cases (show u = Value.none from rx); exact PySem.W.kia_one PySem.W.kitx_none I.kIn True.intro e (fun z => nomatch z) h
  | bl y => cases (show u = Value.bool y from rx); exact PySem.W.kia_one PySem.W.kitx_bool I.kIn True.intro e (fun z => nomatch z) h
  | int i => obtain ⟨t, q⟩ := (show ∃ t, u = Value.int i t from rx); cases q; exact PySem.W.kia_one PySem.W.kitx_int I.kIn True.intro e (fun z => nomatch z) h
  | str y => obtain ⟨t, q⟩ := (show ∃ t, u = Value.str y t from rx); cases q; exact PySem.W.kia_one PySem.W.kitx_str I.kIn True.intro e (fun z => nomatch z) h
  | flt y => obtain ⟨t, q⟩ := (show ∃ t, u = Value.float y t from rx); cases q; exact PySem.W.kia_one PySem.W.kitx_float I.kIn True.intro e (fun z => nomatch z) h
  | @lst a xs ea =>
    cases (show u = Value.ref a from rx)
    obtain ⟨_, _, n, _, h1⟩ := (show ObjOk X.prog X.w H s.heap a (.lst xs) from I.hok a _ ea)
    exact PySem.W.kia_one PySem.W.kitx_list I.kIn ⟨_, h1, rfl⟩ e (fun z => nomatch z) h
  | @frz a ob xs ea =>
    cases (show u = Value.ref a from rx)
    obtain ⟨_, _, _, n, _, h1⟩ := (show ObjOk X.prog X.w H s.heap a (.frz ob (.lst xs)) from I.hok a _ ea)
    exact PySem.W.kia_one PySem.W.kitx_list I.kIn ⟨_, h1, rfl⟩ e (fun z => nomatch z) h
  | @tup a xs ea =>
    cases (show u = Value.ref a from rx)
    obtain ⟨_, _, _, p⟩ := (show ObjOk X.prog X.w H s.heap a (.tup xs) from I.hok a _ ea)
    obtain ⟨o, h1, h2, _⟩ := p.is
    exact PySem.W.kia_one PySem.W.kitx_tuple I.kIn ⟨o, h1, h2⟩ e (fun z => nomatch z) h
  | @dK a kvs ea =>
    cases (show u = Value.ref a from rx)
    obtain ⟨_, _, vs, _, p⟩ := (show ObjOk X.prog X.w H s.heap a (.dK kvs) from I.hok a _ ea)
    obtain ⟨o, es, ep, h1, h2, _⟩ := p
    exact PySem.W.kia_one PySem.W.kitx_dict I.kIn ⟨o, h1, h2.1⟩ e (fun z => nomatch z) h
  | @dT a kvs ea =>
    cases (show u = Value.ref a from rx)
    obtain ⟨_, _, xs, _, o, es, ep, h1, h2, _⟩ := (show ObjOk X.prog X.w H s.heap a (.dT kvs) from I.hok a _ ea)
    exact PySem.W.kia_one PySem.W.kitx_dict I.kIn ⟨o, h1, h2.1⟩ e (fun z => nomatch z) h
  | @ins a C dx fs ea cl ha hn htk hm =>
    cases (show u = Value.ref a from rx)
    obtain ⟨mA, O, _⟩ := ins_get I.hok ea
    obtain ⟨od, J, _⟩ := O.look
    exact PySem.W.kia_one (PySem.W.kitx_own (cl.get _) cl.hd ha hn htk hm) I.kIn J e (fun z => nomatch z) h
end
end L2

namespace L2
open PySem PySem.Spec PyProof.Rows

/-! ### room -/
structure Room (k : Nat) (A : Around) : Prop where
  hd : A.handled = none
  dp : A.depth + 3 * k + 5 < recursionLimit
  un : A.units + 16 * k + 200 < cLine
theorem Room.mono {j k : Nat} {A : Around} (r : Room k A) (h : j ≤ k) : Room j A := ⟨r.hd, by have := r.dp; omega, by have := r.un; omega⟩
theorem Room.deeper {k : Nat} {A : Around} (r : Room (k + 1) A) (env : Env) : Room k (A.deeper env) :=
  ⟨r.hd, by have := r.dp; show A.depth + 1 + 3 * k + 5 < _; omega, by have := r.un; show A.units + 3 + 16 * k + 200 < _; omega⟩
theorem make_depth {A : Around} {C : Addr} {us : List Value} {kw : List (Str × Value)} : (A.under (.builtin "type.__call__" ⟨.ref C :: us, kw⟩)).depth = A.depth + 1 := by
  first | rfl | simp [Around.under, Code.weight, Code.isCreation, Code.isGuard, Code.isCaller, Code.frames, Code.isFrame, guardIds]
theorem make_units {A : Around} {C : Addr} {us : List Value} {kw : List (Str × Value)} : (A.under (.builtin "type.__call__" ⟨.ref C :: us, kw⟩)).units = A.units + 1 := by
  first | rfl | simp [Around.under, Code.cUnits, Code.frames, Code.isFrame]
theorem Room.make {k : Nat} {A : Around} (r : Room (k + 1) A) (C : Addr) (us : List Value) (kw : List (Str × Value)) : Room k (A.under (.builtin "type.__call__" ⟨.ref C :: us, kw⟩)) :=
  ⟨r.hd, by have := r.dp; rw [make_depth]; omega, by have := r.un; rw [make_units]; omega⟩
theorem Room.depth {k : Nat} {A : Around} (r : Room k A) : A.depth < recursionLimit := by have := r.dp; omega
theorem Room.units {k : Nat} {A : Around} (r : Room k A) : A.units + 64 < cLine := by have := r.un; omega

/-! ### argument lists and displays -/
def tNil : TA := fun _ H Q => Q [] H
def tCons (ta : TE) (tr : TA) : TA := fun σ H Q => ta σ H fun x H1 => tr σ H1 fun xs H2 => Q (x :: xs) H2
section
variable {X : Cx} {e : Expr} {es : List Expr} {te : TE} {t : TA} {pos : Pos}
theorem pa_nil : PA X [] tNil := fun _ _ _ _ H Q I h => Calls.spliced_nil ⟨[], H, I, .nil, h⟩
theorem pa_cons (ha : PE X e te) (hr : PA X es t) (hs : starEach (e :: es) X.env = (false, eval e X.env) :: starEach es X.env := by rfl) : PA X (e :: es) (tCons te t) := by
  intro pos pins s σ H Q I h
  rw [hs]
  show wpAny _ _ (spliced ((false, eval e X.env) :: backTo pos (starEach es X.env))) _ _ s
  refine Calls.spliced_cons (thn (ha pins s σ H _ I h) fun u s1 ⟨x, H1, I1, r1, q1⟩ => ?_)
  exact thn (hr pos pins s1 σ H1 _ I1 q1) fun us s2 ⟨xs, H2, I2, r2, q2⟩ => ⟨x :: xs, H2, I2, .cons r1 r2, q2⟩

/-- a tuple, a list of written items -/
def tTup (t : TA) : TE := fun σ H Q => t σ H fun xs H1 => xs.length ≤ sizeLine ∧ ∀ p, H1 p = none → Q (.ref p) (upd H1 p (.tup xs))
def tLst (t : TA) : TE := fun σ H Q => t σ H fun xs H1 => xs.length ≤ sizeLine ∧ ∀ p, H1 p = none → Q (.ref p) (upd H1 p (.lst xs))
theorem pe_tup {x1} (h : PA X es t) : PE X (.Tuple es x1 pos) (tTup t) := by
  intro pins s σ H Q I hq
  refine wpAny_Tuple_spliced (thn (h pos pins s σ H _ I hq) fun us s1 ⟨xs, H1, I1, r, z, q⟩ => ⟨by rw [← r.length]; exact z, ?_⟩)
  have hf : H1 s1.heap.objs.size = none := I1.hok.fresh (Nat.le_refl _)
  refine ⟨.ref s1.heap.objs.size, upd H1 s1.heap.objs.size (.tup xs), I1.laid (t' := s1.toks) (fun b u e => Heap.get?_push_of_some _ e) (Nat.le_refl _) ?_, rfl, q _ hf⟩
  exact ⟨z, us, r, ⟨_, Heap.get?_push_size _ rfl, _, rfl⟩⟩
theorem pe_lst (h : PA X es t) : PE X (.List es pos) (tLst t) := by
  intro pins s σ H Q I hq
  refine wpAny_List_spliced (thn (h pos pins s σ H _ I hq) fun us s1 ⟨xs, H1, I1, r, z, q⟩ => ⟨by rw [← r.length]; exact z, ?_⟩)
  have hf : H1 s1.heap.objs.size = none := I1.hok.fresh (Nat.le_refl _)
  refine ⟨.ref s1.heap.objs.size, upd H1 s1.heap.objs.size (.lst xs), I1.laid (t' := s1.toks) (fun b u e => Heap.get?_push_of_some _ e) (Nat.le_refl _) ?_, rfl, q _ hf⟩
  exact ⟨z, us, 0, r, Heap.get?_push_size _ rfl⟩
end

/-! ### what a def promises -/
/-- a def's promise: the bound arguments in the parameters' order, the heap, the wanted end, the wanted exception -/
abbrev Sp := List V → Hp → VK → XK → Prop
/-- how an exception lies behind a call (file 08 gives it): the callers' frames, abstract heap and state ahead of the call, the wish, the exception, the state -/
abbrev CXT := List Env → Hp → Shared → XK → Value → Shared → Prop

/-- the state at a call -/
structure Env0 (P : Program) (w : World) (K : PySem.W.Frag) (mg : Str → Option Value) (base : Heap) (A : Around) (outer : List Env) (s : Shared) (H : Hp) : Prop where
  frames : A.frames = some outer
  mod : Mod K mg base
  bs : ∀ b o, base.get? b = some o → s.heap.get? b = some o ∧ H b = none
  bsz : base.objs.size ≤ s.heap.objs.size
  funs : s.heap.FunFrames base outer
  frf : ∀ b ∈ frs outer, H b = none
  hok : HOk P w H s.heap
  bare : AllBare s.gens
/-- a call's end -/
def CE (outer : List Env) (P : Program) (w : World) (H : Hp) (s : Shared) (Q : VK) (u : Value) (s' : Shared) : Prop :=
  ∃ v H', s'.os = s.os ∧ AllBare s'.gens ∧ Un (frs outer) [] H H' s.heap s'.heap ∧ HOk P w H' s'.heap ∧ RelV v u ∧ Q v H'
def CR (CX : CXT) (outer : List Env) (P : Program) (w : World) (H : Hp) (s : Shared) (Q : VK) (E : XK) (r : Result) (s' : Shared) : Prop :=
  match r with
  | .ok (.ret u) => CE outer P w H s Q u s'
  | .ok _ => False
  | .error e => CX outer H s E e s'
structure FnOk (P : Program) (w : World) (K : PySem.W.Frag) (mg : Str → Option Value) (base : Heap) (CX : CXT) (k : Nat) (f : Addr) (fd : FuncData) (ps : List Str) (sp : Sp) : Prop where
  len : ∀ vs H Q E, sp vs H Q E → vs.length = ps.length
  run : ∀ (A : Around) (outer : List Env) (s : Shared) (H : Hp) (args : Args) (us : List Value) (vs : List V) (Q : VK) (E : XK), Room k A → Env0 P w K mg base A outer s H → BindsTo s fd args (ps.zip us) → Vals vs us → sp vs H Q E →
    codeAny (model P w) A (.call (.ref f) args) (CR CX outer P w H s Q E) s
theorem FnOk.mono {P : Program} {w : World} {K : PySem.W.Frag} {mg : Str → Option Value} {base : Heap} {CX : CXT} {j k : Nat} {f : Addr} {fd : FuncData} {ps : List Str} {sp : Sp} (F : FnOk P w K mg base CX j f fd ps sp) (h : j ≤ k) :
    FnOk P w K mg base CX k f fd ps sp := ⟨F.len, fun A outer s H args us vs Q E hr => F.run A outer s H args us vs Q E (hr.mono h)⟩

theorem Env0.make {P : Program} {w : World} {K : PySem.W.Frag} {mg : Str → Option Value} {base : Heap} {A : Around} {outer : List Env} {s : Shared} {H : Hp} (e : Env0 P w K mg base A outer s H) (C : Addr) (us : List Value) (kw : List (Str × Value)) :
    Env0 P w K mg base (A.under (.builtin "type.__call__" ⟨.ref C :: us, kw⟩)) outer s H := ⟨by first | exact e.frames | (simpa [Around.under, Code.envs, Code.isFrame, pushEnvs] using e.frames), e.mod, e.bs, e.bsz, e.funs, e.frf, e.hok, e.bare⟩

section
variable {X : Cx} {pins : List (Addr × Obj)} {σ : St} {H : Hp} {s s' : Shared}
/-- from a body: what a callee wants -/
theorem Inv.env0 (I : Inv X pins σ H s) : Env0 X.prog X.w X.K X.mg X.base X.A X.stack s H :=
  ⟨I.ok.frames, I.ok.mod, I.bs, Nat.le_trans I.ok.bsz I.sz, I.stack, I.stkFree, I.hok, I.bare⟩
/-- behind a call -/
theorem Inv.after {Q : VK} {u : Value} (I : Inv X pins σ H s) (h : CE X.stack X.prog X.w H s Q u s') : EP X pins σ Q u s' := by
  obtain ⟨v, H', os, bare, un, hok, r, q⟩ := h
  obtain ⟨hh, g, d, t, os'⟩ := s'
  obtain rfl : os' = s.os := os
  exact ⟨v, H', I.call (h' := hh) (g' := g) (d' := d) (t' := t) (ch := []) un hok bare (fun b z => absurd z (by simp)), r, q⟩
end

/-! ### calls -/
/-- f(..): the written arguments, then the defaults dvs; E: what is wanted of an exception -/
def tCall (sp : Sp) (dvs : List V) (E : XK) (t : TA) : TE := fun σ H Q => t σ H fun vs H1 => sp (vs ++ dvs) H1 Q E
/-- o.m(..) of an instance of the class at C -/
def tMeth (C : Addr) (m : Str) (sp : Sp) (dvs : List V) (E : XK) (ta : TE) (t : TA) : TE := fun σ H Q => ta σ H fun x H1 => ∃ a dx fs, x = .ref a ∧ H1 a = some (.ins C dx fs) ∧ fs.lookup m = none ∧
  t σ H1 fun vs H2 => sp (x :: (vs ++ dvs)) H2 Q E
/-- C(..): a new instance and its dict, then __init__ -/
def tMake (C : Addr) (sp : Sp) (dvs : List V) (E : XK) (t : TA) : TE := fun σ H Q => t σ H fun vs H1 => ∀ x dx, H1 x = none → H1 dx = none → dx ≠ x →
  sp (.ref x :: (vs ++ dvs)) (upd (upd H1 dx (.own x)) x (.ins C dx [])) (fun v H2 => v = .non ∧ Q (.ref x) H2) E

/-- how the parameters are bound: us the positional arguments, kw the keywords' values by name, ds the defaults that fill up -/
def Binds (K : PySem.W.Frag) (fd : FuncData) (ps : List Str) (ds : List Value) : Prop :=
  ∀ (s : Shared) (us : List Value), K.In s.heap → (us ++ ds).length = ps.length → BindsTo s fd ⟨us, []⟩ (ps.zip (us ++ ds))
/-- every parameter is given -/
theorem Binds.all {K : PySem.W.Frag} {fd : FuncData} {ps : List Str} (h : ∀ us : List Value, us.length = ps.length → bindArgs fd ⟨us, []⟩ = pure (ps.zip us)) : Binds K fd ps [] := fun s us _ hl => by
  rw [List.append_nil] at hl ⊢
  exact .of_eq (h us hl)

/-- an exception of a callee reaches what this body wants of exceptions -/
def Passes (CX : CXT) (X : Cx) (E : XK) : Prop := ∀ (pins : List (Addr × Obj)) (σ : St) (H : Hp) (s : Shared) (e : Value) (s' : Shared), Inv X pins σ H s → CX X.stack H s E e s' → X.xe e s'

section
variable {X : Cx} {CX : CXT} {k : Nat} {f C : Addr} {fd : FuncData} {ps : List Str} {sp : Sp} {dvs : List V} {ds : List Value} {E : XK} {x m : Str} {p pos apos : Pos} {e o : Expr} {es : List Expr} {ta : TE} {t : TA}

/-- the callee runs -/
theorem run_fn {pins : List (Addr × Obj)} {σ : St} {H : Hp} {s : Shared} {Q : VK} {us : List Value} {vs : List V} (F : FnOk X.prog X.w X.K X.mg X.base CX k f fd ps sp) (hr : Room k X.A) (hb : Binds X.K fd ps ds) (hd : Vals dvs ds) (hx : Passes CX X E)
    (I : Inv X pins σ H s) (r : Vals vs us) (h : sp (vs ++ dvs) H Q E) : wpAny (model X.prog X.w) X.A (call (.ref f) us) (EP X pins σ Q) X.xe s := by
  have r2 : Vals (vs ++ dvs) (us ++ ds) := r.append hd
  have hl : (us ++ ds).length = ps.length := by rw [← r2.length]; exact F.len _ _ _ _ h
  refine wpAny_call (codeAny_mono (F.run X.A X.stack s H ⟨us, []⟩ (us ++ ds) (vs ++ dvs) Q E hr I.env0 (hb s us I.kIn hl) r2 h) fun r s' hq => ?_)
  cases r with
  | error e => exact hx pins σ H s e s' I hq
  | ok fl =>
    cases fl with
    | ret u => exact I.after hq
    | next => exact False.elim hq
    | brk => exact False.elim hq
    | cont => exact False.elim hq

theorem pe_call (F : FnOk X.prog X.w X.K X.mg X.base CX k f fd ps sp) (hr : Room k X.A) (hg : Gl X x) (hm : X.mg x = some (.ref f)) (hk : PySem.W.keepIn X.K (.ref f) = true) (hb : Binds X.K fd ps ds) (hd : Vals dvs ds) (hx : Passes CX X E)
    (ha : PA X (e :: es) t) (hdb : (x == ("__debug__" : Str)) = false := by decide) (he : starEach (e :: es) X.env = (false, eval e X.env) :: starEach es X.env := by rfl) (hpl : (backTo pos (starEach es X.env)).any (·.1) = false := by rfl) :
    PE X (.Call (.Name x p) (e :: es) [] pos) (tCall sp dvs E t) := by
  intro pins s σ H Q I h
  refine wpAny_Call_Name_kw (ld_glob I hg hm ?_ hdb)
  refine PySem.W.callWith_K (h₀ := X.base) I.ok.mod.kin hk (thn (ha pos pins s σ H _ I h) fun us s1 ⟨vs, H1, I1, r, q⟩ => ⟨I1.kIn, ?_⟩) he hpl
  exact run_fn F hr hb hd hx I1 r q

/-- o.m(e, ..) -/
theorem pe_meth {pl : Sem Bool} (he : PE X o ta) (c : Cls X.K C) (hm : Meth X.K C m f) (F : FnOk X.prog X.w X.K X.mg X.base CX k f fd ps sp) (hr : Room k X.A) (hb : Binds X.K fd ps ds) (hd : Vals dvs ds) (hx : Passes CX X E) (ha : PA X (e :: es) t)
    (hst : starEach (e :: es) X.env = (false, eval e X.env) :: starEach es X.env := by rfl) (hpl : (backTo pos (starEach es X.env)).any (·.1) = false := by rfl)
    (ht : eval (.Call (.Attribute o m apos) (e :: es) [] pos) X.env = (do
      let ov ← eval o X.env
      standAt apos.atName
      let (f, first) ← holding [ov] (getMethod ov m pl)
      callWith pos f first (backTo pos (starEach (e :: es) X.env)) (backToKw pos (keywordEach [] X.env))) := by rfl) :
    PE X (.Call (.Attribute o m apos) (e :: es) [] pos) (tMeth C m sp dvs E ta t) := by
  intro pins s σ H Q I h
  refine PySem.W.methodCall_KW (pl := pl) (thn (he pins s σ H _ I h) fun u s1 ⟨x, H1, I1, rx, a, dx, fs, ex, ea, l, q⟩ => ?_) ht
  subst ex
  obtain rfl : u = Value.ref a := rx
  refine getmeth_ok I1 ea c hm l ?_
  refine PySem.W.callWith_K (first := [.ref a]) (h₀ := X.base) I.ok.mod.kin hm.kp (thn (ha pos pins s1 σ H1 _ I1 q) fun us s2 ⟨vs, H2, I2, r, q2⟩ => ⟨I2.kIn, ?_⟩) hst hpl
  exact run_fn (us := .ref a :: us) (vs := .ref a :: vs) F hr hb hd hx I2 (.cons rfl r) q2
/-- o.m() -/
theorem pe_meth0 {pl : Sem Bool} (he : PE X o ta) (c : Cls X.K C) (hm : Meth X.K C m f) (F : FnOk X.prog X.w X.K X.mg X.base CX k f fd ps sp) (hr : Room k X.A) (hb : Binds X.K fd ps ds) (hd : Vals dvs ds) (hx : Passes CX X E)
    (ht : eval (.Call (.Attribute o m apos) [] [] pos) X.env = (do
      let ov ← eval o X.env
      standAt apos.atName
      let (f, first) ← holding [ov] (getMethod ov m pl)
      callWith pos f first (backTo pos (starEach [] X.env)) (backToKw pos (keywordEach [] X.env))) := by rfl) :
    PE X (.Call (.Attribute o m apos) [] [] pos) (tMeth C m sp dvs E ta tNil) := by
  intro pins s σ H Q I h
  refine PySem.W.methodCall_KW (pl := pl) (thn (he pins s σ H _ I h) fun u s1 ⟨x, H1, I1, rx, a, dx, fs, ex, ea, l, q⟩ => ?_) ht
  subst ex
  obtain rfl : u = Value.ref a := rx
  refine getmeth_ok I1 ea c hm l ?_
  exact PySem.W.callWith_K0 (first := [.ref a]) I1.kIn hm.kp (run_fn (us := [.ref a]) (vs := [.ref a]) F hr hb hd hx I1 (.cons rfl .nil) q)

/-- what a class must have to be made -/
structure Mk (K : PySem.W.Frag) (C f : Addr) : Prop where
  makes : PySem.W.makesIn K C = true
  init : PySem.W.findIn K (.ref C) "__init__" = some (some (.ref f))
  fn : PySem.W.isFn K (.ref f) = true
  kp : PySem.W.keepIn K (.ref C) = true

theorem run_make {pins : List (Addr × Obj)} {σ : St} {H : Hp} {s : Shared} {Q : VK} {us : List Value} {vs : List V} (M : Mk X.K C f) (F : FnOk X.prog X.w X.K X.mg X.base CX k f fd ps sp) (hr : Room (k + 1) X.A) (hb : Binds X.K fd ps ds) (hd : Vals dvs ds)
    (hx : Passes CX X E) (I : Inv X pins σ H s) (r : Vals vs us)
    (h : ∀ x dx, H x = none → H dx = none → dx ≠ x → sp (.ref x :: (vs ++ dvs)) (upd (upd H dx (.own x)) x (.ins C dx [])) (fun v H2 => v = .non ∧ Q (.ref x) H2) E) :
    wpAny (model X.prog X.w) X.A (call (.ref C) us) (EP X pins σ Q) X.xe s := by
  have hq := h (s.heap.objs.size + 1) s.heap.objs.size (I.hok.fresh (Nat.le_succ _)) (I.hok.fresh (Nat.le_refl _)) (Nat.ne_of_lt (Nat.lt_succ_self _))
  have I2 := Inv.made (C := C) I
  have r2 : Vals (V.ref (s.heap.objs.size + 1) :: (vs ++ dvs)) (Value.ref (s.heap.objs.size + 1) :: (us ++ ds)) := .cons rfl (r.append hd)
  have hl : (Value.ref (s.heap.objs.size + 1) :: us ++ ds).length = ps.length := by
    have e := r2.length
    rw [F.len _ _ _ _ hq] at e
    exact e.symm
  refine wpAny_call (make_map (f := f) I.kIn M.makes M.init (beq_iff_eq.mp M.fn) (codeAny_mono (F.run _ X.stack _ _ ⟨Value.ref (s.heap.objs.size + 1) :: us, []⟩ (Value.ref (s.heap.objs.size + 1) :: (us ++ ds)) _ _ E (hr.make C us [])
    (I2.env0.make C us []) (hb _ (Value.ref (s.heap.objs.size + 1) :: us) I2.kIn hl) r2 hq) fun r s' hq' => ?_))
  cases r with
  | error e => exact hx pins σ _ _ e s' I2 hq'
  | ok fl =>
    cases fl with
    | ret u =>
      obtain ⟨v, H', I3, rv, ev, q3⟩ := I2.after hq'
      subst ev
      exact ⟨rv, ⟨V.ref (s.heap.objs.size + 1), H', I3, rfl, q3⟩⟩
    | next => exact False.elim hq'
    | brk => exact False.elim hq'
    | cont => exact False.elim hq'
theorem pe_make (M : Mk X.K C f) (F : FnOk X.prog X.w X.K X.mg X.base CX k f fd ps sp) (hr : Room (k + 1) X.A) (hg : Gl X x) (hm : X.mg x = some (.ref C)) (hb : Binds X.K fd ps ds) (hd : Vals dvs ds) (hx : Passes CX X E)
    (ha : PA X (e :: es) t) (hdb : (x == ("__debug__" : Str)) = false := by decide) (he : starEach (e :: es) X.env = (false, eval e X.env) :: starEach es X.env := by rfl) (hpl : (backTo pos (starEach es X.env)).any (·.1) = false := by rfl) :
    PE X (.Call (.Name x p) (e :: es) [] pos) (tMake C sp dvs E t) := by
  intro pins s σ H Q I h
  refine wpAny_Call_Name_kw (ld_glob I hg hm ?_ hdb)
  refine PySem.W.callWith_K (h₀ := X.base) I.ok.mod.kin M.kp (thn (ha pos pins s σ H _ I h) fun us s1 ⟨vs, H1, I1, r, q⟩ => ⟨I1.kIn, ?_⟩) he hpl
  exact run_make M F hr hb hd hx I1 r q
end

/-! ### keywords -/
/-- the values of the keywords, from the left -/
def PK (X : Cx) (kws : List Keyword) (t : TA) : Prop :=
  ∀ (pos : Pos) (pins : List (Addr × Obj)) (s : Shared) (σ : St) (H : Hp) (Q : List V → Hp → Prop), Inv X pins σ H s → t σ H Q → wpAny (model X.prog X.w) X.A (evalAll ((backToKw pos (keywordEach kws X.env)).map (·.2))) (AP X pins σ Q) X.xe s
section
variable {X : Cx} {CX : CXT} {k : Nat} {f C : Addr} {fd : FuncData} {ps ks : List Str} {sp : Sp} {E : XK} {x m : Str} {p pos apos kpos : Pos} {e o : Expr} {es : List Expr} {kws : List Keyword} {te ta : TE} {t tk : TA} {nm : Option Str}
theorem pk_nil : PK X [] tNil := fun _ _ _ _ H Q I h => wpAny_evalAll_nil ⟨[], H, I, .nil, h⟩
theorem pk_cons (ha : PE X e te) (hr : PK X kws t) : PK X (⟨nm, e, kpos⟩ :: kws) (tCons te t) := by
  intro pos pins s σ H Q I h
  show wpAny _ _ (evalAll ((do let v ← eval e X.env; standAt pos; pure v) :: (backToKw pos (keywordEach kws X.env)).map (·.2))) _ _ s
  refine wpAny_evalAll_cons (wpAny_bind (thn (ha pins s σ H _ I h) fun u s1 ⟨x, H1, I1, r1, q1⟩ => wpAny_bind (wpAny_standAt (wpAny_pure ?_))))
  exact thn (hr pos pins s1 σ H1 _ I1 q1) fun us s2 ⟨xs, H2, I2, r2, q2⟩ => ⟨x :: xs, H2, I2, .cons r1 r2, q2⟩

/-- how a call with keywords binds: g puts the positional values us and the keywords' values ws (names ks) in the parameters' order, defaults among them -/
structure KBinds (K : PySem.W.Frag) (fd : FuncData) (ps ks : List Str) (g : List Value → List Value → List Value) (gV : List V → List V → List V) : Prop where
  to : ∀ (s : Shared) (us ws : List Value), K.In s.heap → (g us ws).length = ps.length → BindsTo s fd ⟨us, ks.zip ws⟩ (ps.zip (g us ws))
  rel : ∀ {vs : List V} {us : List Value} {zs : List V} {ws : List Value}, Vals vs us → Vals zs ws → Vals (gV vs zs) (g us ws)
def tCallK (sp : Sp) (gV : List V → List V → List V) (E : XK) (t tk : TA) : TE := fun σ H Q => t σ H fun vs H1 => tk σ H1 fun zs H2 => sp (gV vs zs) H2 Q E
variable {g : List Value → List Value → List Value} {gV : List V → List V → List V}
end

/-! ### a def's body keeps its promise -/
/-- names: the parameters first -/
structure FnScope (N P : List Str) (sc : Scope) : Prop where
  kind : sc.kind = .function
  co : sc.isCoroutine = false
  gen : sc.isGenerator = false
  nd : N.Nodup
  pre : N.take P.length = P
  par : ∀ x ∈ P, sc.names.lookup x = some .local ∨ sc.names.lookup x = some .cell
  nofree : ∀ y ∈ sc.names, y.2 ≠ .free

theorem bindL_out {kindOf : Str → Option NameKind} {x : Str} : ∀ {binds : List (Str × Value)} {m : Str → Option Value}, (∀ v, (x, v) ∉ binds) → bindL kindOf binds m x = m x
  | [], _, _ => rfl
  | (n, v) :: r, m, h => by
    unfold bindL
    rw [bindL_out fun w hw => h w (List.mem_cons_of_mem _ hw)]
    split
    · have : x ≠ n := by rintro rfl; exact h v List.mem_cons_self
      simp [this]
    · rfl
theorem bindC_out {kindOf : Str → Option NameKind} {x : Str} : ∀ {binds : List (Str × Value)} {m : Str → Option Value}, (∀ v, (x, v) ∉ binds) → bindC kindOf binds m x = m x
  | [], _, _ => rfl
  | (n, v) :: r, m, h => by
    unfold bindC
    rw [bindC_out fun w hw => h w (List.mem_cons_of_mem _ hw)]
    split
    · rfl
    · have : x ≠ n := by rintro rfl; exact h v List.mem_cons_self
      simp [this]
theorem bindL_get {kindOf : Str → Option NameKind} {x : Str} {v : Value} : ∀ {P : List Str} {vs : List Value} {i : Nat} {m : Str → Option Value}, P.Nodup → P[i]? = some x → vs[i]? = some v → kindOf x = some .local →
    bindL kindOf (P.zip vs) m x = some v
  | [], _, _, _, _, h, _, _ => by simp at h
  | _ :: _, [], _, _, _, _, h, _ => by simp at h
  | p :: P, w :: vs, 0, m, nd, h1, h2, hk => by
    simp at h1 h2; subst h1; subst h2
    show bindL kindOf ((p, w) :: P.zip vs) m p = _
    unfold bindL
    rw [bindL_out fun v hv => (List.nodup_cons.mp nd).1 (List.of_mem_zip hv).1, if_pos hk]
    simp
  | p :: P, w :: vs, i + 1, m, nd, h1, h2, hk => by
    show bindL kindOf ((p, w) :: P.zip vs) m x = _
    unfold bindL
    exact bindL_get (i := i) (List.nodup_cons.mp nd).2 (by simpa using h1) (by simpa using h2) hk
theorem bindC_get {kindOf : Str → Option NameKind} {x : Str} {v : Value} : ∀ {P : List Str} {vs : List Value} {i : Nat} {m : Str → Option Value}, P.Nodup → P[i]? = some x → vs[i]? = some v → kindOf x ≠ some .local →
    bindC kindOf (P.zip vs) m x = some v
  | [], _, _, _, _, h, _, _ => by simp at h
  | _ :: _, [], _, _, _, _, h, _ => by simp at h
  | p :: P, w :: vs, 0, m, nd, h1, h2, hk => by
    simp at h1 h2; subst h1; subst h2
    show bindC kindOf ((p, w) :: P.zip vs) m p = _
    unfold bindC
    rw [bindC_out fun v hv => (List.nodup_cons.mp nd).1 (List.of_mem_zip hv).1, if_neg hk]
    simp
  | p :: P, w :: vs, i + 1, m, nd, h1, h2, hk => by
    show bindC kindOf ((p, w) :: P.zip vs) m x = _
    unfold bindC
    exact bindC_get (i := i) (List.nodup_cons.mp nd).2 (by simpa using h1) (by simpa using h2) hk

/-- the names' values at the entry -/
def start (N : List Str) (vs : List V) : St := vs.map some ++ List.replicate (N.length - vs.length) none

/-- the context of a def's body, at its entry; an exception leaves the frame, then lies as CX says -/
def cxOf (CX : CXT) (P : Program) (w : World) (K : PySem.W.Frag) (mg : Str → Option Value) (base : Heap) (N : List Str) (qual : Str) (scope : Scope) (f : Addr) (cd : Value) (A : Around) (outer : List Env) (s : Shared) (H : Hp) (E : XK) : Cx where
  prog := P
  w := w
  K := K
  mg := mg
  base := base
  A := A.deeper (envOfC qual scope s.heap.objs.size f cd)
  N := N
  s₀ := s
  H₀ := H
  env := envOfC qual scope s.heap.objs.size f cd
  outer := outer
  stack := envOfC qual scope s.heap.objs.size f cd :: outer
  ex := []
  calm := true
  fn := fun _ => true
  pn := []
  xe := fun e s' => wpAny (model P w) (A.deeper (envOfC qual scope s.heap.objs.size f cd)) (leaving (envOfC qual scope s.heap.objs.size f cd) e) (fun _ s'' => CX outer H s E e s'') (fun e' s'' => CX outer H s E e' s'') s'

theorem cell_has {sc : Scope} {n : Nat} {x : Str} (h : sc.names.lookup x = some .cell) : ∃ c, (cellsFrom n sc.names []).lookup x = some c := by
  have q := PySem.W.cellsFrom_some sc.names n [] (.inl h)
  exact Option.isSome_iff_exists.mp q

theorem inv_start {CX : CXT} {P : Program} {w : World} {K : PySem.W.Frag} {mg : Str → Option Value} {base : Heap} {N ps : List Str} {qual : Str} {scope : Scope} {f : Addr} {cd : Value} {A : Around} {outer : List Env} {s s1 : Shared} {H : Hp} {E : XK} {us : List Value} {vs : List V}
    (S : FnScope N ps scope) (hd : A.handled = none) (e0 : Env0 P w K mg base A outer s H) (hl : vs.length = ps.length) (r : Vals vs us)
    (x : InCallC s s.heap.objs.size (bindL (envOfC qual scope s.heap.objs.size f cd).kindOf (ps.zip us) fun _ => none) (cellsFrom (s.heap.objs.size + 1) scope.names []) (bindC (envOfC qual scope s.heap.objs.size f cd).kindOf (ps.zip us) fun _ => none) s1) :
    Inv (cxOf CX P w K mg base N qual scope f cd A outer s H E) [] (start N vs) H s1 := by
  have hpl : ps.length ≤ N.length := by have := congrArg List.length S.pre; rw [List.length_take] at this; omega
  obtain ⟨h1, tk, rfl, hk⟩ := x.done
  have noA : ∀ b : Addr, b ∉ (cxOf CX P w K mg base N qual scope f cd A outer s H E).ex := fun b z => absurd (show b ∈ ([] : List Addr) from z) (by simp)
  refine ⟨⟨e0.mod, S.kind, rfl, rfl, Nat.le_refl _, fun y z c h1 h2 => ?_, fun y hy => ?_, fun y c _ h => ?_, fun _ => hd, Around.frames_deeper e0.frames, .inr ⟨rfl, rfl⟩, fun b z => absurd z (noA b), e0.bs, e0.bsz, fun b _ _ => noA b, fun b z => absurd z (noA b), e0.funs, e0.frf⟩,
    rfl, e0.bare, Un.kept hk, ⟨_, x.toInCall.ns, fun i y v h1 h2 h3 => ?_⟩, fun y c h => ⟨_, x.cell y c h⟩, e0.hok.fresh (Nat.le_refl _), fun y c h => ?_, fun p hp => absurd (show p ∈ ([] : List (Addr × Obj)) from hp) (by simp), e0.hok.kept hk, ?_⟩
  · exact name_of_addr x.apart (PySem.mem_of_lookup h1) (PySem.mem_of_lookup h2)
  · have hy : scope.names.lookup y = some .cell ∨ scope.names.lookup y = some .free := hy
    rcases hy with hy | hy
    · exact cell_has hy
    · exact absurd rfl (S.nofree _ (PySem.mem_of_lookup hy))
  · exact Nat.le_of_lt (x.above y c (PySem.mem_of_lookup h))
  · have hi : i < vs.length := by
      unfold start at h2
      by_cases hi : i < vs.length
      · exact hi
      · rw [List.getElem?_append_right (by simpa using hi)] at h2
        rw [List.getElem?_replicate] at h2
        split at h2 <;> cases h2
    have ha : vs[i]? = some v := by
      unfold start at h2
      rw [List.getElem?_append_left (by simpa using hi), List.getElem?_map] at h2
      cases e : vs[i]? with
      | none => rw [e] at h2; cases h2
      | some a => rw [e] at h2; cases h2; rfl
    obtain ⟨u, hu, rv⟩ := r.get ha
    have hp : ps[i]? = some y := by
      rw [← S.pre, List.getElem?_take_of_lt (by omega)]; exact h1
    have ndP : ps.Nodup := by rw [← S.pre]; exact S.nd.sublist (List.take_sublist _ _)
    refine ⟨u, rv, ?_⟩
    rcases S.par y (List.mem_of_getElem? hp) with k | k
    · exact .inl ⟨k, bindL_get ndP hp hu k⟩
    · obtain ⟨c, e⟩ := cell_has (n := s.heap.objs.size + 1) k
      refine .inr ⟨.inl k, c, e, ?_⟩
      have q := x.cell y c e
      rw [bindC_get ndP hp hu (by show scope.names.lookup y ≠ _; rw [k]; decide)] at q
      exact q
  · exact e0.hok.fresh (Nat.le_of_lt (x.above y c (PySem.mem_of_lookup h)))
  · unfold start
    show _ = N.length
    rw [List.length_append, List.length_map, List.length_replicate]
    omega

/-- THE RULE: a def (or a method) of the text, by its body. The body's reading t is chosen for each entry; it is run at the parameters' values -/
theorem fn_of {CX : CXT} {P : Program} {w : World} {K : PySem.W.Frag} {mg : Str → Option Value} {base : Heap} {k : Nat} {f : Addr} {name qual : Str} {params : Arguments} {body : List Stmt} {scope : Scope} {dV kV doc pm cdv ct oc : Value} {an od : Option Addr}
    {osl : Array (Option Value)} {N ps : List Str} {sp : Sp} (lk : K.lookup f = some ⟨oc, od, .func (PySem.W.fnOf name qual params body scope dV kV doc pm an cdv ct), osl⟩) (hcd : PySem.W.codeIn K cdv qual = true) (S : FnScope N ps scope)
    (len : ∀ vs H Q E, sp vs H Q E → vs.length = ps.length)
    (hbody : ∀ (A : Around) (outer : List Env) (s : Shared) (H : Hp) (vs : List V) (Q : VK) (E : XK), Room k (A.deeper (envOfC qual scope s.heap.objs.size f cdv)) → sp vs H Q E →
      ∃ t, PSs (cxOf CX P w K mg base N qual scope f cdv A outer s H E) body t ∧ t { nx := fun _ H' => Q .non H', rt := Q } (start N vs) H) :
    FnOk P w K mg base CX (k + 1) f (PySem.W.fnOf name qual params body scope dV kV doc pm an cdv ct) ps sp := by
  refine ⟨len, fun A outer s H args us vs Q E hr e0 hb r hsp => ?_⟩
  have hl := len _ _ _ _ hsp
  have KX : K.In s.heap := e0.mod.kin.keeps fun b o e => (e0.bs b o e).1
  have lim : s.heap.NoLimit := e0.mod.nolimit.keeps fun b o e => (e0.bs b o e).1
  have hkind : ∀ y ∈ ps.zip us, scope.names.lookup y.1 = some .local ∨ (scope.names.lookup y.1 = some .cell ∧ ((cellsFrom (s.heap.objs.size + 1) scope.names []).lookup y.1).isSome = true) := fun ⟨n, v⟩ hy => by
    rcases S.par n (List.of_mem_zip hy).1 with q | q
    · exact .inl q
    · exact .inr ⟨q, PySem.W.cellsFrom_some _ _ _ (.inl q)⟩
  refine codeAny_call_function hr.depth (KX _ _ lk) rfl S.co S.gen rfl (PySem.W.codeRec_of KX hcd) (hb _ _ _ _ ?_)
  refine wpAny_newFunctionEnv_cells S.kind hkind fun env he s1 x => ?_
  subst he
  refine ⟨lim.keeps x.toInCall.keep, codeAny_func ?_⟩
  obtain ⟨t, ht, hq⟩ := hbody A outer s H vs Q E (hr.deeper _) hsp
  have I : Inv (cxOf CX P w K mg base N qual scope f cdv A outer s H E) [] (start N vs) H s1 := inv_start S hr.hd e0 hl r x
  refine wpAny_mono (ht [] s1 (start N vs) H _ I hq) (fun fl s' hs => ?_) fun e s' hs => hs
  have fin : ∀ {σ' : St} {H' : Hp} {v : V} {u : Value}, Inv (cxOf CX P w K mg base N qual scope f cdv A outer s H E) [] σ' H' s' → RelV v u → Q v H' → CE outer P w H s Q u s' :=
    fun {σ' H' v u} J rv q => ⟨v, H', J.os, J.bare, J.base, J.hok, rv, q⟩
  cases fl with
  | ret u =>
    obtain ⟨v, σ', H', J, rv, q⟩ := hs
    exact fin J rv q
  | next =>
    obtain ⟨σ', H', J, q⟩ := hs
    exact fin (v := V.non) (u := Value.none) J rfl q
  | brk =>
    obtain ⟨_, _, _, q⟩ := hs
    exact False.elim q
  | cont =>
    obtain ⟨_, _, _, q⟩ := hs
    exact False.elim q
end L2

namespace L2
open PySem PySem.Spec PyProof.Rows
section
variable {X : Cx} {x : Str} {p pos : Pos} {e : Expr} {es : List Expr} {t : TA} {id T : String} {r : List V → Hp → VK → Prop}

def tCB (r : List V → Hp → VK → Prop) (t : TA) : TE := fun σ H Q => t σ H fun vs H1 => r vs H1 Q
/-- f(e, ..), f a built-in function -/
theorem pe_callB (hc : CallR X (.builtin id) r) (hg : Gl X x) (hm : X.mg x = none) (hv : bootBuiltins x = some (.builtin id)) (ha : PA X (e :: es) t) (hn : x ≠ "__name__" := by decide) (hdb : (x == ("__debug__" : Str)) = false := by decide)
    (he : starEach (e :: es) X.env = (false, eval e X.env) :: starEach es X.env := by rfl) (hpl : (backTo pos (starEach es X.env)).any (·.1) = false := by rfl) : PE X (.Call (.Name x p) (e :: es) [] pos) (tCB r t) := by
  intro pins s σ H Q I h
  refine wpAny_Call_Name_kw (ld_blt I hg hm hv ?_ hn hdb)
  exact PyProof.Rows.callWith_builtin1 (thn (ha pos pins s σ H _ I h) fun us s1 ⟨vs, H1, I1, r1, q1⟩ => hc pins s1 σ H1 vs us Q I1 r1 q1) he hpl
/-- T(e, ..), T a built-in type -/
theorem pe_callTy (hc : CallR X (.type T) r) (hg : Gl X x) (hm : X.mg x = none) (hv : bootBuiltins x = some (.type T)) (ha : PA X (e :: es) t) (hn : x ≠ "__name__" := by decide) (hdb : (x == ("__debug__" : Str)) = false := by decide)
    (he : starEach (e :: es) X.env = (false, eval e X.env) :: starEach es X.env := by rfl) (hpl : (backTo pos (starEach es X.env)).any (·.1) = false := by rfl) : PE X (.Call (.Name x p) (e :: es) [] pos) (tCB r t) := by
  intro pins s σ H Q I h
  refine wpAny_Call_Name_kw (ld_blt I hg hm hv ?_ hn hdb)
  exact PyProof.Rows.callWith_type1 (thn (ha pos pins s σ H _ I h) fun us s1 ⟨vs, H1, I1, r1, q1⟩ => hc pins s1 σ H1 vs us Q I1 r1 q1) he hpl
end
end L2

namespace HT
open PySem PyProof.Rows

/-- t < u of tuples of ints -/
def lexLt : List Int → List Int → Bool
  | [], [] => false
  | [], _ :: _ => true
  | _ :: _, [] => false
  | x :: xs, y :: ys => if x = y then lexLt xs ys else decide (x < y)


section
open PySem.SeqAt
open PySem.AutoSeq1 (wpAny_loadPart')
open PySem.MeetsSeq PySem.MeetsSeq2 PySem.MeetsSeq3

end

section
variable {prog : Program} {w : World} {A : Around} {E : Value → Shared → Prop} {s : Shared}



/-! ### t[a:b], not the whole -/
/-- a slice's bound as a place among n (d where it is left out) -/
def sIx (n d : Nat) : Option Int → Nat
  | none => d
  | some v => if v < 0 then (v + (n : Int)).toNat else min v.toNat n
theorem sIx_nat (n d k : Nat) : sIx n d (some (k : Int)) = min k n := by
  show (if (k : Int) < 0 then ((k : Int) + (n : Int)).toNat else min (k : Int).toNat n) = min k n
  rw [if_neg (by omega), Int.toNat_natCast]
theorem sIx_le (n d : Nat) (hd : d ≤ n) (o : Option Int) : sIx n d o ≤ n := by
  cases o with
  | none => exact hd
  | some v =>
    show (if v < 0 then (v + (n : Int)).toNat else min v.toNat n) ≤ n
    by_cases hv : v < 0
    · rw [if_pos hv]; omega
    · rw [if_neg hv]; exact Nat.min_le_right _ _
theorem clip_eq (v : Int) (n d : Nat) : (if v < 0 then max (v + (n : Int)) 0 else min v (n : Int)) = ((sIx n d (some v) : Nat) : Int) := by
  show (if v < 0 then max (v + (n : Int)) 0 else min v (n : Int)) = (((if v < 0 then (v + (n : Int)).toNat else min v.toNat n) : Nat) : Int)
  by_cases hv : v < 0
  · simp only [if_pos hv]; omega
  · simp only [if_neg hv]; omega
theorem adjust_gen (lo hi : Option Int) (n : Nat) : Builtin.Slice.sliceAdjust lo hi 1 (n : Int) = (((sIx n 0 lo : Nat) : Int), ((sIx n n hi : Nat) : Int)) := by
  have h1 : ¬ ((1 : Int) < 0) := by omega
  unfold Builtin.Slice.sliceAdjust
  simp only [h1, if_false]
  refine Prod.ext ?_ ?_
  · cases lo with
    | none => rfl
    | some v => exact clip_eq v n 0
  · cases hi with
    | none => rfl
    | some v => exact clip_eq v n n
theorem places_gen (i j : Nat) : Builtin.Slice.slicePlaces (i : Int) (j : Int) 1 = j - i := by
  unfold Builtin.Slice.slicePlaces
  have h1 : (1 : Int) > 0 := by omega
  simp only [h1, if_true, Int.ediv_one]
  split <;> omega
theorem slicePart_ {v : Value} {o : Option Int} {Q : Option Int → Shared → Prop} (p : IsPart v o) (h : Q o s) : wpAny (model prog w) A (Builtin.Slice.slicePartIndex v) Q E s := by
  cases p with
  | none => exact slicePart_none h
  | int i t => exact slicePart_int h
theorem sliceApplied_gen {sl : Addr} {vl vu : Value} {lo hi : Option Int} {n : Nat} {Q : Int × Int × Nat → Shared → Prop} (hs : s.heap.IsSliceOf sl vl vu .none) (pl : IsPart vl lo) (pu : IsPart vu hi)
    (h : Q (((sIx n 0 lo : Nat) : Int), 1, sIx n n hi - sIx n 0 lo) s) : wpAny (model prog w) A (Builtin.Slice.sliceApplied (.ref sl) (pure (n : Int))) Q E s := by
  obtain ⟨os, hos, hcs, hds⟩ := id hs
  unfold Builtin.Slice.sliceApplied Builtin.Slice.sliceFields
  refine wpAny_bind (wpAny_bind (wpAny_field hos hds (x := vl) rfl (wpAny_bind (wpAny_field hos hds (x := vu) rfl (wpAny_bind (wpAny_field hos hds (x := .none) rfl (wpAny_pure ?_)))))))
  refine wpAny_bind (slicePart_none ?_)
  show wpAny _ _ (if ((1 : Int) == 0) = true then _ else _) _ _ s
  rw [if_neg (by decide)]
  refine wpAny_bind (slicePart_ pl (wpAny_bind (slicePart_ pu (wpAny_bind (wpAny_pure ?_)))))
  show wpAny _ _ (match Builtin.Slice.sliceAdjust lo hi 1 (n : Int) with | (lo, hi) => pure (lo, (1 : Int), Builtin.Slice.slicePlaces lo hi 1)) _ _ s
  rw [adjust_gen lo hi n]
  show wpAny _ _ (pure (((sIx n 0 lo : Nat) : Int), (1 : Int), Builtin.Slice.slicePlaces ((sIx n 0 lo : Nat) : Int) ((sIx n n hi : Nat) : Int) 1)) _ _ s
  rw [places_gen]
  exact wpAny_pure h
theorem pick_gen (xs : Array Value) (i k : Nat) : ((List.range k).filterMap fun (m : Nat) => xs[((i : Int) + (m : Int) * 1).toNat]?).toArray = ((xs.toList.drop i).take k).toArray := by
  have e : (fun (m : Nat) => xs[((i : Int) + (m : Int) * 1).toNat]?) = fun m => xs[i + m]? := by
    funext m
    have : ((i : Int) + (m : Int) * 1).toNat = i + m := by omega
    rw [this]
  rw [e]
  have := pick_run xs i k
  rw [List.filterMap_map] at this
  have e2 : ((fun x => xs[x]?) ∘ fun x => i + x) = fun m => xs[i + m]? := rfl
  rw [e2] at this
  rw [this]

theorem getItem_tuple_cut {t sl : Addr} {items : Array Value} {vl vu : Value} {lo hi : Option Int} {Q : Value → Shared → Prop} (ht : IsTup s.heap t items) (hs : s.heap.IsSliceOf sl vl vu .none) (pl : IsPart vl lo) (pu : IsPart vu hi)
    (hw : ¬ (sIx items.size 0 lo = 0 ∧ sIx items.size items.size hi = items.size))
    (h : Q (.ref s.heap.objs.size) { s with heap := s.heap.push { cls := .type "tuple", data := .seq ((items.toList.drop (sIx items.size 0 lo)).take (sIx items.size items.size hi - sIx items.size 0 lo)).toArray } })
    (hsz : items.size ≤ sizeLine) : wpAny (model prog w) A (getItem (.ref t) (.ref sl)) Q E s := by
  have htake : sizeOk (.seq ((items.toList.drop (sIx items.size 0 lo)).take (sIx items.size items.size hi - sIx items.size 0 lo)).toArray) := by
    show ((items.toList.drop (sIx items.size 0 lo)).take (sIx items.size items.size hi - sIx items.size 0 lo)).toArray.size ≤ sizeLine
    rw [List.size_toArray, List.length_take, List.length_drop, Array.length_toList]
    omega
  have hj : sIx items.size items.size hi ≤ items.size := sIx_le _ _ (Nat.le_refl _) hi
  obtain ⟨os, hos, hcs, hds⟩ := id hs
  have hTs : s.TypeIs (.ref sl) "slice" := ⟨os, hos, hcs⟩
  unfold getItem
  try with_reducible refine wpAny_holding ?_
  first | refine wpAny_bind (wpAny_pure ?_) | skip
  refine wpAny_bind (wpAny_sequenceKey ht.typeIs (by decide) ?_)
  refine wpAny_bind (wpAny_callSpecial?_slot (name := Str.ofString "__getitem__") ht.typeIs PyProof.Rows.slot_tuple_getitem
    (wpAny_call_entry PyProof.Rows.slot_tuple_getitem ht.typeIs entry_tuple_getitem ?_ (args_tuple_getitem _ _)))
  show wpAny _ _ (Builtin.Tuple.tupleItemsOf (.ref t) >>= _) _ _ s
  refine wpAny_bind (tupleItemsOf_ ht ?_)
  refine wpAny_bind (wpAny_typeOf hTs ?_)
  rw [if_pos (by decide)]
  refine wpAny_bind (sliceApplied_gen hs pl pu ?_)
  have hno : ¬ ((((sIx items.size 0 lo : Nat) : Int) == 0 && (1 : Int) == 1 && (sIx items.size items.size hi - sIx items.size 0 lo) == items.size) = true) := by
    intro q
    rw [Bool.and_eq_true, Bool.and_eq_true] at q
    have q1 : ((sIx items.size 0 lo : Nat) : Int) = 0 := eq_of_beq q.1.1
    have q2 : sIx items.size items.size hi - sIx items.size 0 lo = items.size := eq_of_beq q.2
    exact hw ⟨by omega, by omega⟩
  show wpAny _ _ (if (((sIx items.size 0 lo : Nat) : Int) == 0 && (1 : Int) == 1 && (sIx items.size items.size hi - sIx items.size 0 lo) == items.size) = true then _ else _) _ _ s
  rw [if_neg hno, pick_gen]
  first
    | exact wpAny_bind (m := Builtin.Tuple.tupleExact _) (wpAny_newObj_type (wpAny_pure ⟨_, rfl, wpAny_pure h⟩) htake)
    | exact wpAny_bind (m := Builtin.Tuple.tupleExact _) (wpAny_newObj_type (wpAny_bind (wpAny_pure (wpAny_pure ⟨_, rfl, wpAny_pure h⟩))) htake)
    | exact wpAny_bind (wpAny_bind (m := Builtin.Tuple.tupleExact _) (wpAny_newObj_type (wpAny_pure (wpAny_pure ⟨_, rfl, wpAny_pure h⟩)) htake))
    | exact wpAny_bind (wpAny_bind (m := Builtin.Tuple.tupleExact _) (wpAny_newObj_type (wpAny_pure ⟨_, rfl, wpAny_pure h⟩) htake))
end
end HT

namespace L2
open PySem PySem.Spec PyProof.Rows

/-! ### the parts of a slice -/
abbrev TO := St → Hp → (Option Int → Hp → Prop) → Prop
/-- a slice's part (left out, or an int) -/
def PO (X : Cx) (e : Option Expr) (t : TO) : Prop :=
  ∀ (pins : List (Addr × Obj)) (s : Shared) (σ : St) (H : Hp) (Q : Option Int → Hp → Prop), Inv X pins σ H s → t σ H Q →
    wpAny (model X.prog X.w) X.A (evalPart e X.env) (fun u s' => ∃ o H', Inv X pins σ H' s' ∧ IsPart u o ∧ Q o H') X.xe s
def tNoPart : TO := fun _ H Q => Q none H
def tPart (t : TE) : TO := fun σ H Q => t σ H fun x H1 => ∃ i, x = .int i ∧ Q (some i) H1


section
variable {X : Cx} {e : Expr} {te : TE} {lo hi : Option Expr} {tl th : TO} {pos p2 : Pos}

theorem po_some (h : PE X e te) : PO X (some e) (tPart te) := by
  intro pins s σ H Q I hw
  rw [evalPart_some]
  refine thn (h pins s σ H _ I hw) fun u s1 ⟨x, H1, I1, r1, q1⟩ => ?_
  obtain ⟨i, rfl, q⟩ := q1
  obtain ⟨t, rfl⟩ := r1
  exact ⟨some i, H1, I1, .int i t, q⟩

/-- what a slice of a value is, by values: the slice object stands at sl -/
def SlR (X : Cx) (r : V → Option Int → Option Int → Hp → VK → Prop) : Prop :=
  ∀ (pins : List (Addr × Obj)) (s : Shared) (σ : St) (H : Hp) (x : V) (v vl vu : Value) (lo hi : Option Int) (sl : Addr) (Q : VK), Inv X pins σ H s → RelV x v → s.heap.IsSliceOf sl vl vu .none → IsPart vl lo → IsPart vu hi → r x lo hi H Q →
    ∃ T id, typeLookup (.type T) "__getitem__" = pure (some (.builtin id)) ∧ s.TypeIs v T ∧ wpAny (model X.prog X.w) X.A (getItem v (.ref sl)) (EP X pins σ Q) X.xe s
def tSl (r : V → Option Int → Option Int → Hp → VK → Prop) (te : TE) (tl th : TO) : TE := fun σ H Q => te σ H fun x H1 => tl σ H1 fun l H2 => th σ H2 fun u H3 => r x l u H3 Q
/-- a[lo:hi], any a -/
theorem pe_slice {r : V → Option Int → Option Int → Hp → VK → Prop} (hr : SlR X r) (he : PE X e te) (hl : PO X lo tl) (hu : PO X hi th) : PE X (.Subscript e (.Slice lo hi none p2) pos) (tSl r te tl th) := by
  intro pins s σ H Q I h
  refine Subscript_ (thn (he pins s σ H _ I h) fun v s1 ⟨x, H1, I1, r1, q1⟩ => ?_)
  refine wpAny_Slice (thn (hl pins s1 σ H1 _ I1 q1) fun vl s2 ⟨l, H2, I2, pl, q2⟩ => thn (hu pins s2 σ H2 _ I2 q2) fun vu s3 ⟨u, H3, I3, pu, q3⟩ => ?_)
  rw [evalPart_none]
  refine wpAny_pure ?_
  have I4 : Inv X pins σ H3 { s3 with heap := s3.heap.push { cls := .type "slice", data := .fields #[vl, vu, .none] } } := I3.kept (t' := s3.toks) fun b ob q => Heap.get?_push_of_some _ q
  obtain ⟨T, id, hT, ht, hg⟩ := hr pins { s3 with heap := s3.heap.push { cls := .type "slice", data := .fields #[vl, vu, .none] } } σ H3 x v vl vu l u s3.heap.objs.size Q I4 r1 (Heap.IsSliceOf.new ..) pl pu q3
  show wpAny (model X.prog X.w) X.A (subscriptTail e (.Slice lo hi none p2) v (.ref s3.heap.objs.size)) (EP X pins σ Q) X.xe { s3 with heap := s3.heap.push { cls := .type "slice", data := .fields #[vl, vu, .none] } }
  exact tail_any (ops := [.ref s3.heap.objs.size, v]) ht hT hg (by with_unfolding_all rfl)

/-- the items of xs[lo:hi] -/
def cutV (xs : List V) (lo hi : Option Int) : List V := (xs.drop (HT.sIx xs.length 0 lo)).take (HT.sIx xs.length xs.length hi - HT.sIx xs.length 0 lo)
theorem cutV_length (xs : List V) (lo hi : Option Int) : (cutV xs lo hi).length ≤ xs.length := by
  unfold cutV
  rw [List.length_take, List.length_drop]
  omega
/-- t[lo:hi], not the whole of it (the whole would be t itself) -/
def rSlT (K : PySem.W.Frag) : V → Option Int → Option Int → Hp → VK → Prop := fun x lo hi H Q => ∃ a xs, x = .ref a ∧ SqT K H a xs ∧
  ¬ (HT.sIx xs.length 0 lo = 0 ∧ HT.sIx xs.length xs.length hi = xs.length) ∧ ∀ p, H p = none → Q (.ref p) (upd H p (.tup (cutV xs lo hi)))
theorem sl_tup : SlR X (rSlT X.K) := by
  intro pins s σ H x v vl vu lo hi sl Q I rx hs pl pu h
  obtain ⟨a, xs, rfl, hx, hw, q⟩ := h
  cases rx
  obtain ⟨its, r, ht, hz⟩ := I.tuple hx
  have hlen : its.toArray.size = xs.length := by rw [List.size_toArray]; exact r.length.symm
  refine ⟨"tuple", _, PyProof.Rows.slot_tuple_getitem.lookup, ht.typeIs, ?_⟩
  refine HT.getItem_tuple_cut ht hs pl pu (by rw [hlen]; exact hw) ?_ (by rw [hlen]; exact hz)
  rw [hlen]
  refine ⟨.ref s.heap.objs.size, _, I.laid (t' := s.toks) (o := .tup (cutV xs lo hi)) (fun b ob q => Heap.get?_push_of_some _ q) (Nat.le_refl _) ?_, rfl, q _ (I.hok.fresh (Nat.le_refl _))⟩
  exact ⟨Nat.le_trans (cutV_length xs lo hi) hz, _, (r.drop (HT.sIx xs.length 0 lo)).take (HT.sIx xs.length xs.length hi - HT.sIx xs.length 0 lo), IsTp.new _ _⟩

/-! ### t < u, t + u -/
def rLtT (K : PySem.W.Frag) : R2 := fun x y H Q => ∃ a b ns ms, x = .ref a ∧ y = .ref b ∧ SqT K H a (ns.map V.int) ∧ SqT K H b (ms.map V.int) ∧ Q (.bl (HT.lexLt ns ms)) H
/-- t + u, t not empty: u empty gives t itself -/
def rCatT (K : PySem.W.Frag) : R2 := fun x y H Q => ∃ a b xs ys, x = .ref a ∧ y = .ref b ∧ SqT K H a xs ∧ SqT K H b ys ∧ xs ≠ [] ∧ xs.length + ys.length ≤ sizeLine ∧
  (ys = [] → Q (.ref a) H) ∧ (ys ≠ [] → ∀ p, H p = none → Q (.ref p) (upd H p (.tup (xs ++ ys))))
end
end L2

namespace L2
open PySem PySem.Spec PyProof.Rows

/-! ### places -/
/-- the place that an index of any sign means -/
def ixN (n : Nat) (i : Int) : Option Nat := if 0 ≤ i then (if i < n then some i.toNat else none) else if -(n : Int) ≤ i then some (i + n).toNat else none
def atI {α : Type} (xs : List α) (i : Int) : Option α := (ixN xs.length i).bind fun j => xs[j]?
theorem ixN_seq {n : Nat} {i : Int} {j : Nat} (h : ixN n i = some j) : seqIndex? i n = some j ∧ j < n ∧ -(n : Int) ≤ i ∧ i < n := by
  unfold ixN at h
  by_cases h0 : 0 ≤ i
  · rw [if_pos h0] at h
    by_cases h1 : i < n
    · rw [if_pos h1] at h
      have e : i.toNat = j := Option.some.inj h
      exact ⟨by rw [seqIndex_of h0 h1, e], by omega, by omega, h1⟩
    · rw [if_neg h1] at h; cases h
  · rw [if_neg h0] at h
    by_cases h1 : -(n : Int) ≤ i
    · rw [if_pos h1] at h
      have e : (i + n).toNat = j := Option.some.inj h
      exact ⟨by rw [seqIndex_neg (by omega) h1, e], by omega, h1, by omega⟩
    · rw [if_neg h1] at h; cases h
theorem atI_get {α : Type} {xs : List α} {i : Int} {v : α} (h : atI xs i = some v) : ∃ j, seqIndex? i xs.length = some j ∧ xs[j]? = some v ∧ j < xs.length ∧ -(xs.length : Int) ≤ i ∧ i < xs.length := by
  unfold atI at h
  cases e : ixN xs.length i with
  | none => rw [e] at h; cases h
  | some j =>
    rw [e] at h
    obtain ⟨h1, h2, h3, h4⟩ := ixN_seq e
    exact ⟨j, h1, h, h2, h3, h4⟩
theorem atI_nat {α : Type} {xs : List α} {j : Nat} {v : α} (h : xs[j]? = some v) : atI xs (j : Int) = some v := by
  have hj : j < xs.length := (List.getElem?_eq_some_iff.mp h).1
  have e : ixN xs.length (j : Int) = some j := by
    unfold ixN
    rw [if_pos (by omega), if_pos (by omega)]; simp
  unfold atI; rw [e]; exact h
theorem atI_last {α : Type} (xs : List α) (v : α) : atI (xs ++ [v]) (-1) = some v := by
  have hl : (xs ++ [v]).length = xs.length + 1 := by simp
  have e : ixN (xs ++ [v]).length (-1) = some xs.length := by
    unfold ixN
    rw [hl, if_neg (by decide), if_pos (by omega)]
    congr 1
    omega
  unfold atI
  rw [e]
  show (xs ++ [v])[xs.length]? = some v
  simp

/-! ### what may be subscripted -/
/-- what stands as an index of a plain subscript -/
def PlainIx (b : Expr) : Prop := ∀ o i, subscripted b false o i = operate [o, i] (getItem o i)
/-- a subscript by values -/
def IxR (X : Cx) (r : R2) : Prop :=
  ∀ (value slice : Expr) (pins : List (Addr × Obj)) (s : Shared) (σ : St) (H : Hp) (x y : V) (v u : Value) (Q : VK), Inv X pins σ H s → RelV x v → RelV y u → r x y H Q →
    subscripted slice false v u = operate [v, u] (getItem v u) → wpAny (model X.prog X.w) X.A (subscriptTail value slice v u) (EP X pins σ Q) X.xe s
/-- a call of a builtin's method by values: the receiver, the arguments -/
def MtR (X : Cx) (id : String) (r : V → List V → Hp → VK → Prop) : Prop :=
  ∀ (pins : List (Addr × Obj)) (s : Shared) (σ : St) (H : Hp) (x : V) (xs : List V) (v : Value) (us : List Value) (Q : VK), Inv X pins σ H s → RelV x v → Vals xs us → r x xs H Q →
    wpAny (model X.prog X.w) X.A (call (.builtin id) (v :: us)) (EP X pins σ Q) X.xe s
section
variable {X : Cx} {a b : Expr} {ta tb : TE} {pos : Pos}
/-- a[b] -/
theorem pe_ix {r : R2} (hr : IxR X r) (ha : PE X a ta) (hb : PE X b tb) (hs : PlainIx b) : PE X (.Subscript a b pos) (tOp r ta tb) := by
  intro pins s σ H Q I h
  exact Subscript_ (binT ha hb I h fun v u s2 x y H2 I2 rx ry q => hr a b pins s2 σ H2 x y v u Q I2 rx ry q (hs _ _))

def rIxL (K : PySem.W.Frag) : R2 := fun x y H Q => ∃ p xs i v, x = .ref p ∧ y = .int i ∧ SqL K H p xs ∧ atI xs i = some v ∧ Q v H
def rIxT (K : PySem.W.Frag) : R2 := fun x y H Q => ∃ p xs i v, x = .ref p ∧ y = .int i ∧ SqT K H p xs ∧ atI xs i = some v ∧ Q v H
def rIxS : R2 := fun x y H Q => ∃ z i c, x = .str z ∧ y = .int i ∧ z.length ≤ sizeLine ∧ atI z.cps.toList i = some c ∧ Q (.str ⟨#[c]⟩) H
theorem ix_list : IxR X (rIxL X.K) := by
  intro value slice pins s σ H x y v u Q I rx ry h hs
  obtain ⟨p, xs, i, z, rfl, rfl, hq, he, q⟩ := h
  cases rx
  obtain ⟨t, rfl⟩ := ry
  obtain ⟨its, r, pl, hz⟩ := I.list hq
  obtain ⟨j, h1, h2, h3, h4, h5⟩ := atI_get he
  obtain ⟨w, ew, rw'⟩ := r.get h2
  have hl := r.length
  have hn := line63
  have fin : EP X pins σ Q w s := ⟨z, H, I, rw', q⟩
  by_cases h0 : 0 ≤ i
  · have hj : i.toNat = j := by
      rw [seqIndex_of h0 h5] at h1
      exact Option.some.inj h1
    exact item_listR pl.isList h0 (by omega) (by rw [hj]; simpa using ew) fin hs
  · have hj : (i + (its.toArray.size : Int)).toNat = j := by
      rw [seqIndex_neg (by omega) h4] at h1
      rw [List.size_toArray, ← hl]
      exact Option.some.inj h1
    exact subscriptTail_builtinR (x := w) pl.isList.typeIs slot_list_getitem.lookup
      (wpAny_getItem_list_neg (Q := fun r s' => r = w ∧ EP X pins σ Q r s') pl.isList (by omega) (by rw [List.size_toArray] <;> omega) (by omega) (by rw [hj]; simpa using ew) ⟨rfl, fin⟩) hs
theorem ix_tup : IxR X (rIxT X.K) := by
  intro value slice pins s σ H x y v u Q I rx ry h hs
  obtain ⟨p, xs, i, z, rfl, rfl, hq, he, q⟩ := h
  cases rx
  obtain ⟨t, rfl⟩ := ry
  obtain ⟨its, r, pl, hz⟩ := I.tuple hq
  obtain ⟨j, h1, h2, h3, h4, h5⟩ := atI_get he
  obtain ⟨w, ew, rw'⟩ := r.get h2
  have hl := r.length
  have hn := line63
  have fin : EP X pins σ Q w s := ⟨z, H, I, rw', q⟩
  exact subscriptTail_builtinR (x := w) pl.typeIs slot_tuple_getitem.lookup
    (getItem_tuple (j := j) (Q := fun r s' => r = w ∧ EP X pins σ Q r s') pl (by omega) (by omega) (by rw [List.size_toArray, ← hl]; exact h1) (by simpa using ew) ⟨rfl, fin⟩) hs
/-- list, tuple or str -/
def rIx (K : PySem.W.Frag) : R2 := fun x y H Q => rIxL K x y H Q ∨ rIxT K x y H Q ∨ rIxS x y H Q

/-! ### xs[i] = v, any sign -/
/-- the list's object behind a store -/
theorem mapSeq_set (its : List Value) (n j : Nat) (u : Value) : Obj.mapSeq (·.setIfInBounds j u) { cls := .type "list", data := .seq its.toArray n } = { cls := .type "list", data := .seq (its.set j u).toArray n } := by
  simp [Obj.mapSeq]
theorem Inv.lst {pins : List (Addr × Obj)} {σ : St} {H : Hp} {s : Shared} {p : Addr} {xs : List V} (I : Inv X pins σ H s) (h : H p = some (.lst xs)) :
    ∃ (its : List Value) (n : Nat), Vals xs its ∧ s.heap.get? p = some { cls := .type "list", data := .seq its.toArray n } ∧ xs.length ≤ sizeLine := by
  obtain ⟨z, its, n, r, e⟩ := I.hok p _ h
  exact ⟨its, n, r, e, z⟩
/-- the list at p is written by an update of its object -/
theorem Inv.lstUpd {pins : List (Addr × Obj)} {σ : St} {H : Hp} {s : Shared} {p : Addr} {xs ys : List V} {its its' : List Value} {n n' : Nat} {f : Obj → Obj} (I : Inv X pins σ H s) (h : H p = some (.lst xs))
    (ho : s.heap.get? p = some { cls := .type "list", data := .seq its.toArray n }) (hf : f { cls := .type "list", data := .seq its.toArray n } = { cls := .type "list", data := .seq its'.toArray n' }) (r : Vals ys its') (hz : ys.length ≤ sizeLine) (t : Nat) :
    Inv X pins σ (upd H p (.lst ys)) { s with heap := s.heap.update p f, toks := t } := by
  have e : (s.heap.update p f).get? p = some { cls := .type "list", data := .seq its'.toArray n' } := by
    rw [Heap.get?_update_self f ho (by rw [hf] <;> rfl), hf]
  refine I.write (x := p) (e := p) (by rw [h]; trivial) (.inl rfl) (fun b u hb q => (Heap.get?_update_other _ _ (Ne.symm hb)).trans q) ⟨_, e⟩ ?_
  exact ⟨hz, its', n', r, e⟩
def rSetL : V → V → V → Hp → (Hp → Prop) → Prop := fun o i v H Q => ∃ p xs k j, o = .ref p ∧ i = .int k ∧ H p = some (.lst xs) ∧ ixN xs.length k = some j ∧ Q (upd H p (.lst (xs.set j v)))
theorem set_list : PSet X rSetL := by
  intro pins s σ H o i v ov iv u Q I ro ri rv h
  obtain ⟨p, xs, k, j, rfl, rfl, hp, hj, q⟩ := h
  cases ro
  obtain ⟨t, rfl⟩ := ri
  obtain ⟨its, n, r, ho, hz⟩ := I.lst hp
  obtain ⟨h1, h2, h3, h4⟩ := ixN_seq hj
  have hl := r.length
  have hn := line63
  have I' : Inv X pins σ (upd H p (.lst (xs.set j v))) { s with heap := s.heap.update p (Obj.mapSeq (·.setIfInBounds j u)) } :=
    I.lstUpd hp ho (mapSeq_set its n j u) (r.set rv j) (by rw [List.length_set]; exact hz) s.toks
  by_cases h0 : 0 ≤ k
  · have hk : k.toNat = j := by
      rw [seqIndex_of h0 h4] at h1
      exact Option.some.inj h1
    exact PySem.W.ki_setAt ho h0 (by omega) (by rw [List.size_toArray, ← hl]; exact h4) (by rw [hk]; exact ⟨_, I', q⟩)
  · have hk : (k + (its.toArray.size : Int)).toNat = j := by
      rw [seqIndex_neg (by omega) h3] at h1
      rw [List.size_toArray, ← hl]
      exact Option.some.inj h1
    exact PySem.W.ki_setBack ho (by omega) (by rw [List.size_toArray, ← hl]; exact h3) (by omega) (by rw [hk]; exact ⟨_, I', q⟩)

/-! ### slices -/
theorem slice_bounds (lo hi : Option Int) (n : Nat) : (sliceBounds lo hi none n).1 = ((HT.sIx n 0 lo : Nat) : Int) ∧ (sliceBounds lo hi none n).2.1 = ((HT.sIx n n hi : Nat) : Int) ∧ (sliceBounds lo hi none n).2.2 = 1 := by
  refine ⟨?_, ?_, rfl⟩
  · cases lo with
    | none => simp [sliceBounds, HT.sIx]
    | some i =>
      simp only [sliceBounds, HT.sIx, Option.getD_none, show (1 : Int) > 0 by decide, if_true]
      by_cases h : i < 0
      · simp only [h, if_true] <;> omega
      · simp only [h, if_false] <;> omega
  · cases hi with
    | none => simp [sliceBounds, HT.sIx]
    | some i =>
      simp only [sliceBounds, HT.sIx, Option.getD_none, show (1 : Int) > 0 by decide, if_true]
      by_cases h : i < 0
      · simp only [h, if_true] <;> omega
      · simp only [h, if_false] <;> omega
theorem slicePick_cut (its : List Value) (lo hi : Option Int) : slicePick its.toArray lo hi none = ((its.drop (HT.sIx its.length 0 lo)).take (HT.sIx its.length its.length hi - HT.sIx its.length 0 lo)).toArray := by
  obtain ⟨h1, h2, h3⟩ := slice_bounds lo hi its.toArray.size
  unfold slicePick
  rw [h1, h2, h3]
  simp only [sliceRange_one, pick_run, List.size_toArray] <;> rfl
/-- xs[lo:hi] of a list: a new list -/
def rSlL (K : PySem.W.Frag) : V → Option Int → Option Int → Hp → VK → Prop := fun x lo hi H Q => ∃ a xs, x = .ref a ∧ SqL K H a xs ∧ ∀ p, H p = none → Q (.ref p) (upd H p (.lst (cutV xs lo hi)))
theorem sl_list : SlR X (rSlL X.K) := by
  intro pins s σ H x v vl vu lo hi sl Q I rx hs pl pu h
  obtain ⟨a, xs, rfl, hx, q⟩ := h
  cases rx
  obtain ⟨its, r, ht, hz⟩ := I.list hx
  have hlen := r.length
  refine ⟨"list", _, slot_list_getitem.lookup, ht.isList.typeIs, ?_⟩
  refine wpAny_getItem_list_slice ht.isList hs pl pu .none (by simp) ?_ (by rw [List.size_toArray] <;> omega)
  rw [slicePick_cut, ← hlen]
  refine ⟨.ref s.heap.objs.size, _, I.laid (t' := s.toks) (o := .lst (cutV xs lo hi)) (fun b ob q => Heap.get?_push_of_some _ q) (Nat.le_refl _) ?_, rfl, q _ (I.hok.fresh (Nat.le_refl _))⟩
  exact ⟨Nat.le_trans (cutV_length xs lo hi) hz, _, 0, (r.drop (HT.sIx xs.length 0 lo)).take (HT.sIx xs.length xs.length hi - HT.sIx xs.length 0 lo), Heap.get?_push_size _ rfl⟩

/-! ### in, not in: flat items -/
def flatV : V → Bool
  | .non => true
  | .bl _ => true
  | .int _ => true
  | .str _ => true
  | _ => false
/-- == of flat values -/
def eqV : V → V → Bool
  | .non, .non => true
  | .bl a, .bl b => a == b
  | .bl a, .int b => (if a then 1 else 0) == b
  | .int a, .bl b => a == (if b then 1 else 0)
  | .int a, .int b => a == b
  | .str a, .str b => a == b
  | _, _ => false
/-- the items' answers, read off the values (a value's own answer does not lean on its token) -/
def eqU (x : V) (u : Value) : Bool := match u with
  | .none => eqV .non x
  | .bool b => eqV (.bl b) x
  | .int i _ => eqV (.int i) x
  | .str z _ => eqV (.str z) x
  | _ => false
def inV (x : V) (xs : List V) : Bool := xs.any fun y => eqV y x
/-- x in a list or tuple of flat items -/
def rIn (K : PySem.W.Frag) (neg : Bool) : R2 := fun x y H Q => ∃ p xs, y = .ref p ∧ (SqL K H p xs ∨ SqT K H p xs) ∧ flatV x = true ∧ xs.all flatV = true ∧ Q (.bl (if neg then !inV x xs else inV x xs)) H

/-! ### len, list(x), tuple(x) of any list or tuple that is read -/
theorem call_len_seq : CallR X (.builtin "len") (fun xs H Q => ∃ p ys, xs = [.ref p] ∧ (SqL X.K H p ys ∨ SqT X.K H p ys) ∧ Q (.int ys.length) H) := by
  intro pins s σ H xs us Q I r h
  obtain ⟨p, ys, rfl, hq, q⟩ := h
  obtain ⟨u, rfl, rx⟩ := vals1 r
  cases rx
  have hn := line63
  rcases hq with hq | hq
  · obtain ⟨its, r', pl, hz⟩ := I.list hq
    have hlen := r'.length
    exact Calls.call_len_list pl.isList (by simp only [List.size_toArray] <;> omega) ⟨.int ys.length, H, I.tok _, ⟨s.toks + 1, by rw [List.size_toArray, hlen]⟩, q⟩
  · obtain ⟨its, r', pl, hz⟩ := I.tuple hq
    have hlen := r'.length
    exact len_tuple pl (by simp only [List.size_toArray] <;> omega) ⟨.int ys.length, H, I.tok _, ⟨s.toks + 1, by rw [List.size_toArray, hlen]⟩, q⟩
theorem call_list_of : CallR X (.type "list") (fun xs H Q => ∃ p ys, xs = [.ref p] ∧ (SqL X.K H p ys ∨ SqT X.K H p ys) ∧ ∀ l, H l = none → Q (.ref l) (upd H l (.lst ys))) := by
  intro pins s σ H xs us Q I r h
  obtain ⟨p, ys, rfl, hq, q⟩ := h
  obtain ⟨u, rfl, rx⟩ := vals1 r
  cases rx
  have fin : ∀ (its : List Value), Vals ys its → ys.length ≤ sizeLine → ∀ (h' : Heap) (c' : Nat), (∀ b o', s.heap.get? b = some o' → h'.get? b = some o') →
      h'.get? s.heap.objs.size = some { cls := .type "list", dict := none, data := .seq its.toArray c', slots := #[] } → EP X pins σ Q (.ref s.heap.objs.size) { s with heap := h' } := fun its r' hz h' c' kp e =>
    ⟨.ref s.heap.objs.size, _, I.laid (t' := s.toks) kp (Nat.le_refl _) (show ObjOk X.prog X.w _ h' _ (.lst ys) from ⟨hz, its, c', r', e⟩), rfl, q _ (I.hok.fresh (Nat.le_refl _))⟩
  rcases hq with hq | hq
  · obtain ⟨its, r', pl, hz⟩ := I.list hq
    have hlen := r'.length
    obtain ⟨o, ho, hc, n, hd⟩ := pl.isList
    exact call_list_seq p (.inl rfl) ho hc hd (fun h' c' kp e => fin its r' hz h' c' kp e) (by simp only [List.size_toArray] <;> omega)
  · obtain ⟨its, r', pl, hz⟩ := I.tuple hq
    have hlen := r'.length
    obtain ⟨o, ho, hc, n, hd⟩ := pl
    exact call_list_seq p (.inr rfl) ho hc hd (fun h' c' kp e => fin its r' hz h' c' kp e) (by simp only [List.size_toArray] <;> omega)
theorem call_tuple_of : CallR X (.type "tuple") (fun xs H Q => ∃ p ys, xs = [.ref p] ∧ ((SqL X.K H p ys ∧ ∀ l, H l = none → Q (.ref l) (upd H l (.tup ys))) ∨ (SqT X.K H p ys ∧ Q (.ref p) H))) := by
  intro pins s σ H xs us Q I r h
  obtain ⟨p, ys, rfl, h⟩ := h
  obtain ⟨u, rfl, rx⟩ := vals1 r
  cases rx
  rcases h with ⟨hq, q⟩ | ⟨hq, q⟩
  · obtain ⟨its, r', pl, hz⟩ := I.list hq
    have hlen := r'.length
    refine call_tuple_list pl.isList (fun h' kp => ?_) (by simp only [List.size_toArray] <;> omega)
    have I1 : Inv X pins σ H { s with heap := h' } := I.kept (t' := s.toks) kp
    have I2 : Inv X pins σ (upd H h'.objs.size (.tup ys)) { s with heap := h'.push { cls := .type "tuple", data := .seq its.toArray } } :=
      I1.laid (t' := s.toks) (fun b o e => Heap.get?_push_of_some _ e) (Nat.le_refl _) (show ObjOk X.prog X.w _ _ _ (.tup ys) from ⟨hz, its, r', IsTp.new _ _⟩)
    exact ⟨.ref h'.objs.size, _, I2, rfl, q _ (I1.hok.fresh (Nat.le_refl _))⟩
  · obtain ⟨its, r', pl, hz⟩ := I.tuple hq
    exact call_tuple_same pl ⟨.ref p, H, I, rfl, q⟩

/-! ### the call of a builtin's method: o.m(..) -/
/-- the value is of that builtin type -/
def tyV (K : PySem.W.Frag) (T : String) (x : V) (H : Hp) : Prop := match x with
  | .str _ => T = "str"
  | .int _ => T = "int"
  | .ref p => (T = "list" ∧ ∃ xs, SqL K H p xs) ∨ (T = "tuple" ∧ ∃ o, K.lookup p = some o ∧ o.cls = .type "tuple" ∧ o.dict = none) ∨
      (T = "dict" ∧ ((∃ kvs, H p = some (.dK kvs)) ∨ ∃ kvs, H p = some (.dT kvs))) ∨ (T = "set" ∧ ∃ S n, H p = some (.set S n))
  | _ => False
theorem tyV_is {pins : List (Addr × Obj)} {σ : St} {H : Hp} {s : Shared} {T : String} {x : V} {v : Value} (I : Inv X pins σ H s) (r : RelV x v) (ty : tyV X.K T x H) :
    s.TypeIs v T ∧ ∀ a, v = .ref a → ∃ ob, s.heap.get? a = some ob ∧ ob.dict = none := by
  cases x with
  | str z =>
    obtain ⟨t, rfl⟩ := r
    cases (show T = "str" from ty)
    exact ⟨typeIs_str s z t, fun _ e => nomatch e⟩
  | int i =>
    obtain ⟨t, rfl⟩ := r
    cases (show T = "int" from ty)
    exact ⟨typeIs_int s i t, fun _ e => nomatch e⟩
  | ref p =>
    cases r
    rcases ty with ⟨rfl, xs, hq⟩ | ⟨rfl, o, hk, hc, hd⟩ | ⟨rfl, hk⟩ | ⟨rfl, S, n, hk⟩
    · obtain ⟨its, _, pl, _⟩ := I.list hq
      refine ⟨pl.isList.typeIs, fun a e => ?_⟩
      cases e
      obtain ⟨o, n, e, c, hd, _⟩ := pl
      exact ⟨o, e, hd⟩
    · refine ⟨⟨o, I.kIn p o hk, hc⟩, fun a e => ?_⟩
      cases e
      exact ⟨o, I.kIn _ o hk, hd⟩
    · have z : ∃ o, s.heap.get? p = some o ∧ o.ExactDict := by
        rcases hk with ⟨kvs, hk⟩ | ⟨kvs, hk⟩
        · obtain ⟨_, _, _, _, o, _, _, e, ex, _⟩ := I.hok p _ hk
          exact ⟨o, e, ex⟩
        · obtain ⟨_, _, _, _, o, _, _, e, ex, _⟩ := I.hok p _ hk
          exact ⟨o, e, ex⟩
      obtain ⟨o, e, ex⟩ := z
      refine ⟨⟨o, e, ex.1⟩, fun a e2 => ?_⟩
      cases e2
      exact ⟨o, e, ex.2.1⟩
    · obtain ⟨o, _, _, _, e, ex, _⟩ := I.hok p _ hk
      refine ⟨⟨o, e, ex.1⟩, fun a e2 => ?_⟩
      cases e2
      exact ⟨o, e, ex.2.1⟩
  | _ => exact False.elim ty
def tBM0 (K : PySem.W.Frag) (T : String) (r : V → List V → Hp → VK → Prop) (to : TE) : TE := fun σ H Q => to σ H fun x H1 => tyV K T x H1 ∧ r x [] H1 Q
def tBM (K : PySem.W.Frag) (T : String) (r : V → List V → Hp → VK → Prop) (to : TE) (t : TA) : TE := fun σ H Q => to σ H fun x H1 => tyV K T x H1 ∧ t σ H1 fun xs H2 => r x xs H2 Q
variable {o e : Expr} {es : List Expr} {to : TE} {t : TA} {name : Str} {apos cpos : Pos} {T id : String} {r : V → List V → Hp → VK → Prop}
theorem pe_bm0 (pa : PlainAttrs T) (slot : Slot T name id) (hty : typeOf (.builtin id) = pure (.type "method_descriptor")) (hm : MtR X id r) (ho : PE X o to)
    (hbase : attributeBase o name X.env (eval o X.env) = eval o X.env := by rfl) (hline : (apos.endLine == cpos.line) = true := by rfl) : PE X (.Call (.Attribute o name apos) [] [] cpos) (tBM0 X.K T r to) := by
  intro pins s σ H Q I h
  refine wpAny_Call_method0_late hbase hline (thn (ho pins s σ H _ I h) fun v s1 ⟨x, H1, I1, r1, ty, q1⟩ => ?_)
  obtain ⟨h1, h2⟩ := tyV_is I1 r1 ty
  exact ⟨T, id, pa, slot, hty, h1, h2, Calls.callWith_builtin rfl (PySem.evalArgs_none (hm pins s1 σ H1 x [] v [] Q I1 r1 .nil q1))⟩
theorem pe_bm (pa : PlainAttrs T) (slot : Slot T name id) (hty : typeOf (.builtin id) = pure (.type "method_descriptor")) (hm : MtR X id r) (ho : PE X o to) (ha : PA X (e :: es) t)
    (hbase : attributeBase o name X.env (eval o X.env) = eval o X.env := by rfl)
    (hfew : ((backTo cpos (starEach (e :: es) X.env)).all (fun x => !x.1) && (backToKw cpos (keywordEach [] X.env)).all (fun x => x.1.isSome)
      && decide ((e :: es).length + ([] : List Keyword).length + (if ([] : List Keyword).isEmpty then 0 else 1) < 30)) = true := by rfl)
    (hline : (apos.endLine == cpos.line) = true := by rfl) (hs : starEach (e :: es) X.env = (false, eval e X.env) :: starEach es X.env := by rfl) (hplain : (backTo cpos (starEach es X.env)).any (·.1) = false := by rfl) :
    PE X (.Call (.Attribute o name apos) (e :: es) [] cpos) (tBM X.K T r to t) := by
  intro pins s σ H Q I h
  refine wpAny_Call_method_late hbase hfew hline rfl (thn (ho pins s σ H _ I h) fun v s1 ⟨x, H1, I1, r1, ty, q1⟩ => ?_)
  obtain ⟨h1, h2⟩ := tyV_is I1 r1 ty
  refine ⟨T, id, pa, slot, hty, h1, h2, ?_⟩
  have hA := ha cpos pins s1 σ H1 _ I1 q1
  rw [hs] at hA ⊢
  refine Calls.callWith_builtin (by show (false || (backTo cpos (starEach es X.env)).any (·.1)) = false; rw [hplain] <;> rfl) (Calls.evalArgs_plain ?_)
  exact thn hA fun us s2 ⟨vs, H2, I2, r2, q2⟩ => hm pins s2 σ H2 x vs v us Q I2 r1 r2 q2
/- xs.append(e), list.index on a module's tuple .. are MtR facts of 06m -/
end
end L2

namespace L2
open PySem PySem.Spec PyProof.Rows

def MtM (X : Cx) (id : String) (r : V → List V → Hp → VK → Prop) : Prop :=
  ∀ (pins : List (Addr × Obj)) (s : Shared) (σ : St) (H : Hp) (x : V) (xs : List V) (v : Value) (us : List Value) (Q : VK), Inv X pins σ H s → RelV x v → Vals xs us → r x xs H Q →
    wpAny (model X.prog X.w) X.A (call (.builtin id) (v :: us)) (EP X pins σ Q) X.xe s

/-! ### lists of values -/
theorem Vals.one : ∀ {x : V} {us : List Value}, Vals [x] us → ∃ u, us = [u] ∧ RelV x u
  | _, _, .cons r .nil => ⟨_, rfl, r⟩
theorem Vals.two : ∀ {x y : V} {us : List Value}, Vals [x, y] us → ∃ u v, us = [u, v] ∧ RelV x u ∧ RelV y v
  | _, _, _, .cons r (.cons q .nil) => ⟨_, _, rfl, r, q⟩
theorem Vals.zero : ∀ {us : List Value}, Vals [] us → us = []
  | _, .nil => rfl
theorem Vals.dropLast {xs : List V} {us : List Value} (h : Vals xs us) : Vals xs.dropLast us.dropLast := by
  induction h with
  | nil => exact .nil
  | cons r t ih =>
    cases t with
    | nil => exact .nil
    | cons q t' => exact .cons r ih
theorem Vals.eraseIdx : ∀ {xs : List V} {us : List Value} (i : Nat), Vals xs us → Vals (xs.eraseIdx i) (us.eraseIdx i)
  | _, _, _, .nil => .nil
  | _, _, 0, .cons _ t => t
  | _, _, i + 1, .cons r t => .cons r (Vals.eraseIdx i t)
theorem Vals.rep {xs : List V} {us : List Value} (h : Vals xs us) : ∀ k : Nat, Vals (List.replicate k xs).flatten (List.replicate k us).flatten
  | 0 => .nil
  | k + 1 => by
    rw [List.replicate_succ, List.replicate_succ, List.flatten_cons, List.flatten_cons]
    exact Vals.append h (Vals.rep h k)
theorem erase_last {α : Type} (l : List α) : l.eraseIdx (l.length - 1) = l.dropLast := by
  induction l with
  | nil => rfl
  | cons a r ih =>
    cases r with
    | nil => rfl
    | cons b r =>
      have e : (a :: b :: r).length - 1 = ((b :: r).length - 1) + 1 := by
        have h1 : (a :: b :: r).length = r.length + 2 := rfl
        have h2 : (b :: r).length = r.length + 1 := rfl
        omega
      rw [e, List.eraseIdx_cons_succ, ih]
      all_goals rfl
theorem len_erase {α : Type} : ∀ (l : List α) (i : Nat), (l.eraseIdx i).length ≤ l.length
  | [], _ => Nat.le_refl _
  | _ :: _, 0 => Nat.le_succ _
  | _ :: r, i + 1 => Nat.succ_le_succ (len_erase r i)
theorem foldl_rep (its : List Value) : ∀ (k : Nat) (acc : List Value),
    List.foldl (fun x1 x2 => x1 ++ x2) acc.toArray (List.replicate k its.toArray) = (acc ++ (List.replicate k its).flatten).toArray
  | 0, acc => by simp
  | k + 1, acc => by
    have e : acc.toArray ++ its.toArray = (acc ++ its).toArray := by simp
    have e2 : (acc ++ its) ++ (List.replicate k its).flatten = acc ++ (List.replicate (k + 1) its).flatten := by
      rw [List.replicate_succ, List.flatten_cons, List.append_assoc]
    rw [← e2, ← foldl_rep its k (acc ++ its), ← e, List.replicate_succ, List.foldl_cons]

section
variable {X : Cx} {pins : List (Addr × Obj)} {σ : St} {H : Hp} {s : Shared} {l b : Addr} {xs ys zs : List V}

/-! ### the two steps: a tracked list is rewritten, a new list is laid -/
theorem Inv.lset {its its' : List Value} {n : Nat} {f : Array Value → Array Value} {t' : Nat} (I : Inv X pins σ H s) (hH : H l = some (.lst xs))
    (e : s.heap.get? l = some { cls := .type "list", data := .seq its.toArray n }) (hf : f its.toArray = its'.toArray) (hv : Vals ys its') (hz : ys.length ≤ sizeLine) :
    Inv X pins σ (upd H l (.lst ys)) { s with heap := s.heap.update l (Obj.mapSeq f), toks := t' } := by
  have q := PySem.IsL.update e f
  rw [hf] at q
  refine I.write (x := l) (e := l) (by rw [hH]; exact trivial) (.inl rfl) (fun b' u hb hu => (Heap.get?_update_other s.heap (Obj.mapSeq f) (Ne.symm hb)).trans hu) ⟨_, q⟩ ?_
  exact ⟨hz, its', _, hv, q⟩
theorem Inv.lnew {its : List Value} {t' : Nat} (I : Inv X pins σ H s) (hv : Vals ys its) (hz : ys.length ≤ sizeLine) :
    Inv X pins σ (upd H s.heap.objs.size (.lst ys)) { s with heap := s.heap.push { cls := .type "list", data := .seq its.toArray }, toks := t' } :=
  I.laid (fun _ _ q => Heap.get?_push_of_some _ q) (Nat.le_refl _) ⟨hz, its, 0, hv, Heap.get?_push_size _ rfl⟩
theorem Inv.fresh (I : Inv X pins σ H s) : H s.heap.objs.size = none := I.hok.fresh (Nat.le_refl _)
theorem Inv.lstM (I : Inv X pins σ H s) (hH : H l = some (.lst xs)) : xs.length ≤ sizeLine ∧ ∃ (its : List Value) (n : Nat), Vals xs its ∧ xs.length = its.length ∧ s.heap.get? l = some { cls := .type "list", data := .seq its.toArray n } := by
  obtain ⟨z, its, n, r, e⟩ := I.hok l _ hH
  exact ⟨z, its, n, r, r.length, e⟩

theorem notLongL {n : Nat} (h : n ≤ sizeLine) : Builtin.List.listTooLong n = false := by
  unfold Builtin.List.listTooLong
  exact decide_eq_false (by omega)
end

section
variable {X : Cx}

/-! ### methods -/
def rAppend : V → List V → Hp → VK → Prop := fun x vs H Q => ∃ l xs y, x = .ref l ∧ vs = [y] ∧ H l = some (.lst xs) ∧ xs.length < sizeLine ∧ Q .non (upd H l (.lst (xs ++ [y])))
theorem mt_append : MtM X "list.append" rAppend := by
  intro pins s σ H x vs v us Q I rx rv h
  obtain ⟨l, xs, y, rfl, rfl, hH, hz, q⟩ := h
  cases rx
  obtain ⟨u, rfl, ru⟩ := rv.one
  obtain ⟨z, its, n, r, hl, e⟩ := I.lstM hH
  refine call_meets F.slot_list_append ⟨_, e, rfl⟩ F.entry_list_append (F.args_list_append_2 _ _) (PySem.list_append l its.toArray n u (by rw [List.size_toArray]; omega)) ⟨e, ?_⟩
  refine ⟨.non, _, I.lset (its' := its ++ [u]) hH e (by simp) (r.append (.cons ru .nil)) ?_, rfl, q⟩
  rw [List.length_append, List.length_singleton]
  omega

def rExtend : V → List V → Hp → VK → Prop := fun x vs H Q => ∃ l b xs zs, x = .ref l ∧ vs = [.ref b] ∧ H l = some (.lst xs) ∧ H b = some (.lst zs) ∧ xs.length + zs.length ≤ sizeLine ∧ Q .non (upd H l (.lst (xs ++ zs)))

def rPop : V → List V → Hp → VK → Prop := fun x vs H Q => ∃ l xs y, x = .ref l ∧ vs = [] ∧ H l = some (.lst xs) ∧ xs[xs.length - 1]? = some y ∧ Q y (upd H l (.lst xs.dropLast))
theorem mt_pop : MtM X "list.pop" rPop := by
  intro pins s σ H x vs v us Q I rx rv h
  obtain ⟨l, xs, y, rfl, rfl, hH, hy, q⟩ := h
  cases rx
  have hus := rv.zero
  subst hus
  obtain ⟨z, its, n, r, hl, e⟩ := I.lstM hH
  obtain ⟨u, hu, ru⟩ := r.get hy
  have hy' : its.toArray[its.toArray.size - 1]? = some u := by
    show its.toArray[its.length - 1]? = some u
    rw [← Array.getElem?_toList, ← hl]
    exact hu
  refine call_meets F.slot_list_pop ⟨_, e, rfl⟩ F.entry_list_pop (F.args_list_pop_1 _) (MeetsSeq.list_pop_last l its.toArray n u hy' (by rw [List.size_toArray]; omega)) ⟨e, ?_⟩
  refine ⟨y, _, I.lset (its' := its.dropLast) hH e ?_ r.dropLast ?_, ru, q⟩
  · show its.toArray.eraseIdxIfInBounds (its.toArray.size - 1) = its.dropLast.toArray
    rw [List.size_toArray, List.eraseIdxIfInBounds_toArray, erase_last]
  · rw [List.length_dropLast]
    omega

def rPopAt : V → List V → Hp → VK → Prop := fun x vs H Q => ∃ l xs i k y, x = .ref l ∧ vs = [.int i] ∧ H l = some (.lst xs) ∧ -(2 ^ 63) ≤ i ∧ i < 2 ^ 63 ∧ seqIndex? i xs.length = some k ∧ xs[k]? = some y ∧ Q y (upd H l (.lst (xs.eraseIdx k)))
theorem mt_popAt : MtM X "list.pop" rPopAt := by
  intro pins s σ H x vs v us Q I rx rv h
  obtain ⟨l, xs, i, k, y, rfl, rfl, hH, h1, h2, hk, hy, q⟩ := h
  cases rx
  obtain ⟨u, rfl, ru⟩ := rv.one
  obtain ⟨t, rfl⟩ := ru
  obtain ⟨z, its, n, r, hl, e⟩ := I.lstM hH
  obtain ⟨w, hw, rw'⟩ := r.get hy
  refine call_meets F.slot_list_pop ⟨_, e, rfl⟩ F.entry_list_pop (F.args_list_pop_2 _ _)
    (MeetsSeq.list_pop_at l its.toArray n i t k w (fitsIndex_both h1 h2) (by rw [List.size_toArray, ← hl]; exact hk) (by rw [← Array.getElem?_toList]; exact hw) (by rw [List.size_toArray]; omega)) ⟨e, ?_⟩
  refine ⟨y, _, I.lset (its' := its.eraseIdx k) hH e ?_ (r.eraseIdx k) ?_, rw', q⟩
  · show its.toArray.eraseIdxIfInBounds k = (its.eraseIdx k).toArray
    rw [List.eraseIdxIfInBounds_toArray]
  · have := len_erase xs k
    omega

def rReverse : V → List V → Hp → VK → Prop := fun x vs H Q => ∃ l xs, x = .ref l ∧ vs = [] ∧ H l = some (.lst xs) ∧ Q .non (upd H l (.lst xs.reverse))

def rClear : V → List V → Hp → VK → Prop := fun x vs H Q => ∃ l xs, x = .ref l ∧ vs = [] ∧ H l = some (.lst xs) ∧ Q .non (upd H l (.lst []))

/-! ### list + list, list += list, list * int -/
def rCat : R2 := fun x y H Q => ∃ l b xs zs, x = .ref l ∧ y = .ref b ∧ H l = some (.lst xs) ∧ H b = some (.lst zs) ∧ xs.length + zs.length ≤ sizeLine ∧ ∀ p, H p = none → Q (.ref p) (upd H p (.lst (xs ++ zs)))
theorem op_cat : OpR X (binaryOp .Add) rCat := by
  intro pins s σ H x y v u Q I rx ry h
  obtain ⟨l, b, xs, zs, rfl, rfl, hH, hB, hz, q⟩ := h
  cases rx
  cases ry
  obtain ⟨z, its, n, r, hl, e⟩ := I.lstM hH
  obtain ⟨z2, its2, n2, r2, hl2, e2⟩ := I.lstM hB
  refine PySem.P.add_list e e2 ?_ (by rw [List.size_toArray, List.size_toArray]; omega)
  have ea : its.toArray ++ its2.toArray = (its ++ its2).toArray := by simp
  rw [ea]
  exact ⟨.ref _, _, I.lnew (t' := s.toks) (r.append r2) (by rw [List.length_append]; omega), rfl, q _ I.fresh⟩
/-- a list times an int (a negative one is nothing) -/
def rRep : R2 := fun x y H Q => ∃ l k xs, x = .ref l ∧ y = .int k ∧ H l = some (.lst xs) ∧ -(2 ^ 63) ≤ k ∧ k < 2 ^ 63 ∧ xs.length * k.toNat ≤ sizeLine ∧
  ∀ p, H p = none → Q (.ref p) (upd H p (.lst (List.replicate k.toNat xs).flatten))
theorem len_rep {α : Type} (xs : List α) (k : Nat) : (List.replicate k xs).flatten.length = k * xs.length := by
  induction k with
  | zero => simp
  | succ k ih => rw [List.replicate_succ, List.flatten_cons, List.length_append, ih, Nat.succ_mul, Nat.add_comm]
theorem op_rep : OpR X (binaryOp .Mult) rRep := by
  intro pins s σ H x y v u Q I rx ry h
  obtain ⟨l, k, xs, rfl, rfl, hH, h1, h2, hz, q⟩ := h
  cases rx
  obtain ⟨t, rfl⟩ := ry
  obtain ⟨z, its, n, r, hl, e⟩ := I.lstM hH
  have hlen : its.toArray.size * k.toNat ≤ sizeLine := by rw [List.size_toArray, ← hl]; exact hz
  have hcap : ¬ its.toArray.size * k.toNat > (2 ^ 63 - 1) / 8 := by
    have : (sizeLine : Nat) ≤ (2 ^ 63 - 1) / 8 := by decide
    omega
  have hfit : ¬ (!Builtin.List.listFitsIndex k) = true := by
    rw [fitsIndex_both h1 h2]
    exact Bool.false_ne_true
  have hlong : ¬ Builtin.List.listTooLong (its.toArray.size * k.toNat) = true := by
    rw [notLongL hlen]
    exact Bool.false_ne_true
  have hnew : List.foldl (fun x1 x2 => x1 ++ x2) #[] (List.replicate (if its.toArray.isEmpty = true then 0 else k.toNat) its.toArray) = (List.replicate k.toNat its).flatten.toArray := by
    have f0 : ∀ m : Nat, List.foldl (fun x1 x2 => x1 ++ x2) #[] (List.replicate m its.toArray) = (List.replicate m its).flatten.toArray := fun m => by
      have := foldl_rep its m []
      rw [List.nil_append] at this
      exact this
    rw [f0]
    cases its with
    | nil => simp
    | cons a r' => rw [if_neg (by simp)]
  refine wpAny_binaryOp_repeat_ref (T := "list") (U := "int") (by decide) ⟨_, e, rfl⟩ (fun s' => typeIs_int s' k t) noFill_list_mul F.fills_int_mul F.slot_int_rmul repeat_list F.slot_int_index.lookup
    (call_meets F.slot_int_rmul (typeIs_int s k t) F.entry_int_rmul (F.args_int_rmul_2 _ _) (int___rmul___int_list k t l its.toArray n)
      ⟨e, rfl, ⟨_, e, rfl⟩, call_meets F.slot_list_mul ⟨_, e, rfl⟩ F.entry_list_mul (F.args_list_mul_2 _ _) (AutoListH.list___mul___list_int_3 l its.toArray n k t hfit hcap hlong) ⟨e, ?_⟩⟩)
  rw [hnew]
  exact ⟨.ref _, _, I.lnew (t' := s.toks) (r.rep k.toNat) (by rw [len_rep, Nat.mul_comm]; exact hz), rfl, q _ I.fresh⟩

/-! ### del xs[i] -/
end

/-! ### xs[a:b] = ys -/
section
variable {prog : Program} {w : World} {A : Around} {E : Value → Shared → Prop} {s : Shared}
end

section
variable {X : Cx}
end
end L2

namespace Att
open PySem PySem.W PySem.Calls PyProof.Rows

/-! ### the script -/
theorem ints_of_wellAll {P : Params} {h : Heap} : ∀ (ns : List Int) (vs : List Value), WellAll P h vs (ns.map WData.int) → IntsAre vs ns := by
  intro ns
  induction ns with
  | nil =>
    intro vs w
    rw [List.map_nil] at w
    cases w
    exact .nil
  | cons n ns ih =>
    intro vs w
    rw [List.map_cons] at w
    cases w with
    | cons a b =>
      cases a
      exact .cons _ _ (ih _ b)

theorem script_of {l : OpenLaw} {n : Nat} (hn : l.most = some n) {P : Params} {h : Heap} {args : List WData} {vals : List Value}
    (hpre : l.row.toRowW.claim.pre args = true) (hwl : WellAll P h vals args) :
    ∃ a vs ns, vals = [Value.ref a] ∧ args = [WData.list (ns.map WData.int)] ∧ h.get? a = some { cls := .type "list", data := .seq vs.toArray } ∧ IntsAre vs ns ∧ ns.length ≤ n := by
  have hsh : WShape.hasAll [] args [.list .int] = true := (pre_splitW hpre).1
  have hc : l.pre.holds [] { args := args } = true := (pre_splitW hpre).2
  obtain ⟨d, r, rfl, h1, h2⟩ := hasAllW_cons hsh
  obtain rfl := hasAllW_nil h2
  obtain ⟨xs, rfl, h3⟩ := hasW_list h1
  obtain ⟨ns, rfl⟩ := items_int h3
  have hlen : ns.length ≤ n := by
    unfold OpenLaw.pre at hc
    have h4 : (WTm.not (.lt (.lit (.int (n : Int))) (.len (.arg 0)))).holds [] { args := [.list (ns.map .int)] } = true := by
      have h4 := (holds_andW hc).1
      rw [hn] at h4
      exact h4
    have h5 := condW_of h4 (w_not (w_lt w_lit (w_len_list (w_arg rfl))))
    rw [List.length_map] at h5
    refine Nat.le_of_not_lt fun q => ?_
    have q' : (n : Int) < ((ns.length : Nat) : Int) := by omega
    first
      | (rw [decide_eq_true q'] at h5; exact absurd h5 (by decide))
      | (simp at h5; omega)
  cases hwl with
  | cons w1 w2 =>
    cases w2
    cases w1 with
    | list ho hall => exact ⟨_, _, ns, rfl, rfl, ho, ints_of_wellAll ns _ hall, hlen⟩

theorem post_true (l : OpenLaw) (args : List WData) : l.row.toRowW.claim.post args (.bool true) args = true :=
  postW_of (r := l.row.toRowW) (X := (true == true))
    (show WShape.has [] (.bool true) .bool = true by first | rfl | decide | simp [WShape.has, WShape.arms, WShape.armsAll])
    (show (WTm.eq .res (.lit (.bool true))).value [] { args := args, res := some (.bool true), after := args } = some (.bool (true == true)) from w_eq_bool (w_res rfl) w_lit) rfl

/-! ### the attachment: holds_open's last premise (the goal 'hc' behind k_head) from a wpAny of the law's body -/

/-- the same from a codeAny of the CALL (for a layer whose function contracts speak of calls) -/
theorem attach_call {l : OpenLaw} {n : Nat} {q : Program} {loose : List Str} {XP : (Str → Option Value) → Heap → Prop} {YP : World → Heap → Prop} {d : DefRec}
    (hn : l.most = some n) (hdf : d.params.defaults = [])
    (call : ∀ (w : World) (s₀ s₁ : Shared) (mg mb : Str → Option Value) (fa : Addr) (o : Obj) (pm cd doc : Value) (a : Addr) (vs : List Value) (ns : List Int),
      Ground q loose [] XP w s₀ mg mb s₁.heap → YP w s₁.heap →
      s₁.heap.get? fa = some o → o.data = .func (docDef d.name d.params d.body d.scope pm cd doc) → s₁.heap.CodeRec cd d.name → mg d.name = some (.ref fa) →
      s₁.heap.get? a = some { cls := .type "list", data := .seq vs.toArray } → IntsAre vs ns → ns.length ≤ n → s₁.gens = #[] →
      codeAny (model l.prog w) callerA (.call (.ref fa) ⟨[.ref a], []⟩) (fun r s' => r = .ok (.ret (.bool true)) ∧ OldK s₁.heap s'.heap ∧ s'.os = s₁.os ∧ AllBare s'.gens) s₁) :
    WalkO q loose XP YP l.row.toRowW d [] (fun f vs => PySem.call f vs) := by
  intro w s₀ s₁ mg mb G Y fa o pm cd doc dV kV ho hd hcd hD hmg hg args vals as hpre hlay hrd hwl hlo
  obtain rfl : dV = .none := Dflts.none hD hdf
  obtain rfl : kV = .none := Dflts.noKw hD
  obtain ⟨a, vs, ns, rfl, rfl, hobj, hints, hlen⟩ := script_of hn hpre hwl
  refine enter_call (codeAny_mono (call w s₀ s₁ mg mb fa o pm cd doc a vs ns G Y ho (fd_plain hd) hcd hmg hobj hints hlen hg) fun r s' hq => ?_)
  obtain ⟨rfl, h2, h3, h4⟩ := hq
  exact ⟨.inl ⟨.bool true, .bool true, [], rfl, fun _ => rfl, .bool true, post_true l _, fun _ => ⟨List.Pairwise.nil, fun _ hm => (nomatch hm)⟩⟩, h2, h3, h4⟩


/-! ### rules over ANY heap (no ledger) from facts about the written part K: the library's own take a ledger (News) for what they write -/
section
variable {prog : Program} {w : World} {A : Around} {E : Value → Shared → Prop} {s : Shared} {K : Frag}





/-! the whole heap as the ledger: makes every rule that writes through a ledger a rule over any heap -/
def noObjs (h : Heap) : Heap := { h with objs := #[] }
def ledger (h : Heap) (L d : Addr) : List (Addr × Obj) := (List.range h.objs.size).filterMap fun a => if a = L ∨ a = d then none else (h.get? a).map fun o => (a, o)

end
end Att

namespace L2
open PySem PySem.Spec PyProof.Rows

theorem vals_ints : ∀ {vs : List Value} {ns : List Int}, IntsAre vs ns → Vals (ns.map V.int) vs
  | _, _, .nil => .nil
  | _, _, .cons n t h => .cons ⟨t, rfl⟩ (vals_ints h)

/-- nothing is tracked but the script, known to the object (or it is an object of the module) -/
def Only (H : Hp) : Prop := ∀ b, H b = none ∨ ∃ o xs, H b = some (.frz o (.lst xs))

/-- THE HEAD: the law's promise, at the heap behind the top. F, the promise of the law's def, may use that base is part of the heap (so K.In base, base.Ns mainGlobals mg stand in Mod) -/
theorem law_call {P : Program} {w : World} {K : PySem.W.Frag} {mg mb : Str → Option Value} {CX : CXT} {k : Nat} {fa a : Addr} {fd : FuncData} {x : Str} {sp : Sp} {s₁ : Shared} {vs : List Value} {ns : List Int}
    (KX : K.In s₁.heap) (hns : s₁.heap.Ns mainGlobals mg) (hb : s₁.heap.Ns builtinsNs mb) (hbb : ∀ x : Str, x ≠ "__name__" → mb x = bootBuiltins x) (hlim : s₁.heap.NoLimit) (hg : s₁.gens = #[])
    (ha : s₁.heap.get? a = some { cls := .type "list", data := .seq vs.toArray }) (hi : IntsAre vs ns) (hl : ns.length ≤ sizeLine) (hr : Room k callerA)
    (F : ∀ base : Heap, K.In base → base.Ns mainGlobals mg → FnOk P w K mg base CX k fa fd [x] sp) (hbind : ∀ (s : Shared) (u : Value), BindsTo s fd ⟨[u], []⟩ [(x, u)])
    (hsp : ∀ H : Hp, Only H → SqL K H a (ns.map V.int) → sp [.ref a] H (fun v _ => v = .bl true) fun _ _ _ => False)
    (hCX : ∀ H e s', CX [] H s₁ (fun _ _ _ => False) e s' → False) :
    codeAny (model P w) callerA (.call (.ref fa) ⟨[.ref a], []⟩) (fun r s' => r = .ok (.ret (.bool true)) ∧ OldK s₁.heap s'.heap ∧ s'.os = s₁.os ∧ AllBare s'.gens) s₁ := by
  have rv := vals_ints hi
  have lenV := hi.length
  -- from an abstract heap in which nothing but the script may be tracked
  have core : ∀ H : Hp, Only H → SqL K H a (ns.map V.int) → HOk P w H s₁.heap → (∀ b, H b ≠ none → b = a) → (H a ≠ none → K.lookup a = none) →
      codeAny (model P w) callerA (.call (.ref fa) ⟨[.ref a], []⟩) (fun r s' => r = .ok (.ret (.bool true)) ∧ OldK s₁.heap s'.heap ∧ s'.os = s₁.os ∧ AllBare s'.gens) s₁ := by
    intro H hO hS hok hA hK
    have base_of : ∀ {b : Addr} {o : Obj}, s₁.heap.get? b = some o → H b = none → (hidT s₁.heap H).get? b = some o := fun e n => hidT_get e n
    have noA : ∀ {b : Addr} {o : Obj} {es : Array DictEntry} {ep : Nat}, s₁.heap.get? b = some o → o.data = .dict es ep → H b = none := fun {b o es ep} e d => by
      cases q : H b with
      | none => rfl
      | some u =>
        have e' : b = a := hA b (by rw [q]; simp)
        subst e'
        rw [ha] at e; cases e
        have d' : Data.seq vs.toArray _ = Data.dict es ep := d
        cases d'
    have nsK : ∀ {b : Addr} {m : Str → Option Value}, s₁.heap.Ns b m → (hidT s₁.heap H).Ns b m := fun {b m} ⟨o, es, ep, e, d, r⟩ => ⟨o, es, ep, base_of e (noA e d), d, r⟩
    have hKb : K.In (hidT s₁.heap H) := fun b o e => base_of (KX b o e) (by
      cases q : H b with
      | none => rfl
      | some u =>
        have e' : b = a := hA b (by rw [q]; simp)
        subst e'
        rw [hK (by rw [q]; simp)] at e; cases e)
    have hM : Mod K mg (hidT s₁.heap H) := ⟨hKb, nsK hns, ⟨mb, nsK hb, hbb⟩, let ⟨mc, h1, h2⟩ := hlim; ⟨mc, nsK h1, h2⟩⟩
    have e0 : Env0 P w K mg (hidT s₁.heap H) callerA [] s₁ H := ⟨rfl, hM, fun b o e => of_hidT e, Nat.le_of_eq (hidT_size _ _), trivial, fun b hb => absurd (show b ∈ ([] : List Addr) from hb) (by simp), hok, .of_eq hg⟩
    refine codeAny_mono ((F _ hKb (nsK hns)).run callerA [] s₁ H ⟨[.ref a], []⟩ [.ref a] [.ref a] _ _ hr e0 (hbind s₁ (.ref a)) (.cons rfl .nil) (hsp H hO hS)) fun r s' h => ?_
    cases r with
    | error e => exact (hCX H e s' h).elim
    | ok fl =>
      cases fl with
      | next => exact False.elim h
      | brk => exact False.elim h
      | cont => exact False.elim h
      | ret u =>
        obtain ⟨v, H', os, bare, un, hok', r', q⟩ := h
        have q' : v = .bl true := q
        subst q'
        obtain rfl : u = Value.bool true := r'
        refine ⟨rfl, OldK.of_keep fun b o e => ?_, os, bare⟩
        cases q : H b with
        | none => exact un.keep b o e q (by intro z; exact absurd (show b ∈ ([] : List Addr) from z) (by simp)) (by simp)
        | some u =>
          rcases hO b with z | ⟨ob, xs, z⟩
          · rw [q] at z; cases z
          · have z2 := un.frzs b ob _ z
            obtain ⟨e1, _⟩ := hok b _ z
            obtain ⟨e2, _⟩ := hok' b _ z2
            rw [e] at e1; cases e1
            exact e2
  cases hk : K.lookup a with
  | some o =>
    -- the script is one of the module's own objects
    have e := KX a o hk
    rw [ha] at e
    cases e
    refine core (fun _ => none) (fun _ => .inl rfl) (.inr ⟨_, vs.toArray, _, hk, rfl, rfl, rfl, by rw [List.size_toArray, lenV]; exact hl, by simpa using rv⟩) (fun b u z => by have z' : (none : Option HO) = some u := z; cases z') (fun b z => absurd rfl z) fun z => absurd rfl z
  | none =>
    refine core (fun b => if b = a then some (.frz { cls := .type "list", data := .seq vs.toArray } (.lst (ns.map V.int))) else none) (fun b => ?_) (.inl (.inr ⟨{ cls := .type "list", data := .seq vs.toArray }, if_pos rfl⟩)) (fun b u z => ?_) (fun b z => ?_) fun _ => hk
    · by_cases hb : b = a
      · exact .inr ⟨_, _, if_pos hb⟩
      · exact .inl (if_neg hb)
    · by_cases hb : b = a
      · have z' := (if_pos hb).symm.trans z
        cases z'
        subst hb
        exact ⟨ha, by rw [List.length_map]; exact hl, vs, _, rv, ha⟩
      · have z' := (if_neg hb).symm.trans z
        cases z'
    · by_cases hb : b = a
      · exact hb
      · exact absurd (if_neg hb) z
end L2

namespace L2
open PySem PySem.Spec PyProof.Rows

abbrev KOf {K : PySem.W.Frag} {h : Heap} (_ : K.In h) : PySem.W.Frag := K

/-- the goal that k_head leaves (case hc), from the law's promise. F gives the function object fd (K's own) once, then the promise over every base -/
theorem walk_of {l : PySem.W.OpenLaw} {n k : Nat} {q : Program} {loose : List Str} {XP : (Str → Option Value) → Heap → Prop} {YP : World → Heap → Prop} {d : DefRec} {K : Params → PySem.W.Frag} {CX : World → CXT} {sp : World → Sp} {x : Str}
    (hn : l.most = some n) (hn2 : n ≤ sizeLine) (hdf : d.params.defaults = []) (hr : Room k callerA)
    (hY : ∀ (w : World) (h : Heap), YP w h → (K w.params).In h)
    (F : ∀ (w : World) (mg : Str → Option Value) (fa : Addr) (h : Heap), (K w.params).In h → h.Ns mainGlobals mg → mg d.name = some (.ref fa) →
      ∃ fd : FuncData, (∀ (s : Shared) (u : Value), BindsTo s fd ⟨[u], []⟩ [(x, u)]) ∧
        ∀ base : Heap, (K w.params).In base → base.Ns mainGlobals mg → FnOk l.prog w (K w.params) mg base (CX w) k fa fd [x] (sp w))
    (hsp : ∀ (w : World) (H : Hp) (a : Addr) (ns : List Int), ns.length ≤ n → Only H → SqL (K w.params) H a (ns.map V.int) → sp w [.ref a] H (fun v _ => v = .bl true) fun _ _ _ => False)
    (hCX : ∀ (w : World) (H : Hp) (s : Shared) (e : Value) (s' : Shared), CX w [] H s (fun _ _ _ => False) e s' → False) :
    PySem.W.WalkO q loose XP YP l.row.toRowW d [] (fun f vs => PySem.call f vs) := by
  refine Att.attach_call hn hdf fun w s₀ s₁ mg mb fa o pm cd doc a vs ns G Y ho hd hcd hmg hobj hints hlen hg => ?_
  have KX := hY w _ Y
  obtain ⟨fd, hb, hF⟩ := F w mg fa _ KX G.T.g hmg
  exact law_call KX G.T.g G.T.b G.T.builtins G.T.nolimit hg hobj hints (Nat.le_trans hlen hn2) hr hF hb (fun H hO hS => hsp w H a ns hlen hO hS) fun H e s' => hCX w H s₁ e s'
end L2

/- THE LAST THEOREM (shape; LID, My.* are yours):
   My.Adr: a structure of the addresses that your layer names (classes, functions); My.Txt K t: a structure (Prop) of the equations over K;
   My.txt_mk : {K} {implicit addresses ..} (e1 : nsIn K mainGlobals "law" = some (some (.ref f))) (e2 : K.lookup f = some ⟨oc, od, .func (fnOf "law" "law" params body scope dV kV doc pm an cdv ct), sl⟩) (e3 : codeIn K cdv "law" = true) .. : ∃ t, My.Txt K t

set_option maxRecDepth 100000 in
set_option maxHeartbeats 0 in
theorem PySem.Challenge.cw_LID_holds : PySem.Challenge.rw_LID.Holds := by
  w_on; o_law; k_head; (case hw => w_witness2)
  k_fill
  refine L2.walk_of (l := PySem.Challenge.rw_LID) (n := 63) (k := 40) (x := "script") (CX := fun w => ..) (sp := fun _ => My.sp_law) rfl (by decide) rfl ⟨rfl, by decide, by decide⟩ (fun w h Y => PySem.W.kIn_of Y) ?F ?S ?C
  case F =>
    intro w mg fa h KX G hmg
    have T : ∃ t, My.Txt (L2.KOf KX) t := by
      dsimp only [L2.KOf]                          -- K must stand as «<heap const> w.params» for k_is
      refine' My.txt_mk ?e1 ?e2 ?e3 ..
      (case e1 => PySem.W.k_is)                    -- in the order: a name -> its address -> its object -> its parts
      (case e2 => PySem.W.k_is)
      ..
    obtain ⟨t, T⟩ := T
    have e0 := hmg.symm.trans (PySem.W.mg_of KX G T.law)
    cases e0                                       -- fa is the law's own address
    exact ⟨_, fun s u => .of_eq rfl, fun base kb nb => My.law_fn T kb nb⟩     -- if «.of_eq rfl» comes too early: refine' ⟨_, ?b, fun base kb nb => My.law_fn T kb nb⟩; exact fun s u => .of_eq rfl
  case S => exact fun w H a ns hl hO hS => ..
  case C => exact ..
(the tactic k_is has no namespace: write k_is) -/

/-! SHORT WORDS over the layer: a def of the text, its body, what a loop and a test want. -/
namespace L2
open PySem PySem.Spec PyProof.Rows

/-! ### the text by places -/
/-- the j-th statement of a class's body -/
def inClass (s : Stmt) (j : Nat) : Stmt := match s with
  | .ClassDef _ _ _ body _ _ _ _ _ _ _ => body.getD j (.Pass ⟨0, 0, 0, 0⟩)
  | _ => .Pass ⟨0, 0, 0, 0⟩
def defArgs (s : Stmt) : Arguments := match s with
  | .FunctionDef _ a _ _ _ _ _ _ _ _ => a
  | _ => { posonlyargs := [], args := [], vararg := none, kwonlyargs := [], kw_defaults := [], kwarg := none, defaults := [] }
def defBody (s : Stmt) : List Stmt := match s with
  | .FunctionDef _ _ b _ _ _ _ _ _ _ => b
  | _ => []
def defScope (s : Stmt) : Scope := match s with
  | .FunctionDef _ _ _ _ _ _ sc _ _ _ => sc
  | _ => { kind := .function, names := [], isGenerator := false, isCoroutine := false }

/-! ### no exception leaves a def -/
abbrev CX0 : CXT := fun _ _ _ _ _ _ => False
abbrev E0 : XK := fun _ _ _ => False
theorem pass0 {X : Cx} : Passes CX0 X E0 := fun _ _ _ _ _ _ _ h => h.elim

/-! ### a def (or method) of the text as it stands behind the top -/
structure Fun (K : PySem.W.Frag) (x qual : Str) (st : Stmt) (f : Addr) (fd : FuncData) : Prop where
  ex : ∃ (oc : Value) (od : Option Addr) (kV doc pm : Value) (an : Option Addr) (cdv ct : Value) (osl : Array (Option Value)),
    fd = PySem.W.fnOf x qual (defArgs st) (defBody st) (defScope st) .none kV doc pm an cdv ct ∧ K.lookup f = some ⟨oc, od, .func fd, osl⟩ ∧ PySem.W.codeIn K cdv qual = true
  kp : PySem.W.keepIn K (.ref f) = true
section
variable {P : Program} {w : World} {K : PySem.W.Frag} {mg : Str → Option Value} {base : Heap}
/-- THE RULE for a def: its body as a term of rules, and the reading of that term -/
theorem Fun.ok {x qual : Str} {st : Stmt} {f : Addr} {fd : FuncData} {N ps : List Str} {k : Nat} {sp : Sp} (F : Fun K x qual st f fd) (S : FnScope N ps (defScope st)) (len : ∀ vs H Q E, sp vs H Q E → vs.length = ps.length)
    (hbody : ∀ (cdv : Value) (A : Around) (outer : List Env) (s : Shared) (H : Hp) (vs : List V) (Q : VK) (E : XK), Room k (A.deeper (envOfC qual (defScope st) s.heap.objs.size f cdv)) → sp vs H Q E →
      ∃ t, PSs (cxOf CX0 P w K mg base N qual (defScope st) f cdv A outer s H E).nox (defBody st) t ∧ t { nx := fun _ H' => Q .non H', rt := Q } (start N vs) H) : FnOk P w K mg base CX0 (k + 1) f fd ps sp := by
  obtain ⟨oc, od, kV, doc, pm, an, cdv, ct, osl, rfl, lk, hcd⟩ := F.ex
  refine fn_of lk hcd S len fun A outer s H vs Q E hr hsp => ?_
  obtain ⟨t, h, q⟩ := hbody cdv A outer s H vs Q E hr hsp
  exact ⟨t, h.nox, q⟩
/-- how its arguments bind (no defaults): h is «fun _ _ _ _ _ _ us hl => match us, hl with | [_, _], _ => rfl», one _ a parameter -/
theorem Fun.binds {x qual : Str} {st : Stmt} {f : Addr} {fd : FuncData} {ps : List Str} (F : Fun K x qual st f fd)
    (h : ∀ (kV doc pm : Value) (an : Option Addr) (cdv ct : Value) (us : List Value), us.length = ps.length → bindArgs (PySem.W.fnOf x qual (defArgs st) (defBody st) (defScope st) .none kV doc pm an cdv ct) ⟨us, []⟩ = pure (ps.zip us)) : Binds K fd ps [] := by
  obtain ⟨oc, od, kV, doc, pm, an, cdv, ct, osl, rfl, lk, hcd⟩ := F.ex
  exact .all (h kV doc pm an cdv ct)
theorem fun_mk {x qual : Str} {st : Stmt} {f : Addr} {oc : Value} {od an : Option Addr} {osl : Array (Option Value)} {kV doc pm cdv ct : Value} (l : K.lookup f = some ⟨oc, od, .func (PySem.W.fnOf x qual (defArgs st) (defBody st) (defScope st) .none kV doc pm an cdv ct), osl⟩)
    (c : PySem.W.codeIn K cdv qual = true) (k : PySem.W.keepIn K (.ref f) = true) : Fun K x qual st f (PySem.W.fnOf x qual (defArgs st) (defBody st) (defScope st) .none kV doc pm an cdv ct) := ⟨⟨oc, od, kV, doc, pm, an, cdv, ct, osl, rfl, l, c⟩, k⟩
end
theorem small1000 {n : Nat} (h : n ≤ 1000) : n < sizeLine := Nat.lt_of_le_of_lt h (by decide)

/-! ### expressions in short: the name that stands in the i-th slot -/
section
variable {X : Cx}
theorem pv (i : Nat) {x : Str} {pos : Pos} (hN : X.N[i]? = some x := by rfl) (hv : Vis X.env.scope x := by first | exact Or.inl rfl | exact Or.inr (Or.inl rfl) | exact Or.inr (Or.inr rfl)) (hd : (x == ("__debug__" : Str)) = false := by decide)
    (hcd : (x == ("__classdict__" : Str)) = false := by decide) : PE X (.Name x pos) (tVar i) := pe_var hN hv hd hcd
end

/-! ### tests -/
theorem iteF {A B : Prop} (h : B) : if false = true then A else B := by
  rw [if_neg Bool.false_ne_true]
  exact h
theorem iteT {A B : Prop} (h : A) : if true = true then A else B := by
  rw [if_pos rfl]
  exact h
theorem ite2 {c A B : Prop} [Decidable c] (h1 : c → A) (h2 : ¬ c → B) : if c then A else B := by
  by_cases h : c
  · rw [if_pos h]
    exact h1 h
  · rw [if_neg h]
    exact h2 h
theorem iteNS {c A B : Prop} [Decidable c] (hc : c) (h : B) : if (!decide c) = true then A else B := by
  rw [decide_eq_true hc]
  exact iteF h

/-! ### heaps -/
/-- all that was tracked is as it was -/
def Same (H H' : Hp) : Prop := ∀ b o, H b = some o → H' b = some o
theorem Same.refl (H : Hp) : Same H H := fun _ _ h => h
theorem Same.trans {H H1 H2 : Hp} (a : Same H H1) (b : Same H1 H2) : Same H H2 := fun c o h => b c o (a c o h)
theorem Same.free {H H' : Hp} (e : Same H H') {l : Addr} (h : H' l = Option.none) : H l = Option.none := by
  cases q : H l with
  | none => rfl
  | some o =>
    rw [e l o q] at h
    cases h
theorem Same.seq {K : PySem.W.Frag} {H H' : Hp} {a : Addr} {xs : List V} (e : Same H H') (h : SqL K H a xs) : SqL K H' a xs := by
  rcases h with (h | ⟨o, h⟩) | h
  · exact .inl (.inl (e _ _ h))
  · exact .inl (.inr ⟨o, e _ _ h⟩)
  · exact .inr h

end L2
set_option Elab.async false
set_option linter.all false
set_option maxRecDepth 100000
namespace L2
open PySem PySem.Spec PyProof.Rows

/-! A list comprehension with one clause: the loop that fills the list. -/
section
variable {prog : Program} {w : World} {A : Around} {R : Result → Shared → Prop} {s : Shared}
abbrev testsOf (cs : List Expr) (en : Env) : Sem Bool :=
  forIn cs true fun c r => if r = true then do let ok ← isTrue c en (eval c en); pure (ForInStep.yield ok) else pure (ForInStep.yield r)
theorem comp_turns {elt tg iter : Expr} {cs : List Expr} {scope : Scope} {pos : Pos} {it acc : Value} {en : Env} {EE : Value → Shared → Prop} (hE : EE = notedBy (model prog w) A en fun e s' => R (.error e) s') (J : Nat → Shared → Prop)
    (turn : ∀ n s, J n s → wpAny (model prog w) A (pyNext it) (fun r s1 => match r with
      | none => R (.ok .next) s1
      | some v => wpAny (model prog w) A (letOwnedTupleGo tg it v) (fun _ sg => wpAny (model prog w) A (assign tg en v) (fun _ s2 => wpAny (model prog w) A (testsOf cs en) (fun ok s3 =>
          if ok = true then wpAny (model prog w) A (eval elt en) (fun y s4 => wpAny (model prog w) A (call (.builtin "list.append") [acc, y]) (fun _ s5 => ∃ m, m < n ∧ J m s5) EE s4) EE s3
          else ∃ m, m < n ∧ J m s3) EE s2) EE sg) EE s1) EE s)
    (n : Nat) (h : J n s) : codeAny (model prog w) A (.compLoop (.ListComp elt [⟨tg, iter, cs, 0⟩] scope pos) 0 it acc en) R s := by
  subst hE
  refine codeAny_loop rfl J (fun n s hJ => ?_) n h
  show wpAny _ A (Sem.onRaise (compTurn (.ListComp elt [⟨tg, iter, cs, 0⟩] scope pos) 0 it acc en) (fun x => do noteFrame x en; theTreesLotGoes x)) _ _ s
  refine wpAny_noted ?_
  rw [compTurn_list]
  refine wpAny_bind (wpAny_standAt (wpAny_bind (thn (turn n s hJ) fun r s1 q1 => ?_)))
  cases r with
  | none => exact wpAny_pure q1
  | some v =>
    refine wpAny_bind (thn q1 fun _ sg qg => wpAny_bind (thn qg fun _ s2 q2 => wpAny_bind (thn q2 fun ok s3 q3 => ?_)))
    cases ok with
    | false => exact wpAny_pure ⟨rfl, q3⟩
    | true => exact wpAny_bind (wpAny_bind (thn q3 fun y s4 q4 => wpAny_bind (thn q4 fun _ s5 q5 => wpAny_pure (wpAny_pure ⟨rfl, q5⟩))))
end

/-! the tests of the clause: none or one -/
def PTs (X : Cx) (cs : List Expr) (t : TT) : Prop :=
  ∀ (pins : List (Addr × Obj)) (s : Shared) (σ : St) (H : Hp) (Q : Bool → Hp → Prop), Inv X pins σ H s → t σ H Q → wpAny (model X.prog X.w) X.A (testsOf cs X.env) (TP X pins σ Q) X.xe s
def tTrue : TT := fun _ H Q => Q true H
theorem pts_nil {X : Cx} : PTs X [] tTrue := fun _ _ _ H _ I h => wpAny_tests_nil ⟨H, I, h⟩
theorem pts_one {X : Cx} {c : Expr} {t : TT} (h : PT X c t) : PTs X [c] t := fun pins s σ H Q I q => wpAny_tests_one (h pins s σ H Q I q)

/-! the cells that the block takes over -/
theorem closure_list {en : Env} : ∀ (names : List (Str × NameKind)) (acc : List (Str × Addr)), (∀ y, (y, NameKind.free) ∈ names → ∃ c, en.cells.lookup y = some c) →
    (∀ y c, acc.lookup y = some c → en.cells.lookup y = some c) →
    ∃ cl, (forIn (m := Sem) names acc fun p cs => if (p.2 == .free) = true then (do let a ← cellOf en p.1; pure (ForInStep.yield ((p.1, a) :: cs))) else pure (ForInStep.yield cs)) = pure cl ∧
      (∀ y c, cl.lookup y = some c → en.cells.lookup y = some c) ∧ (∀ y, ((y, NameKind.free) ∈ names ∨ ∃ c, acc.lookup y = some c) → ∃ c, cl.lookup y = some c)
  | [], acc, _, h2 => ⟨acc, rfl, h2, fun y h => h.elim (fun z => by simp at z) id⟩
  | (n, k) :: r, acc, h1, h2 => by
    by_cases hk : k = .free
    · subst hk
      obtain ⟨c, hc⟩ := h1 n (by simp)
      obtain ⟨cl, e, a, b⟩ := closure_list r ((n, c) :: acc) (fun y hy => h1 y (List.mem_cons_of_mem _ hy)) (fun y d hd => by
        rw [List.lookup_cons] at hd
        by_cases hy : y = n
        · subst hy; simp at hd; subst hd; exact hc
        · have : (y == n) = false := by simpa using hy
          rw [this] at hd; exact h2 y d hd)
      refine ⟨cl, ?_, a, fun y hy => b y ?_⟩
      · rw [List.forIn_cons]
        have e1 : cellOf en n = pure c := by unfold cellOf; rw [hc]
        simp only [beq_self_eq_true, if_true, e1, pure_bind]
        exact e
      · rcases hy with hy | ⟨d, hd⟩
        · rcases List.mem_cons.mp hy with z | z
          · cases z; exact .inr ⟨c, by simp⟩
          · exact .inl z
        · by_cases hy : y = n
          · subst hy; exact .inr ⟨c, by simp⟩
          · have : (y == n) = false := by simpa using hy
            exact .inr ⟨d, by rw [List.lookup_cons, this]; exact hd⟩
    · have hb : (k == NameKind.free) = false := by simpa using hk
      obtain ⟨cl, e, a, b⟩ := closure_list r acc (fun y hy => h1 y (List.mem_cons_of_mem _ hy)) h2
      refine ⟨cl, ?_, a, fun y hy => b y ?_⟩
      · rw [List.forIn_cons]
        simp only [hb, Bool.false_eq_true, if_false, pure_bind]
        exact e
      · rcases hy with hy | hy
        · rcases List.mem_cons.mp hy with z | z
          · cases z; exact absurd rfl hk
          · exact .inl z
        · exact .inr hy
theorem closure_of {scope : Scope} {en : Env} (h1 : ∀ y, (y, NameKind.free) ∈ scope.names → ∃ c, en.cells.lookup y = some c) :
    ∃ cl, closureFor scope en = pure cl ∧ (∀ y c, cl.lookup y = some c → en.cells.lookup y = some c) ∧ (∀ y, (y, NameKind.free) ∈ scope.names → ∃ c, cl.lookup y = some c) := by
  obtain ⟨cl, e, a, b⟩ := closure_list (en := en) scope.names [] h1 (fun y c h => by simp at h)
  refine ⟨cl, ?_, a, fun y hy => b y (.inl hy)⟩
  have q := congrArg (fun t : Sem (List (Str × Addr)) => t >>= fun c => pure c) e
  exact q
end L2
set_option Elab.async false
set_option linter.all false
set_option maxRecDepth 100000
namespace L2
open PySem PySem.Spec PyProof.Rows

/-! the context of a comprehension's block: C its names, s0 and H0 the state with the list laid, fp the iterator's objects -/
def xeC (X : Cx) (en : Env) (C : Addr) : Value → Shared → Prop :=
  notedBy (model X.prog X.w) X.A en fun e s' => compPost (model X.prog X.w) X.A X.xe none (fun _ _ => False) Value.none C (.error e) s'
def cxC (X : Cx) (scope : Scope) (cl : List (Str × Addr)) (C : Addr) (s0 : Shared) (H0 : Hp) (fp : List Addr) (N : List Str) : Cx where
  prog := X.prog
  w := X.w
  K := X.K
  mg := X.mg
  base := X.base
  A := X.A
  N := N
  s₀ := s0
  H₀ := H0
  env := compEnvC scope cl C X.env
  outer := X.stack
  stack := X.stack
  ex := fp
  fn := fun _ => false
  calm := X.calm
  pn := []
  xe := xeC X (compEnvC scope cl C X.env) C

/-! what the block's scope must be: no cells of its own; each free name a cell of the def's; M: the def's names as the block sees them, place by place -/
structure CompScope (scope : Scope) (en : Env) (N M : List Str) : Prop where
  kind : scope.kind = .function
  nocell : ∀ y ∈ scope.names, y.2 ≠ .cell
  locs : ∀ y ∈ scope.names, y.2 = .local → scope.names.lookup y.1 = some .local
  free : ∀ y, (y, NameKind.free) ∈ scope.names → en.kindOf y = some .cell ∨ en.kindOf y = some .free
  len : M.length = N.length
  same : ∀ (j : Nat) (y : Str), M[j]? = some y → Vis (relabel scope en) y → N[j]? = some y ∧ (y, NameKind.free) ∈ scope.names ∧ (relabel scope en).names.lookup y ≠ some .local
  relab : ∀ y, ((relabel scope en).names.lookup y = some .cell ∨ (relabel scope en).names.lookup y = some .free) → (y, NameKind.free) ∈ scope.names

/-! k names of its own -/
def tComp (k : Nat) (wi : TI) (g : TG) (tc : TT) (te : TE) : TE := fun σ H Q => wi σ H fun J H1 => ∀ d, H1 d = none → ∃ W : Nat → Nat → Hp → Prop, (∃ m, W 0 m (upd H1 d (.lst []))) ∧ ∀ i m H, W i m H →
  (J.stop i H ∧ Q (.ref d) H) ∨ (J.go i H ∧ ∃ N : Hp → Prop, (∀ H', N H' → ∃ m', m' < m ∧ W (i + 1) m' H') ∧ ∀ x H', J.yld i H x H' → g x (List.replicate k none ++ σ) H' fun σ2 H2 =>
    tc σ2 H2 fun b H3 => if b = true then te σ2 H3 fun y H4 => ∃ ys, H4 d = some (.lst ys) ∧ ys.length < sizeLine ∧ N (upd H4 d (.lst (ys ++ [y]))) else N H3)

/-! what is wanted at the end of the block: the names' dict at C goes -/
structure Gone (X : Cx) (pins : List (Addr × Obj)) (H : Hp) (C : Addr) : Prop where
  no : H C = none
  ne : C ≠ X.env.locals
  yg : X.s₀.heap.objs.size ≤ C
  cl : ∀ x c, X.env.cells.lookup x = some c → c ≠ C
  pn : ∀ p ∈ X.pn ++ pins, p.1 ≠ C
theorem Inv.gone {X : Cx} {pins : List (Addr × Obj)} {σ : St} {H : Hp} {s : Shared} {C : Addr} {h' : Heap} (I : Inv X pins σ H s) (g : Gone X pins H C) (hs : Heap.SameBut C s.heap h') : Inv X pins σ H { s with heap := h' } :=
  I.turned (t' := s.toks) (it := C) (fun b o hb e => hs.extBut b o hb e) g.no g.ne (.inr g.yg) g.cl g.pn

/-! from the block's state back to the def's -/
structure Back (X Y : Cx) (pins : List (Addr × Obj)) (σ : St) (fp : List Addr) (C : Addr) (s3 : Shared) (H3 : Hp) : Prop where
  i0 : Inv X pins σ H3 s3
  fp : ∀ b ∈ fp, (b ∈ X.ex ∨ X.s₀.heap.objs.size ≤ b) ∧ b ≠ X.env.locals ∧ (∀ x c, X.env.cells.lookup x = some c → c ≠ b) ∧ ∀ p ∈ X.pn ++ pins, p.1 ≠ b
  inv : ∀ (pins' : List (Addr × Obj)) (σ' : St) (H' : Hp) (s' : Shared), Inv Y pins' σ' H' s' → Inv X pins σ H' s' ∧ Gone X pins H' C
theorem comp_run {X : Cx} {elt tg iter : Expr} {cs : List Expr} {scope : Scope} {pos : Pos} {wi : TI} {g : TG} {tc : TT} {te : TE} {xs M : List Str} {use : Option (Value → Sem Unit)} {RR : Value → Shared → Prop} (hc : X.calm = true) (S : CompScope scope X.env X.N M) (hi : PI X tg iter wi)
    (hin : ∀ (cl : List (Str × Addr)) (C : Addr) (s0 : Shared) (H0 : Hp) (fp : List Addr) (pins : List (Addr × Obj)) (σ : St), Back X (cxC X scope cl C s0 H0 fp (xs ++ M)) pins σ fp C s0 H0 → PG (cxC X scope cl C s0 H0 fp (xs ++ M)) tg g ∧ PTs (cxC X scope cl C s0 H0 fp (xs ++ M)) cs tc ∧ PE (cxC X scope cl C s0 H0 fp (xs ++ M)) elt te)
    (hg : ∀ v σ H Q, g v (List.replicate xs.length none ++ σ) H Q → g v (List.replicate xs.length none ++ σ) H fun σ2 H2 => (∃ l : St, l.length = xs.length ∧ σ2 = l ++ σ) ∧ Q σ2 H2)
    (hs : ∀ x, foldedSetIterable iter X.env x = pure x) (pins : List (Addr × Obj)) (s : Shared) (σ : St) (H : Hp) (Q : VK) (I : Inv X pins σ H s) (h : tComp xs.length wi g tc te σ H Q)
    (fin : ∀ (d C : Addr) (s6 : Shared) (H6 : Hp) (m : Str → Option Value), Q (.ref d) H6 → Inv X pins σ H6 s6 → s6.heap.Ns C m → Gone X pins H6 C → compPost (model X.prog X.w) X.A X.xe use RR (.ref d) C (.ok .next) s6) :
    wpAny (model X.prog X.w) X.A (comprehension (.ListComp elt [⟨tg, iter, cs, 0⟩] scope pos) scope X.env (firstIterPos [⟨tg, iter, cs, 0⟩] pos) (newList []) false (eval iter X.env) use) RR X.xe s := by
  obtain ⟨cl, hcl, cl1, cl2⟩ := closure_of (scope := scope) (en := X.env) fun y hy => I.ok.has y (S.free y hy)
  refine wpAny_comprehension_free (use := use) rfl hs hcl S.kind S.locs (thn (hi pins s σ H _ I h) fun v s1 h1 => thn h1 fun itv s2 h2 => ?_)
  obtain ⟨it, fp, tn, J, H2, e, I2, T, st2, f2, h3⟩ := h2
  subst e
  have hf : H2 s2.heap.objs.size = none := I2.fresh
  obtain ⟨W, ⟨m0, w0⟩, turn⟩ := h3 _ hf
  refine wpAny_newObj_type (wpAny_newFunctionEnv S.nocell (by intro y hy; simp at hy) (fun h4 hns hsb => ?_) S.kind)
  have I3 : Inv X pins σ (upd H2 s2.heap.objs.size (.lst [])) { s2 with heap := s2.heap.push { cls := .type "list", data := .seq ([] : List Value).toArray } } := I2.lnew (ys := []) (its := []) (t' := s2.toks) .nil (Nat.zero_le _)
  generalize hs3 : ({ s2 with heap := s2.heap.push { cls := .type "list", data := .seq ([] : List Value).toArray } } : Shared) = s3 at I3
  generalize hH3 : upd H2 s2.heap.objs.size (.lst []) = H3 at I3 w0
  have e3 : s2.heap.push { cls := .type "list", dict := none, data := .seq ([] : List Value).toArray } = s3.heap := by rw [← hs3]
  dsimp only at hns hsb ⊢
  rw [e3] at hns hsb
  have old : ∀ b o, s3.heap.get? b = some o → h4.get? b = some o := fun b o e => hsb.extBut b o (Nat.ne_of_lt (Heap.lt_size e)) (Heap.get?_push_of_some _ e)
  have keep2 : ∀ b o, s2.heap.get? b = some o → s3.heap.get? b = some o := fun b o e => by rw [← e3]; exact Heap.get?_push_of_some _ e
  have lt3 : ∀ b ∈ fp, b < s3.heap.objs.size := fun b hb => by
    obtain ⟨o, e, _⟩ := T.obj _ _ st2 b hb
    exact Heap.lt_size (keep2 b o e)
  have n3 : ∀ b ∈ fp, H3 b = none := fun b hb => by
    obtain ⟨o, e, _⟩ := T.obj _ _ st2 b hb
    rw [← hH3, upd_ne (Nat.ne_of_lt (Heap.lt_size e))]
    exact (f2 b hb).1
  have st4 : tn 0 h4 := T.keep _ _ _ st2 fun b _ o e => old b o (keep2 b o e)
  let Y : Cx := cxC X scope cl s3.heap.objs.size s3 H3 fp (xs ++ M)
  have relab : ∀ y, ((relabel scope X.env).names.lookup y = some .cell ∨ (relabel scope X.env).names.lookup y = some .free) → ∃ c, cl.lookup y = some c := fun y hy => cl2 y (S.relab y hy)
  have Yok : Y.Ok := by
    refine ⟨I3.ok.mod, S.kind, I3.ok.glob, I3.ok.blt, Nat.le_refl _, fun y z c h1 h2 => I3.ok.inj y z c (cl1 y c h1) (cl1 z c h2), fun y hy => relab y hy, fun _ _ h _ => absurd (show false = true from h) (by decide), I3.ok.hd, I3.ok.frames, .inl rfl,
      fun b hb => ⟨Nat.ne_of_lt (lt3 b hb), fun y c e => (f2 b hb).2.2.2.2.1 y c (cl1 y c e)⟩, I3.bs, Nat.le_trans I3.ok.bsz I3.sz, fun b o e hb => ?_, fun b hb z => ?_, I3.stack, I3.stkFree⟩
    · rcases (f2 b hb).2.2.2.1 with z | z
      · exact I3.ok.noex b o e z
      · exact absurd (Nat.lt_of_lt_of_le (Heap.lt_size e) (Nat.le_trans I3.ok.bsz z)) (Nat.lt_irrefl _)
    · rcases List.mem_cons.mp (I3.stkSub b z) with z | z
      · exact (f2 b hb).2.1 z
      · exact (f2 b hb).2.2.1 z
  have cells4 : ∀ y c, cl.lookup y = some c → ∀ v, s3.heap.IsCell c v → h4.IsCell c v := fun y c _ v ⟨o, ho, hd⟩ => ⟨o, old c o ho, hd⟩
  have IY : ∀ t', Inv Y [] (List.replicate xs.length none ++ σ) H3 { s3 with heap := h4, toks := t' } := fun t' => by
    refine ⟨Yok, rfl, I3.bare, Un.kept old, ⟨_, hns, fun i y v e1 e2 e3 => ?_⟩, fun y c e => ?_, I3.hok.fresh (Nat.le_refl _), fun y c e => I3.freeC y c (cl1 y c e), fun p hp => absurd (show p ∈ ([] : List (Addr × Obj)) from hp) (by simp), I3.hok.kept old, ?_⟩
    · by_cases hi : i < xs.length
      · rw [List.getElem?_append_left (by simpa using hi), List.getElem?_replicate] at e2
        split at e2 <;> cases e2
      · obtain ⟨j, rfl⟩ : ∃ j, i = xs.length + j := ⟨i - xs.length, by omega⟩
        have e1' : M[j]? = some y := by
          have q : (xs ++ M)[xs.length + j]? = some y := e1
          rw [List.getElem?_append_right (Nat.le_add_right _ _)] at q
          simpa using q
        have e2' : σ[j]? = some (some v) := by
          rw [List.getElem?_append_right (by simp)] at e2
          simpa using e2
        obtain ⟨a1, a2, a3⟩ := S.same j y e1' e3
        have vis : Vis X.env.scope y := by
          rcases S.free y a2 with z | z
          · exact .inr (.inl z)
          · exact .inr (.inr z)
        obtain ⟨m, _, hl⟩ := I3.loc
        obtain ⟨u, r, l⟩ := hl j y v a1 e2' vis
        refine ⟨u, r, ?_⟩
        have kk : Y.env.kindOf y = some .cell ∨ Y.env.kindOf y = some .free := by
          rcases e3 with z | z | z
          · exact absurd z a3
          · exact .inl z
          · exact .inr z
        rcases l with ⟨k1, _⟩ | ⟨_, c, ec, ic⟩
        · rcases S.free y a2 with z | z
          · rw [z] at k1; cases k1
          · rw [z] at k1; cases k1
        · obtain ⟨c', ec'⟩ := cl2 y a2
          have := cl1 y c' ec'
          rw [ec] at this
          cases this
          exact .inr ⟨kk, c, ec', cells4 y c ec' _ ic⟩
    · obtain ⟨v, z⟩ := I3.cell y c (cl1 y c e)
      exact ⟨v, cells4 y c e v z⟩
    · show (List.replicate xs.length none ++ σ).length = (xs ++ M).length
      rw [List.length_append, List.length_append, List.length_replicate, S.len, I3.len]
  have stat : ∀ {pl : List (Addr × Obj)} {H' : Hp}, (∀ p ∈ pl, p.1 ∉ fp) → (∀ b ∈ fp, H' b = none) → ∀ b ∈ fp, FpOk Y pl H' b := fun hp hn b hb =>
    ⟨hn b hb, Nat.ne_of_lt (lt3 b hb), Yok.exfs b hb, .inl hb, fun y c e => (f2 b hb).2.2.2.2.1 y c (cl1 y c e), fun p hp' z => hp p (by simpa [Y, cxC] using hp') (z ▸ hb)⟩
  have bk : Back X Y pins σ fp s3.heap.objs.size s3 H3 := by
    refine ⟨I3, fun b hb => ⟨(f2 b hb).2.2.2.1, (f2 b hb).2.1, (f2 b hb).2.2.2.2.1, (f2 b hb).2.2.2.2.2⟩, fun pins' σ' H' s' J => ⟨?_, ?_⟩⟩
    · exact I3.call' (ch := fp) J.os J.base J.hok J.bare fun b hb => ⟨(f2 b hb).2.2.2.1, (f2 b hb).2.1, (f2 b hb).2.2.2.2.1, (f2 b hb).2.2.2.2.2⟩
    · refine ⟨J.free, Nat.ne_of_gt I3.lt, I3.sz, fun y c e z => ?_, fun p hp z => ?_⟩
      · obtain ⟨v, q⟩ := I3.cell y c e
        have := q.lt
        rw [z] at this
        exact Nat.lt_irrefl _ this
      · have := Heap.lt_size (I3.pin p hp).1
        rw [z] at this
        exact Nat.lt_irrefl _ this
  obtain ⟨hG, hT, hE⟩ := hin cl s3.heap.objs.size s3 H3 fp pins σ bk
  have loop : ∀ t', codeAny (model X.prog X.w) X.A (.compLoop (.ListComp elt [⟨tg, iter, cs, 0⟩] scope pos) 0 (.ref it) (.ref s2.heap.objs.size) Y.env) (compPost (model X.prog X.w) X.A X.xe use RR (.ref s2.heap.objs.size) s3.heap.objs.size) { s3 with heap := h4, toks := t' } := by
    intro t'
    refine comp_turns (EE := Y.xe) (by cases use <;> rfl) (fun n s' => ∃ i H', Inv Y [] (List.replicate xs.length none ++ σ) H' s' ∧ tn i s'.heap ∧ (∀ b ∈ fp, H' b = none) ∧ W i n H') ?_ m0 ⟨0, H3, IY t', st4, n3, w0⟩
    rintro n s5 ⟨i, H5, I5, st5, fr5, w5⟩
    rcases turn i n H5 w5 with ⟨stop, qn⟩ | ⟨go, N, hN, step⟩
    · refine thn (T.done Y rfl rfl rfl hc i [] s5 (List.replicate xs.length none ++ σ) H5 _ I5 (stat (by simp) fr5) st5 stop) fun r s6 ⟨hr, I6⟩ => ?_
      subst hr
      obtain ⟨m6, hn6, _⟩ := I6.loc
      have I8 : Inv X pins σ H5 s6 := I3.call' (ch := fp) I6.os I6.base I6.hok I6.bare fun b hb => ⟨(f2 b hb).2.2.2.1, (f2 b hb).2.1, (f2 b hb).2.2.2.2.1, (f2 b hb).2.2.2.2.2⟩
      have lt8 : X.env.locals < s3.heap.objs.size := I3.lt
      refine fin _ _ s6 H5 m6 qn I8 hn6 ⟨I6.free, Nat.ne_of_gt lt8, I3.sz, fun y c e z => ?_, fun p hp z => ?_⟩
      · obtain ⟨v, q⟩ := I3.cell y c e
        have := q.lt
        rw [z] at this
        exact Nat.lt_irrefl _ this
      · have := Heap.lt_size (I3.pin p hp).1
        rw [z] at this
        exact Nat.lt_irrefl _ this
    · refine thn (T.item Y rfl rfl rfl hc i [] s5 (List.replicate xs.length none ++ σ) H5 _ I5 (stat (by simp) fr5) st5 go) fun r s6 ⟨u, hr, h6⟩ => ?_
      subst hr
      refine thn h6 fun _ s7 ⟨x7, H7, I7, r7, y7, st7, fr7⟩ => ?_
      have I7' := I7.pinned (stat (by simp) fr7) (T.obj _ _ st7)
      have again : ∀ {σ8 : St} {H8 : Hp} {s8 : Shared}, (∃ l : St, l.length = xs.length ∧ σ8 = l ++ σ) → Inv Y ([] ++ pinsAt fp s7.heap) σ8 H8 s8 → N H8 → ∃ m, m < n ∧ ∃ i H', Inv Y [] (List.replicate xs.length none ++ σ) H' s8 ∧ tn i s8.heap ∧ (∀ b ∈ fp, H' b = none) ∧ W i m H' := fun {σ8 H8 s8} l8 I8 n8 => by
        obtain ⟨m', hm, w8⟩ := hN H8 n8
        obtain ⟨l, ll, rfl⟩ := l8
        have pin8 : ∀ b ∈ fp, ∀ o, s7.heap.get? b = some o → s8.heap.get? b = some o ∧ H8 b = none := fun b hb o e => by
          have z := I8.pin (b, o) (List.mem_append_right _ (List.mem_append_right _ (mem_pinsAt hb e)))
          exact ⟨z.1, z.2.1⟩
        refine ⟨m', hm, i + 1, H8, I8.unpinned.weak (by simp [ll]) (fun j v e => ?_), T.keep _ _ _ st7 fun b hb o e => (pin8 b hb o e).1, fun b hb => ?_, w8⟩
        · by_cases hj : j < xs.length
          · rw [List.getElem?_append_left (by simpa using hj), List.getElem?_replicate] at e
            split at e <;> cases e
          · rw [List.getElem?_append_right (by simpa using hj)] at e
            rw [List.getElem?_append_right (by omega), ll]
            simpa using e
        · obtain ⟨o, e, _⟩ := T.obj _ _ st7 b hb
          exact (pin8 b hb o e).2
      refine thn (hG _ s7 (List.replicate xs.length none ++ σ) H7 x7 u _ I7' r7 (hg _ _ _ _ (step x7 H7 y7))) fun _ s8 ⟨σ8, H8, I8, l8, q8⟩ => ?_
      refine thn (hT _ s8 σ8 H8 _ I8 q8) fun ok s9 ⟨H9, I9, q9⟩ => ?_
      cases ok with
      | false => exact again l8 I9 q9
      | true =>
        refine thn (hE _ s9 σ8 H9 _ I9 q9) fun y s10 ⟨y10, H10, I10, r10, ys, hd, hl, n10⟩ => ?_
        refine thn (mt_append _ s10 σ8 H10 (.ref s2.heap.objs.size) [y10] (.ref s2.heap.objs.size) [y] (fun _ H' => N H') I10 rfl (.cons r10 .nil) ⟨_, ys, y10, rfl, rfl, hd, hl, n10⟩) fun _ s11 ⟨_, H11, I11, _, n11⟩ => ?_
        exact again l8 I11 n11
  refine codeAny_compStart_list (loop _) (T.self _ 0 _ _ _ st4 (loop _))

theorem pe_comp {X : Cx} {elt tg iter : Expr} {cs : List Expr} {scope : Scope} {pos : Pos} {wi : TI} {g : TG} {tc : TT} {te : TE} {xs M : List Str} (hc : X.calm = true) (S : CompScope scope X.env X.N M) (hi : PI X tg iter wi)
    (hin : ∀ (cl : List (Str × Addr)) (C : Addr) (s0 : Shared) (H0 : Hp) (fp : List Addr), PG (cxC X scope cl C s0 H0 fp (xs ++ M)) tg g ∧ PTs (cxC X scope cl C s0 H0 fp (xs ++ M)) cs tc ∧ PE (cxC X scope cl C s0 H0 fp (xs ++ M)) elt te)
    (hg : ∀ v σ H Q, g v (List.replicate xs.length none ++ σ) H Q → g v (List.replicate xs.length none ++ σ) H fun σ2 H2 => (∃ l : St, l.length = xs.length ∧ σ2 = l ++ σ) ∧ Q σ2 H2)
    (hs : ∀ x, foldedSetIterable iter X.env x = pure x := by intro _; rfl) : PE X (.ListComp elt [⟨tg, iter, cs, 0⟩] scope pos) (tComp xs.length wi g tc te) := by
  intro pins s σ H Q I h
  rw [eval_ListComp]
  exact comp_run (use := none) hc S hi (fun cl C s0 H0 fp _ _ _ => hin cl C s0 H0 fp) hg hs pins s σ H Q I h fun d C s6 H6 m q I6 hn gn => ⟨m, hn, fun h' hs' => ⟨.ref d, H6, I6.gone gn hs', rfl, q⟩⟩
/-! name = [..], on one row: the name is stored ahead of the block's end -/
/-! the same, with the way back -/
end L2
set_option Elab.async false
set_option linter.all false
set_option maxRecDepth 100000
namespace L2
open PySem PySem.Spec PyProof.Rows

/-! ### data that == compares: R x d says that the value x bears the datum d -/
structure EqK {α : Type} [DecidableEq α] (H : Hp) (s : Shared) (n : Nat) (R : V → α → Prop) : Prop where
  inj : ∀ x a b, R x a → R x b → a = b
  eq : ∀ (A : Around) (x y : V) (a b : α) (u v : Value), A.units + n < cLine → R x a → R y b → RelV x u → RelV y v → SeqAt.EqAt A s u v (decide (a = b))

def RInt (x : V) (i : Int) : Prop := x = .int i
def RBl (x : V) (b : Bool) : Prop := x = .bl b
def RTup {α : Type} (H : Hp) (R : V → α → Prop) (x : V) (ds : List α) : Prop := ∃ a xs, x = .ref a ∧ H a = some (.tup xs) ∧ Paired R xs ds
def RLst {α : Type} (H : Hp) (R : V → α → Prop) (x : V) (ds : List α) : Prop := ∃ a xs, x = .ref a ∧ H a = some (.lst xs) ∧ Paired R xs ds
def ROpt {α : Type} (R : V → α → Prop) (x : V) : Option α → Prop
  | none => x = .non
  | some d => R x d ∧ ∃ a, x = .ref a

theorem all_eq {α : Type} [DecidableEq α] : ∀ (as bs : List α) (e : Nat → Bool), (∀ j x y, as[j]? = some x → bs[j]? = some y → e j = decide (x = y)) →
    ((List.range (min as.length bs.length)).all e && as.length == bs.length) = decide (as = bs) := by
  intro as bs e h
  rw [Bool.eq_iff_iff]
  simp only [Bool.and_eq_true, List.all_eq_true, List.mem_range, beq_iff_eq, decide_eq_true_eq]
  constructor
  · rintro ⟨h1, h2⟩
    refine List.ext_getElem? fun j => ?_
    by_cases hj : j < as.length
    · have e1 : as[j]? = some as[j] := List.getElem?_eq_getElem hj
      have e2 : bs[j]? = some (bs[j]'(by omega)) := List.getElem?_eq_getElem (by omega)
      have q := h1 j (by omega)
      rw [h j _ _ e1 e2] at q
      rw [e1, e2, of_decide_eq_true q]
    · rw [List.getElem?_eq_none (by omega), List.getElem?_eq_none (by omega)]
  · rintro rfl
    refine ⟨fun j hj => ?_, rfl⟩
    have hj : j < as.length := by omega
    have e1 : as[j]? = some as[j] := List.getElem?_eq_getElem hj
    rw [h j _ _ e1 e1]
    simp
theorem Paired.right_of {α β : Type} {R : α → β → Prop} : ∀ {xs : List α} {ds : List β}, Paired R xs ds → ∀ (j : Nat) (x : α), xs[j]? = some x → ∃ d, ds[j]? = some d ∧ R x d
  | _, _, .nil, j, x, e => by simp at e
  | _, _, .cons r t, 0, x, e => by simp at e; subst e; exact ⟨_, rfl, r⟩
  | _, _, .cons r t, j + 1, x, e => by
    obtain ⟨d, e1, e2⟩ := Paired.right_of t j x (by simpa using e)
    exact ⟨d, by simpa using e1, e2⟩
theorem Paired.inj {α β : Type} {R : α → β → Prop} (h : ∀ x a b, R x a → R x b → a = b) : ∀ {xs : List α} {ds es : List β}, Paired R xs ds → Paired R xs es → ds = es
  | _, _, _, .nil, .nil => rfl
  | _, _, _, .cons r t, .cons r' t' => by rw [h _ _ _ r r', Paired.inj h t t']
theorem Paired.ints : ∀ ns : List Int, Paired RInt (ns.map V.int) ns
  | [] => .nil
  | n :: ns => .cons rfl (Paired.ints ns)
theorem rtup_ints {H : Hp} {a : Addr} {ns : List Int} (h : H a = some (.tup (ns.map V.int))) : RTup H RInt (.ref a) ns := ⟨a, _, rfl, h, Paired.ints ns⟩

section
variable {α : Type} [DecidableEq α] {P : Program} {w : World} {H : Hp} {s : Shared} {n : Nat} {R : V → α → Prop} {A : Around}
theorem EqK.int : EqK H s n RInt := ⟨fun x a b h1 h2 => by unfold RInt at *; rw [h1] at h2; cases h2; rfl, fun A x y a b u v _ h1 h2 r1 r2 => by
  unfold RInt at *
  subst h1 h2
  obtain ⟨t, rfl⟩ := r1
  obtain ⟨t', rfl⟩ := r2
  have q := SeqAt.EqAt.int_int (A := A) (s := s) a t b t'
  rw [Bool.beq_eq_decide_eq] at q
  exact q⟩
/-! the items of two sequences -/
theorem items_eq (K : EqK H s n R) {xs ys : List V} {ds es : List α} {its its2 : List Value} (p1 : Paired R xs ds) (p2 : Paired R ys es) (v1 : Vals xs its) (v2 : Vals ys its2) (hA : A.units + n < cLine) :
    ∃ e : Nat → Bool, (∀ j (h1 : j < its.toArray.size) (h2 : j < its2.toArray.size), SeqAt.EqAt A s its.toArray[j] its2.toArray[j] (e j)) ∧ ((List.range (min its.toArray.size its2.toArray.size)).all e && its.toArray.size == its2.toArray.size) = decide (ds = es) := by
  have l1 : its.toArray.size = ds.length := by rw [List.size_toArray, ← v1.length]; exact p1.length
  have l2 : its2.toArray.size = es.length := by rw [List.size_toArray, ← v2.length]; exact p2.length
  refine ⟨fun j => match ds[j]?, es[j]? with | some d, some e => decide (d = e) | _, _ => true, fun j h1 h2 => ?_, ?_⟩
  · have hx : xs[j]? = some (xs[j]'(by rw [v1.length]; simpa using h1)) := List.getElem?_eq_getElem _
    have hy : ys[j]? = some (ys[j]'(by rw [v2.length]; simpa using h2)) := List.getElem?_eq_getElem _
    obtain ⟨d, e1, r1⟩ := Paired.right_of p1 j _ hx
    obtain ⟨e, e2, r2⟩ := Paired.right_of p2 j _ hy
    obtain ⟨u, e3, r3⟩ := v1.get hx
    obtain ⟨v, e4, r4⟩ := v2.get hy
    have q3 : its.toArray[j] = u := by
      have := (List.getElem?_eq_some_iff.mp e3).2
      simpa using this
    have q4 : its2.toArray[j] = v := by
      have := (List.getElem?_eq_some_iff.mp e4).2
      simpa using this
    simp only [e1, e2, q3, q4]
    exact K.eq A _ _ d e u v hA r1 r2 r3 r4
  · rw [l1, l2]
    exact all_eq ds es _ fun j x y h1 h2 => by simp only [h1, h2]
theorem rc_tups (K : EqK H s n R) (ok : HOk P w H s.heap) {a b : Addr} {xs ys : List V} {ds es : List α} (ha : H a = some (.tup xs)) (hb : H b = some (.tup ys)) (p1 : Paired R xs ds) (p2 : Paired R ys es) (hA : A.units + (n + 1) < cLine) :
    SeqAt.RcAt A s (.ref a) (.ref b) (decide (ds = es)) := by
  obtain ⟨_, its, v1, t1⟩ := ok a _ ha
  obtain ⟨_, its2, v2, t2⟩ := ok b _ hb
  obtain ⟨e, h1, h2⟩ := items_eq (A := A.in1) K p1 p2 v1 v2 (by show A.units + 1 + n < cLine; omega)
  rw [← h2]
  exact SeqAt.RcAt.tuples t1 t2 (by omega) h1
theorem isL_of {h : Heap} {a : Addr} {its : List Value} {k : Nat} (e : h.get? a = some { cls := .type "list", data := .seq its.toArray k }) : h.IsList a its.toArray := ⟨_, e, rfl, _, rfl⟩
theorem rc_lsts (K : EqK H s n R) (ok : HOk P w H s.heap) {a b : Addr} {xs ys : List V} {ds es : List α} (ha : H a = some (.lst xs)) (hb : H b = some (.lst ys)) (p1 : Paired R xs ds) (p2 : Paired R ys es) (hA : A.units + (n + 1) < cLine) :
    SeqAt.RcAt A s (.ref a) (.ref b) (decide (ds = es)) := by
  obtain ⟨_, its, k1, v1, t1⟩ := ok a _ ha
  obtain ⟨_, its2, k2, v2, t2⟩ := ok b _ hb
  obtain ⟨e, h1, h2⟩ := items_eq (A := A.in1) K p1 p2 v1 v2 (by show A.units + 1 + n < cLine; omega)
  by_cases hz : its.toArray.size = its2.toArray.size
  · have q := SeqAt.RcAt.lists (isL_of t1) (isL_of t2) hz (show A.units < cLine by omega) h1
    have z : (List.range its.toArray.size).all e = decide (ds = es) := by
      rw [← h2, ← hz]
      simp
    rw [z] at q
    exact q
  · have q := SeqAt.RcAt.lists_lengths (A := A) (isL_of t1) (isL_of t2) (by simpa using hz) (show A.units < cLine by omega)
    have z : false = decide (ds = es) := by
      rw [← h2]
      have : (its.toArray.size == its2.toArray.size) = false := by simpa using hz
      rw [this, Bool.and_false]
    rw [z] at q
    exact q
theorem rn_lsts (K : EqK H s n R) (ok : HOk P w H s.heap) {a b : Addr} {xs ys : List V} {ds es : List α} (ha : H a = some (.lst xs)) (hb : H b = some (.lst ys)) (p1 : Paired R xs ds) (p2 : Paired R ys es) (hA : A.units + (n + 1) < cLine) :
    SeqAt.RcNeAt A s (.ref a) (.ref b) (!decide (ds = es)) := by
  obtain ⟨_, its, k1, v1, t1⟩ := ok a _ ha
  obtain ⟨_, its2, k2, v2, t2⟩ := ok b _ hb
  obtain ⟨e, h1, h2⟩ := items_eq (A := A.in1) K p1 p2 v1 v2 (by show A.units + 1 + n < cLine; omega)
  by_cases hz : its.toArray.size = its2.toArray.size
  · have q := SeqAt.RcNeAt.lists (isL_of t1) (isL_of t2) hz (show A.units < cLine by omega) h1
    have z : (List.range its.toArray.size).all e = decide (ds = es) := by
      rw [← h2, ← hz]
      simp
    rw [z] at q
    exact q
  · have q := SeqAt.RcNeAt.lists_lengths (A := A) (isL_of t1) (isL_of t2) (by simpa using hz) (show A.units < cLine by omega)
    have z : false = decide (ds = es) := by
      rw [← h2]
      have : (its.toArray.size == its2.toArray.size) = false := by simpa using hz
      rw [this, Bool.and_false]
    rw [← z]
    exact q
theorem EqK.lst (K : EqK H s n R) (ok : HOk P w H s.heap) : EqK H s (n + 1) (RLst H R) := by
  refine ⟨fun x a b h1 h2 => ?_, fun A x y a b u v hA h1 h2 r1 r2 => ?_⟩
  · obtain ⟨c, xs, rfl, e1, p1⟩ := h1
    obtain ⟨c', xs', z, e2, p2⟩ := h2
    cases z
    rw [e1] at e2; cases e2
    exact Paired.inj K.inj p1 p2
  · obtain ⟨c, xs, rfl, e1, p1⟩ := h1
    obtain ⟨c', xs', rfl, e2, p2⟩ := h2
    cases r1; cases r2
    by_cases hc : c = c'
    · subst hc
      rw [e1] at e2; cases e2
      have := Paired.inj K.inj p1 p2
      subst this
      rw [decide_eq_true rfl]
      exact SeqAt.EqAt.same _
    · exact SeqAt.EqAt.of_refs hc (rc_lsts K ok e1 e2 p1 p2 hA)
end

/-! ### the operators ==, != on two tuples, two lists -/
section
variable {X : Cx} {α : Type} [DecidableEq α]
def rEqTI : R2 := fun x y H Q => ∃ ns ms, RTup H RInt x ns ∧ RTup H RInt y ms ∧ Q (.bl (decide (ns = ms))) H
theorem op_eqTI (hu : X.A.units + 4 < cLine) : OpR X (compareOp .Eq) rEqTI := by
  intro pins s σ H x y v u Q I rx ry h
  obtain ⟨ns, ms, ⟨a, xs, rfl, e1, p1⟩, ⟨b, ys, rfl, e2, p2⟩, q⟩ := h
  cases rx; cases ry
  exact rc_tups (A := X.A) (n := 0) EqK.int I.hok e1 e2 p1 p2 (by omega) _ _ _ _ ⟨.bl _, H, I, rfl, q⟩
def rNeTI : R2 := fun x y H Q => ∃ ns ms, RTup H RInt x ns ∧ RTup H RInt y ms ∧ Q (.bl (!decide (ns = ms))) H
end

/-! ### isinstance(x, T), T a built-in type -/
def rIsi (K : PySem.W.Frag) : List V → Hp → VK → Prop := fun xs H Q => ∃ x t T b, xs = [x, .ty T] ∧ TyOf K H x t ∧ PySem.W.kitOne K t (.type T) = some b ∧ Q (.bl b) H
theorem call_isi {X : Cx} : CallR X (.builtin "isinstance") (rIsi X.K) := by
  intro pins s σ H xs us Q I r h
  obtain ⟨x, t, T, b, rfl, ty, e, q⟩ := h
  obtain ⟨u, v, rfl, r1, r2⟩ := r.two
  cases r2
  exact isinst_ok I r1 ty e fun tk => ⟨.bl b, H, I.tok tk, rfl, q⟩

/-! ### slices and sums of tuples, whatever they are: some tuple with these items -/
def rSlG : V → Option Int → Option Int → Hp → VK → Prop := fun x lo hi H Q => ∃ a xs, x = .ref a ∧ H a = some (.tup xs) ∧ ∀ p H', Same H H' → H' p = some (.tup (cutV xs lo hi)) → Q (.ref p) H'
theorem sixAll {n : Nat} {α : Type} (xs : List α) (lo hi : Option Int) (h1 : HT.sIx xs.length 0 lo = 0) (h2 : HT.sIx xs.length xs.length hi = xs.length) : (xs.drop (HT.sIx xs.length 0 lo)).take (HT.sIx xs.length xs.length hi - HT.sIx xs.length 0 lo) = xs := by
  rw [h1, h2]; simp
theorem same_newO {H : Hp} {p : Addr} (h : H p = none) (o : HO) : Same H (upd H p o) := fun b u q => by rw [upd_ne (ne_of_none q h)]; exact q
theorem whole_tuple {prog : Program} {w : World} {A : Around} {E : Value → Shared → Prop} {s : Shared} {t sl : Addr} {items : Array Value} {vl vu : Value} {lo hi : Option Int} {Q : Value → Shared → Prop} (ht : IsTup s.heap t items) (hs : s.heap.IsSliceOf sl vl vu .none) (pl : IsPart vl lo) (pu : IsPart vu hi)
    (h1 : HT.sIx items.size 0 lo = 0) (h2 : HT.sIx items.size items.size hi = items.size) (h : Q (.ref t) s) : wpAny (model prog w) A (getItem (.ref t) (.ref sl)) Q E s := by
  obtain ⟨os, hos, hcs, hds⟩ := id hs
  have hTs : s.TypeIs (.ref sl) "slice" := ⟨os, hos, hcs⟩
  unfold getItem
  try with_reducible refine wpAny_holding ?_
  first | refine wpAny_bind (wpAny_pure ?_) | skip
  refine wpAny_bind (wpAny_sequenceKey ht.typeIs (by decide) ?_)
  refine wpAny_bind (wpAny_callSpecial?_slot (name := Str.ofString "__getitem__") ht.typeIs PyProof.Rows.slot_tuple_getitem
    (wpAny_call_entry PyProof.Rows.slot_tuple_getitem ht.typeIs entry_tuple_getitem ?_ (args_tuple_getitem _ _)))
  show wpAny _ _ (Builtin.Tuple.tupleItemsOf (.ref t) >>= _) _ _ s
  refine wpAny_bind (tupleItemsOf_ ht ?_)
  refine wpAny_bind (wpAny_typeOf hTs ?_)
  rw [if_pos (by decide)]
  refine wpAny_bind (HT.sliceApplied_gen hs pl pu ?_)
  rw [h1, h2]
  show wpAny _ _ (if (((0 : Nat) : Int) == 0 && (1 : Int) == 1 && (items.size - 0) == items.size) = true then _ else _) _ _ s
  rw [if_pos (by simp)]
  unfold Builtin.Tuple.tupleIsExact
  refine wpAny_bind (wpAny_bind (wpAny_typeOf ht.typeIs (wpAny_pure ?_)))
  rw [if_pos (by decide)]
  first
    | exact wpAny_bind (wpAny_rule (wpAny_bind (wpAny_pure (wpAny_pure ⟨_, rfl, wpAny_pure h⟩))))
    | exact wpAny_bind (wpAny_rule (wpAny_pure ⟨_, rfl, wpAny_pure h⟩))
    | exact wpAny_bind (wpAny_bind (wpAny_rule (wpAny_pure ⟨_, rfl, wpAny_pure h⟩)))
theorem sl_tupG {X : Cx} : SlR X rSlG := by
  intro pins s σ H x v vl vu lo hi sl Q I rx hs pl pu h
  obtain ⟨a, xs, rfl, hx, q⟩ := h
  by_cases hw : HT.sIx xs.length 0 lo = 0 ∧ HT.sIx xs.length xs.length hi = xs.length
  · cases rx
    obtain ⟨hz, its, r, ht⟩ := I.hok a _ hx
    have hlen : its.toArray.size = xs.length := by rw [List.size_toArray]; exact r.length.symm
    refine ⟨"tuple", _, PyProof.Rows.slot_tuple_getitem.lookup, (IsTp.is ht).typeIs, ?_⟩
    refine whole_tuple (IsTp.is ht) hs pl pu (by rw [hlen]; exact hw.1) (by rw [hlen]; exact hw.2) ⟨.ref a, H, I, rfl, q a H (Same.refl H) ?_⟩
    unfold cutV
    rw [sixAll (n := 0) xs lo hi hw.1 hw.2]
    exact hx
  · exact sl_tup pins s σ H (.ref a) v vl vu lo hi sl Q I rx hs pl pu ⟨a, xs, rfl, .inl (.inl hx), hw, fun p hp => q p _ (same_newO hp _) upd_same⟩
def rCatG : R2 := fun x y H Q => ∃ a b xs ys, x = .ref a ∧ y = .ref b ∧ H a = some (.tup xs) ∧ H b = some (.tup ys) ∧ xs.length + ys.length ≤ sizeLine ∧ ∀ p H', Same H H' → H' p = some (.tup (xs ++ ys)) → Q (.ref p) H'

/-! ### all(list of bools) -/
def rAll : List V → Hp → VK → Prop := fun xs H Q => ∃ (a : Addr) (bs : List Bool), xs = [.ref a] ∧ H a = some (.lst (bs.map V.bl)) ∧ Q (.bl (bs.all id)) H
theorem vals_bls : ∀ {bs : List Bool} {us : List Value}, Vals (bs.map V.bl) us → us = bs.map Value.bool := by
  intro bs
  induction bs with
  | nil => intro us r; rw [List.map_nil] at r; cases r; rfl
  | cons b bs ih =>
    intro us r
    rw [List.map_cons] at r
    cases r with
    | cons r1 r2 => rw [ih r2, show _ = Value.bool b from r1]; rfl
theorem all_range (bs : List Bool) : (List.range bs.length).all (fun i => bs.getD i true) = bs.all id := by
  rw [Bool.eq_iff_iff]
  simp only [List.all_eq_true, List.mem_range, id]
  constructor
  · intro h b hb
    obtain ⟨i, hi, rfl⟩ := List.mem_iff_getElem.mp hb
    have q := h i hi
    rwa [List.getD_eq_getElem?_getD, List.getElem?_eq_getElem hi] at q
  · intro h i hi
    rw [List.getD_eq_getElem?_getD, List.getElem?_eq_getElem hi]
    exact h _ (List.getElem_mem hi)
theorem call_all {X : Cx} (hc : X.calm = true) : CallR X (.builtin "all") rAll := by
  intro pins s σ H xs us Q I r h
  obtain ⟨a, bs, rfl, ha, q⟩ := h
  obtain ⟨u, rfl, ru⟩ := vals1 r
  cases ru
  obtain ⟨hz, its, n, v, e⟩ := I.hok a _ ha
  have ei := vals_bls v
  subst ei
  refine call_all_walk (wpAny_pyIter_list (isL_of e) ?_)
  have hlt := Heap.lt_size e
  refine ⟨s.heap.objs.size, _, _, _, _, _, fun i => bs.getD i true, rfl, Walks.list (A := X.A.in1) (by show X.A.handled = none; exact I.ok.hd hc) s.heap.objs.size a (Nat.ne_of_lt hlt) (bs.map Value.bool).toArray, ⟨⟨_, Heap.get?_push_size _ rfl, rfl, rfl⟩, isL_of (Heap.get?_push_of_some _ e)⟩, ?_, fun h' tk hk => ?_⟩
  · intro i v s' Q' E' hv hq
    simp only [List.getElem?_toArray, List.getElem?_map] at hv
    cases hb : bs[i]? with
    | none => rw [hb] at hv; cases hv
    | some b =>
      rw [hb] at hv; cases hv
      have hq' : Q' (bs.getD i true) s' := hq
      rw [List.getD_eq_getElem?_getD, hb] at hq'
      exact wpAny_truthy_bool hq'
  · have e1 : (bs.map Value.bool).toArray.size = bs.length := by simp
    rw [e1, all_range]
    exact ⟨.bl _, H, I.kept (h' := h') (t' := tk) (fun b o eo => hk b o (by simp; exact Nat.ne_of_lt (Heap.lt_size eo)) (Heap.get?_push_of_some _ eo)), rfl, q⟩

/-! ### sum(list of ints) -/
def rSum : List V → Hp → VK → Prop := fun xs H Q => ∃ (a : Addr) (ns : List Int), xs = [.ref a] ∧ H a = some (.lst (ns.map V.int)) ∧ Q (.int ns.sum) H
theorem vals_intAt : ∀ {ns : List Int} {us : List Value}, Vals (ns.map V.int) us → ∀ (i : Nat) (v : Value), us[i]? = some v → ∃ t, v = .int (ns.getD i 0) t := by
  intro ns
  induction ns with
  | nil => intro us r i v e; rw [List.map_nil] at r; cases r; simp at e
  | cons n ns ih =>
    intro us r i v e
    rw [List.map_cons] at r
    cases r with
    | cons r1 r2 =>
      cases i with
      | zero =>
        simp at e; subst e
        obtain ⟨t, z⟩ := r1
        exact ⟨t, by rw [z]; simp⟩
      | succ i =>
        obtain ⟨t, z⟩ := ih r2 i v (by simpa using e)
        exact ⟨t, by rw [z]; simp⟩
theorem call_sum {X : Cx} (hc : X.calm = true) : CallR X (.builtin "sum") rSum := by
  intro pins s σ H xs us Q I r h
  obtain ⟨a, ns, rfl, ha, q⟩ := h
  obtain ⟨u, rfl, ru⟩ := vals1 r
  cases ru
  obtain ⟨hz, its, n, v, e⟩ := I.hok a _ ha
  refine call_sum_walkAnyS (wpAny_pyIter_list (isL_of e) ?_)
  have hlt := Heap.lt_size e
  refine ⟨s.heap.objs.size, _, _, _, _, _, _, fun i => ns.getD i 0, rfl, (Walks.list (A := X.A.in1) (by show X.A.handled = none; exact I.ok.hd hc) s.heap.objs.size a (Nat.ne_of_lt hlt) its.toArray).toS, ⟨⟨_, Heap.get?_push_size _ rfl, rfl, rfl⟩, isL_of (Heap.get?_push_of_some _ e)⟩, ?_, ?_, fun s' t' mv => ?_⟩
  · intro b hb
    have hp : (s.heap.push { cls := .type "list_iterator", data := .fields #[.ref a, rawInt 0] }).objs.size = s.heap.objs.size + 1 := Heap.size_push _ _
    rcases List.mem_cons.mp hb with z | z
    · subst z
      exact Heap.lt_size (Heap.get?_push_size _ rfl)
    · have z' : b = a := by simpa using z
      subst z'
      exact Heap.lt_size (Heap.get?_push_of_some _ e)
  · intro i v' hv
    exact vals_intAt v i v' (by simpa using hv)
  · have e1 : its.toArray.size = ns.length := by
      have := v.length
      rw [List.length_map] at this
      simpa using this.symm
    rw [e1, preSum_getD]
    have e2 : ns.take ns.length = ns := List.take_length
    rw [e2]
    have k : ∀ b o, s.heap.get? b = some o → s'.heap.get? b = some o := fun b o eo => mv.heap b o (by simp; exact Nat.ne_of_lt (Heap.lt_size eo)) (Heap.get?_push_of_some _ eo)
    obtain ⟨h', g', d', tk', os'⟩ := s'
    have z1 : g' = s.gens := mv.gens
    have z2 : d' = s.drawn := mv.drawn
    have z3 : os' = s.os := mv.os
    subst z1 z2 z3
    exact ⟨.int _, H, I.kept (h' := h') (t' := tk') k, ⟨t', rfl⟩, q⟩
end L2
set_option Elab.async false
set_option linter.all false
set_option maxRecDepth 100000
namespace L2
open PySem PySem.Spec PyProof.Rows

theorem lookup_relabel (scope : Scope) (en : Env) (y : Str) : (relabel scope en).names.lookup y = (scope.names.lookup y).map fun k => if (k == NameKind.free && en.scope.kind == .function && en.kindOf y == some .cell) = true then .cell else k := by
  show List.lookup y (scope.names.map fun (n, k) => if (k == NameKind.free && en.scope.kind == .function && en.kindOf n == some .cell) = true then (n, NameKind.cell) else (n, k)) = _
  generalize scope.names = l
  induction l with
  | nil => rfl
  | cons p r ih =>
    obtain ⟨n, k⟩ := p
    rw [List.map_cons]
    by_cases hy : y = n
    · subst hy
      show List.lookup y ((if (k == NameKind.free && en.scope.kind == .function && en.kindOf y == some .cell) = true then (y, NameKind.cell) else (y, k)) :: _) = _
      by_cases hc : (k == NameKind.free && en.scope.kind == .function && en.kindOf y == some .cell) = true
      · rw [if_pos hc, List.lookup_cons, List.lookup_cons, beq_self_eq_true]
        show some NameKind.cell = some (if _ then _ else _)
        rw [if_pos hc]
      · rw [if_neg hc, List.lookup_cons, List.lookup_cons, beq_self_eq_true]
        show some k = some (if _ then _ else _)
        rw [if_neg hc]
    · have hb : (y == n) = false := by simpa using hy
      show List.lookup y ((if (k == NameKind.free && en.scope.kind == .function && en.kindOf n == some .cell) = true then (n, NameKind.cell) else (n, k)) :: _) = _
      by_cases hc : (k == NameKind.free && en.scope.kind == .function && en.kindOf n == some .cell) = true
      · rw [if_pos hc, List.lookup_cons, List.lookup_cons, hb]; exact ih
      · rw [if_neg hc, List.lookup_cons, List.lookup_cons, hb]; exact ih
/-! what a look at the two scopes decides -/
def okPair (scope : Scope) (p : Str × Str) : Bool := match scope.names.lookup p.1 with
  | none => true
  | some .free => p.1 == p.2
  | some .local => false
  | some .cell => false
  | some _ => true
theorem CompScope.of' {scope : Scope} {en : Env} {N M : List Str} (sc : Scope) (N₀ : List Str) (hsc : en.scope = sc) (hN : N = N₀) (kind : scope.kind = .function) (nocell : ∀ y ∈ scope.names, y.2 ≠ .cell) (locs : ∀ y ∈ scope.names, y.2 = .local → scope.names.lookup y.1 = some .local)
    (free : ∀ y ∈ scope.names, y.2 = .free → sc.names.lookup y.1 = some .cell ∨ sc.names.lookup y.1 = some .free) (len : M.length = N₀.length) (same : ((M.zip N₀).all (okPair scope)) = true) : CompScope scope en N M := by
  subst hsc hN
  refine ⟨kind, nocell, locs, fun y hy => free _ hy rfl, len, fun j y e v => ?_, fun y h => ?_⟩
  · have hj : j < N.length := by rw [← len]; exact (List.getElem?_eq_some_iff.mp e).1
    have e2 : N[j]? = some N[j] := List.getElem?_eq_getElem hj
    have hm : (y, N[j]) ∈ M.zip N := by
      refine List.mem_iff_getElem?.mpr ⟨j, ?_⟩
      rw [List.getElem?_zip_eq_some]
      exact ⟨e, e2⟩
    have q := List.all_eq_true.mp same _ hm
    unfold okPair at q
    unfold Vis at v
    rw [lookup_relabel] at v ⊢
    cases hl : scope.names.lookup y with
    | none => rw [hl] at v; simp at v
    | some k =>
      rw [hl] at v q
      simp only [Option.map_some] at v ⊢
      cases k with
      | free =>
        have z : y = N[j] := by simpa using q
        refine ⟨by rw [e2, ← z], PySem.mem_of_lookup hl, ?_⟩
        split <;> simp
      | «local» => simp at q
      | cell => simp at q
      | _ => simp at v
  · rw [lookup_relabel] at h
    cases hl : scope.names.lookup y with
    | none => rw [hl] at h; simp at h
    | some k =>
      rw [hl] at h
      have hm := PySem.mem_of_lookup hl
      simp only [Option.map_some] at h
      cases k with
      | free => exact hm
      | cell => exact absurd rfl (nocell _ hm)
      | _ => simp at h
theorem CompScope.of {scope : Scope} {en : Env} {N M : List Str} (sc : Scope) (N₀ : List Str) (hsc : en.scope = sc) (hN : N = N₀) (kind : scope.kind = .function) (nocell : ∀ y ∈ scope.names, y.2 ≠ .cell) (locs : ∀ y ∈ scope.names, y.2 = .local → scope.names.lookup y.1 = some .local)
    (free : ∀ y ∈ scope.names, y.2 = .free → sc.names.lookup y.1 = some .cell ∨ sc.names.lookup y.1 = some .free) (len : M.length = N₀.length) (same : ((M.zip N₀).all (okPair scope)) = true) : CompScope scope en N M := CompScope.of' sc N₀ hsc hN kind nocell locs free len same
/-! a comprehension within a comprehension: what it takes from outside, the outer one takes too -/
theorem CompScope.inner {X : Cx} {scope1 scope : Scope} {cl : List (Str × Addr)} {C : Addr} {s0 : Shared} {H0 : Hp} {fp : List Addr} {N1 M : List Str} (N₀ : List Str) (hN : N1 = N₀) (kind : scope.kind = .function) (nocell : ∀ y ∈ scope.names, y.2 ≠ .cell)
    (locs : ∀ y ∈ scope.names, y.2 = .local → scope.names.lookup y.1 = some .local) (free : ∀ y ∈ scope.names, y.2 = .free → scope1.names.lookup y.1 = some .free) (len : M.length = N₀.length) (same : ((M.zip N₀).all (okPair scope)) = true) :
    CompScope scope (cxC X scope1 cl C s0 H0 fp N1).env (cxC X scope1 cl C s0 H0 fp N1).N M := by
  subst hN
  refine CompScope.of' (relabel scope1 X.env) N1 rfl rfl kind nocell locs (fun y hy hf => ?_) len same
  rw [lookup_relabel, free y hy hf]
  simp only [Option.map_some]
  split
  · exact .inl rfl
  · exact .inr rfl
/-! one name of its own -/
theorem hg_one {v : V} {σ : St} {H : Hp} {Q : St → Hp → Prop} (h : gName 0 v (List.replicate 1 none ++ σ) H Q) : gName 0 v (List.replicate 1 none ++ σ) H fun σ2 H2 => (∃ l : St, l.length = 1 ∧ σ2 = l ++ σ) ∧ Q σ2 H2 :=
  ⟨⟨[some v], rfl, rfl⟩, h⟩

/-! what a comprehension over a range, a list, a tuple wants: Pv i ys H: behind i turns the list at d holds ys -/
theorem comp_range {lo : Int} {n : Nat} {k : Nat} {g : TG} {tc : TT} {te : TE} {σ : St} {H : Hp} {Q : VK} {d : Addr} (Pv : Nat → Hp → Prop) (h0 : Pv 0 (upd H d (.lst [])))
    (hs : ∀ i H, i < n → Pv i H → g (.int (lo + i)) (List.replicate k none ++ σ) H fun σ2 H2 => tc σ2 H2 fun b H3 => if b = true then te σ2 H3 fun y H4 => ∃ ys, H4 d = some (.lst ys) ∧ ys.length < sizeLine ∧ Pv (i + 1) (upd H4 d (.lst (ys ++ [y]))) else Pv (i + 1) H3)
    (hd : ∀ H, Pv n H → Q (.ref d) H) :
    ∃ W : Nat → Nat → Hp → Prop, (∃ m, W 0 m (upd H d (.lst []))) ∧ ∀ i m H, W i m H →
      ((Itr lo n).stop i H ∧ Q (.ref d) H) ∨ ((Itr lo n).go i H ∧ ∃ N : Hp → Prop, (∀ H', N H' → ∃ m', m' < m ∧ W (i + 1) m' H') ∧ ∀ x H', (Itr lo n).yld i H x H' → g x (List.replicate k none ++ σ) H' fun σ2 H2 =>
        tc σ2 H2 fun b H3 => if b = true then te σ2 H3 fun y H4 => ∃ ys, H4 d = some (.lst ys) ∧ ys.length < sizeLine ∧ N (upd H4 d (.lst (ys ++ [y]))) else N H3) := by
  refine ⟨fun i m H => m = n - i ∧ i ≤ n ∧ Pv i H, ⟨n, by simp, Nat.zero_le _, h0⟩, ?_⟩
  rintro i m H ⟨rfl, hi, p⟩
  by_cases hlt : i < n
  · refine .inr ⟨hlt, Pv (i + 1), fun H' p' => ⟨n - (i + 1), by omega, rfl, hlt, p'⟩, fun x H' y => ?_⟩
    obtain ⟨e, y⟩ := y
    subst e y
    exact hs i _ hlt p
  · have e : i = n := by omega
    subst e
    exact .inl ⟨Nat.le_refl _, hd H p⟩
theorem comp_tup {K : PySem.W.Frag} {a : Addr} {xs : List V} {k : Nat} {g : TG} {tc : TT} {te : TE} {σ : St} {H : Hp} {Q : VK} {d : Addr} (Pv : Nat → Hp → Prop) (h0 : Pv 0 (upd H d (.lst []))) (hl : ∀ i H, i ≤ xs.length → Pv i H → SqT K H a xs)
    (hs : ∀ i x H, xs[i]? = some x → Pv i H → g x (List.replicate k none ++ σ) H fun σ2 H2 => tc σ2 H2 fun b H3 => if b = true then te σ2 H3 fun y H4 => ∃ ys, H4 d = some (.lst ys) ∧ ys.length < sizeLine ∧ Pv (i + 1) (upd H4 d (.lst (ys ++ [y]))) else Pv (i + 1) H3)
    (hd : ∀ H, Pv xs.length H → Q (.ref d) H) :
    ∃ W : Nat → Nat → Hp → Prop, (∃ m, W 0 m (upd H d (.lst []))) ∧ ∀ i m H, W i m H →
      ((Itt K a).stop i H ∧ Q (.ref d) H) ∨ ((Itt K a).go i H ∧ ∃ N : Hp → Prop, (∀ H', N H' → ∃ m', m' < m ∧ W (i + 1) m' H') ∧ ∀ x H', (Itt K a).yld i H x H' → g x (List.replicate k none ++ σ) H' fun σ2 H2 =>
        tc σ2 H2 fun b H3 => if b = true then te σ2 H3 fun y H4 => ∃ ys, H4 d = some (.lst ys) ∧ ys.length < sizeLine ∧ N (upd H4 d (.lst (ys ++ [y]))) else N H3) := by
  refine ⟨fun i m H => m = xs.length - i ∧ i ≤ xs.length ∧ Pv i H, ⟨xs.length, by simp, Nat.zero_le _, h0⟩, ?_⟩
  rintro i m H ⟨rfl, hi, p⟩
  have q := hl i H hi p
  by_cases hlt : i < xs.length
  · refine .inr ⟨⟨xs, xs[i], q, by simp [hlt]⟩, Pv (i + 1), fun H' p' => ⟨xs.length - (i + 1), by omega, rfl, hlt, p'⟩, fun x H' y => ?_⟩
    obtain ⟨e, y⟩ := y
    subst e
    exact hs i x _ (y xs q) p
  · have e : i = xs.length := by omega
    subst e
    exact .inl ⟨⟨xs, q, Nat.le_refl _⟩, hd H p⟩
theorem comp_list {K : PySem.W.Frag} {a : Addr} {xs : List V} {k : Nat} {g : TG} {tc : TT} {te : TE} {σ : St} {H : Hp} {Q : VK} {d : Addr} (Pv : Nat → Hp → Prop) (h0 : Pv 0 (upd H d (.lst []))) (hl : ∀ i H, i ≤ xs.length → Pv i H → SqL K H a xs)
    (hs : ∀ i x H, xs[i]? = some x → Pv i H → g x (List.replicate k none ++ σ) H fun σ2 H2 => tc σ2 H2 fun b H3 => if b = true then te σ2 H3 fun y H4 => ∃ ys, H4 d = some (.lst ys) ∧ ys.length < sizeLine ∧ Pv (i + 1) (upd H4 d (.lst (ys ++ [y]))) else Pv (i + 1) H3)
    (hd : ∀ H, Pv xs.length H → Q (.ref d) H) :
    ∃ W : Nat → Nat → Hp → Prop, (∃ m, W 0 m (upd H d (.lst []))) ∧ ∀ i m H, W i m H →
      ((Itl K a).stop i H ∧ Q (.ref d) H) ∨ ((Itl K a).go i H ∧ ∃ N : Hp → Prop, (∀ H', N H' → ∃ m', m' < m ∧ W (i + 1) m' H') ∧ ∀ x H', (Itl K a).yld i H x H' → g x (List.replicate k none ++ σ) H' fun σ2 H2 =>
        tc σ2 H2 fun b H3 => if b = true then te σ2 H3 fun y H4 => ∃ ys, H4 d = some (.lst ys) ∧ ys.length < sizeLine ∧ N (upd H4 d (.lst (ys ++ [y]))) else N H3) := by
  refine ⟨fun i m H => m = xs.length - i ∧ i ≤ xs.length ∧ Pv i H, ⟨xs.length, by simp, Nat.zero_le _, h0⟩, ?_⟩
  rintro i m H ⟨rfl, hi, p⟩
  have q := hl i H hi p
  by_cases hlt : i < xs.length
  · refine .inr ⟨⟨xs, xs[i], q, by simp [hlt]⟩, Pv (i + 1), fun H' p' => ⟨xs.length - (i + 1), by omega, rfl, hlt, p'⟩, fun x H' y => ?_⟩
    obtain ⟨e, y⟩ := y
    subst e
    exact hs i x _ (y xs q) p
  · have e : i = xs.length := by omega
    subst e
    exact .inl ⟨⟨xs, q, Nat.le_refl _⟩, hd H p⟩
/-! built-in names and types -/
theorem b_isi : bootBuiltins "isinstance" = some (.builtin "isinstance") := by decide +kernel
theorem b_all : bootBuiltins "all" = some (.builtin "all") := by decide +kernel
theorem b_sum : bootBuiltins "sum" = some (.builtin "sum") := by decide +kernel
theorem b_int : bootBuiltins "int" = some (.type "int") := by decide +kernel
theorem b_bool : bootBuiltins "bool" = some (.type "bool") := by decide +kernel
theorem b_list : bootBuiltins "list" = some (.type "list") := by decide +kernel
theorem b_tuple : bootBuiltins "tuple" = some (.type "tuple") := by decide +kernel
theorem kit_int_int (K : PySem.W.Frag) : PySem.W.kitOne K (.type "int") (.type "int") = some true := by rfl
theorem kit_int_bool (K : PySem.W.Frag) : PySem.W.kitOne K (.type "int") (.type "bool") = some false := by rfl
theorem kit_tuple_tuple (K : PySem.W.Frag) : PySem.W.kitOne K (.type "tuple") (.type "tuple") = some true := by rfl

/-! ### readings in short, for one name of its own -/
theorem PE.imp {X : Cx} {e : Expr} {t t' : TE} (h : PE X e t) (hi : ∀ σ H Q, t' σ H Q → t σ H Q) : PE X e t' := fun pins s σ H Q I q => h pins s σ H Q I (hi σ H Q q)
/-! one turn with the item x: Z is what is wanted behind it -/
def turnC (tc : TT) (te : TE) (σ : St) (d : Addr) (x : V) (H : Hp) (Z : Hp → Prop) : Prop :=
  tc (some x :: σ) H fun b H3 => if b = true then te (some x :: σ) H3 fun y H4 => ∃ ys, H4 d = some (.lst ys) ∧ ys.length < sizeLine ∧ Z (upd H4 d (.lst (ys ++ [y]))) else Z H3
def tCompR1 (ta : TA) (tc : TT) (te : TE) : TE := fun σ H Q => ta σ H fun vs H1 => ∃ j : Int, vs = [.int j] ∧ -(2 ^ 62) ≤ j ∧ j < 2 ^ 62 ∧ ∀ d, H1 d = none →
  ∃ Pv : Nat → Hp → Prop, Pv 0 (upd H1 d (.lst [])) ∧ (∀ i H, i < j.toNat → Pv i H → turnC tc te σ d (.int (0 + i)) H (Pv (i + 1))) ∧ ∀ H, Pv j.toNat H → Q (.ref d) H
def tCompR2 (ta : TA) (tc : TT) (te : TE) : TE := fun σ H Q => ta σ H fun vs H1 => ∃ lo hi : Int, vs = [.int lo, .int hi] ∧ (-(2 ^ 62) ≤ lo ∧ lo < 2 ^ 62 ∧ -(2 ^ 62) ≤ hi ∧ hi < 2 ^ 62) ∧ ∀ d, H1 d = none →
  ∃ Pv : Nat → Hp → Prop, Pv 0 (upd H1 d (.lst [])) ∧ (∀ i H, i < (hi - lo).toNat → Pv i H → turnC tc te σ d (.int (lo + i)) H (Pv (i + 1))) ∧ ∀ H, Pv (hi - lo).toNat H → Q (.ref d) H
def tCompL (K : PySem.W.Frag) (tl : TE) (tc : TT) (te : TE) : TE := fun σ H Q => tl σ H fun v H1 => ∃ a xs, v = .ref a ∧ SqL K H1 a xs ∧ ∀ d, H1 d = none →
  ∃ Pv : Nat → Hp → Prop, Pv 0 (upd H1 d (.lst [])) ∧ (∀ i H, i ≤ xs.length → Pv i H → SqL K H a xs) ∧ (∀ i x H, xs[i]? = some x → Pv i H → turnC tc te σ d x H (Pv (i + 1))) ∧ ∀ H, Pv xs.length H → Q (.ref d) H
def tCompT (K : PySem.W.Frag) (tl : TE) (tc : TT) (te : TE) : TE := fun σ H Q => tl σ H fun v H1 => ∃ a xs, v = .ref a ∧ SqT K H1 a xs ∧ ∀ d, H1 d = none →
  ∃ Pv : Nat → Hp → Prop, Pv 0 (upd H1 d (.lst [])) ∧ (∀ i H, i ≤ xs.length → Pv i H → SqT K H a xs) ∧ (∀ i x H, xs[i]? = some x → Pv i H → turnC tc te σ d x H (Pv (i + 1))) ∧ ∀ H, Pv xs.length H → Q (.ref d) H
/-! the list, the tuple at hand: what the reading of an expression gives may be any; mono: a reading asks no more of a weaker end -/
def MonoE (t : TE) : Prop := ∀ σ H (Q Q' : VK), (∀ v H1, Q v H1 → Q' v H1) → t σ H Q → t σ H Q'
def MonoA (t : TA) : Prop := ∀ σ H (Q Q' : List V → Hp → Prop), (∀ v H1, Q v H1 → Q' v H1) → t σ H Q → t σ H Q'
section
variable {X : Cx} {elt iter : Expr} {tg : Str} {tp : Pos} {cs : List Expr} {scope : Scope} {pos : Pos} {tc : TT} {te : TE} {M : List Str}
abbrev Inner (X : Cx) (scope : Scope) (tg : Str) (M : List Str) (cs : List Expr) (elt : Expr) (tc : TT) (te : TE) : Prop :=
  ∀ (cl : List (Str × Addr)) (C : Addr) (s0 : Shared) (H0 : Hp) (fp : List Addr), PTs (cxC X scope cl C s0 H0 fp (tg :: M)) cs tc ∧ PE (cxC X scope cl C s0 H0 fp (tg :: M)) elt te
theorem pe_compG {wi : TI} {t : TE} (hc : X.calm = true) (S : CompScope scope X.env X.N M) (nd : (tg :: M).Nodup) (hl : scope.names.lookup tg = some .local) (hi : PI X (.Name tg tp) iter wi) (hin : Inner X scope tg M cs elt tc te)
    (ht : ∀ σ H Q, t σ H Q → tComp 1 wi (gName 0) tc te σ H Q) (hs : ∀ x, foldedSetIterable iter X.env x = pure x) : PE X (.ListComp elt [⟨.Name tg tp, iter, cs, 0⟩] scope pos) t := by
  have hx : (relabel scope X.env).names.lookup tg = some .local := by
    rw [lookup_relabel, hl]
    rfl
  exact PE.imp (pe_comp (xs := [tg]) (M := M) hc S hi (fun cl C s0 H0 fp => ⟨pg_name (i := 0) nd rfl (Or.inl hx) (Or.inr hx), hin cl C s0 H0 fp⟩) (fun v σ H Q h => hg_one h) hs) ht
theorem pe_compR1 {a : Expr} {ta : TA} {p pos' : Pos} (hc : X.calm = true) (S : CompScope scope X.env X.N M) (nd : (tg :: M).Nodup) (hl : scope.names.lookup tg = some .local) (hg : Gl X "range") (hm : X.mg "range" = none) (ha : PA X [a] ta) (mo : MonoA ta)
    (hin : Inner X scope tg M cs elt tc te) (hs : starEach [a] X.env = [(false, eval a X.env)] := by rfl) (hf : ∀ x, foldedSetIterable (.Call (.Name "range" p) [a] [] pos') X.env x = pure x := by intro _; rfl) :
    PE X (.ListComp elt [⟨.Name tg tp, .Call (.Name "range" p) [a] [] pos', cs, 0⟩] scope pos) (tCompR1 ta tc te) := by
  refine pe_compG hc S nd hl (pi_range1 hg hm ha hs) hin (fun σ H Q h => ?_) hf
  refine mo σ H _ _ (fun vs H1 q => ?_) h
  obtain ⟨j, e, j1, j2, q⟩ := q
  refine ⟨j, e, j1, j2, fun d hd => ?_⟩
  obtain ⟨Pv, h0, hs, hd⟩ := q d hd
  exact comp_range (k := 1) (g := gName 0) Pv h0 hs hd
theorem pe_compR2 {a b : Expr} {ta : TA} {p pos' : Pos} (hc : X.calm = true) (S : CompScope scope X.env X.N M) (nd : (tg :: M).Nodup) (hl : scope.names.lookup tg = some .local) (hg : Gl X "range") (hm : X.mg "range" = none) (ha : PA X [a, b] ta) (mo : MonoA ta)
    (hin : Inner X scope tg M cs elt tc te) (hs : starEach [a, b] X.env = [(false, eval a X.env), (false, eval b X.env)] := by rfl) (hs2 : starEach [b] X.env = [(false, eval b X.env)] := by rfl) (hf : ∀ x, foldedSetIterable (.Call (.Name "range" p) [a, b] [] pos') X.env x = pure x := by intro _; rfl) :
    PE X (.ListComp elt [⟨.Name tg tp, .Call (.Name "range" p) [a, b] [] pos', cs, 0⟩] scope pos) (tCompR2 ta tc te) := by
  refine pe_compG hc S nd hl (pi_range2 hg hm ha hs hs2) hin (fun σ H Q h => ?_) hf
  refine mo σ H _ _ (fun vs H1 q => ?_) h
  obtain ⟨lo, hi, e, j1, q⟩ := q
  refine ⟨lo, hi, e, j1, fun d hd => ?_⟩
  obtain ⟨Pv, h0, hs, hd⟩ := q d hd
  exact comp_range (k := 1) (g := gName 0) Pv h0 hs hd
theorem pe_compL {tl : TE} (hc : X.calm = true) (S : CompScope scope X.env X.N M) (nd : (tg :: M).Nodup) (hl : scope.names.lookup tg = some .local) (hi : PE X iter tl) (mo : MonoE tl)
    (hin : Inner X scope tg M cs elt tc te) (hf : ∀ x, foldedSetIterable iter X.env x = pure x := by intro _; rfl) : PE X (.ListComp elt [⟨.Name tg tp, iter, cs, 0⟩] scope pos) (tCompL X.K tl tc te) := by
  refine pe_compG hc S nd hl (pi_list hi) hin (fun σ H Q h => ?_) hf
  refine mo σ H _ _ (fun v H1 q => ?_) h
  obtain ⟨a, xs, e, j1, q⟩ := q
  refine ⟨a, e, ⟨xs, j1⟩, fun d hd => ?_⟩
  obtain ⟨Pv, h0, hl, hs, hd⟩ := q d hd
  exact comp_list (k := 1) (g := gName 0) Pv h0 hl hs hd
theorem pe_compT {tl : TE} (hc : X.calm = true) (S : CompScope scope X.env X.N M) (nd : (tg :: M).Nodup) (hl : scope.names.lookup tg = some .local) (hi : PE X iter tl) (mo : MonoE tl)
    (hin : Inner X scope tg M cs elt tc te) (hf : ∀ x, foldedSetIterable iter X.env x = pure x := by intro _; rfl) : PE X (.ListComp elt [⟨.Name tg tp, iter, cs, 0⟩] scope pos) (tCompT X.K tl tc te) := by
  refine pe_compG hc S nd hl (pi_tup hi) hin (fun σ H Q h => ?_) hf
  refine mo σ H _ _ (fun v H1 q => ?_) h
  obtain ⟨a, xs, e, j1, q⟩ := q
  refine ⟨a, e, ⟨xs, j1⟩, fun d hd => ?_⟩
  obtain ⟨Pv, h0, hl, hs, hd⟩ := q d hd
  exact comp_tup (k := 1) (g := gName 0) Pv h0 hl hs hd

end
theorem turn_all {te : TE} {σ : St} {d : Addr} {x : V} {H : Hp} {Z : Hp → Prop} (h : te (some x :: σ) H fun y H4 => ∃ ys, H4 d = some (.lst ys) ∧ ys.length < sizeLine ∧ Z (upd H4 d (.lst (ys ++ [y])))) : turnC tTrue te σ d x H Z := by
  unfold turnC tTrue
  exact iteT h
/-! readings that are monotone -/
theorem mo_var {i : Nat} : MonoE (tVar i) := fun _ _ _ _ h ⟨v, e, q⟩ => ⟨v, e, h _ _ q⟩
theorem mo_c {v : V} : MonoE (tC v) := fun _ _ _ _ h q => h _ _ q
theorem mo_nil : MonoA tNil := fun _ _ _ _ h q => h _ _ q
theorem mo_cons {te : TE} {ta : TA} (h1 : MonoE te) (h2 : MonoA ta) : MonoA (tCons te ta) := fun σ H Q Q' h q => h1 σ H _ _ (fun v H1 q1 => h2 σ H1 _ _ (fun vs H2 q2 => h _ _ q2) q1) q
theorem mo_op {r : R2} {ta tb : TE} (hr : ∀ x y H (Q Q' : VK), (∀ v H1, Q v H1 → Q' v H1) → r x y H Q → r x y H Q') (h1 : MonoE ta) (h2 : MonoE tb) : MonoE (tOp r ta tb) := fun σ H Q Q' h q =>
  h1 σ H _ _ (fun v H1 q1 => h2 σ H1 _ _ (fun u H2 q2 => hr _ _ _ _ _ h q2) q1) q
theorem mo_rI0 {g : Int → Int → V} : ∀ x y H (Q Q' : VK), (∀ v H1, Q v H1 → Q' v H1) → rI0 g x y H Q → rI0 g x y H Q' := fun _ _ _ _ _ h ⟨i, j, e1, e2, q⟩ => ⟨i, j, e1, e2, h _ _ q⟩
theorem mo_len {K : PySem.W.Frag} {ta : TA} (h1 : MonoA ta) : MonoE (tCB (fun xs H Q => ∃ p ys, xs = [.ref p] ∧ (SqL K H p ys ∨ SqT K H p ys) ∧ Q (.int (ys.length : Nat)) H) ta) := fun σ H Q Q' h q =>
  h1 σ H _ _ (fun vs H1 ⟨p, ys, e, s, q1⟩ => ⟨p, ys, e, s, h _ _ q1⟩) q
end L2
set_option Elab.async false
set_option linter.all false
set_option maxRecDepth 100000
namespace L2
open PySem PySem.Spec PyProof.Rows

/-! ### words and lists of words -/
abbrev TW (H : Hp) (a : Addr) (ns : List Int) : Prop := H a = some (.tup (ns.map V.int))
abbrev Wd (H : Hp) (x : V) (w : List Int) : Prop := RTup H RInt x w
abbrev Ws (H : Hp) (xs : List V) (ws : List (List Int)) : Prop := Paired (RTup H RInt) xs ws
section
variable {α β : Type} {R : α → β → Prop}
theorem Paired.appendP : ∀ {xs ys : List α} {ds es : List β}, Paired R xs ds → Paired R ys es → Paired R (xs ++ ys) (ds ++ es)
  | _, _, _, _, .nil, s => s
  | _, _, _, _, .cons r t, s => .cons r (Paired.appendP t s)
end
theorem at_int {ns : List Int} {k : Nat} {x : Int} (h : ns[k]? = some x) : atI (ns.map V.int) (k : Int) = some (.int x) := atI_nat (by rw [List.getElem?_map, h]; rfl)
theorem hu4 {A : Around} {k : Nat} (hr : Room k A) : A.units + 4 < cLine := by have := hr.units; omega
theorem small {n : Nat} (h : n ≤ 1000) : n ≤ sizeLine := Nat.le_of_lt (small1000 h)
theorem same_upd {H H1 : Hp} {d : Addr} {o : HO} (h : H d = none) (sm : Same H H1) : Same H (upd H1 d o) := fun b u q => by rw [upd_ne (ne_of_none q h)]; exact sm b u q
/-! functions by their promises, with all that a call of them wants -/
structure Fns (P : Program) (w : World) (K : PySem.W.Frag) (mg : Str → Option Value) (base : Heap) (ps : List Str) (name : Str) (sp : Sp) (k : Nat) where
  g : Addr
  gd : FuncData
  ok : FnOk P w K mg base CX0 k g gd ps sp
  b : Binds K gd ps []
  kp : PySem.W.keepIn K (.ref g) = true
  m : mg name = some (.ref g)
def Fns.up {P : Program} {w : World} {K : PySem.W.Frag} {mg : Str → Option Value} {base : Heap} {ps : List Str} {name : Str} {sp : Sp} {j k : Nat} (f : Fns P w K mg base ps name sp j) (h : j ≤ k) : Fns P w K mg base ps name sp k := ⟨f.g, f.gd, f.ok.mono h, f.b, f.kp, f.m⟩

/-! None or a tuple of ints, compared by != : the same on both sides -/
def rNeO : R2 := fun x y H Q => ∃ o : Option (List Int), ROpt (RTup H RInt) x o ∧ ROpt (RTup H RInt) y o ∧ Q (.bl false) H
/-! tuples, lists of words compared -/
def rNeTW : R2 := fun x y H Q => ∃ a b xs ys ws vs, x = .ref a ∧ y = .ref b ∧ H a = some (.tup xs) ∧ H b = some (.tup ys) ∧ Ws H xs ws ∧ Ws H ys vs ∧ Q (.bl (!decide (ws = vs))) H
end L2
set_option Elab.async false
set_option linter.all false
set_option maxRecDepth 100000
namespace L2
open PySem PySem.Spec PyProof.Rows
/-! a word between: what holds behind a statement, whichever way it went -/
def tMid (t : TS) : TS := fun D σ H => ∃ Mid : St → Hp → Prop, t { D with nx := Mid } σ H ∧ ∀ σ' H', Mid σ' H' → D.nx σ' H'
theorem ps_mid {X : Cx} {st : Stmt} {t : TS} (h : PS X st t) : PS X st (tMid t) := by
  intro pins s σ H D I ⟨Mid, h1, h2⟩
  refine thn (h pins s σ H _ I h1) fun fl s' q => ?_
  cases fl with
  | next => obtain ⟨σ', H', I', m⟩ := q; exact ⟨σ', H', I', h2 _ _ m⟩
  | brk => exact q
  | cont => exact q
  | ret u => exact q
def eMid (t : TE) : TE := fun σ H Q => ∃ Mid : V → Hp → Prop, t σ H Mid ∧ ∀ v H', Mid v H' → Q v H'
theorem pe_mid {X : Cx} {e : Expr} {t : TE} (h : PE X e t) : PE X e (eMid t) := by
  intro pins s σ H Q I ⟨Mid, h1, h2⟩
  exact thn (h pins s σ H _ I h1) fun u s' ⟨v, H', I', r, m⟩ => ⟨v, H', I', r, h2 _ _ m⟩
/-! words of letters below a number, not long -/
structure Wok (b : Int) (m : Nat) (ws : List (List Int)) : Prop where
  len : ∀ w ∈ ws, w.length ≤ m
  let' : ∀ w ∈ ws, ∀ x ∈ w, 0 ≤ x ∧ x < b
/-! the rules with the fragment named: within a comprehension's block the reading may not speak of the block -/
theorem ixL {X : Cx} (K : PySem.W.Frag) (h : X.K = K := by rfl) : IxR X (rIxL K) := by subst h; exact ix_list
def rLen (K : PySem.W.Frag) : List V → Hp → VK → Prop := fun xs H Q => ∃ p ys, xs = [.ref p] ∧ (SqL K H p ys ∨ SqT K H p ys) ∧ Q (.int ys.length) H
def rTupleOf (K : PySem.W.Frag) : List V → Hp → VK → Prop := fun xs H Q => ∃ p ys, xs = [.ref p] ∧ ((SqL K H p ys ∧ ∀ l, H l = none → Q (.ref l) (upd H l (.tup ys))) ∨ (SqT K H p ys ∧ Q (.ref p) H))
/-! a list that is written leaves the words as they are -/
section
variable {X : Cx} {elt iter : Expr} {tg : Str} {tp : Pos} {cs : List Expr} {scope : Scope} {pos : Pos} {tc : TT} {te : TE} {M : List Str}
theorem pe_compLK (K : PySem.W.Frag) {tl : TE} (hc : X.calm = true) (S : CompScope scope X.env X.N M) (nd : (tg :: M).Nodup) (hl : scope.names.lookup tg = some .local) (hi : PE X iter tl) (mo : MonoE tl)
    (hin : Inner X scope tg M cs elt tc te) (hf : ∀ x, foldedSetIterable iter X.env x = pure x := by intro _; rfl) (hK : X.K = K := by rfl) : PE X (.ListComp elt [⟨.Name tg tp, iter, cs, 0⟩] scope pos) (tCompL K tl tc te) := by
  subst hK; exact pe_compL hc S nd hl hi mo hin hf
end
end L2
set_option Elab.async false
set_option linter.all false
set_option maxRecDepth 100000
namespace L2
open PySem PySem.Spec PyProof.Rows

/-! ### exceptions: the object at e (its class, its dict, the head of its traceback), the traceback's entry at T -/
def ExcAt (h : Heap) (e : Addr) (cls : Value) (od : Option Addr) (hd : Value) : Prop := ∃ oe vs, h.get? e = some oe ∧ oe.cls = cls ∧ oe.dict = od ∧ oe.data = .fields vs ∧ vs[1]? = some hd
def TbAt (h : Heap) (T : Addr) (fl : Value) : Prop := ∃ oT ts, h.get? T = some oT ∧ oT.data = .fields ts ∧ ts[3]? = some fl
/-! from h to h' the objects at S may have changed, of those at fs the slots -/
def Mv (S fs : List Addr) (h h' : Heap) : Prop := ∀ b o, h.get? b = some o → b ∉ S → (b ∉ fs → h'.get? b = some o) ∧ ∃ sl, h'.get? b = some { o with slots := sl }
section
variable {S S' fs : List Addr} {h h1 h2 : Heap}
theorem Mv.trans (a : Mv S fs h h1) (b : Mv S fs h1 h2) : Mv S fs h h2 := fun c o e n => by
  obtain ⟨k, sl, e1⟩ := a c o e n
  obtain ⟨_, sl2, e2⟩ := b c _ e1 n
  exact ⟨fun nf => (b c o (k nf) n).1 nf, sl2, e2⟩
theorem Mv.mono (a : Mv S fs h h1) (hs : ∀ b ∈ S, b ∈ S') : Mv S' fs h h1 := fun b o e n => a b o e fun z => n (hs b z)
theorem Mv.frames (a : Mv S fs h h1) {base : Heap} {l : List Env} (hl : h.FunFrames base l) (hS : ∀ b ∈ S, ∀ o, h.get? b = some o → ∃ vs, o.data = .fields vs) : h1.FunFrames base l :=
  hl.of_keeps fun b o hb hn => by
    obtain ⟨_, sl, e⟩ := a b o hb fun z => by
      obtain ⟨vs, q⟩ := hS b z o hb
      exact hn vs q
    exact ⟨_, e, rfl⟩
end
theorem dict_mapFields (f : Array Value → Array Value) (o : Obj) : (Obj.mapFields f o).dict = o.dict := by
  obtain ⟨c, d, dt, sl⟩ := o
  cases dt <;> rfl
section
variable {M : Model} {A : Around} {E : Value → Shared → Prop} {s : Shared} {env : Env} {outer : List Env} {base : Heap} {L e T : Addr} {cls hd fl head : Value} {od : Option Addr} {S : List Addr} {Q : Unit → Shared → Prop}
theorem entry_add {hadNext : Bool} (hfr : A.frames = some (env :: outer)) (hl : s.heap.FunFrames base (env :: outer)) (hf : env.frame = some L) (x : ExcAt s.heap e cls od hd)
    (h : ∀ h' T, Mv [e] (frs (env :: outer)) s.heap h' → s.heap.objs.size ≤ T → T ≠ e → ExcAt h' e cls od (.ref T) → TbAt h' T (rawInt L) → Q () { s with heap := h' }) :
    wpAny M A (do let a ← frameOf env; let pl ← entryPlaceOf L hadNext; let b ← EntryCells.newEntry head a .none (rawInt L) .none pl; setField (.ref e) 1 b) Q E s := by
  obtain ⟨oe, vs, he, hc, hdd, hd1, h1⟩ := x
  have hsz : 1 < vs.size := (Array.getElem?_eq_some_iff.mp h1).1
  have ne : e ∉ frs (env :: outer) := fun hm => by
    obtain ⟨_, o, ho, hn⟩ := hl.mem hm
    rw [he] at ho
    cases ho
    exact hn vs hd1
  refine wpAny_bind (wpAny_frameOf_fun hfr hl hf fun g so => ?_)
  refine wpAny_bind (wpAny_entryPlaceOf fun pl hp => ?_)
  unfold EntryCells.newEntry newFields
  refine wpAny_bind (wpAny_newObj_type ?_ (hp.sizeOk5 _ _ _ _ _))
  have e1 : g.get? e = some oe := (so.2.1 e ne).trans he
  have hTe : g.objs.size ≠ e := Nat.ne_of_gt (Heap.lt_size e1)
  have t3 : ([head, .ref L, .none, rawInt L, .none] ++ (if pl.isEmpty then List.replicate 6 Value.none else pl)).toArray[3]? = some (rawInt L) := by simp
  generalize ([head, .ref L, .none, rawInt L, .none] ++ (if pl.isEmpty then List.replicate 6 Value.none else pl)).toArray = ts at t3 ⊢
  have e2 := Heap.get?_push_of_some (h := g) { cls := .type "traceback", dict := none, data := .fields ts } e1
  refine wpAny_setField e2 hd1 hsz (h _ g.objs.size (fun b o hb hn => ?_) (by rw [so.1]; exact Nat.le_refl _) hTe ?_ ?_)
  · have hbe : b ≠ e := fun z => hn (by rw [z]; exact List.mem_cons_self)
    have mv : ∀ o', g.get? b = some o' → ((g.push { cls := .type "traceback", dict := none, data := .fields ts }).update e (Obj.mapFields (·.setIfInBounds 1 (Value.ref g.objs.size)))).get? b = some o' := fun o' q => by
      rw [Heap.get?_update_other _ _ (Ne.symm hbe)]
      exact Heap.get?_push_of_some _ q
    obtain ⟨sl, q⟩ := so.2.2 b o hb
    exact ⟨fun nf => mv o ((so.2.1 b nf).trans hb), sl, mv _ q⟩
  · exact ⟨_, _, Heap.get?_update_self _ e2 (Obj.isFreed_of_fields (Obj.data_mapFields hd1 _)), (Obj.cls_mapFields _ _).trans hc, (dict_mapFields _ _).trans hdd, Obj.data_mapFields hd1 _, by simp [hsz]⟩
  · refine ⟨{ cls := .type "traceback", dict := none, data := .fields ts }, ts, ?_, rfl, t3⟩
    rw [Heap.get?_update_other _ _ (Ne.symm hTe)]
    exact Heap.get?_push_size g rfl
/-! not in flight: no traceback yet, or one whose head says so; S: the addresses that may change -/
def Loose (h : Heap) (e : Addr) (cls : Value) (od : Option Addr) (S : List Addr) : Prop :=
  e ∈ S ∧ (∀ b ∈ S, ∀ o, h.get? b = some o → ∃ vs, o.data = .fields vs) ∧ ∃ hd, ExcAt h e cls od hd ∧ (hd = .none ∨ ∃ T, T ∈ S ∧ hd = .ref T ∧ T ≠ e ∧ TbAt h T .none)
theorem tb_set {x : Value} (t : TbAt s.heap T fl) (h : ∀ h', h'.objs.size = s.heap.objs.size → TbAt h' T x → (∀ b, b ≠ T → h'.get? b = s.heap.get? b) → Q () { s with heap := h' }) : wpAny M A (setField (.ref T) 3 x) Q E s := by
  obtain ⟨oT, ts, hT, hdT, h3⟩ := t
  have hsz : 3 < ts.size := (Array.getElem?_eq_some_iff.mp h3).1
  exact wpAny_setField hT hdT hsz (h _ (Heap.size_after_update ..) ⟨_, _, Heap.get?_update_self _ hT (Obj.isFreed_of_fields (Obj.data_mapFields hdT _)), Obj.data_mapFields hdT _, by simp [hsz]⟩ fun b hb => Heap.get?_update_other _ _ (Ne.symm hb))
theorem ExcAt.other {h h' : Heap} (x : ExcAt h e cls od hd) (k : h'.get? e = h.get? e) : ExcAt h' e cls od hd := by
  obtain ⟨oe, vs, he, r⟩ := x
  exact ⟨oe, vs, k.trans he, r⟩
theorem note_ex (hfr : A.frames = some (env :: outer)) (hl : s.heap.FunFrames base (env :: outer)) (hf : env.frame = some L) (lo : Loose s.heap e cls od S)
    (h : ∀ h' T, Mv S (frs (env :: outer)) s.heap h' → s.heap.objs.size ≤ T → T ≠ e → ExcAt h' e cls od (.ref T) → TbAt h' T (rawInt L) → Q () { s with heap := h' }) : wpAny M A (noteFrame (.ref e) env) Q E s := by
  obtain ⟨heS, hSf, hd, x, hh⟩ := lo
  unfold noteFrame
  simp only [hf]
  obtain ⟨oe, vs, he, hc, hdd, hd1, h1⟩ := id x
  refine wpAny_bind (wpAny_field he hd1 h1 ?_)
  rcases hh with rfl | ⟨T, hTS, rfl, hTe, tb⟩
  · rw [if_neg (by decide)]
    exact entry_add hfr hl hf x fun h' T m hs hT x' t' => h h' T (m.mono fun b hb => by rw [List.mem_singleton.mp hb]; exact heS) hs hT x' t'
  · rw [if_pos (show (Value.ref T != Value.none) = true from by simp)]
    obtain ⟨oT, ts, hT, hdT, h3⟩ := id tb
    refine wpAny_bind (wpAny_field hT hdT h3 ?_)
    rw [if_neg (show ¬ ((Value.none == rawInt L) = true) from by simp [rawInt])]
    refine wpAny_bind (tb_set tb fun g m1 t1 k1 => ?_)
    have m2 : Mv S (frs (env :: outer)) s.heap g := fun b o hb hn => by
      have hbT : b ≠ T := fun z => hn (by rw [z]; exact hTS)
      have q := (k1 b hbT).trans hb
      exact ⟨fun _ => q, o.slots, q⟩
    refine entry_add (s := { s with heap := g }) hfr (m2.frames hl hSf) hf (x.other (k1 e (Ne.symm hTe))) fun h' T' m hs hT' x' t' => ?_
    exact h h' T' (m2.trans (m.mono fun b hb => by rw [List.mem_singleton.mp hb]; exact heS)) (by rw [← m1]; exact hs) hT' x' t'
theorem flight_ex (x : ExcAt s.heap e cls od (.ref T)) (t : TbAt s.heap T fl) (hTe : T ≠ e) (h : ∀ h', h'.objs.size = s.heap.objs.size → ExcAt h' e cls od (.ref T) → TbAt h' T .none → (∀ b, b ≠ T → h'.get? b = s.heap.get? b) → Q () { s with heap := h' }) :
    wpAny M A (setFlight (.ref e) none) Q E s := by
  obtain ⟨oe, vs, he, hc, hdd, hd1, h1⟩ := id x
  unfold setFlight
  refine wpAny_bind (wpAny_field he hd1 h1 ?_)
  rw [if_pos (show (Value.ref T != Value.none) = true from by simp)]
  exact tb_set t fun g m1 t1 k1 => h g m1 (x.other (k1 e (Ne.symm hTe))) t1 k1
/-! noted in this frame and landed (what a def's end does, what a try does): the head at T is new -/
theorem loose_of {h : Heap} (x : ExcAt h e cls od (.ref T)) (t : TbAt h T .none) (hT : T ≠ e) : Loose h e cls od [T, e] := by
  refine ⟨List.mem_cons_of_mem _ List.mem_cons_self, fun b hb o ho => ?_, .ref T, x, .inr ⟨T, List.mem_cons_self, rfl, hT, t⟩⟩
  rcases List.mem_cons.mp hb with hb | hb
  · obtain ⟨oT, ts, q, hd, _⟩ := t
    rw [hb, q] at ho
    cases ho
    exact ⟨ts, hd⟩
  · obtain ⟨oe, vs, q, _, _, hd, _⟩ := x
    rw [List.mem_singleton.mp hb, q] at ho
    cases ho
    exact ⟨vs, hd⟩
theorem land_ex (hfr : A.frames = some (env :: outer)) (hl : s.heap.FunFrames base (env :: outer)) (hf : env.frame = some L) (lo : Loose s.heap e cls od S)
    (h : ∀ h' T, Mv S (frs (env :: outer)) s.heap h' → s.heap.objs.size ≤ T → T ≠ e → ExcAt h' e cls od (.ref T) → TbAt h' T .none → Q () { s with heap := h' }) :
    wpAny M A (noteFrame (.ref e) env) (fun _ s1 => wpAny M A (setFlight (.ref e) none) Q E s1) E s := by
  refine note_ex hfr hl hf lo fun g T m hs hT x t => ?_
  refine flight_ex (s := { s with heap := g }) x t hT fun h' m1 x' t' k1 => ?_
  have mm : Mv S (frs (env :: outer)) s.heap h' := fun b o hb hn => by
    have hbT : b ≠ T := Nat.ne_of_lt (Nat.lt_of_lt_of_le (Heap.lt_size hb) hs)
    obtain ⟨q1, sl, q2⟩ := m b o hb hn
    exact ⟨fun nf => (k1 b hbT).trans (q1 nf), sl, (k1 b hbT).trans q2⟩
  exact h h' T mm hs hT x' t'
theorem leave_ex (hfr : A.frames = some (env :: outer)) (hl : s.heap.FunFrames base (env :: outer)) (hf : env.frame = some L) (lo : Loose s.heap e cls od S)
    (h : ∀ h' T, Mv S (frs (env :: outer)) s.heap h' → s.heap.objs.size ≤ T → Loose h' e cls od [T, e] → Q () { s with heap := h' }) : wpAny M A (leaving env (.ref e)) Q E s := by
  unfold leaving
  exact wpAny_bind (land_ex hfr hl hf lo fun h' T m hs hT x t => h h' T m hs (loose_of x t hT))
end

/-! ### the abstract state while an exception is on its way -/
theorem ObjOk.obj {P : Program} {w : World} {H : Hp} {h : Heap} {a : Addr} {o : HO} (x : ObjOk P w H h a o) : ∃ ob, h.get? a = some ob := by
  cases o with
  | lst xs => obtain ⟨_, _, _, _, e⟩ := x; exact ⟨_, e⟩
  | tup xs => obtain ⟨_, _, _, ob, e, _⟩ := x; exact ⟨_, e⟩
  | dK kvs => obtain ⟨_, _, _, _, ob, _, _, e, _⟩ := x; exact ⟨_, e⟩
  | dT kvs => obtain ⟨_, _, _, _, ob, _, _, e, _⟩ := x; exact ⟨_, e⟩
  | set S n => obtain ⟨ob, _, _, _, e, _⟩ := x; exact ⟨_, e⟩
  | ins C dx fs => obtain ⟨_, _, _, e, _⟩ := x; exact ⟨_, e⟩
  | own y => exact x
  | xd fs => obtain ⟨_, ⟨ob, _, _, e, _⟩, _⟩ := x; exact ⟨_, e⟩
  | rng lo hi => obtain ⟨_, _, _, e⟩ := x; exact ⟨_, e⟩
  | frz ob u => obtain ⟨e, _⟩ := x; exact ⟨_, e⟩
  | tbl ps => exact ⟨_, show h.get? a = some _ from x⟩
  | met f y => exact ⟨_, show h.get? a = some _ from x⟩
  | ext φ => obtain ⟨_, e, _⟩ := x; exact e
theorem HOk.none_of {P : Program} {w : World} {H : Hp} {h : Heap} (x : HOk P w H h) {a : Addr} (n : h.get? a = none) : H a = none := by
  cases e : H a with
  | none => rfl
  | some o =>
    obtain ⟨ob, q⟩ := (x a o e).obj
    rw [n] at q
    cases q
section
variable {X : Cx} {pins : List (Addr × Obj)} {σ : St} {H H' : Hp} {s : Shared} {h' : Heap} {b : Addr} {S : List Addr}
def Off (X : Cx) (pins : List (Addr × Obj)) (b : Addr) : Prop :=
  (∀ o, X.s₀.heap.get? b = some o → b ∈ X.ex) ∧ b ≠ X.env.locals ∧ (∀ x c, X.env.cells.lookup x = some c → c ≠ b) ∧ ∀ p ∈ X.pn ++ pins, p.1 ≠ b
theorem Inv.off (I : Inv X pins σ H s) (n : s.heap.get? b = none) : Off X pins b := by
  refine ⟨fun o e => ?_, fun z => ?_, fun x c e z => ?_, fun p hp z => ?_⟩
  · by_cases hx : b ∈ X.ex
    · exact hx
    · obtain ⟨o', e'⟩ := I.base.there b o e hx
      rw [n] at e'
      cases e'
  · obtain ⟨m, ⟨o, _, _, ho, _⟩, _⟩ := I.loc
    rw [z, ho] at n
    cases n
  · obtain ⟨v, o, ho, _⟩ := I.cell x c e
    rw [z, n] at ho
    cases ho
  · have q := (I.pin p hp).1
    rw [z, n] at q
    cases q
theorem Inv.moved {t' : Nat} (I : Inv X pins σ H s) (m : Mv S (frs X.stack) s.heap h') (hS : ∀ b ∈ S, Off X pins b ∧ H b = none) : Inv X pins σ H { s with heap := h', toks := t' } := by
  have neL : ∀ b o, X.s₀.heap.get? b = some o → b ≠ X.env.locals := fun b o e => Nat.ne_of_lt (Nat.lt_of_lt_of_le (Heap.lt_size e) I.ok.above)
  have nS : ∀ b o, X.s₀.heap.get? b = some o → b ∉ X.ex → b ∉ S := fun b o e hx z => hx ((hS b z).1.1 o e)
  have nst : ∀ b, b ≠ X.env.locals → b ∉ X.fs → b ∉ frs X.stack := fun b h1 h2 z => (List.mem_cons.mp (I.stkSub b z)).elim h1 h2
  have cellM : ∀ x c, X.env.cells.lookup x = some c → ∀ v, s.heap.IsCell c v → h'.IsCell c v := fun x c e v ⟨o, ho, hd⟩ => by
    obtain ⟨_, sl, q⟩ := m c o ho fun z => (hS c z).1.2.2.1 x c e rfl
    exact ⟨_, q, hd⟩
  refine ⟨I.ok, I.os, I.bare, ⟨fun b o e n hb hx => ?_, fun b o e n hb hx => ?_, I.base.free, fun b o e hx => ?_, I.base.tups, I.base.frzs, I.base.tbls⟩, ?_, fun x c e => ?_, I.free, I.freeC, fun p hp => ?_, fun b u e => ?_, I.len⟩
  · exact (m b o (I.base.keep b o e n hb hx) (nS b o e hx)).1 (nst b (neL b o e) hb)
  · obtain ⟨sl, e1⟩ := I.base.slot b o e n hb hx
    obtain ⟨_, sl', e2⟩ := m b _ e1 (nS b o e hx)
    exact ⟨sl', e2⟩
  · obtain ⟨o', e1⟩ := I.base.there b o e hx
    obtain ⟨_, sl, e2⟩ := m b _ e1 (nS b o e hx)
    exact ⟨_, e2⟩
  · obtain ⟨mm, hn, hl⟩ := I.loc
    refine ⟨mm, ?_, fun i x v e1 e2 e3 => ?_⟩
    · obtain ⟨o, es, ep, ho, r⟩ := hn
      obtain ⟨_, sl, q⟩ := m _ o ho fun z => (hS _ z).1.2.1 rfl
      exact ⟨_, es, ep, q, r⟩
    · obtain ⟨u, r, l⟩ := hl i x v e1 e2 e3
      refine ⟨u, r, ?_⟩
      rcases l with l | ⟨k, c, e, z⟩
      · exact .inl l
      · exact .inr ⟨k, c, e, cellM x c e _ z⟩
  · obtain ⟨v, z⟩ := I.cell x c e
    exact ⟨v, cellM x c e v z⟩
  · obtain ⟨e, n, ne, nf, d⟩ := I.pin p hp
    exact ⟨(m _ _ e fun z => (hS _ z).1.2.2.2 p hp rfl).1 (nst _ ne nf), n, ne, nf, d⟩
  · refine (I.hok b u e).stay (fun c v hc q => ?_) (fun _ q => q) fun _ _ q => q
    have ht : H c ≠ none := by
      rcases hc with rfl | hc
      · rw [e]; exact fun z => nomatch z
      · rw [hc]; exact fun z => nomatch z
    exact (m c v q fun z => ht (hS c z).2).1 fun z => ht (I.stkFree c z)
/-! an object that stood there untracked is tracked -/
theorem Inv.track {φ : Heap → Prop} (I : Inv X pins σ H s) (ob : Off X pins b) (n : H b = none) (hφ : φ s.heap) (ho : ∃ o, s.heap.get? b = some o) (st : ∀ h1 h2 : Heap, φ h1 → (∀ o, h1.get? b = some o → h2.get? b = some o) → φ h2)
    (nf : b ∉ X.fs) : Inv X pins σ (upd H b (.ext φ)) s := by
  refine ⟨I.ok, I.os, I.bare, ⟨I.base.keep, I.base.slot, fun c o e n' hx => ?_, I.base.there, fun c xs e => ?_, fun c o u e => ?_, fun c ps e => ?_⟩, I.loc, I.cell, ?_, fun x c e => ?_, fun p hp => ?_, fun c u e => ?_, I.len⟩
  · have hcb : c ≠ b := fun z => by
      subst z
      exact hx (ob.1 o e)
    rw [upd_ne hcb]
    exact I.base.free c o e n' hx
  · rw [upd_ne (ne_of_none (I.base.tups c xs e) n)]
    exact I.base.tups c xs e
  · rw [upd_ne (ne_of_none (I.base.frzs c o u e) n)]
    exact I.base.frzs c o u e
  · obtain ⟨more, q⟩ := I.base.tbls c ps e
    exact ⟨more, by rw [upd_ne (ne_of_none q n)]; exact q⟩
  · rw [upd_ne (Ne.symm ob.2.1)]
    exact I.free
  · rw [upd_ne (ob.2.2.1 x c e)]
    exact I.freeC x c e
  · obtain ⟨e, n', ne, nf', d⟩ := I.pin p hp
    exact ⟨e, by rw [upd_ne (ob.2.2.2 p hp)]; exact n', ne, nf', d⟩
  · by_cases hc : c = b
    · subst hc
      rw [upd_same] at e
      cases e
      exact ⟨hφ, ho, st⟩
    · rw [upd_ne hc] at e
      refine (I.hok c u e).stay (fun _ _ _ q => q) (fun d r => ?_) fun d xs r => ?_
      · rw [upd_ne (ne_of_none r n)]; exact r
      · rw [upd_ne (ne_of_none r n)]; exact r
end
/-! how an exception lies behind a call -/
def CXF (P : Program) (w : World) : CXT := fun outer H s E e s' => ∃ (ea : Addr) (cls : Value) (od : Option Addr) (S : List Addr) (H' : Hp), e = .ref ea ∧ s'.os = s.os ∧ AllBare s'.gens ∧
  Un (frs outer) [] H H' s.heap s'.heap ∧ HOk P w H' s'.heap ∧ Loose s'.heap ea cls od S ∧ (∀ b ∈ S, s.heap.get? b = none ∧ H' b = none) ∧ E cls od H'
section
variable {P : Program} {w : World} {K : PySem.W.Frag} {mg : Str → Option Value} {base : Heap} {N : List Str} {qual : Str} {scope : Scope} {f : Addr} {cd : Value} {A : Around} {outer : List Env} {s₀ : Shared} {H₀ : Hp} {E : XK}
theorem takes_def : Passes (CXF P w) (cxOf (CXF P w) P w K mg base N qual scope f cd A outer s₀ H₀ E) E := by
  intro pins σ H s e s' I h
  obtain ⟨ea, cls, od, S, H', rfl, os, bare, un, hok, lo, hS, q⟩ := h
  have I1 := I.call' (ch := []) os un hok bare (fun b z => absurd z (by simp))
  show wpAny _ _ (leaving _ (.ref ea)) _ _ s'
  refine leave_ex I.ok.frames I1.stack rfl lo fun h' T m hs lo' => ?_
  have I2 : Inv _ pins σ H' { s' with heap := h', toks := s'.toks } := I1.moved (S := S) m fun b hb => ⟨I.off (hS b hb).1, (hS b hb).2⟩
  have out : ∀ b, Off (cxOf (CXF P w) P w K mg base N qual scope f cd A outer s₀ H₀ E) pins b → s₀.heap.get? b = none := fun b ob => by
    cases e : s₀.heap.get? b with
    | none => rfl
    | some o => exact absurd (ob.1 o e) (by show b ∉ ([] : List Addr); simp)
  refine ⟨ea, cls, od, [T, ea], H', rfl, I2.os, I2.bare, I2.base, I2.hok, lo', fun b hb => ?_, q⟩
  rcases List.mem_cons.mp hb with rfl | hb
  · exact ⟨out _ (I1.off (Heap.get?_none_of_le hs)), I1.hok.fresh hs⟩
  · rw [List.mem_singleton.mp hb]
    exact ⟨out _ (I.off (hS ea lo.1).1), (hS ea lo.1).2⟩
/-! the rule for a def out of which exceptions may come -/
theorem Fun.okF {x qual : Str} {st : Stmt} {f : Addr} {fd : FuncData} {N ps : List Str} {k : Nat} {sp : Sp} (F : Fun K x qual st f fd) (S : FnScope N ps (defScope st)) (len : ∀ vs H Q E, sp vs H Q E → vs.length = ps.length)
    (hbody : ∀ (cdv : Value) (A : Around) (outer : List Env) (s : Shared) (H : Hp) (vs : List V) (Q : VK) (E : XK), Room k (A.deeper (envOfC qual (defScope st) s.heap.objs.size f cdv)) → sp vs H Q E →
      ∃ t, PSs (cxOf (CXF P w) P w K mg base N qual (defScope st) f cdv A outer s H E) (defBody st) t ∧ t { nx := fun _ H' => Q .non H', rt := Q } (start N vs) H) : FnOk P w K mg base (CXF P w) (k + 1) f fd ps sp := by
  obtain ⟨oc, od, kV, doc, pm, an, cdv, ct, osl, rfl, lk, hcd⟩ := F.ex
  exact fn_of lk hcd S len fun A outer s H vs Q E hr hsp => hbody cdv A outer s H vs Q E hr hsp
end
/-! a class of refusals of the text: under ValueError, no __init__ of its own -/
abbrev bmVE : List Value := [.type "ValueError", .type "Exception", .type "BaseException", .type "object"]
abbrev newVE : String := "ValueError.__new__"
structure Ecl (K : PySem.W.Frag) (C : Addr) : Prop where
  ex : PySem.W.excIn K C bmVE newVE = true
theorem Ecl.obj {K : PySem.W.Frag} {C : Addr} (c : Ecl K C) {h : Heap} (X : K.In h) : ∃ bm N nm q bs hdct sn sub ab col dd k0 k1 k2 k3 k5 mN, h.get? C = some (excClassObj nm q C N bs bm hdct sn sub ab col dd k0 k1 k2 k3 k5 newVE) ∧ h.Ns N mN ∧ mN "__init__" = none ∧ OwnTail h bmVE bm := by
  have q := c.ex
  unfold PySem.W.excIn at q
  split at q
  · rename_i dd cd sl ho
    split at q
    · rename_i C' bm k0 k1 k2 k3 n k5 hm hs
      simp only [Bool.and_eq_true, beq_iff_eq, Bool.not_eq_true'] at q
      obtain ⟨⟨⟨⟨⟨rfl, rfl⟩, hdel⟩, ht⟩, hok⟩, hni⟩ := q
      obtain ⟨nm, bs, mro, ns, qn, hd, sn, sub, ab, col, del⟩ := cd
      dsimp only at hm hdel hok hni
      subst hm hdel
      obtain ⟨l⟩ := sl
      have hl : l = [k0, k1, k2, k3, some (.builtin newVE), k5] := hs
      subst hl
      exact ⟨bm, ns, nm, qn, bs, hd, sn, sub, ab, col, dd, k0, k1, k2, k3, k5, _, X _ _ ho, .of_isNs (PySem.W.isNs_of_in X hok), PySem.W.nsMap_none_of_in X hok hni, PySem.W.tail_of_in X ht⟩
    · cases q
  · cases q
/-! raise C(..) -/
def tRaise (C : Addr) (E : XK) (ta : TA) : TS := fun _ σ H => ta σ H fun vs H1 => vs.length ≤ 1000 ∧ E (.ref C) none H1
theorem ps_raise {X : Cx} {E : XK} {x : Str} {C : Addr} {np cpos pos : Pos} {e : Expr} {es : List Expr} {ta : TA} (hx : Passes (CXF X.prog X.w) X E) (hc : X.calm = true) (hg : Gl X x) (hm : X.mg x = some (.ref C)) (hcl : Ecl X.K C) (ha : PA X (e :: es) ta)
    (hdb : (x == ("__debug__" : Str)) = false := by decide) (he : starEach (e :: es) X.env = (false, eval e X.env) :: starEach es X.env := by rfl) (hpl : (backTo cpos (starEach (e :: es) X.env)).any (·.1) = false := by rfl) :
    PS X (.Raise (some (.Call (.Name x np) (e :: es) [] cpos)) none pos) (tRaise C E ta) := by
  intro pins s σ H D I h
  obtain ⟨bm, N, nm, q, bs, hdct, sn, sub, ab, col, dd, k0, k1, k2, k3, k5, mN, hC, hN, hni, T⟩ := hcl.obj I.ok.mod.kin
  refine wpAny_Raise_call_subT (C := C) (nm := nm) (q := q) (N := N) (bs := bs) (bm := bm) (hdct := hdct) (sn := sn) (sub := sub) (ab := ab) (col := col) (dd := dd) (k0 := k0) (k1 := k1) (k2 := k2) (k3 := k3) (k5 := k5) PySem.F.excBase_ValueError (T.hasType (by decide +kernel)) (I.ok.hd hc) hpl hni (ld_glob I hg hm ⟨rfl, ?_⟩ hdb)
  have ha' := ha cpos pins s σ H _ I h
  rw [he] at ha' ⊢
  refine Calls.evalArgs_plain (thn ha' fun us s1 ⟨vs, H1, I1, r, hl, q⟩ => ?_)
  have kb := I1.bk
  refine ⟨rfl, ?_, kb _ _ hC, hN.keeps kb, T.keeps kb, fun h' ea me => ?_⟩
  · show us.length ≤ sizeLine
    rw [← r.length]
    exact small hl
  · refine hx pins σ H1 s1 (.ref ea) _ I1 ⟨ea, .ref C, none, [ea], H1, rfl, rfl, I1.bare, Un.kept me.keeps, I1.hok.kept me.keeps, ?_, fun b hb => ?_, q⟩
    · obtain ⟨t, ht, _, _⟩ := me.there
      refine ⟨List.mem_cons_self, fun b hb o ho => ?_, .none, ⟨_, _, ht, rfl, rfl, rfl, rfl⟩, .inl rfl⟩
      rw [List.mem_singleton.mp hb, ht] at ho
      cases ho
      exact ⟨_, rfl⟩
    · rw [List.mem_singleton.mp hb]
      exact ⟨me.new, I1.hok.none_of me.new⟩

/-! ### try: .. except C as n: .. -/
abbrev Cx.tryx (X : Cx) (pn : List (Addr × Obj)) (xe : Value → Shared → Prop) : Cx := { X with pn := pn, xe := xe }
abbrev Cx.hand (X : Cx) (ea : Addr) : Cx := { X with A := X.A.mark (some (.ref ea)), calm := false, xe := fun _ _ => False }
section
variable {X : Cx} {pins pins' : List (Addr × Obj)} {σ : St} {H : Hp} {s : Shared} {h' : Heap} {ea : Addr} {xe : Value → Shared → Prop}
theorem Inv.tryx (I : Inv X pins σ H s) (xe : Value → Shared → Prop) : Inv (X.tryx (X.pn ++ pins) xe) [] σ H s :=
  ⟨⟨I.ok.mod, I.ok.kind, I.ok.glob, I.ok.blt, I.ok.above, I.ok.inj, I.ok.has, I.ok.cab, I.ok.hd, I.ok.frames, I.ok.stk, I.ok.exf, I.ok.bs, I.ok.bsz, I.ok.noex, I.ok.exfs, I.ok.funs, I.ok.frf⟩, I.os, I.bare, I.base, I.loc, I.cell, I.free, I.freeC,
    fun p hp => I.pin p (by rw [List.append_nil] at hp; exact hp), I.hok, I.len⟩
theorem Inv.untryx (ok : X.Ok) (I : Inv (X.tryx (X.pn ++ pins) xe) pins' σ H s) : Inv X pins σ H s :=
  ⟨ok, I.os, I.bare, I.base, I.loc, I.cell, I.free, I.freeC, fun p hp => I.pin p (List.mem_append_left _ hp), I.hok, I.len⟩
theorem Inv.hand (I : Inv X pins σ H s) (ea : Addr) : Inv (X.hand ea) pins σ H s :=
  ⟨⟨I.ok.mod, I.ok.kind, I.ok.glob, I.ok.blt, I.ok.above, I.ok.inj, I.ok.has, I.ok.cab, fun z => absurd (show false = true from z) (by decide), I.ok.frames, I.ok.stk, I.ok.exf, I.ok.bs, I.ok.bsz, I.ok.noex, I.ok.exfs, I.ok.funs, I.ok.frf⟩, I.os, I.bare, I.base, I.loc, I.cell, I.free, I.freeC, I.pin, I.hok, I.len⟩
theorem Inv.unhand (ok : X.Ok) (I : Inv (X.hand ea) pins σ H s) : Inv X pins σ H s := ⟨ok, I.os, I.bare, I.base, I.loc, I.cell, I.free, I.freeC, I.pin, I.hok, I.len⟩
/-! a name goes -/
theorem Inv.unbind {i : Nat} {n : Str} {m : Str → Option Value} {v : Option Value} {t' : Nat} (I : Inv X pins σ H s) (hN : X.N.Nodup) (hi : X.N[i]? = some n)
    (hm : ∀ (i : Nat) (x : Str) (v : V), X.N[i]? = some x → σ[i]? = some (some v) → Vis X.env.scope x → ∃ u, RelV v u ∧ Look X.env s.heap m x u)
    (hns : h'.Ns X.env.locals (fun x => if x = n then v else m x)) (hs : Heap.SameBut X.env.locals s.heap h') : Inv X pins (σ.set i none) H { s with heap := h', toks := t' } := by
  have k : ∀ b o, b ≠ X.env.locals → s.heap.get? b = some o → h'.get? b = some o := fun b o ne e => (hs.2 b ne).trans e
  have neL : ∀ b o, X.s₀.heap.get? b = some o → b ≠ X.env.locals := fun b o e => Nat.ne_of_lt (Nat.lt_of_lt_of_le (Heap.lt_size e) I.ok.above)
  have cellM : ∀ x c, X.env.cells.lookup x = some c → ∀ v, s.heap.IsCell c v → h'.IsCell c v := fun x c e v ⟨o, ho, hd⟩ => ⟨o, k c o (I.cne x c e) ho, hd⟩
  refine ⟨I.ok, I.os, I.bare, ⟨fun b o e n hb hx => ?_, fun b o e n hb hx => ?_, I.base.free, fun b o e hx => ?_, I.base.tups, I.base.frzs, I.base.tbls⟩, ⟨_, hns, fun j x w e1 e2 e3 => ?_⟩, fun x c e => ?_, I.free, I.freeC, fun p hp => ?_, fun b u e => ?_, ?_⟩
  · exact k b o (neL b o e) (I.base.keep b o e n hb hx)
  · obtain ⟨sl, q⟩ := I.base.slot b o e n hb hx
    exact ⟨sl, k b _ (neL b o e) q⟩
  · obtain ⟨o', q⟩ := I.base.there b o e hx
    exact ⟨o', k b _ (neL b o e) q⟩
  · have hji : j ≠ i := fun z => by
      subst z
      rw [List.getElem?_set] at e2
      split at e2
      · split at e2 <;> cases e2
      · contradiction
    rw [List.getElem?_set_ne (Ne.symm hji)] at e2
    have hxn : x ≠ n := fun z => hji (nodup_ix hN (z ▸ e1) hi)
    obtain ⟨u, r, l⟩ := hm j x w e1 e2 e3
    refine ⟨u, r, ?_⟩
    rcases l with ⟨l1, l2⟩ | ⟨l1, c, e, z⟩
    · exact .inl ⟨l1, by show (if x = n then v else m x) = some u; rw [if_neg hxn]; exact l2⟩
    · exact .inr ⟨l1, c, e, cellM x c e _ z⟩
  · obtain ⟨v, z⟩ := I.cell x c e
    exact ⟨v, cellM x c e v z⟩
  · obtain ⟨e, n', ne, nf, d⟩ := I.pin p hp
    exact ⟨k _ _ ne e, n', ne, nf, d⟩
  · refine (I.hok b u e).stay (fun c v hc q => k c v (fun z => ?_) q) (fun _ q => q) fun _ _ q => q
    rcases hc with rfl | hc
    · rw [z, I.free] at e; cases e
    · rw [z, I.free] at hc; cases hc
  · rw [List.length_set]
    exact I.len
end
/-! a tracked exception -/
def excO (ea C : Addr) (od : Option Addr) : HO := .ext fun h => ∃ oe vs, h.get? ea = some oe ∧ oe.cls = .ref C ∧ oe.dict = od ∧ oe.data = .fields vs
/-! a class by which one catches -/
structure Hcl (K : PySem.W.Frag) (D : Addr) : Prop where
  ty : PySem.W.typeIn K (.ref D) = some (.type "type")
  cl : (PySem.W.clsIn K D).isSome = true
  be : PySem.W.subIn K (.ref D) (.type "BaseException") = some true
theorem exc_matches {K : PySem.W.Frag} {M : Model} {A : Around} {E : Value → Shared → Prop} {s : Shared} {ea C D : Addr} {oe : Obj} {Q : Bool → Shared → Prop} (X : K.In s.heap) (he : s.heap.get? ea = some oe) (hc : oe.cls = .ref C) (hD : Hcl K D)
    (sb : PySem.W.subIn K (.ref C) (.ref D) = some true) (h : Q true s) : wpAny M A (excMatches (.ref ea) (.ref D)) Q E s := by
  obtain ⟨hp, g, d, tk, os⟩ := s
  have L1 : PySem.W.Looks M hp (typeOf (.ref D)) (.type "type") := PySem.W.looks_typeIn X hD.ty
  have L2 : PySem.W.Looks M hp (isType (.ref D)) true := by
    have q := hD.cl
    unfold PySem.W.clsIn at q
    split at q
    · rename_i ho
      intro A' Q' E' s' k q
      unfold isType loadHead
      exact wpAny_bind (wpAny_loadPart (k _ _ (X _ _ ho)) (wpAny_pure q))
    · cases q
  have L3 : PySem.W.Looks M hp (isSubtype (.ref D) (.type "BaseException")) true := PySem.W.looks_subIn X hD.be
  have L4 : PySem.W.Looks M hp (isSubtype (.ref C) (.ref D)) true := PySem.W.looks_subIn X sb
  have L5 : PySem.W.Looks M hp (typeOf (.ref ea)) (.ref C) := hc ▸ (PySem.W.Looks.ld he).andThen .now
  have L6 : PySem.W.Looks M hp (isSubtype (.type "type") (.type "tuple")) false := .of_pure tc_notTuple
  unfold excMatches isInstance
  repeat (first | with_reducible refine PySem.W.Looks.at (by assumption) ?_ | wp_step)
  exact h
end L2
set_option Elab.async false
set_option linter.all false
set_option maxRecDepth 100000
namespace L2
open PySem PySem.Spec PyProof.Rows

/-! ### a call out of which an exception may come, within a try: what is wanted of it may speak of the names -/
def PassesS (X : Cx) (Ex : St → XK) : Prop := ∀ (pins : List (Addr × Obj)) (σ : St) (H : Hp) (s : Shared) (e : Value) (s' : Shared), Inv X pins σ H s → CXF X.prog X.w X.stack H s (Ex σ) e s' → X.xe e s'
def tCallX (sp : Sp) (Ex : St → XK) (t : TA) : TE := fun σ H Q => t σ H fun vs H1 => sp vs H1 Q (Ex σ)
theorem pe_callX {X : Cx} {k : Nat} {f : Addr} {fd : FuncData} {ps : List Str} {sp : Sp} {Ex : St → XK} {x : Str} {p pos : Pos} {e : Expr} {es : List Expr} {t : TA} (F : FnOk X.prog X.w X.K X.mg X.base (CXF X.prog X.w) k f fd ps sp) (hr : Room k X.A) (hg : Gl X x) (hm : X.mg x = some (.ref f))
    (hk : PySem.W.keepIn X.K (.ref f) = true) (hb : Binds X.K fd ps []) (hx : PassesS X Ex) (ha : PA X (e :: es) t) (hdb : (x == ("__debug__" : Str)) = false := by decide) (he : starEach (e :: es) X.env = (false, eval e X.env) :: starEach es X.env := by rfl)
    (hpl : (backTo pos (starEach es X.env)).any (·.1) = false := by rfl) : PE X (.Call (.Name x p) (e :: es) [] pos) (tCallX sp Ex t) := by
  intro pins s σ H Q I h
  refine wpAny_Call_Name_kw (ld_glob I hg hm ?_ hdb)
  refine PySem.W.callWith_K (h₀ := X.base) I.ok.mod.kin hk (thn (ha pos pins s σ H _ I h) fun us s1 ⟨vs, H1, I1, r, q⟩ => ⟨I1.kIn, ?_⟩) he hpl
  have hl : us.length = ps.length := by rw [← r.length]; exact F.len _ _ _ _ q
  have hb' := hb s1 us I1.kIn (by rw [List.append_nil]; exact hl)
  rw [List.append_nil] at hb'
  refine wpAny_call (codeAny_mono (F.run X.A X.stack s1 H1 ⟨us, []⟩ us vs Q (Ex σ) hr I1.env0 hb' r q) fun r s' hq => ?_)
  cases r with
  | error e => exact hx pins σ H1 s1 e s' I1 hq
  | ok fl =>
    cases fl with
    | ret u => exact I1.after hq
    | next => exact False.elim hq
    | brk => exact False.elim hq
    | cont => exact False.elim hq

/-! ### try: body except c as n: suite -/
def tTry (K : PySem.W.Frag) (D : Addr) (i : Nat) (tb : (St → XK) → TS) (ts : TS) : TS := fun G σ H => tb (fun σ' cls od H' => ∃ C, cls = .ref C ∧ PySem.W.subIn K (.ref C) (.ref D) = some true ∧
  ∀ ea, H' ea = none → ts { G with nx := fun σ2 H2 => G.nx (σ2.set i none) H2, bk := fun _ _ => False, ct := fun _ _ => False } (σ'.set i (some (.ref ea))) (upd H' ea (excO ea C od))) G σ H
theorem ps_try {X : Cx} {body suite : List Stmt} {b₀ : Stmt} {c n : Str} {D : Addr} {i : Nat} {np hpos pos : Pos} {tb : (St → XK) → TS} {ts : TS} (hc : X.calm = true) (hfrm : X.stack = X.env :: X.outer ∧ X.env.frame = some X.env.locals)
    (hb : ∀ (pn : List (Addr × Obj)) (xe : Value → Shared → Prop) (Ex : St → XK), PassesS (X.tryx pn xe) Ex → PSs (X.tryx pn xe) body (tb Ex)) (hs : ∀ ea, PSs (X.hand ea) (b₀ :: suite) ts)
    (hN : X.N.Nodup) (hi : X.N[i]? = some n) (hn : X.env.scope.names.lookup n = some .local) (hg : Gl X c) (hm : X.mg c = some (.ref D)) (hD : Hcl X.K D) (hdb : (c == ("__debug__" : Str)) = false := by decide) :
    PS X (.Try body [.ExceptHandler (some (.Name c np)) (some n) (b₀ :: suite) hpos] [] [] pos) (tTry X.K D i tb ts) := by
  intro pins s σ H G I h
  refine wpAny_Try_except ?_
  refine wpAny_mono (hb (X.pn ++ pins) (fun e s₁ => wpAny (model X.prog X.w) X.A (noteFrame e X.env) (fun _ s₂ => wpAny (model X.prog X.w) X.A (setFlight e none) (fun _ s₃ =>
      wpAny (model X.prog X.w) X.A (handleBy e X.env [.ExceptHandler (some (.Name c np)) (some n) (b₀ :: suite) hpos]) (SP X pins G) X.xe s₃) X.xe s₂) X.xe s₁) _ ?_ [] s σ H G (I.tryx _) h) (fun fl s1 q => ?_) fun _ _ z => z
  · intro pins' σ1 H1 s1 e s' I1 hx
    obtain ⟨ea, cls, od, S, H', rfl, os, bare, un, hok, lo, hS, C, rfl, sb, q⟩ := hx
    have J1 : Inv X pins σ1 H1 s1 := I1.untryx I.ok
    have J2 : Inv X pins σ1 H' s' := J1.call' (ch := []) os un hok bare (fun b z => absurd z (by simp))
    show wpAny _ _ (noteFrame (.ref ea) X.env) _ _ s'
    have st := J2.stack
    rw [hfrm.1] at st
    have hfr := I.ok.frames
    rw [hfrm.1] at hfr
    refine land_ex hfr st hfrm.2 lo fun h3 T m3 hs3 hT x3 t3 => ?_
    rw [← hfrm.1] at m3
    have J3 : Inv X pins σ1 H' { s' with heap := h3, toks := s'.toks } := J2.moved (S := S) m3 fun b hb => ⟨J1.off (hS b hb).1, (hS b hb).2⟩
    have oE := J1.off (hS ea lo.1).1
    have nE := (hS ea lo.1).2
    obtain ⟨oe, vs, he, hcls, hdd, hd1, h1⟩ := id x3
    refine wpAny_handleBy_cons (codeAny_handlers_test ?_) (by intro z; cases z)
    refine ld_glob (X := X.hand ea) (J3.hand ea) hg hm ?_ hdb
    refine exc_matches (K := X.K) J3.kIn he hcls hD sb (codeAny_handlers_suite_as ?_)
    refine flight_ex (s := { s' with heap := h3, toks := s'.toks }) x3 t3 hT fun h4 m4 x4 t4 k4 => ?_
    have J4 : Inv X pins σ1 H' { s' with heap := h4, toks := s'.toks } := J3.moved (S := [T]) (fun b o hb hn => by
      have hbT : b ≠ T := fun z => hn (by rw [z]; exact List.mem_cons_self)
      have z := (k4 b hbT).trans hb
      exact ⟨fun _ => z, o.slots, z⟩) fun b hb => by
        rw [List.mem_singleton.mp hb]
        exact ⟨J2.off (Heap.get?_none_of_le hs3), J2.hok.fresh hs3⟩
    have nf : ea ∉ X.fs := fun z => by
      obtain ⟨_, o, ho, _⟩ := I.ok.funs.mem z
      exact I.ok.exfs ea (oE.1 o ho) z
    obtain ⟨oe4, vs4, he4, hcls4, hdd4, hd14, h14⟩ := id x4
    have J5 : Inv X pins σ1 (upd H' ea (excO ea C od)) { s' with heap := h4, toks := s'.toks } := J4.track oE nE ⟨oe4, vs4, he4, hcls4, hdd4, hd14⟩ ⟨oe4, he4⟩ (fun g1 g2 ⟨o, v, q1, q2⟩ k => ⟨o, v, k o q1, q2⟩) nf
    refine store_ok2 (X := X.hand ea) (J5.hand ea) hN hi (.inl hn) (v := .ref ea) rfl (fun s6 J6 _ => ?_) (.inr hn)
    refine wpAny_mono (hs ea pins s6 _ _ _ J6 (q ea nE)) (fun f s7 z => ?_) fun _ _ z => z.elim
    have fin : ∀ {σ7 : St} {H7 : Hp} {R : Shared → Prop}, Inv (X.hand ea) pins σ7 H7 s7 → (∀ s8, Inv X pins (σ7.set i none) H7 s8 → R s8) → wpAny (model X.prog X.w) X.A (do bindName X.env n .none; unbindBehindTheSuite X.env n hpos) (fun _ s8 => R s8) X.xe s7 := fun {σ7 H7 R} J7 k => by
      have J7' := J7.unhand I.ok
      obtain ⟨m, hn7, hl7⟩ := id J7'.loc
      exact wpAny_nameGoes_keeps hn hn7 (by rw [I.ok.kind]; rfl) fun h' v hns hsb => k _ (J7'.unbind hN hi hl7 hns hsb)
    cases f with
    | next =>
      obtain ⟨σ7, H7, J7, z⟩ := z
      exact fin (R := SP X pins G .next) J7 fun s8 J8 => ⟨_, H7, J8, z⟩
    | brk =>
      obtain ⟨σ7, H7, J7, z⟩ := z
      exact z.elim
    | cont =>
      obtain ⟨σ7, H7, J7, z⟩ := z
      exact z.elim
    | ret u =>
      obtain ⟨v, σ7, H7, J7, r, z⟩ := z
      exact fin (R := SP X pins G (.ret u)) J7 fun s8 J8 => ⟨v, _, H7, J8, r, z⟩
  · cases fl with
    | next =>
      obtain ⟨σ', H', J, z⟩ := q
      exact wpAny_execs_nil ⟨σ', H', J.untryx I.ok, z⟩
    | brk =>
      obtain ⟨σ', H', J, z⟩ := q
      exact ⟨σ', H', J.untryx I.ok, z⟩
    | cont =>
      obtain ⟨σ', H', J, z⟩ := q
      exact ⟨σ', H', J.untryx I.ok, z⟩
    | ret u =>
      obtain ⟨v, σ', H', J, r, z⟩ := q
      exact ⟨v, σ', H', J.untryx I.ok, r, z⟩
/-! a word between, behind a test -/
def tMidT (t : TT) : TT := fun σ H Q => ∃ Mid : Bool → Hp → Prop, t σ H Mid ∧ ∀ b H', Mid b H' → Q b H'
end L2
set_option Elab.async false
set_option linter.all false
set_option maxRecDepth 100000
namespace L2
open PySem PySem.Spec PyProof.Rows

/-! ### attributes of an exception of a class of the text; isinstance of it -/
structure Ek (K : PySem.W.Frag) (C : Addr) : Prop where
  cl : (PySem.W.clsIn K C).isSome = true
  ga : PySem.W.findIn K (.ref C) "__getattribute__" = some (some (.builtin "BaseException.__getattribute__"))
  gt : PySem.W.findIn K (.ref C) "__getattr__" = some none
  ca : PySem.W.findIn K (.ref C) "__class__" = some (some (.builtin "object.__class__"))
  be : PySem.W.subIn K (.ref C) (.type "BaseException") = some true
  ob : PySem.W.mroIn K C (.type "object") = some true
  cg : PySem.W.specialIn K (.builtin "object.__class__") "__get__" = some (some (.builtin "getset_descriptor.__get__"))
  ct : PySem.W.takesIn K (.builtin "object.__class__") = some true
section
variable {K : PySem.W.Frag} {prog : Program} {w : World} {A : Around} {E : Value → Shared → Prop} {s : Shared} {x C : Addr} {ox : Obj} {od : Option Obj} {name : Str} {tk : Tok}
theorem exc_check {M : Model} {nv : Value} {Q : Unit → Shared → Prop} (X : K.In s.heap) (I : PySem.W.InstAt s.heap x ox C od) (G : Ek K C) (h : Q () s) : wpAny M A (checkBuiltinCall "BaseException.__getattribute__" ⟨[.ref x, nv], []⟩) Q E s := by
  obtain ⟨hp, g, d, t, os⟩ := s
  have hk : builtinKind "BaseException.__getattribute__" = some .slot := by decide +kernel
  have hsplit : splitId "BaseException.__getattribute__" = some ("BaseException", "__getattribute__") := by decide +kernel
  have L0 := I.type (M := M)
  have L1 : PySem.W.Looks M hp (isSubtype (.ref C) (.type "BaseException")) true := PySem.W.looks_subIn X G.be
  have ha := PySem.F.args_bexc_ga (.ref x) nv
  simp only [checkBuiltinCall, hk, hsplit]
  refine wpAny_bind ?_
  unfold isInstance
  repeat (first | with_reducible refine PySem.W.Looks.at (by assumption) ?_ | wp_step)
  exact h
theorem exc_by {fill expr : Bool} {Q : Value → Shared → Prop} (X : K.In s.heap) (I : PySem.W.InstAt s.heap x ox C od) (G : Ek K C)
    (h : wpAny (model prog w) A.in1 (Builtin.«object.__getattribute__» ⟨[.ref x, .str name tk], []⟩) (fun fin s' => match fin with | .done (.ret v) => PySem.W.handedIn v = true ∧ Q v s' | .again c' => c'.quiet = true ∧ codeAny (model prog w) A c' (fun r s'' => match r with | .ok (.ret v) => PySem.W.handedIn v = true ∧ Q v s'' | _ => False) s' | _ => False) (fun _ _ => False) s) :
    wpAny (model prog w) A (getAttrBy (.ref x) (.str name tk) fill expr) Q E s := by
  obtain ⟨hp, g, d, t, os⟩ := s
  have L0 := I.type (M := model prog w)
  have L1 : PySem.W.Looks (model prog w) hp (typeLookup (.ref C) "__getattribute__") (some (.builtin "BaseException.__getattribute__")) := PySem.W.looks_findIn X G.ga
  have L2 : PySem.W.Looks (model prog w) hp (typeLookup (.ref C) "__getattr__") none := PySem.W.looks_findIn X G.gt
  have f3 := PySem.F.attr_ValueError.ga.bind (.ref x)
  unfold getAttrBy
  refine wpAny_holding (wpAny_bind (L0.at (wpAny_bind (L1.at ?_))))
  show wpAny _ _ (if (onTheHeap (.ref C) && Value.builtin "BaseException.__getattribute__" == .builtin "object.__getattribute__") = true then _ else _) _ _ _
  have hb : (onTheHeap (Value.ref C) && Value.builtin "BaseException.__getattribute__" == Value.builtin "object.__getattribute__") = false := by
    show (true && Value.builtin "BaseException.__getattribute__" == Value.builtin "object.__getattribute__") = false
    decide +kernel
  rw [hb, if_neg Bool.false_ne_true]
  unfold getAttrByItsOwn
  refine wpAny_bind ?_
  show wpAny _ _ (typeLookup (.ref C) "__getattr__") _ _ _
  refine L2.at ?_
  refine wpAny_bind (wpAny_attempt (wpAny_holding ?_))
  unfold callGetattribute
  rw [if_neg (by cases expr <;> decide)]
  unfold boundAndCalled
  refine wpAny_bind (wpAny_of_eq f3 ?_)
  show wpAny _ _ (call (.builtin "BaseException.__getattribute__") [.ref x, .str name tk]) _ _ _
  refine wpAny_call (codeAny_call_builtin PySem.F.attr_ValueError.ga.plain PySem.F.entry_bexc_ga (exc_check X I G ?_))
  refine wpAny_mono h (fun fin s' z => ?_) fun _ _ z => z.elim
  rcases fin with fl | c'
  · cases fl with
    | ret v =>
      obtain ⟨z1, z2⟩ := z
      show wpAny _ _ (handedOut v) _ _ _
      exact PySem.W.handed_on z1 z2
    | _ => exact z.elim
  · refine ⟨z.1, codeAny_mono z.2 fun r s'' y => ?_⟩
    rcases r with _ | fl
    · exact y.elim
    · cases fl with
      | ret v =>
        obtain ⟨z1, z2⟩ := y
        show wpAny _ _ (handedOut v) _ _ _
        exact PySem.W.handed_on z1 z2
      | _ => exact y.elim
theorem exc_class {Q : Option Value → Shared → Prop} (X : K.In s.heap) (I : PySem.W.InstAt s.heap x ox C od) (G : Ek K C) (h : Q (some (.ref C)) { s with toks := s.toks + 1 }) : wpAny (model prog w) A (getAttr? (.ref x) "__class__") Q E s := by
  obtain ⟨hp, g, d, t, os⟩ := s
  have hf : PySem.W.findObj K C od "__class__" = some (.bind (.builtin "getset_descriptor.__get__") (.builtin "object.__class__")) := by
    obtain ⟨cd, hc⟩ := Option.isSome_iff_exists.mp G.cl
    unfold PySem.W.findObj
    rw [hc, Option.bind_some, G.ca, Option.bind_some]
    simp [G.cg, G.ct]
  have L0 := I.type (M := model prog w)
  have L1 := PySem.W.looks_find (M := model prog w) X I hf
  unfold getAttr? getAttrBy?
  refine wpAny_bind (wpAny_mkText (wpAny_bind (wpAny_attempt ?_)))
  refine exc_by (s := ⟨hp, g, d, t + 1, os⟩) X I G ?_
  unfold Builtin.«object.__getattribute__»
  repeat (first | with_reducible refine PySem.W.Looks.at (by assumption) ?_ | wp_step)
  exact PySem.W.class_get (s := ⟨hp, g, d, t + 1, os⟩) X I G.ob (wpAny_pure ⟨rfl, wpAny_pure h⟩)
end
/-! all that is asked of a class of refusals, as one answer -/
def xcIn (K : PySem.W.Frag) (C : Addr) : Bool :=
  PySem.W.typeIn K (.ref C) == some (.type "type") && (PySem.W.clsIn K C).isSome && PySem.W.subIn K (.ref C) (.type "BaseException") == some true &&
  PySem.W.findIn K (.ref C) "__getattribute__" == some (some (.builtin "BaseException.__getattribute__")) && PySem.W.findIn K (.ref C) "__getattr__" == some none && PySem.W.findIn K (.ref C) "__class__" == some (some (.builtin "object.__class__")) &&
  PySem.W.mroIn K C (.type "object") == some true && PySem.W.specialIn K (.builtin "object.__class__") "__get__" == some (some (.builtin "getset_descriptor.__get__")) && PySem.W.takesIn K (.builtin "object.__class__") == some true &&
  PySem.W.subIn K (.ref C) (.ref C) == some true && PySem.W.subIn K (.ref C) (.type "ValueError") == some true
structure XC (K : PySem.W.Frag) (C : Addr) : Prop where
  h : Hcl K C
  e : Ek K C
  sf : PySem.W.subIn K (.ref C) (.ref C) = some true
  ve : PySem.W.subIn K (.ref C) (.type "ValueError") = some true
theorem XC.of {K : PySem.W.Frag} {C : Addr} (q : xcIn K C = true) : XC K C := by
  unfold xcIn at q
  simp only [Bool.and_eq_true, beq_iff_eq] at q
  obtain ⟨⟨⟨⟨⟨⟨⟨⟨⟨⟨q1, q2⟩, q3⟩, q4⟩, q5⟩, q6⟩, q7⟩, q8⟩, q9⟩, q10⟩, q11⟩ := q
  exact ⟨⟨q1, q2, q3⟩, ⟨q2, q4, q5, q6, q3, q7, q8, q9⟩, q10, q11⟩
section
variable {K : PySem.W.Frag} {C D : Addr}
theorem kit_t (hD : Hcl K D) (sb : PySem.W.subIn K (.ref C) (.ref D) = some true) : PySem.W.kitOne K (.ref C) (.ref D) = some true := by
  unfold PySem.W.kitOne
  split
  · rfl
  · unfold PySem.W.kitCls
    dsimp only
    rw [if_pos (by rw [hD.cl, hD.ty]; rfl)]
    exact sb
theorem kit_f (hC : XC K C) (hD : Hcl K D) (sb : PySem.W.subIn K (.ref C) (.ref D) = some false) : PySem.W.kitOne K (.ref C) (.ref D) = some false := by
  unfold PySem.W.kitOne
  split
  · rename_i z
    have z' := beq_iff_eq.mp z
    rw [← z', hC.sf] at sb
    cases sb
  · unfold PySem.W.kitCls
    dsimp only
    rw [if_pos (by rw [hD.cl, hD.ty]; rfl)]
    exact sb
theorem kitx_exc {x : Addr} (G : Ek K C) : PySem.W.KitX K (.ref x) (.ref C) (fun h => ∃ ox od, PySem.W.InstAt h x ox C od) where
  ty := fun _ _ _ ⟨_, _, I⟩ => I.type
  it := fun _ _ X _ => by
    have q := G.cl
    unfold PySem.W.clsIn at q
    split at q
    · rename_i ho
      intro A' Q' E' s' k q
      unfold isType loadHead
      exact wpAny_bind (wpAny_loadPart (k _ _ (X _ _ ho)) (wpAny_pure q))
    · cases q
  ne := fun h tp dd its n sl X htp => by
    refine Bool.eq_false_iff.mpr fun z => ?_
    have e : C = tp := Value.ref.inj (beq_iff_eq.mp z)
    subst e
    have q := G.cl
    unfold PySem.W.clsIn at q
    split at q
    · rename_i ho
      have z := (X _ _ ho).symm.trans htp
      cases z
    · cases q
  ca := fun X ⟨_, _, I⟩ k => exc_class X I G k
end
/-! isinstance(e, c) -/
def rIsiE (K : PySem.W.Frag) : List V → Hp → VK → Prop := fun xs H Q => ∃ ea C od c b, xs = [.ref ea, c] ∧ H ea = some (excO ea C od) ∧ Ek K C ∧ (od = none ∨ ∃ dx fs, od = some dx ∧ H dx = some (.xd fs)) ∧
  ((∃ D, c = .ref D ∧ PySem.W.kitOne K (.ref C) (.ref D) = some b) ∨ ∃ T, c = .ty T ∧ PySem.W.kitOne K (.ref C) (.type T) = some b) ∧ Q (.bl b) H
theorem inst_of {X : Cx} {pins : List (Addr × Obj)} {σ : St} {H : Hp} {s : Shared} {ea C : Addr} {od : Option Addr} (I : Inv X pins σ H s) (h : H ea = some (excO ea C od)) (hd : od = none ∨ ∃ dx fs, od = some dx ∧ H dx = some (.xd fs)) :
    ∃ ox o, PySem.W.InstAt s.heap ea ox C o := by
  obtain ⟨⟨oe, vs, he, hc, hdd, hdt⟩, _, _⟩ := I.hok ea _ h
  rcases hd with rfl | ⟨dx, fs, rfl, hx⟩
  · exact ⟨oe, none, he, hc, by unfold PySem.W.notCls; rw [hdt], by rw [hdd]; trivial⟩
  · obtain ⟨ob, hob⟩ := (I.hok dx _ hx).obj
    exact ⟨oe, some ob, he, hc, by unfold PySem.W.notCls; rw [hdt], by rw [hdd]; exact hob⟩
theorem isiE {X : Cx} (K : PySem.W.Frag) (hK : X.K = K := by rfl) : CallR X (.builtin "isinstance") (rIsiE K) := by
  subst hK
  intro pins s σ H xs us Q I r h
  obtain ⟨ea, C, od, c, b, rfl, he, G, hd, hc, q⟩ := h
  obtain ⟨u, v, rfl, r1, r2⟩ := r.two
  cases r1
  obtain ⟨ox, o, IA⟩ := inst_of I he hd
  rcases hc with ⟨D, rfl, e⟩ | ⟨T, rfl, e⟩
  · cases r2
    exact PySem.W.kia_one (kitx_exc G) I.kIn ⟨ox, o, IA⟩ e (fun z => nomatch z) fun tk => ⟨.bl b, H, I.tok tk, rfl, q⟩
  · cases r2
    exact PySem.W.kia_one (kitx_exc G) I.kIn ⟨ox, o, IA⟩ e (fun z => nomatch z) fun tk => ⟨.bl b, H, I.tok tk, rfl, q⟩
/-! a def out of which exceptions come, with all that a call of it wants -/
structure Fns' (P : Program) (w : World) (K : PySem.W.Frag) (mg : Str → Option Value) (base : Heap) (ps : List Str) (name : Str) (sp : Sp) (k : Nat) where
  g : Addr
  gd : FuncData
  ok : FnOk P w K mg base (CXF P w) k g gd ps sp
  b : Binds K gd ps []
  kp : PySem.W.keepIn K (.ref g) = true
  m : mg name = some (.ref g)
/-! no exception comes -/
theorem passN {P : Program} {w : World} {X : Cx} : Passes (CXF P w) X E0 := fun _ _ _ _ _ _ _ ⟨_, _, _, _, _, _, _, _, _, _, _, _, z⟩ => z.elim
/-! lists of bools compared -/
def rEqLB : R2 := fun x y H Q => ∃ (a b : Addr) (ns ms : List Bool), x = .ref a ∧ y = .ref b ∧ H a = some (.lst (ns.map V.bl)) ∧ H b = some (.lst (ms.map V.bl)) ∧ Q (.bl (decide (ns = ms))) H
def rNeLB : R2 := fun x y H Q => ∃ (a b : Addr) (ns ms : List Bool), x = .ref a ∧ y = .ref b ∧ H a = some (.lst (ns.map V.bl)) ∧ H b = some (.lst (ms.map V.bl)) ∧ Q (.bl (!decide (ns = ms))) H
def Fns'.up {P : Program} {w : World} {K : PySem.W.Frag} {mg : Str → Option Value} {base : Heap} {ps : List Str} {name : Str} {sp : Sp} {j k : Nat} (f : Fns' P w K mg base ps name sp j) (h : j ≤ k) : Fns' P w K mg base ps name sp k := ⟨f.g, f.gd, f.ok.mono h, f.b, f.kp, f.m⟩
/-! a method with the fragment named -/
end L2
set_option Elab.async false
set_option linter.all false
set_option maxRecDepth 100000
namespace L2
open PySem PySem.Spec PyProof.Rows
/-- the old fact of a tuple, of the layer of wip/bin/laytup.py -/
theorem old_tup {P : Program} {w : World} {H : Hp} {h : Heap} {a : Addr} {xs : List V} (x : ObjOk P w H h a (.tup xs)) : xs.length ≤ sizeLine ∧ ∃ its : List Value, Vals xs its ∧ PyProof.Rows.IsTup h a its.toArray := by
  obtain ⟨z, its, r, p⟩ := x
  exact ⟨z, its, r, IsTp.is p⟩
/-! ### a list or a tuple, walked -/
def SqB (b : Bool) (K : PySem.W.Frag) (H : Hp) (a : Addr) (xs : List V) : Prop := match b with
  | true => SqL K H a xs
  | false => SqT K H a xs
def Itb (b : Bool) (K : PySem.W.Frag) (a : Addr) : It := match b with
  | true => Itl K a
  | false => Itt K a
def iSeq (K : PySem.W.Frag) (tl : TE) : TI := fun σ H R => tl σ H fun x H1 => ∃ a b, x = .ref a ∧ (∃ xs, SqB b K H1 a xs) ∧ R (Itb b K a) H1
def tCompS (K : PySem.W.Frag) (tl : TE) (tc : TT) (te : TE) : TE := fun σ H Q => tl σ H fun v H1 => ∃ a xs b, v = .ref a ∧ SqB b K H1 a xs ∧ ∀ d, H1 d = none →
  ∃ Pv : Nat → Hp → Prop, Pv 0 (upd H1 d (.lst [])) ∧ (∀ i H, i ≤ xs.length → Pv i H → SqB b K H a xs) ∧ (∀ i x H, xs[i]? = some x → Pv i H → turnC tc te σ d x H (Pv (i + 1))) ∧ ∀ H, Pv xs.length H → Q (.ref d) H
/-! isinstance(e, (C1, C2, ..)), none of them -/
def rIsiT (K : PySem.W.Frag) : List V → Hp → VK → Prop := fun xs H Q => ∃ ea C od tp, ∃ ds : List Addr, xs = [.ref ea, .ref tp] ∧ H ea = some (excO ea C od) ∧ Ek K C ∧ (od = none ∨ ∃ dx fs, od = some dx ∧ H dx = some (.xd fs)) ∧ H tp = some (.tup (ds.map V.ref)) ∧
  (∀ D ∈ ds, PySem.W.kitOne K (.ref C) (.ref D) = some false) ∧ Q (.bl false) H
/-! lists of ints compared -/
def rEqLI : R2 := fun x y H Q => ∃ (a b : Addr) (ns ms : List Int), x = .ref a ∧ y = .ref b ∧ H a = some (.lst (ns.map V.int)) ∧ H b = some (.lst (ms.map V.int)) ∧ Q (.bl (decide (ns = ms))) H
theorem op_eqLI {X : Cx} (hu : X.A.units + 4 < cLine) : OpR X (compareOp .Eq) rEqLI := by
  intro pins s σ H x y v u Q I rx ry h
  obtain ⟨a, b, ns, ms, rfl, rfl, e1, e2, q⟩ := h
  cases rx; cases ry
  exact rc_lsts (A := X.A) (n := 0) EqK.int I.hok e1 e2 (Paired.ints ns) (Paired.ints ms) (by omega) _ _ _ _ ⟨.bl _, H, I, rfl, q⟩
def rNeLI : R2 := fun x y H Q => ∃ (a b : Addr) (ns ms : List Int), x = .ref a ∧ y = .ref b ∧ H a = some (.lst (ns.map V.int)) ∧ H b = some (.lst (ms.map V.int)) ∧ Q (.bl (!decide (ns = ms))) H
end L2
set_option Elab.async false
set_option linter.all false
set_option maxRecDepth 100000
namespace L2
open PySem PySem.Spec PyProof.Rows
/-! products of numbers up to 10 ** 40; some names of the builtins -/
abbrev B30 : Int := 1000000000000000000000000000000
theorem e30 : (10 : Int) ^ (30 : Int).toNat = B30 := by decide
def CMulB (i j : Int) : Prop := (0 ≤ i ∧ i ≤ 10000000000 * B30) ∧ (0 ≤ j ∧ j ≤ 10000000000 * B30)
theorem CMulB.ok {i j : Int} (h : CMulB i j) : IntMulOk i j := by
  have q : ∀ k : Int, 0 ≤ k ∧ k ≤ 10000000000 * B30 → PySem.Builtin.Int.intBits k ≤ 140 := fun k hk => intBits_le_iff.mpr (by
    have e : (2 : Nat) ^ 140 = 1393796574908163946345982392040522594123776 := by decide
    rw [e]
    unfold B30 at hk
    omega)
  exact IntMulOk.of_le (q i h.1) (q j h.2) (by decide)
theorem op_mulB {X : Cx} : OpR X (binaryOp .Mult) (rI CMulB fun i j => .int (i * j)) := opI fun _ _ _ _ _ _ _ hc q => PyProof.Rows.mul_int q hc.ok
end L2
set_option Elab.async false
set_option linter.all false
set_option maxRecDepth 100000
namespace L2
open PySem PySem.Spec PyProof.Rows
/-! ### range(a, b, c), c above nought -/
def Itr3 (lo st : Int) (n : Nat) : It := ⟨fun i _ => i < n, fun i H x H' => H' = H ∧ x = .int (lo + i * st), fun i _ => n ≤ i⟩
theorem turn_range3 {P : Program} {w : World} {K : PySem.W.Frag} {tg : Expr} (it : Addr) (lo st : Int) (n : Nat) : Turn P w K tg (Itr3 lo st n) [it] it (fun i h => IsRangeIter h it (lo + (i : Nat) * st) ((n : Int) - (i : Nat)) st) where
  mem := by simp
  obj := fun i h st b hb => by
    have e : b = it := by simpa using hb
    subst e
    exact ⟨_, st, fun v z => by
      have z' : Data.fields _ = Data.cell v := z
      cases z'⟩
  keep := fun i h h' st k => k it (by simp) _ st
  item := by
    intro X hP hw hK hc i pins s σ H E I hf st0 hg
    subst hP hw hK
    obtain ⟨f0, f1, f2, f3, f4, f5⟩ := hf it (by simp)
    have W := Walks.range (prog := X.prog) (w := X.w) (I.ok.hd hc) it lo st n
    refine W.item i s _ _ hg st0 fun v h' tk hv st' kk => ?_
    obtain ⟨t, rfl⟩ := hv
    have I1 : Inv X pins σ H { s with heap := h', toks := tk } := I.turned (fun b o hb e => kk b o (by simpa using hb) e) f0 f1 f3 f4 f5
    exact ⟨_, rfl, go_of (s := { s with heap := h', toks := tk }) (n := "range_iterator") st' rfl rfl (by decide) ⟨.int (lo + i * st), H, I1, ⟨t, rfl⟩, ⟨rfl, rfl⟩, st', fun b hb => (hf b hb).1⟩⟩
  done := by
    intro X hP hw hK hc i pins s σ H E I hf st0 hg
    subst hP hw hK
    obtain ⟨f0, f1, f2, f3, f4, f5⟩ := hf it (by simp)
    exact wpAny_pyNext_range_end (I.ok.hd hc) st0 (by have : n ≤ i := hg; omega) fun h' eb => ⟨rfl, I.turned (t' := s.toks) (fun b o hb e => eb b o hb e) f0 f1 f3 f4 f5⟩
  self := fun _ _ _ _ _ st h => wpAny_pyIter_rangeiter st h
def iRng3 (ta : TA) : TI := fun σ H R => ta σ H fun vs H1 => ∃ a b c : Int, vs = [.int a, .int b, .int c] ∧ (0 ≤ a ∧ a < 1000000 ∧ 0 ≤ b ∧ b < 1000000 ∧ 0 < c ∧ c < 1000000) ∧ ∀ n : Nat, (∀ i : Nat, i < n → a + i * c < b) → R (Itr3 a c n) H1
theorem for_range3 {lo st : Int} {n : Nat} {g : TG} {tb : TS} {D : Ends} {σ : St} {H : Hp} (Pv : Nat → St → Hp → Prop) (h0 : Pv 0 σ H) (hs : ∀ i σ H, i < n → Pv i σ H → g (.int (lo + i * st)) σ H fun σ2 H2 => tb { D with nx := Pv (i + 1), ct := Pv (i + 1), bk := D.nx } σ2 H2) (hd : ∀ σ H, Pv n σ H → D.nx σ H) :
    ∃ W : Nat → Nat → St → Hp → Prop, (∃ m, W 0 m σ H) ∧ ∀ i m σ H, W i m σ H →
      ((Itr3 lo st n).stop i H ∧ D.nx σ H) ∨ ((Itr3 lo st n).go i H ∧ ∃ N : St → Hp → Prop, (∀ σ' H', N σ' H' → ∃ m', m' < m ∧ W (i + 1) m' σ' H') ∧ ∀ x H', (Itr3 lo st n).yld i H x H' → g x σ H' fun σ2 H2 => tb { D with nx := N, ct := N, bk := D.nx } σ2 H2) := by
  refine ⟨fun i m σ H => m = n - i ∧ i ≤ n ∧ Pv i σ H, ⟨n, by simp, Nat.zero_le _, h0⟩, ?_⟩
  rintro i m σ H ⟨rfl, hi, p⟩
  by_cases hlt : i < n
  · refine .inr ⟨hlt, Pv (i + 1), fun σ' H' q => ⟨n - (i + 1), by omega, rfl, by omega, q⟩, ?_⟩
    rintro v H' ⟨rfl, rfl⟩
    exact hs i σ _ hlt p
  · have e : i = n := by omega
    subst e
    exact .inl ⟨Nat.le_refl _, hd σ H p⟩
/-! ### pairs of a list and a tuple compared -/
def rNeP : R2 := fun x y H Q => ∃ (a b l1 t1 l2 t2 : Addr) (ns ms us vs : List Int), x = .ref a ∧ y = .ref b ∧ H a = some (.tup [.ref l1, .ref t1]) ∧ H b = some (.tup [.ref l2, .ref t2]) ∧ H l1 = some (.lst (ns.map V.int)) ∧ H l2 = some (.lst (ms.map V.int)) ∧ TW H t1 us ∧ TW H t2 vs ∧ Q (.bl (!(decide (ns = ms) && decide (us = vs)))) H
end L2
set_option Elab.async false
set_option linter.all false
set_option maxRecDepth 100000
set_option maxHeartbeats 1000000
namespace L2
open PySem PySem.Spec PyProof.Rows
/-! ### tuples of two, of three unlike things, compared -/
section
variable {P : Program} {w : World} {A : Around} {H : Hp} {s : Shared} {n : Nat} {α β γ : Type} [DecidableEq α] [DecidableEq β] [DecidableEq γ]
def RTwo {α β : Type} (H : Hp) (R1 : V → α → Prop) (R2 : V → β → Prop) (x : V) (p : α × β) : Prop := ∃ a y z, x = .ref a ∧ H a = some (.tup [y, z]) ∧ R1 y p.1 ∧ R2 z p.2
def RThr {α β γ : Type} (H : Hp) (R1 : V → α → Prop) (R2 : V → β → Prop) (R3 : V → γ → Prop) (x : V) (p : α × β × γ) : Prop := ∃ a y z t, x = .ref a ∧ H a = some (.tup [y, z, t]) ∧ R1 y p.1 ∧ R2 z p.2.1 ∧ R3 t p.2.2
variable {R1 : V → α → Prop} {R2 : V → β → Prop} {R3 : V → γ → Prop}
end
/-! ### sorted(xs), xs a list or a tuple of ints -/
def srt (ns : List Int) : List Int := ns.mergeSort fun a b => decide (a ≤ b)
theorem srt_perm (ns : List Int) : (srt ns).Perm ns := List.mergeSort_perm ns _
theorem srt_rises (ns : List Int) : (srt ns).Pairwise (· ≤ ·) := by
  have h := List.pairwise_mergeSort (le := fun a b : Int => decide (a ≤ b)) (fun a b c h1 h2 => by simp at *; omega) (fun a b => by simp; omega) ns
  exact h.imp fun h => by simpa using h
/-- a list or a tuple of ints -/
def SqI (H : Hp) (a : Addr) (ns : List Int) : Prop := H a = some (.lst (ns.map V.int)) ∨ H a = some (.tup (ns.map V.int))
def rSortI : List V → Hp → VK → Prop := fun xs H Q => ∃ (a : Addr) (ns : List Int), xs = [.ref a] ∧ SqI H a ns ∧ ns.length < 64 ∧ ∀ p H', Same H H' → H p = none → H' p = some (.lst ((srt ns).map V.int)) → Q (.ref p) H'
theorem ints_vals2 {ns : List Int} {us : List Value} (r : Vals (ns.map V.int) us) : IntsAre us ns := by
  induction ns generalizing us with
  | nil => cases r; exact .nil
  | cons n ns ih =>
    cases r with
    | cons r rr =>
      obtain ⟨t, rfl⟩ := r
      exact .cons _ _ (ih rr)
theorem intsAre_len {vs : List Value} {ns : List Int} (h : IntsAre vs ns) : vs.length = ns.length := by
  induction h with
  | nil => rfl
  | cons n t _ ih => simp [ih]
end L2
set_option Elab.async false
set_option linter.all false
set_option maxRecDepth 100000
set_option maxHeartbeats 1000000
namespace L2
open PySem PySem.Spec PyProof.Rows
/-! ### min(xs), xs a list or a tuple of ints -/
theorem head_min {ns : List Int} {m : Int} (h : m ∈ ns) (h1 : ∀ x ∈ ns, m ≤ x) : (srt ns).headD 0 = m := by
  have p := srt_perm ns
  have r := srt_rises ns
  cases e : srt ns with
  | nil =>
    rw [e] at p
    have := p.symm.mem_iff.mp h
    cases this
  | cons a t =>
    rw [e] at p r
    have ha : m ≤ a := h1 a (p.mem_iff.mp (.head _))
    have hm : m ∈ a :: t := p.symm.mem_iff.mp h
    show a = m
    cases hm with
    | head => rfl
    | tail _ hm =>
      have := (List.pairwise_cons.mp r).1 m hm
      omega
def rMinI : List V → Hp → VK → Prop := fun xs H Q => ∃ (a : Addr) (ns : List Int), xs = [.ref a] ∧ SqI H a ns ∧ ns ≠ [] ∧ Q (.int ((srt ns).headD 0)) H
theorem best_is {its : List Value} {ns : List Int} (hI : IntsAre its ns) (ne : ns ≠ []) {v : Value} (h : its.toArray[argBest (fun i j => decide (ns.getD i 0 < ns.getD j 0)) (its.toArray.size - 1)]? = some v) : ∃ t, v = .int ((srt ns).headD 0) t := by
  have li := intsAre_len hI
  have hb := argBest_lt (fun i => ns.getD i 0) (its.toArray.size - 1)
  have ez : its.toArray.size = its.length := List.size_toArray
  have n0 : 0 < ns.length := List.length_pos_iff.mpr ne
  have hv : its[argBest (fun i j => decide (ns.getD i 0 < ns.getD j 0)) (its.toArray.size - 1)]? = some v := by simpa using h
  obtain ⟨t, e⟩ := hI.int_at _ v hv
  refine ⟨t, ?_⟩
  rw [e]
  congr 1
  refine (head_min ?_ fun x hx => ?_).symm
  · rw [List.getD_eq_getElem?_getD, List.getElem?_eq_getElem (by have := hb.1; omega)]
    exact List.getElem_mem _
  · obtain ⟨j, hj⟩ := List.mem_iff_getElem?.mp hx
    have jl := (List.getElem?_eq_some_iff.mp hj).1
    have := hb.2 j (by omega)
    rw [show ns.getD j 0 = x by rw [List.getD_eq_getElem?_getD, hj]; rfl] at this
    exact this
theorem b_min' : bootBuiltins "min" = some (.builtin "min") := by decide +kernel
end L2
set_option Elab.async false
set_option linter.all false
set_option maxRecDepth 100000
set_option maxHeartbeats 1000000
namespace L2
open PySem PySem.Spec PyProof.Rows
/-! ### min(xs, default=d) -/
section
variable {prog : Program} {w : World} {A : Around} {R : Result → Shared → Prop} {I : Addr} {fp wr : List Addr} {n : Nat} {P : Nat → Value → Prop} {St : Nat → Heap → Prop}
abbrev kwD (d : Value) : List (Str × Value) := [(Str.ofString "default", d)]
theorem minD_go (W : Walks prog w A.in1 I fp wr n P St) (bt : Nat → Nat → Bool) (C : CmpOf prog w A.in1 .Lt P bt) (S : Addr) (hS : S ∉ fp) (d : Value) :
    ∀ (k j : Nat) (s : Shared) (vb : Value) (c : Nat), n - (j + 1) = k → j + 1 ≤ n → St (j + 1) s.heap → P (argBest bt j) vb → s.heap.get? S = some { cls := .type "list", data := .seq #[vb, vb] c } →
      (∀ (v : Value) (h' : Heap) (tk : Nat), P (argBest bt (n - 1)) v → (∀ (b : Addr) (o : Obj), b ∉ wr → b ≠ S → s.heap.get? b = some o → h'.get? b = some o) → R (.ok (.ret v)) { s with heap := h', toks := tk }) →
      codeAny (model prog w) A (.builtin "min.loop" ⟨[.ref I, .none, .ref S], kwD d⟩) R s := by
  intro k
  induction k with
  | zero =>
    intro j s vb c hk hj st pv hs q
    have ej : j + 1 = n := by omega
    refine codeAny_builtin F.entry_min_loop ?_
    rw [Around.under_plainId F.plain_min_loop _]
    show wpAny _ A.in1 (seqItems? (.ref S) >>= _) _ _ s
    refine wpAny_bind (wpAny_seqItems hs rfl ?_)
    refine wpAny_bind (wpAny_tryCatch ?_)
    subst ej
    refine W.done s _ _ st fun h' tk hk' => ?_
    have hs' := hk' S _ (fun z => hS (W.sub _ z)) hs
    show wpAny _ A.in1 (updateSeq S _ >>= _) _ _ _
    refine wpAny_bind (wpAny_updateSeq hs' rfl ?_)
    refine wpAny_bind (wpAny_letGo ?_)
    refine wpAny_pure ?_
    refine q vb _ tk pv fun b o hb hne e => ?_
    rw [Heap.get?_update_ne _ _ _ _ hne]
    exact hk' b o hb e
  | succ k ih =>
    intro j s vb c hk hj st pv hs q
    have hlt : j + 1 < n := by omega
    refine codeAny_builtin F.entry_min_loop ?_
    rw [Around.under_plainId F.plain_min_loop _]
    show wpAny _ A.in1 (seqItems? (.ref S) >>= _) _ _ s
    refine wpAny_bind (wpAny_seqItems hs rfl ?_)
    refine wpAny_bind (wpAny_tryCatch ?_)
    refine W.item (j + 1) s _ _ hlt st fun v h' tk hv st' hk' => ?_
    have hs' := hk' S _ (fun z => hS (W.sub _ z)) hs
    show wpAny _ A.in1 (tryCatch (holding [v, v] (richCompare .Lt v vb >>= _)) _ >>= _) _ _ _
    refine wpAny_bind (wpAny_tryCatch (wpAny_holding (wpAny_bind ?_)))
    refine C (j + 1) (argBest bt j) v vb _ _ _ hv pv ?_
    refine wpAny_bind (wpAny_holding (wpAny_truthy_bool ?_))
    refine wpAny_bind (wpAny_letGo (wpAny_pure ?_))
    have eb : argBest bt (j + 1) = if bt (j + 1) (argBest bt j) = true then j + 1 else argBest bt j := rfl
    cases hb : bt (j + 1) (argBest bt j) with
    | true =>
      rw [hb, if_pos rfl] at eb
      show wpAny _ A.in1 (updateSeq S _ >>= _) _ _ _
      refine wpAny_bind (wpAny_updateSeq hs' rfl ?_)
      refine wpAny_bind (wpAny_letGo ?_)
      refine wpAny_pure ⟨plainId_quiet F.plain_min_loop _, ?_⟩
      have hs2 := get?_update_seq (c := "list") hs' (fun _ => #[v, v])
      refine ih (j + 1) _ v _ (by omega) (by omega) ?_ (by rw [eb]; exact hv) hs2 fun v2 h2 tk2 hv2 hk2 => ?_
      · refine W.frame (j + 2) h' _ st' fun b hb2 o e => ?_
        rw [Heap.get?_update_ne _ _ _ _ (fun z => hS (by rw [← z]; exact hb2))]
        exact e
      · refine q v2 h2 tk2 hv2 fun b o hb2 hne e => hk2 b o hb2 hne ?_
        rw [Heap.get?_update_ne _ _ _ _ hne]
        exact hk' b o hb2 e
    | false =>
      rw [hb, if_neg (by decide)] at eb
      show wpAny _ A.in1 (letGo _ _ >>= _) _ _ _
      refine wpAny_bind (wpAny_letGo ?_)
      refine wpAny_pure ⟨plainId_quiet F.plain_min_loop _, ?_⟩
      exact ih (j + 1) _ vb c (by omega) (by omega) st' (by rw [eb]; exact pv) hs' fun v2 h2 tk2 hv2 hk2 => q v2 h2 tk2 hv2 fun b o hb2 hne e => hk2 b o hb2 hne (hk' b o hb2 e)
/-- from the start -/
theorem minD_first (W : Walks prog w A.in1 I fp wr n P St) (bt : Nat → Nat → Bool) (C : CmpOf prog w A.in1 .Lt P bt) (S : Addr) (hS : S ∉ fp) (d : Value) {s : Shared} {c : Nat} (st : St 0 s.heap) (hs : s.heap.get? S = some { cls := .type "list", data := .seq #[] c })
    (q0 : n = 0 → ∀ (h' : Heap) (tk : Nat), (∀ (b : Addr) (o : Obj), b ∉ wr → b ≠ S → s.heap.get? b = some o → h'.get? b = some o) → R (.ok (.ret d)) { s with heap := h', toks := tk })
    (q : 0 < n → ∀ (v : Value) (h' : Heap) (tk : Nat), P (argBest bt (n - 1)) v → (∀ (b : Addr) (o : Obj), b ∉ wr → b ≠ S → s.heap.get? b = some o → h'.get? b = some o) → R (.ok (.ret v)) { s with heap := h', toks := tk }) :
    codeAny (model prog w) A (.builtin "min.loop" ⟨[.ref I, .none, .ref S], kwD d⟩) R s := by
  refine codeAny_builtin F.entry_min_loop ?_
  rw [Around.under_plainId F.plain_min_loop _]
  show wpAny _ A.in1 (seqItems? (.ref S) >>= _) _ _ s
  refine wpAny_bind (wpAny_seqItems hs rfl ?_)
  refine wpAny_bind (wpAny_tryCatch ?_)
  by_cases n0 : n = 0
  · subst n0
    refine W.done s _ _ st fun h' tk hk' => ?_
    show wpAny _ A.in1 (rule _ >>= _) _ _ _
    refine wpAny_bind (wpAny_rule (wpAny_pure ?_))
    exact q0 rfl h' tk fun b o hb _ e => hk' b o hb e
  · have hlt : 0 < n := by omega
    refine W.item 0 s _ _ hlt st fun v h' tk hv st' hk' => ?_
    have hs' := hk' S _ (fun z => hS (W.sub _ z)) hs
    show wpAny _ A.in1 (updateSeq S _ >>= _) _ _ _
    refine wpAny_bind (wpAny_updateSeq hs' rfl ?_)
    refine wpAny_pure ⟨plainId_quiet F.plain_min_loop _, ?_⟩
    have hs2 := get?_update_seq (c := "list") hs' (fun _ => #[v, v])
    refine minD_go W bt C S hS d (n - 1) 0 _ v _ rfl hlt ?_ hv hs2 fun v2 h2 tk2 hv2 hk2 => ?_
    · refine W.frame 1 h' _ st' fun b hb2 o e => ?_
      rw [Heap.get?_update_ne _ _ _ _ (fun z => hS (by rw [← z]; exact hb2))]
      exact e
    · refine q hlt v2 h2 tk2 hv2 fun b o hb2 hne e => hk2 b o hb2 hne ?_
      rw [Heap.get?_update_ne _ _ _ _ hne]
      exact hk' b o hb2 e
end
/-- min(list of ints, default=None) -/
def rMinD (xs zs : List V) (H : Hp) (Q : VK) : Prop := ∃ (a : Addr) (ns : List Int), xs = [.ref a] ∧ zs = [.non] ∧ H a = some (.lst (ns.map V.int)) ∧ Q (if ns = [] then .non else .int ((srt ns).headD 0)) H
theorem args_minD (a d : Value) : argsOk "min" { pos := [a], kw := kwD d } := rfl
theorem min_dflt {X : Cx} (hc : X.calm = true) {pins : List (Addr × Obj)} {s : Shared} {σ : St} {H : Hp} {vs zs : List V} {us ws : List Value} {Q : VK} (I : Inv X pins σ H s) (r : Vals vs us) (rz : Vals zs ws) (h : rMinD vs zs H Q) :
    wpAny (model X.prog X.w) X.A (call (.builtin "min") us (([Str.ofString "default"] : List Str).zip ws)) (EP X pins σ Q) X.xe s := by
  obtain ⟨a, ns, rfl, rfl, e, q⟩ := h
  obtain ⟨u, rfl, ru⟩ := vals1 r
  obtain ⟨d, rfl, rd⟩ := vals1 rz
  cases ru
  cases rd
  obtain ⟨_, its, n, rv, he⟩ := (show ObjOk X.prog X.w H s.heap a (.lst (ns.map V.int)) from I.hok a _ e)
  have hI := ints_vals2 rv
  have li := intsAre_len hI
  have hlt := Heap.lt_size he
  show wpAny _ _ (call (.builtin "min") [.ref a] (kwD .none)) _ _ _
  refine kmb_tree F.kind_min F.plain_min F.entry_min (args_minD _ _) ?_
  have eB : Builtin.Builtins.bindParams "min" ["key", "default"] 0 { kw := kwD .none } = pure [none, some .none] := rfl
  show wpAny _ X.A.in1 (Builtin.Builtins.bindParams "min" ["key", "default"] 0 { kw := kwD .none } >>= _) _ _ s
  rw [eB]
  show wpAny _ X.A.in1 (pyIter (.ref a) >>= _) _ _ s
  refine wpAny_bind (wpAny_pyIter_list (isL_of he) ?_)
  refine wpAny_bind (wpAny_newList ?_ (Nat.zero_le _))
  refine wpAny_pure ⟨plainId_quiet F.plain_min_loop _, ?_⟩
  have sz : (s.heap.push { cls := .type "list_iterator", data := .fields #[.ref a, rawInt 0] }).objs.size = s.heap.objs.size + 1 := Heap.size_push _ _
  have hS : (s.heap.push { cls := .type "list_iterator", data := .fields #[.ref a, rawInt 0] }).objs.size ∉ [s.heap.objs.size, a] := fun z => by
    rw [sz] at z
    simp only [List.mem_cons, List.not_mem_nil, or_false] at z
    rcases z with z | z
    · exact absurd z (Nat.ne_of_gt (Nat.lt_succ_self _))
    · rw [← z] at hlt
      exact absurd hlt (Nat.not_lt.mpr (Nat.le_succ _))
  have up : ∀ b o, s.heap.get? b = some o → ((s.heap.push { cls := .type "list_iterator", data := .fields #[.ref a, rawInt 0] }).push { cls := .type "list", data := .seq (([] : List Value).toArray) }).get? b = some o := fun b o eo => Heap.get?_push_of_some _ (Heap.get?_push_of_some _ eo)
  have ne1 : ∀ b o, s.heap.get? b = some o → b ∉ [s.heap.objs.size] := fun b o eo z => by
    rw [List.mem_singleton.mp z] at eo
    exact absurd (Heap.lt_size eo) (Nat.lt_irrefl _)
  have ne2 : ∀ b o, s.heap.get? b = some o → b ≠ (s.heap.push { cls := .type "list_iterator", data := .fields #[.ref a, rawInt 0] }).objs.size := fun b o eo z => by
    rw [sz] at z
    rw [z] at eo
    exact absurd (Heap.lt_size eo) (Nat.not_lt.mpr (Nat.le_succ _))
  refine minD_first (A := X.A) (c := 0) (Walks.list (A := X.A.in1) (by show X.A.handled = none; exact I.ok.hd hc) s.heap.objs.size a (Nat.ne_of_lt hlt) its.toArray) (fun i j => decide (ns.getD i 0 < ns.getD j 0)) (CmpOf.ints_lt _ (fun i v hv => hI.int_at i v (by simpa using hv))) _ hS .none
    ⟨⟨_, Heap.get?_push_of_some _ (Heap.get?_push_size _ rfl), rfl, rfl⟩, isL_of (up _ _ he)⟩ (Heap.get?_push_size _ rfl) (fun n0 h' tk hk => ?_) (fun n0 v h' tk hv hk => ?_)
  · have e0 : ns = [] := List.length_eq_zero_iff.mp (by rw [← li]; rw [List.size_toArray] at n0; exact n0)
    rw [if_pos e0] at q
    exact ⟨.non, H, I.kept (h' := h') (t' := tk) (fun b o eo => hk b o (ne1 b o eo) (ne2 b o eo) (up b o eo)), rfl, q⟩
  · have e0 : ns ≠ [] := fun z => by
      rw [z] at li
      rw [List.size_toArray] at n0
      simp at li
      rw [li] at n0
      simp at n0
    rw [if_neg e0] at q
    obtain ⟨t, rfl⟩ := best_is hI e0 hv
    exact ⟨.int _, H, I.kept (h' := h') (t' := tk) (fun b o eo => hk b o (ne1 b o eo) (ne2 b o eo) (up b o eo)), ⟨t, rfl⟩, q⟩
/-- the expression -/
def tMinD (t tk : TA) : TE := fun σ H Q => t σ H fun vs H1 => tk σ H1 fun zs H2 => rMinD vs zs H2 Q
theorem pe_minD {X : Cx} {e e2 : Expr} {p pos kpos : Pos} {t tk : TA} (hc : X.calm = true) (hg : Gl X "min") (hm : X.mg "min" = none) (ha : PA X [e] t) (hk : PK X [⟨some "default", e2, kpos⟩] tk) (h1 : backTo pos (starEach [e] X.env) = (false, eval e X.env) :: backTo pos (starEach [] X.env) := by rfl)
    (h2 : ((backTo pos (starEach [e] X.env)).any (·.1)) = false := by rfl) (h3 : (backToKw pos (keywordEach [⟨some "default", e2, kpos⟩] X.env)).all (·.1.isSome) = true := by rfl) (h4 : (backToKw pos (keywordEach [⟨some "default", e2, kpos⟩] X.env)).any (·.1.isNone) = false := by rfl) (h5 : (backToKw pos (keywordEach [⟨some "default", e2, kpos⟩] X.env)).filterMap (·.1) = [Str.ofString "default"] := by rfl) :
    PE X (.Call (.Name "min" p) [e] [⟨some "default", e2, kpos⟩] pos) (tMinD t tk) := by
  intro pins s σ H Q I h
  refine wpAny_Call_Name_kw (ld_blt I hg hm b_min' ?_)
  refine callWith_kw (thn (ha pos pins s σ H _ I h) fun us s1 ⟨vs, H1, I1, r, q⟩ => ?_) h1 h2 h3 h4
  refine thn (hk pos pins s1 σ H1 _ I1 q) fun ws s2 ⟨zs, H2, I2, rz, q2⟩ => ?_
  rw [h5]
  exact min_dflt hc I2 r rz q2
end L2
set_option Elab.async false
set_option linter.all false
set_option maxRecDepth 100000
set_option maxHeartbeats 1000000
namespace L2
open PySem PySem.Spec PyProof.Rows
/-! ### range(a, -1, -1) -/
theorem smallD {a : Int} (h1 : -1 ≤ a) (h2 : a < 1000000) : Builtin.Range.small a (-1) (-1) = true ∧ Builtin.Range.rangeSize a (-1) (-1) = a + 1 := by
  have z : Builtin.Range.rangeSize a (-1) (-1) = a + 1 := by
    unfold Builtin.Range.rangeSize
    rw [if_neg (by decide)]
    have e1 : (a - -1 - 1) / - -1 = a := by
      rw [show (- -1 : Int) = 1 from rfl, Int.ediv_one]
      omega
    split
    · rw [e1]
    · omega
  refine ⟨?_, z⟩
  have f : ∀ i : Int, -2 ≤ i → i ≤ 1000000 → Builtin.Range.rangeFitsLong i = true := fun i h3 h4 => by
    unfold Builtin.Range.rangeFitsLong
    rw [Bool.and_eq_true, decide_eq_true_eq, decide_eq_true_eq]
    omega
  unfold Builtin.Range.small
  rw [z, f a (by omega) (by omega), f (-1) (by omega) (by omega), f (a + 1) (by omega) (by omega), if_neg (by decide), f (-1 + (-1 + 1)) (by omega) (by omega)]
  simp
def iRngD (ta : TA) : TI := fun σ H R => ta σ H fun vs H1 => ∃ a : Int, vs = [.int a, .int (-1), .int (-1)] ∧ (-1 ≤ a ∧ a < 1000000) ∧ R (Itr3 a (-1) (a + 1).toNat) H1
theorem pi_rangeD {X : Cx} {tg : Expr} {a b c : Expr} {ta : TA} {p pos : Pos} (hg : Gl X "range") (hm : X.mg "range" = none) (ha : PA X [a, b, c] ta) (hs : starEach [a, b, c] X.env = (false, eval a X.env) :: starEach [b, c] X.env := by rfl) (hs2 : (backTo pos (starEach [b, c] X.env)).any (·.1) = false := by rfl) :
    PI X tg (.Call (.Name "range" p) [a, b, c] [] pos) (iRngD ta) := by
  intro pins s σ H R I h
  refine Call_ (ld_blt I hg hm boot_range (PyProof.Rows.callWith_type1 (thn (ha pos pins s σ H _ I h) fun us s1 ⟨vs, H1, I1, r1, q1⟩ => ?_) hs hs2))
  obtain ⟨i, e, ⟨h1, h2⟩, q⟩ := q1
  subst e
  cases r1 with
  | cons r rr =>
    cases rr with
    | cons r' rr =>
      cases rr with
      | cons r'' rr =>
        cases rr
        obtain ⟨t, rfl⟩ := r
        obtain ⟨t', rfl⟩ := r'
        obtain ⟨t'', rfl⟩ := r''
        obtain ⟨sm, z0⟩ := smallD h1 h2
        refine call_range_3 (by decide) ?_ (.inl (PyProof.noPylong_small (by decide)))
        refine wpAny_pyIter_range (IsRange.new ..) sm ?_
        have I2 : Inv X pins σ H1 { s1 with heap := s1.heap.push { cls := .type "range", data := .fields #[.int i t, .int (-1) t', .int (-1) t''] }, toks := s1.toks } := I1.kept fun b o e => Heap.get?_push_of_some _ e
        refine ⟨_, [_], _, _, H1, rfl, I2.kept (t' := s1.toks) fun b o e => Heap.get?_push_of_some _ e, turn_range3 _ i (-1) (i + 1).toNat, ?_, fun b hb => ?_, q⟩
        · have e1 : i + ((0 : Nat) : Int) * (-1) = i := by simp
          have e2 : ((((i + 1).toNat : Nat) : Int)) - ((0 : Nat) : Int) = Builtin.Range.rangeSize i (-1) (-1) := by rw [z0]; omega
          show IsRangeIter _ _ (i + ((0 : Nat) : Int) * (-1)) ((((i + 1).toNat : Nat) : Int) - ((0 : Nat) : Int)) (-1)
          rw [e1, e2]
          exact Heap.get?_push_size _ rfl
        · have e := List.mem_singleton.mp hb
          subst e
          exact I2.fpOk (Nat.le_refl _) (I2.hok.fresh (Nat.le_refl _))
/-! ### sum(t), t a tuple of ints -/
def rSumT : List V → Hp → VK → Prop := fun xs H Q => ∃ (a : Addr) (ns : List Int), xs = [.ref a] ∧ H a = some (.tup (ns.map V.int)) ∧ Q (.int ns.sum) H
theorem call_sumT {X : Cx} (hc : X.calm = true) : CallR X (.builtin "sum") rSumT := by
  intro pins s σ H xs us Q I r h
  obtain ⟨a, ns, rfl, ha, q⟩ := h
  obtain ⟨u, rfl, ru⟩ := vals1 r
  cases ru
  obtain ⟨hz, its, v, ht⟩ := old_tup ((show ObjOk X.prog X.w H s.heap a (.tup (ns.map V.int)) from I.hok a _ ha))
  have hlt : a < s.heap.objs.size := by obtain ⟨o, ho, _⟩ := ht; exact Heap.lt_size ho
  refine call_sum_walkAnyS (wpAny_pyIter_tuple ht ?_)
  refine ⟨s.heap.objs.size, _, _, _, _, _, _, fun i => ns.getD i 0, rfl, (Walks.tuple (A := X.A.in1) (by show X.A.handled = none; exact I.ok.hd hc) s.heap.objs.size a (Nat.ne_of_lt hlt) its.toArray).toS, ⟨⟨_, Heap.get?_push_size _ rfl, rfl, rfl⟩, by obtain ⟨o, ho, r⟩ := ht; exact ⟨o, Heap.get?_push_of_some _ ho, r⟩⟩, ?_, ?_, fun s' t' mv => ?_⟩
  · intro b hb
    simp only [List.mem_cons, List.not_mem_nil, or_false] at hb
    show b < (s.heap.push _).objs.size
    rw [Heap.size_push]
    rcases hb with rfl | rfl
    · exact Nat.lt_succ_self _
    · exact Nat.lt_succ_of_lt hlt
  · intro i v' hv
    exact vals_intAt v i v' (by simpa using hv)
  · have e1 : its.toArray.size = ns.length := by
      have := v.length
      rw [List.length_map] at this
      simpa using this.symm
    rw [e1, preSum_getD]
    have e2 : ns.take ns.length = ns := List.take_length
    rw [e2]
    have k : ∀ b o, s.heap.get? b = some o → s'.heap.get? b = some o := fun b o eo => mv.heap b o (by simp; exact Nat.ne_of_lt (Heap.lt_size eo)) (Heap.get?_push_of_some _ eo)
    obtain ⟨h', g', d', tk', os'⟩ := s'
    have z1 : g' = s.gens := mv.gens
    have z2 : d' = s.drawn := mv.drawn
    have z3 : os' = s.os := mv.os
    subst z1 z2 z3
    exact ⟨.int _, H, I.kept (h' := h') (t' := tk') k, ⟨t', rfl⟩, q⟩
/-! ### xs.reverse() -/
def rRev : V → List V → Hp → VK → Prop := fun x vs H Q => ∃ l xs, x = .ref l ∧ vs = [] ∧ H l = some (.lst xs) ∧ Q .non (upd H l (.lst xs.reverse))
/-! ### lists of lists of ints compared -/
def rEqLL : R2 := fun x y H Q => ∃ a b xs ys ms ns, x = .ref a ∧ y = .ref b ∧ H a = some (.lst xs) ∧ H b = some (.lst ys) ∧ Paired (RLst H RInt) xs ms ∧ Paired (RLst H RInt) ys ns ∧ Q (.bl (decide (ms = ns))) H
end L2
set_option Elab.async false
set_option linter.all false
set_option maxRecDepth 100000
set_option maxHeartbeats 1000000
namespace L2
open PySem PySem.Spec PyProof.Rows
/-! ### list(range(n, 0, -1)) -/
theorem smallE {n : Nat} (h2 : n < 1000000) : Builtin.Range.small (n : Int) 0 (-1) = true ∧ Builtin.Range.rangeSize (n : Int) 0 (-1) = (n : Int) := by
  have z : Builtin.Range.rangeSize (n : Int) 0 (-1) = (n : Int) := by
    unfold Builtin.Range.rangeSize
    rw [if_neg (by decide)]
    have e1 : ((n : Int) - 0 - 1) / - -1 = n - 1 := by
      rw [show (- -1 : Int) = 1 from rfl, Int.ediv_one]
      omega
    split
    · rw [e1]; omega
    · omega
  refine ⟨?_, z⟩
  have f : ∀ i : Int, -2 ≤ i → i ≤ 1000000 → Builtin.Range.rangeFitsLong i = true := fun i h3 h4 => by
    unfold Builtin.Range.rangeFitsLong
    rw [Bool.and_eq_true, decide_eq_true_eq, decide_eq_true_eq]
    omega
  unfold Builtin.Range.small
  rw [z, f n (by omega) (by omega), f 0 (by omega) (by omega), f (-1) (by omega) (by omega), if_neg (by decide), f (0 + (-1 + 1)) (by omega) (by omega)]
  simp
theorem vals_items {n : Nat} {g : Nat → Int} {acc : Array Value} (h : ItemsOf (fun i v => ∃ t, v = .int (g i) t) acc n) : Vals ((List.range n).map fun i => V.int (g i)) acc.toList := by
  obtain ⟨h1, h2⟩ := h
  have key : ∀ k, k ≤ n → Vals ((List.range k).map fun i => V.int (g i)) (acc.toList.take k) := by
    intro k
    induction k with
    | zero => intro _; rw [List.take_zero]; exact .nil
    | succ k ih =>
      intro hk
      have hk' : k < acc.toList.length := by rw [Array.length_toList, h1]; omega
      rw [List.range_succ, List.map_append, List.take_add_one, List.getElem?_eq_getElem hk']
      obtain ⟨t, ht⟩ := h2 k (acc.toList[k]) (by rw [← Array.getElem?_toList, List.getElem?_eq_getElem hk'])
      refine (ih (by omega)).append ?_
      rw [ht]
      exact .cons ⟨t, rfl⟩ .nil
  have := key n (Nat.le_refl _)
  rw [List.take_of_length_le (by rw [Array.length_toList, h1]; exact Nat.le_refl _)] at this
  exact this
def tLRD (ta : TA) : TE := fun σ H Q => ta σ H fun vs H1 => ∃ n : Nat, vs = [.int (n : Int), .int 0, .int (-1)] ∧ n < 1000 ∧ ∀ p, H1 p = none → Q (.ref p) (upd H1 p (.lst ((List.range n).map fun i : Nat => V.int ((n : Int) + (i : Int) * (-1)))))
theorem pe_listrngD {X : Cx} {a b c : Expr} {ta : TA} {p p2 pos pos2 : Pos} (hc : X.calm = true) (hg : Gl X "list") (hm : X.mg "list" = none) (hg2 : Gl X "range") (hm2 : X.mg "range" = none) (ha : PA X [a, b, c] ta)
    (hs : starEach [.Call (.Name "range" p2) [a, b, c] [] pos2] X.env = (false, eval (.Call (.Name "range" p2) [a, b, c] [] pos2) X.env) :: starEach [] X.env := by rfl) (hs2 : starEach [a, b, c] X.env = (false, eval a X.env) :: starEach [b, c] X.env := by rfl) (hs3 : (backTo pos2 (starEach [b, c] X.env)).any (·.1) = false := by rfl) :
    PE X (.Call (.Name "list" p) [.Call (.Name "range" p2) [a, b, c] [] pos2] [] pos) (tLRD ta) := by
  intro pins s σ H Q I h
  refine wpAny_Call_Name_kw (ld_blt I hg hm b_list ?_ (by decide) (by decide))
  refine PyProof.Rows.callWith_type1 ?_ hs rfl
  rw [hs]
  refine Calls.spliced_cons ?_
  refine wpAny_Call_Name_kw (ld_blt I hg2 hm2 boot_range ?_ (by decide) (by decide))
  refine PyProof.Rows.callWith_type1 (thn (ha pos2 pins s σ H _ I h) fun us s1 ⟨vs, H1, I1, r1, q1⟩ => ?_) hs2 hs3
  obtain ⟨n, e, hn, q⟩ := q1
  subst e
  cases r1 with
  | cons r rr =>
    cases rr with
    | cons r' rr =>
      cases rr with
      | cons r'' rr =>
        cases rr
        obtain ⟨t, rfl⟩ := r
        obtain ⟨t', rfl⟩ := r'
        obtain ⟨t'', rfl⟩ := r''
        obtain ⟨sm, z0⟩ := smallE (n := n) (by omega)
        refine call_range_3 (by decide) ?_ (.inl (PyProof.noPylong_small (by decide)))
        refine Calls.spliced_nil ?_
        have I2 : Inv X pins σ H1 { s1 with heap := s1.heap.push { cls := .type "range", data := .fields #[.int (n : Int) t, .int 0 t', .int (-1) t''] }, toks := s1.toks } := I1.kept fun b o e => Heap.get?_push_of_some _ e
        refine call_list_range (I.ok.hd hc) (IsRange.new ..) sm z0 (by omega) fun h' tk acc c' hk hS hacc => ?_
        have er := vals_items (g := fun i => (n : Int) + (i : Int) * (-1)) hacc
        have fr := I2.hok.fresh (Nat.le_refl _)
        exact ⟨.ref _, _, I2.laid (t' := tk) hk (Nat.le_refl _) (show ObjOk X.prog X.w _ h' _ (.lst _) from ⟨by rw [List.length_map, List.length_range, sizeLine_eq]; omega, acc.toList, c', er, hS⟩), rfl, q _ fr⟩
/-! ### lists of lists of ints: != -/
def rNeLL : R2 := fun x y H Q => ∃ a b xs ys ms ns, x = .ref a ∧ y = .ref b ∧ H a = some (.lst xs) ∧ H b = some (.lst ys) ∧ Paired (RLst H RInt) xs ms ∧ Paired (RLst H RInt) ys ns ∧ Q (.bl (!decide (ms = ns))) H
end L2
set_option Elab.async false
set_option linter.all false
set_option maxRecDepth 100000
set_option maxHeartbeats 1000000
namespace L2
open PySem PySem.Spec PyProof.Rows
/-! ### list.insert -/
def rIns : V → List V → Hp → VK → Prop := fun x vs H Q => ∃ (l : Addr) (xs : List V) (i : Int) (k : Nat) (y : V), x = .ref l ∧ vs = [.int i, y] ∧ i = (k : Int) ∧ H l = some (.lst xs) ∧ k ≤ xs.length ∧ xs.length < 1000 ∧ Q .non (upd H l (.lst (xs.take k ++ y :: xs.drop k)))
theorem ins_arr (its : List Value) (y : Value) (k : Nat) (h : k ≤ its.length) : (its.toArray.extract 0 k).push y ++ its.toArray.extract k = (its.take k ++ y :: its.drop k).toArray := by
  simp [List.extract_toArray, List.extract_eq_drop_take]
  exact List.take_of_length_le (by rw [List.length_drop]; omega)
theorem mt_insert {X : Cx} : MtM X "list.insert" rIns := by
  intro pins s σ H x vs v us Q I rx rv h
  obtain ⟨l, xs, i, k, y, rfl, rfl, hi, hH, hk, hz, q⟩ := h
  cases rx
  obtain ⟨u, u2, rfl, ru, ru2⟩ := rv.two
  obtain ⟨t, rfl⟩ := ru
  obtain ⟨z, its, n, r, hl, e⟩ := I.lstM hH
  have li : xs.length = its.length := r.length
  have hs := small1000 hz
  have fe : Builtin.List.listFitsIndex i = true := by
    unfold Builtin.List.listFitsIndex
    rw [Bool.and_eq_true]
    exact ⟨decide_eq_true (by omega), decide_eq_true (by omega)⟩
  have fe' : ¬ (!Builtin.List.listFitsIndex i) = true := by rw [fe]; exact Bool.false_ne_true
  have sz : its.toArray.size ≤ sizeLine := by rw [List.size_toArray]; omega
  have M := AutoSeq1.list_insert_list_int_val_1 l its.toArray n i t u2 fe' sz
  refine call_meets F.slot_list_insert ⟨_, e, rfl⟩ F.entry_list_insert (F.args_list_insert_3 _ _ _) M ⟨e, ?_⟩
  refine ⟨.non, _, I.lset (its' := its.take k ++ u2 :: its.drop k) hH e ?_ ((r.take k).append (.cons ru2 (r.drop k))) ?_, rfl, q⟩
  · show (its.toArray.extract 0 (if i < 0 then (i + (its.toArray.size : Int)).toNat else min i.toNat its.toArray.size)).push u2 ++ its.toArray.extract (if i < 0 then (i + (its.toArray.size : Int)).toNat else min i.toNat its.toArray.size) = _
    have ei : i.toNat = k := by omega
    have en : ¬ i < 0 := by omega
    rw [if_neg en, ei, List.size_toArray, Nat.min_eq_left (by omega)]
    exact ins_arr its u2 k (by omega)
  · rw [List.length_append, List.length_cons, List.length_take, List.length_drop]; omega
/-! ### a op1 b op2 c op3 d -/
def tChain3 (r r' r'' : R2) (ta tb tc td : TE) : TE := fun σ H Q => ta σ H fun x H1 => tb σ H1 fun y H2 => r x y H2 fun z H3 => ∃ k, z = .bl k ∧
  (if k = true then tc σ H3 fun w' H4 => r' y w' H4 fun z' H5 => ∃ k', z' = .bl k' ∧ (if k' = true then td σ H5 fun v' H6 => r'' w' v' H6 Q else Q (.bl false) H5) else Q (.bl false) H3)
end L2
set_option Elab.async false
set_option linter.all false
set_option maxRecDepth 100000
set_option maxHeartbeats 1000000
namespace L2
open PySem PySem.Spec PyProof.Rows
/-! ### numbers and None, in lists of lists of lists, compared -/
def vO : Option Int → V
  | none => .non
  | some i => .int i
def ROI (x : V) (o : Option Int) : Prop := x = vO o
theorem eqNN {A : Around} {s : Shared} : SeqAt.EqAt A s .none .none true := fun prog w E Q h => by
  unfold eqBool
  refine wpAny_holding ?_
  refine wpAny_ite_split (fun hab => ?_) (fun z => absurd (by decide) z)
  exact wpAny_bind (wpAny_rule (wpAny_pure (by simpa using h)))
theorem EqK.oi {H : Hp} {s : Shared} {n : Nat} : EqK H s n ROI := ⟨fun x a b h1 h2 => by
    unfold ROI at *
    rw [h1] at h2
    cases a <;> cases b <;> cases h2 <;> rfl, fun A x y a b u v _ h1 h2 r1 r2 => by
  unfold ROI at *
  subst h1 h2
  cases a with
  | none =>
    cases r1
    cases b with
    | none => cases r2; exact eqNN
    | some j =>
      obtain ⟨t', rfl⟩ := r2
      exact SeqAt.EqAt.none_int j t'
  | some i =>
    obtain ⟨t, rfl⟩ := r1
    cases b with
    | none => cases r2; exact SeqAt.EqAt.int_none i t
    | some j =>
      obtain ⟨t', rfl⟩ := r2
      have q := SeqAt.EqAt.int_int (A := A) (s := s) i t j t'
      have e : (i == j) = decide (some i = some j) := by
        rw [Bool.beq_eq_decide_eq]
        by_cases h : i = j
        · rw [decide_eq_true h, decide_eq_true (by rw [h])]
        · rw [decide_eq_false h, decide_eq_false (fun z => h (Option.some.inj z))]
      rw [e] at q
      exact q⟩
theorem Paired.ois : ∀ os : List (Option Int), Paired ROI (os.map vO) os
  | [] => .nil
  | _ :: os => .cons rfl (Paired.ois os)
def rNeL3 : R2 := fun x y H Q => ∃ a b xs ys ms ns, x = .ref a ∧ y = .ref b ∧ H a = some (.lst xs) ∧ H b = some (.lst ys) ∧ Paired (RLst H (RLst H ROI)) xs ms ∧ Paired (RLst H (RLst H ROI)) ys ns ∧ Q (.bl (!decide (ms = ns))) H
theorem op_neL3 {X : Cx} (hu : X.A.units + 4 < cLine) : OpR X (compareOp .NotEq) rNeL3 := by
  intro pins s σ H x y v u Q I rx ry h
  obtain ⟨a, b, xs, ys, ws, vs, rfl, rfl, e1, e2, p1, p2, q⟩ := h
  cases rx; cases ry
  exact rn_lsts (A := X.A) (n := 2) (EqK.lst (n := 1) (EqK.lst (n := 0) EqK.oi I.hok) I.hok) I.hok e1 e2 p1 p2 (by omega) _ _ _ _ ⟨.bl _, H, I, rfl, q⟩
def rEqL3 : R2 := fun x y H Q => ∃ a b xs ys ms ns, x = .ref a ∧ y = .ref b ∧ H a = some (.lst xs) ∧ H b = some (.lst ys) ∧ Paired (RLst H (RLst H ROI)) xs ms ∧ Paired (RLst H (RLst H ROI)) ys ns ∧ Q (.bl (decide (ms = ns))) H
end L2
set_option Elab.async false
set_option linter.all false
set_option maxRecDepth 100000
namespace K42
open PySem L2
/-! ### the least of some numbers, pure -/
abbrev OI := Option Int
def lo (xs : List OI) : OI := if xs.filterMap id = [] then none else some ((srt (xs.filterMap id)).headD 0)
def oadd : OI → OI → OI
  | some a, some b => some (a + b)
  | _, _ => none
theorem mem_fm {xs : List OI} {k : Int} : k ∈ xs.filterMap id ↔ some k ∈ xs := by
  rw [List.mem_filterMap]
  constructor
  · rintro ⟨a, h, e⟩
    have e' : a = some k := e
    rw [← e']; exact h
  · intro h
    exact ⟨some k, h, rfl⟩
theorem head_in {ns : List Int} (h : ns ≠ []) : (srt ns).headD 0 ∈ ns ∧ ∀ x ∈ ns, (srt ns).headD 0 ≤ x := by
  have p := srt_perm ns
  have r := srt_rises ns
  cases e : srt ns with
  | nil =>
    rw [e] at p
    exact absurd p.symm.eq_nil h
  | cons a t =>
    rw [e] at p r
    refine ⟨p.mem_iff.mp (.head _), fun x hx => ?_⟩
    show a ≤ x
    rcases List.mem_cons.mp (p.symm.mem_iff.mp hx) with z | z
    · rw [z]; exact Int.le_refl _
    · exact (List.pairwise_cons.mp r).1 x z
theorem lo_some {xs : List OI} {m : Int} : lo xs = some m ↔ some m ∈ xs ∧ ∀ k, some k ∈ xs → m ≤ k := by
  unfold lo
  split
  · rename_i h
    constructor
    · intro z; cases z
    · rintro ⟨z, _⟩
      have := mem_fm.mpr z
      rw [h] at this
      cases this
  · rename_i h
    obtain ⟨h1, h2⟩ := head_in h
    constructor
    · intro z
      cases z
      exact ⟨mem_fm.mp h1, fun k hk => h2 k (mem_fm.mpr hk)⟩
    · rintro ⟨z1, z2⟩
      have a1 := h2 m (mem_fm.mpr z1)
      have a2 := z2 _ (mem_fm.mp h1)
      congr 1
      omega
theorem lo_none {xs : List OI} : lo xs = none ↔ ∀ k, some k ∉ xs := by
  unfold lo
  split
  · rename_i h
    refine ⟨fun _ k hk => ?_, fun _ => rfl⟩
    have := mem_fm.mpr hk
    rw [h] at this
    cases this
  · rename_i h
    refine ⟨fun z => (by cases z), fun z => ?_⟩
    exact absurd (mem_fm.mp (head_in h).1) (z _)
theorem lo_eq {xs ys : List OI} (h1 : ∀ m, some m ∈ xs → ∃ k, k ≤ m ∧ some k ∈ ys) (h2 : ∀ m, some m ∈ ys → ∃ k, k ≤ m ∧ some k ∈ xs) : lo xs = lo ys := by
  cases e : lo ys with
  | none =>
    rw [lo_none] at e ⊢
    intro k hk
    obtain ⟨k', _, h⟩ := h1 k hk
    exact e k' h
  | some m =>
    rw [lo_some] at e ⊢
    obtain ⟨k, hk, hm⟩ := h2 m e.1
    obtain ⟨k', hk', hm'⟩ := h1 k hm
    have := e.2 k' hm'
    have ek : k = m := by omega
    subst ek
    refine ⟨hm, fun x hx => ?_⟩
    obtain ⟨y, hy, hy'⟩ := h1 x hx
    have := e.2 y hy'
    omega
theorem lo_le {xs : List OI} {k : Int} (h : some k ∈ xs) : ∃ m, lo xs = some m ∧ m ≤ k := by
  cases e : lo xs with
  | none => exact absurd h (lo_none.mp e k)
  | some m => exact ⟨m, rfl, (lo_some.mp e).2 k h⟩
theorem lo_append (xs ys : List OI) : lo (xs ++ ys) = lo [lo xs, lo ys] := by
  refine lo_eq (fun m hm => ?_) (fun m hm => ?_)
  · rcases List.mem_append.mp hm with h | h
    · obtain ⟨k, e, hk⟩ := lo_le h
      exact ⟨k, hk, by rw [e]; exact .head _⟩
    · obtain ⟨k, e, hk⟩ := lo_le h
      exact ⟨k, hk, by rw [e]; exact .tail _ (.head _)⟩
  · simp only [List.mem_cons, List.not_mem_nil, or_false] at hm
    rcases hm with h | h
    · exact ⟨m, Int.le_refl _, List.mem_append.mpr (.inl (lo_some.mp h.symm).1)⟩
    · exact ⟨m, Int.le_refl _, List.mem_append.mpr (.inr (lo_some.mp h.symm).1)⟩
theorem lo_flat {α : Type} (xs : List α) (f : α → List OI) : lo (xs.flatMap f) = lo (xs.map fun x => lo (f x)) := by
  refine lo_eq (fun m hm => ?_) (fun m hm => ?_)
  · obtain ⟨x, hx, h⟩ := List.mem_flatMap.mp hm
    obtain ⟨k, e, hk⟩ := lo_le h
    exact ⟨k, hk, List.mem_map.mpr ⟨x, hx, e⟩⟩
  · obtain ⟨x, hx, h⟩ := List.mem_map.mp hm
    exact ⟨m, Int.le_refl _, List.mem_flatMap.mpr ⟨x, hx, (lo_some.mp h).1⟩⟩
theorem lo_add (a : Int) (xs : List OI) : oadd (some a) (lo xs) = lo (xs.map (oadd (some a))) := by
  cases e : lo xs with
  | none =>
    symm
    show lo _ = none
    rw [lo_none] at e ⊢
    intro k hk
    obtain ⟨x, hx, h⟩ := List.mem_map.mp hk
    cases x with
    | none => cases h
    | some y => exact e y hx
  | some m =>
    symm
    show lo _ = some (a + m)
    rw [lo_some] at e ⊢
    refine ⟨List.mem_map.mpr ⟨some m, e.1, rfl⟩, fun k hk => ?_⟩
    obtain ⟨x, hx, h⟩ := List.mem_map.mp hk
    cases x with
    | none => cases h
    | some y =>
      have := e.2 y hx
      cases h
      omega
theorem lo_addO (x : OI) (xs : List OI) : oadd x (lo xs) = lo (xs.map (oadd x)) := by
  cases x with
  | some a => exact lo_add a xs
  | none =>
    symm
    show lo _ = none
    rw [lo_none]
    intro k hk
    obtain ⟨x, hx, h⟩ := List.mem_map.mp hk
    cases h
theorem oadd_assoc (a b c : OI) : oadd (oadd a b) c = oadd a (oadd b c) := by
  cases a <;> cases b <;> cases c <;> first | rfl | (show some _ = some _; rw [Int.add_assoc])
theorem oadd_comm (a b : OI) : oadd a b = oadd b a := by
  cases a <;> cases b <;> first | rfl | (show some _ = some _; rw [Int.add_comm])
theorem lo_one (x : OI) : lo [x] = x := by
  cases x with
  | none => exact lo_none.mpr fun k hk => by simp at hk
  | some m => exact lo_some.mpr ⟨.head _, fun k hk => by simp at hk; omega⟩
theorem lo_nil : lo [] = none := lo_none.mpr fun k hk => by cases hk
/-! ### partings -/
abbrev Pa := List (Nat × Nat × Nat)
/-- the partings of i .. j by m letters from l on -/
def P : Nat → Nat → Nat → Nat → List Pa
  | 0, _, i, j => if i = j then [[]] else []
  | m + 1, l, i, j => if i = j then [[]] else ((List.range (j - i)).flatMap fun b => (P m (l + 1) (i + b + 1) j).map fun r => (i, i + b + 1, l) :: r) ++ P m (l + 1) i j
theorem P_succ (m l i j : Nat) : P (m + 1) l i j = if i = j then [[]] else ((List.range (j - i)).flatMap fun b => (P m (l + 1) (i + b + 1) j).map fun r => (i, i + b + 1, l) :: r) ++ P m (l + 1) i j := rfl
theorem P_same (m l i : Nat) : P m l i i = [[]] := by
  cases m <;> (unfold P; rw [if_pos rfl])
section
variable (p : Nat → Int) (W : Nat → Nat → Int) (F : Nat → Nat → OI)
def part (q : Nat × Nat × Nat) : OI := oadd (some (p q.2.2 * W q.1 q.2.1)) (F q.1 q.2.1)
def cost : Pa → OI
  | [] => some 0
  | q :: r => oadd (part p W F q) (cost r)
theorem cost_snoc (r : Pa) (q : Nat × Nat × Nat) : cost p W F (r ++ [q]) = oadd (cost p W F r) (part p W F q) := by
  induction r with
  | nil => show oadd _ (some 0) = oadd (some 0) _; exact oadd_comm _ _
  | cons x r ih => show oadd _ (cost p W F (r ++ [q])) = oadd (oadd _ _) _; rw [ih, oadd_assoc]
/-- what the tables of a parting hold at i, j -/
structure Eqs (L : Nat) (h t : Nat → Nat → Nat → OI) (i j : Nat) : Prop where
  eh : ∀ l, l < L → h l i j = oadd (some (p l * W i j)) (F i j)
  et : ∀ l, l < L → t l i j = lo [lo ((List.range (j - i)).map fun b => oadd (h l i (i + b + 1)) (t (l + 1) (i + b + 1) j)), t (l + 1) i j]
variable {p W F} {L n : Nat} {h t : Nat → Nat → Nat → OI}
theorem tails_are {i0 : Nat} (dg : ∀ l i, l ≤ L → i ≤ n → t l i i = some 0) (ed : ∀ i j, i < j → j ≤ n → t L i j = none) (eq : ∀ i j, i0 ≤ i → i < j → j ≤ n → Eqs p W F L h t i j) :
    ∀ m l i j, l + m = L → i0 ≤ i → i ≤ j → j ≤ n → t l i j = lo ((P m l i j).map fun r => cost p W F r)
  | 0, l, i, j, hl, h0, hij, hj => by
    have el : l = L := by omega
    subst el
    by_cases e : i = j
    · subst e
      rw [dg l i (Nat.le_refl _) hj, P_same]
      exact (lo_one _).symm
    · rw [ed i j (by omega) hj]
      unfold P
      rw [if_neg e]
      exact lo_nil.symm
  | m + 1, l, i, j, hl, h0, hij, hj => by
    by_cases e : i = j
    · subst e
      rw [dg l i (by omega) hj, P_same]
      exact (lo_one _).symm
    · have E := eq i j h0 (by omega) hj
      rw [E.et l (by omega)]
      unfold P
      rw [if_neg e, List.map_append, lo_append, ← tails_are dg ed eq m (l + 1) i j (by omega) h0 hij hj]
      congr 2
      rw [List.map_flatMap, lo_flat]
      congr 1
      refine List.map_congr_left fun b hb => ?_
      have hb' := List.mem_range.mp hb
      rw [(eq i (i + b + 1) h0 (by omega) (by omega)).eh l (by omega), tails_are dg ed eq m (l + 1) (i + b + 1) j (by omega) (by omega) (by omega) hj, lo_addO, List.map_map, List.map_map]
      congr 1
/-- the least cost of more than one part, as the tables tell it -/
def bnd (L : Nat) (h t : Nat → Nat → Nat → OI) (i j : Nat) : OI := if j - i = 1 then some 0 else lo ((List.range L).map fun l => lo ((List.range (j - 1 - i)).map fun b => oadd (h l i (i + b + 1)) (t (l + 1) (i + b + 1) j)))
theorem P_ne {m l i j : Nat} (hij : i < j) : ∀ r ∈ P m l i j, r ≠ [] := by
  induction m generalizing l i with
  | zero =>
    intro r hr
    unfold P at hr
    rw [if_neg (by omega)] at hr
    cases hr
  | succ m ih =>
    intro r hr
    unfold P at hr
    rw [if_neg (by omega)] at hr
    rcases List.mem_append.mp hr with z | z
    · obtain ⟨b, _, z⟩ := List.mem_flatMap.mp z
      obtain ⟨r', _, rfl⟩ := List.mem_map.mp z
      intro y; cases y
    · exact ih hij r z
/-- the partings of more than one part -/
theorem P_many {i j : Nat} (hij : i < j) : ∀ m l, (P m l i j).filter (fun r => decide (1 < r.length)) = (List.range m).flatMap fun a => (List.range (j - 1 - i)).flatMap fun b => (P (m - 1 - a) (l + a + 1) (i + b + 1) j).map fun r => (i, i + b + 1, l + a) :: r
  | 0, l => by
    unfold P
    rw [if_neg (by omega)]
    rfl
  | m + 1, l => by
    have ih := P_many hij m (l + 1)
    rw [P_succ m l i j, if_neg (by omega), List.filter_append, ih, List.range_succ_eq_map, List.flatMap_cons, List.flatMap_map]
    congr 1
    · rw [show j - i = (j - 1 - i) + 1 by omega, List.range_succ, List.flatMap_append, List.filter_append]
      have e2 : ([j - 1 - i].flatMap fun b => (P m (l + 1) (i + b + 1) j).map fun r => (i, i + b + 1, l) :: r).filter (fun r => decide (1 < r.length)) = [] := by
        rw [List.flatMap_cons, List.flatMap_nil, List.append_nil, show i + (j - 1 - i) + 1 = j by omega, P_same]
        rfl
      rw [e2, List.append_nil, List.filter_eq_self.mpr]
      · rfl
      · intro r hr
        obtain ⟨b, hb, z⟩ := List.mem_flatMap.mp hr
        obtain ⟨r', hr', rfl⟩ := List.mem_map.mp z
        have hb' := List.mem_range.mp hb
        have := P_ne (by omega) r' hr'
        rw [decide_eq_true_eq, List.length_cons]
        have := List.length_pos_iff.mpr this
        omega
    · refine congrArg (fun f => (List.range m).flatMap f) (funext fun a => ?_)
      show _ = (List.range (j - 1 - i)).flatMap fun b => (P (m + 1 - 1 - (a + 1)) (l + (a + 1) + 1) (i + b + 1) j).map fun r => (i, i + b + 1, l + (a + 1)) :: r
      rw [show m + 1 - 1 - (a + 1) = m - 1 - a by omega, show l + (a + 1) = l + 1 + a by omega]
theorem bound_is {i j : Nat} (dg : ∀ l i, l ≤ L → i ≤ n → t l i i = some 0) (ed : ∀ i j, i < j → j ≤ n → t L i j = none) (hh : ∀ l c, l < L → i < c → c < j → h l i c = oadd (some (p l * W i c)) (F i c)) (eq : ∀ a b, i + 1 ≤ a → a < b → b ≤ n → Eqs p W F L h t a b) (hij : i + 1 < j) (hj : j ≤ n) :
    bnd L h t i j = lo (((P L 0 i j).filter fun r => decide (1 < r.length)).map fun r => cost p W F r) := by
  unfold bnd
  rw [if_neg (by omega), P_many (by omega), List.map_flatMap, lo_flat]
  congr 1
  refine List.map_congr_left fun l hl => ?_
  have hl' := List.mem_range.mp hl
  rw [List.map_flatMap, lo_flat]
  congr 1
  refine List.map_congr_left fun b hb => ?_
  have hb' := List.mem_range.mp hb
  rw [hh l (i + b + 1) hl' (by omega) (by omega), tails_are dg ed eq (L - 1 - l) (l + 1) (i + b + 1) j (by omega) (by omega) (by omega) hj, lo_addO, List.map_map, List.map_map, Nat.zero_add]
  congr 1
end
/-! where the parts lie -/
theorem P_in : ∀ m l i j, i ≤ j → ∀ r ∈ P m l i j, ∀ q ∈ r, i ≤ q.1 ∧ q.1 < q.2.1 ∧ q.2.1 ≤ j ∧ l ≤ q.2.2 ∧ q.2.2 < l + m
  | 0, l, i, j, h, r, hr, q, hq => by
    unfold P at hr
    split at hr
    · rw [List.mem_singleton.mp hr] at hq; cases hq
    · cases hr
  | m + 1, l, i, j, h, r, hr, q, hq => by
    rw [P_succ] at hr
    split at hr
    · rw [List.mem_singleton.mp hr] at hq; cases hq
    · rcases List.mem_append.mp hr with z | z
      · obtain ⟨b, hb, z⟩ := List.mem_flatMap.mp z
        have hb' := List.mem_range.mp hb
        obtain ⟨r', hr', rfl⟩ := List.mem_map.mp z
        rcases List.mem_cons.mp hq with y | y
        · rw [y]; exact ⟨Nat.le_refl _, by show i < i + b + 1; omega, by show i + b + 1 ≤ j; omega, Nat.le_refl _, by show l < l + (m + 1); omega⟩
        · have := P_in m (l + 1) (i + b + 1) j (by omega) r' hr' q y
          omega
      · have := P_in m (l + 1) i j h r z q hq
        omega
/-! how many there are -/
theorem P_count : ∀ m l i j, i ≤ j → (P m l i j).length ≤ 2 ^ (m + (j - i))
  | 0, l, i, j, h => by
    unfold P
    split
    · exact Nat.one_le_two_pow
    · exact Nat.zero_le _
  | m + 1, l, i, j, h => by
    unfold P
    split
    · exact Nat.one_le_two_pow
    · rw [List.length_append, List.length_flatMap]
      have h1 := P_count m (l + 1) i j h
      have h2 : ∀ d, d ≤ j - i → ((List.range d).map fun b => ((P m (l + 1) (i + b + 1) j).map fun r => (i, i + b + 1, l) :: r).length).sum ≤ 2 ^ (m + (j - i)) - 2 ^ (m + (j - i) - d) := by
        intro d hd
        induction d with
        | zero => simp
        | succ d ih =>
          rw [List.range_succ, List.map_append, List.sum_append, List.map_singleton, List.sum_singleton, List.length_map]
          have a1 := ih (by omega)
          have a2 := P_count m (l + 1) (i + d + 1) j (by omega)
          have e1 : m + (j - (i + d + 1)) = m + (j - i) - (d + 1) := by omega
          rw [e1] at a2
          have e2 : 2 ^ (m + (j - i) - d) = 2 * 2 ^ (m + (j - i) - (d + 1)) := by
            rw [show m + (j - i) - d = (m + (j - i) - (d + 1)) + 1 by omega, Nat.pow_succ]
            omega
          have e3 : 2 ^ (m + (j - i) - d) ≤ 2 ^ (m + (j - i)) := Nat.pow_le_pow_right (by decide) (by omega)
          omega
      have h3 := h2 (j - i) (Nat.le_refl _)
      have h4 : 0 < 2 ^ (m + (j - i) - (j - i)) := Nat.two_pow_pos _
      have e : 2 ^ (m + 1 + (j - i)) = 2 ^ (m + (j - i)) + 2 ^ (m + (j - i)) := by
        rw [show m + 1 + (j - i) = (m + (j - i)) + 1 by omega, Nat.pow_succ]
        omega
      rw [e]
      exact Nat.add_le_add (Nat.le_trans h3 (Nat.sub_le _ _)) h1
end K42
set_option Elab.async false
set_option linter.all false
set_option maxRecDepth 100000
namespace K42
open PySem L2
def top (i : Nat) : Stmt := PySem.Challenge.pw_lettertoll_k42_lies_on_steps.main.body.getD i (.Pass ⟨0, 0, 0, 0⟩)
def kidN (n : Nat) : Stmt → Stmt
  | .ClassDef _ _ _ b .. => b.getD n (.Pass ⟨0, 0, 0, 0⟩)
  | s => s
abbrev sSums : Stmt := top 6
abbrev sRow : Stmt := top 7
abbrev sSquare : Stmt := top 8
abbrev sLeast : Stmt := top 9
abbrev sAdded : Stmt := top 10
abbrev sPb : Stmt := top 12
abbrev sTop : Stmt := top 14
abbrev sGround : Stmt := top 15
abbrev sHas : Stmt := top 17
abbrev sAbove : Stmt := top 18
abbrev sIs : Stmt := top 19
abbrev sStep : Stmt := top 21
abbrev sSteps : Stmt := top 22
abbrev sOn : Stmt := top 23
abbrev sFolded : Stmt := top 25
abbrev sNumber : Stmt := top 26
abbrev sNumbers : Stmt := top 27
abbrev sWhole : Stmt := top 28
abbrev sPartings : Stmt := top 29
abbrev sSb : Stmt := top 30
abbrev sNothing : Stmt := top 31
abbrev sLabove : Stmt := top 32
abbrev sMade : Stmt := top 33
abbrev sCopied : Stmt := top 34
abbrev sTurned : Stmt := top 35
abbrev sDue : Stmt := top 36
abbrev sRight : Stmt := top 37
abbrev sRefused : Stmt := top 38
abbrev sLaw : Stmt := top 39
abbrev iParted : Stmt := kidN 0 (top 11)
abbrev sPut : Stmt := kidN 1 (top 11)
abbrev sLs : Stmt := kidN 2 (top 11)
abbrev sBound : Stmt := kidN 3 (top 11)
abbrev sBrow : Stmt := kidN 4 (top 11)
abbrev sBounds : Stmt := kidN 5 (top 11)
def oV : OI → V
  | none => .non
  | some i => .int i
section
variable {P : Program} {w : World} {K : PySem.W.Frag} {mg : Str → Option Value} {base : Heap} {f : Addr} {fd : FuncData}
/-! weight_sums -/
def sums (ws : List Int) (k : Nat) : List Int := (List.range (k + 1)).map fun i => (ws.take i).sum
def spSums : Sp := fun vs H Q _ => ∃ (q : Addr) (ws : List Int), vs = [.ref q] ∧ TW H q ws ∧ ws.length ≤ 100 ∧ ∀ (p : Addr) H', Same H H' → H p = none → H' p = some (.lst ((sums ws ws.length).map V.int)) → Q (.ref p) H'
theorem scSums : FnScope ["weights", "sums", "weight"] ["weights"] (defScope sSums) := ⟨rfl, rfl, rfl, by decide +kernel, rfl, by decide +kernel, by decide +kernel⟩
theorem sums_succ {ws : List Int} {k : Nat} : sums ws (k + 1) = sums ws k ++ [(ws.take (k + 1)).sum] := by
  unfold sums
  rw [List.range_succ (n := k + 1), List.map_append]
  rfl
theorem sums_last {ws : List Int} {k : Nat} : ∃ xs, sums ws k = xs ++ [(ws.take k).sum] := by
  unfold sums
  rw [List.range_succ, List.map_append]
  exact ⟨_, rfl⟩
theorem sums_len {ws : List Int} {k : Nat} : (sums ws k).length = k + 1 := by unfold sums; rw [List.length_map, List.length_range]
theorem ok_sums (F : Fun K "weight_sums" "weight_sums" sSums f fd) : FnOk P w K mg base CX0 1 f fd ["weights"] spSums := by
  refine F.ok (k := 0) scSums (fun vs H Q E h => ?_) (fun cdv A outer s H vs Q E hr h => ?_)
  · obtain ⟨q, ws, rfl, _⟩ := h
    rfl
  obtain ⟨q, ws, rfl, hq, l1, qq⟩ := h
  refine ⟨_, pss_cons (ps_set (i := 1) scSums.nd rfl (Or.inl rfl) (pe_lst (pa_cons pe_int pa_nil)))
    (pss_cons (ps_for PassesOwn.never rfl (pi_tup (pv 0)) (pg_name (i := 2) scSums.nd rfl (Or.inl rfl))
      (pss_one (ps_expr (pe_bm PySem.F.plainAttrs_list PySem.F.slot_list_append PySem.F.type_list_append mt_append (pv 1) (pa_cons (pe_op op_add (pe_ix ix_list (pv 1) (pe_un un_neg pe_int) (fun _ _ => rfl)) (pv 2)) pa_nil)))))
    (pss_one (ps_ret (pv 1)))), ?_⟩
  refine ⟨(by show 1 ≤ sizeLine; decide), fun l hl => ?_⟩
  have s1 := same_newO hl (.lst [.int 0])
  have g1 : upd H l (.lst [.int 0]) l = some (.lst ((sums ws 0).map V.int)) := upd_same
  generalize upd H l (.lst [.int 0]) = H1 at s1 g1 ⊢
  refine ⟨_, rfl, q, rfl, ⟨_, SqT.of (s1 _ _ hq)⟩, ?_⟩
  refine for_tup (xs := ws.map V.int) (fun i σ H' => Same H H' ∧ H' l = some (.lst ((sums ws i).map V.int)) ∧ ∃ x2 : Option V, σ = [some (.ref q), some (.ref l), x2]) ⟨s1, g1, _, rfl⟩ (fun i σ H' _ hP => SqT.of (hP.1 _ _ hq)) (fun i x σ H2 hx hP => ?_) (fun σ H2 hP => ?_)
  · obtain ⟨s2, g2, x2, rfl⟩ := hP
    have il := (List.getElem?_eq_some_iff.mp hx).1
    rw [List.length_map] at il
    rw [List.getElem?_map] at hx
    obtain ⟨z, hz, rfl⟩ := Option.map_eq_some_iff.mp hx
    obtain ⟨xs, ex⟩ := sums_last (ws := ws) (k := i)
    refine ⟨_, rfl, .inl ⟨rfl, _, SqL.of g2⟩, _, rfl, _, rfl, l, _, _, _, rfl, rfl, SqL.of g2, (by rw [ex, List.map_append]; exact atI_last _ _), _, rfl, _, _, rfl, rfl, l, _, _, rfl, rfl, g2, small1000 (by rw [List.length_map, sums_len]; omega), same_upd hl s2, ?_, _, rfl⟩
    rw [upd_same, sums_succ, List.map_append, List.take_add_one, hz]
    simp
  · obtain ⟨s2, g2, x2, rfl⟩ := hP
    rw [List.length_map] at g2
    exact ⟨_, rfl, qq l H2 s2 hl g2⟩
/-! row_with -/
def rowW (s i : Nat) (o : OI) : List V := (List.range s).map fun j => oV (if j = i then o else none)
theorem rowW_is {s i : Nat} {o : OI} : (List.replicate s V.non).set i (oV o) = rowW s i o := by
  refine List.ext_getElem? fun j => ?_
  unfold rowW
  rw [List.getElem?_map]
  by_cases hj : j < s
  · rw [List.getElem?_range hj]
    by_cases e : i = j
    · subst e
      rw [List.getElem?_set_self (by rw [List.length_replicate]; exact hj)]
      simp
    · rw [List.getElem?_set_ne e, List.getElem?_replicate, if_pos hj]
      show some V.non = some (oV (if j = i then o else none))
      rw [if_neg (fun z => e z.symm)]
      rfl
  · rw [List.getElem?_eq_none (by rw [List.length_set, List.length_replicate]; omega), List.getElem?_eq_none (by rw [List.length_range]; omega)]
    rfl
theorem reps_non (n : Nat) : (List.replicate n [V.non]).flatten = List.replicate n V.non := by
  induction n with
  | zero => rfl
  | succ n ih => rw [List.replicate_succ, List.flatten_cons, ih, List.replicate_succ]; rfl
def spRow : Sp := fun vs H Q _ => ∃ (s i : Nat) (o : OI), vs = [.int (s : Int), .int (i : Int), oV o] ∧ i < s ∧ s ≤ 100 ∧ ∀ (p : Addr) H', Same H H' → H p = none → H' p = some (.lst (rowW s i o)) → Q (.ref p) H'
theorem scRow : FnScope ["side", "at", "number", "row"] ["side", "at", "number"] (defScope sRow) := ⟨rfl, rfl, rfl, by decide +kernel, rfl, by decide +kernel, by decide +kernel⟩
theorem ixN_nat {n j : Nat} (h : j < n) : ixN n (j : Int) = some j := by
  unfold ixN
  rw [if_pos (by omega), if_pos (by omega)]
  rfl
theorem ok_row (F : Fun K "row_with" "row_with" sRow f fd) : FnOk P w K mg base CX0 1 f fd ["side", "at", "number"] spRow := by
  refine F.ok (k := 0) scRow (fun vs H Q E h => ?_) (fun cdv A outer s H vs Q E hr h => ?_)
  · obtain ⟨s, i, o, rfl, _⟩ := h
    rfl
  obtain ⟨n, i, o, rfl, hi, hn, qq⟩ := h
  refine ⟨_, pss_cons (ps_set (i := 3) scRow.nd rfl (Or.inl rfl) (pe_op op_rep (pe_lst (pa_cons pe_non pa_nil)) (pv 0)))
    (pss_cons (ps_asg (pv 2) (pg_sub (pv 3) (pv 1) set_list))
    (pss_one (ps_ret (pv 3)))), ?_⟩
  refine ⟨(by show 1 ≤ sizeLine; decide), fun l hl => ?_⟩
  have s1 := same_newO hl (.lst [.non])
  have g1 : upd H l (.lst [.non]) l = some (.lst [.non]) := upd_same
  generalize upd H l (.lst [.non]) = H1 at s1 g1 ⊢
  refine ⟨_, rfl, l, (n : Int), _, rfl, rfl, g1, by omega, by omega, by show 1 * _ ≤ _; exact Nat.le_of_lt (small1000 (by omega)), fun p hp => ?_⟩
  rw [reps_non, Int.toNat_natCast]
  have s2 := same_newO hp (.lst (List.replicate n V.non))
  have g2 : upd H1 p (.lst (List.replicate n V.non)) p = some (.lst (List.replicate n V.non)) := upd_same
  generalize upd H1 p (.lst (List.replicate n V.non)) = H2 at s2 g2 ⊢
  have hpn := s1.free hp
  refine ⟨_, rfl, _, rfl, _, rfl, p, _, _, i, rfl, rfl, g2, (by rw [List.length_replicate]; exact ixN_nat hi), ?_⟩
  rw [rowW_is]
  exact ⟨_, rfl, qq p _ (same_upd hpn (s1.trans s2)) hpn upd_same⟩
/-! square -/
def ext {α : Type} (ca : Nat → α) (i : Nat) (p : α) : Nat → α := fun k => if k = i then p else ca k
theorem ext_same {α : Type} {ca : Nat → α} {i k : Nat} {p : α} (h : k = i) : ext ca i p k = p := if_pos h
theorem ext_ne {α : Type} {ca : Nat → α} {i k : Nat} {p : α} (h : ¬ k = i) : ext ca i p k = ca k := if_neg h
def spSquare : Sp := fun vs H Q _ => ∃ (s : Nat) (o : OI), vs = [.int (s : Int), oV o] ∧ s ≤ 100 ∧ ∀ (b : Addr) (ca : Nat → Addr) H', Same H H' → H b = none → (∀ i, i < s → H (ca i) = none) → (∀ i j, i < s → j < s → ca i = ca j → i = j) → (∀ i, i < s → ca i ≠ b) →
  H' b = some (.lst ((List.range s).map fun i => .ref (ca i))) → (∀ i, i < s → H' (ca i) = some (.lst (rowW s i o))) → Q (.ref b) H'
theorem scSquare : FnScope ["side", "diagonal"] ["side", "diagonal"] (defScope sSquare) := ⟨rfl, rfl, rfl, by decide +kernel, rfl, by decide +kernel, by decide +kernel⟩
theorem ndSq : (("at" : Str) :: ["side", "diagonal"]).Nodup := by decide +kernel
theorem ok_square (F : Fun K "square" "square" sSquare f fd) (GR : Fns P w K mg base ["side", "at", "number"] "row_with" spRow 1) (mr : mg "range" = none) : FnOk P w K mg base CX0 2 f fd ["side", "diagonal"] spSquare := by
  refine F.ok (k := 1) scSquare (fun vs H Q E h => ?_) (fun cdv A outer s H vs Q E hr h => ?_)
  · obtain ⟨s, o, rfl, _⟩ := h
    rfl
  obtain ⟨n, o, rfl, hn, qq⟩ := h
  refine ⟨_, pss_one (ps_ret (pe_compR1 (M := ["side", "diagonal"]) rfl (CompScope.of (defScope sSquare) ["side", "diagonal"] rfl rfl rfl (by decide +kernel) (by decide +kernel) (by decide +kernel) rfl (by decide +kernel)) ndSq rfl (by rfl) mr (pa_cons (pv 0) pa_nil) (mo_cons mo_var mo_nil)
      (fun cl C s0 H0 fp => ⟨pts_nil, pe_call GR.ok hr (by rfl) GR.m GR.kp GR.b .nil pass0 (pa_cons (pv 1) (pa_cons (pv 0) (pa_cons (pv 2) pa_nil)))⟩))), ?_⟩
  refine ⟨_, rfl, (n : Int), rfl, by omega, by omega, fun d hd => ?_⟩
  refine ⟨fun i H' => Same H H' ∧ ∃ ca : Nat → Addr, (∀ k, k < i → H (ca k) = none) ∧ (∀ j k, j < i → k < i → ca j = ca k → j = k) ∧ (∀ k, k < i → ca k ≠ d) ∧ H' d = some (.lst ((List.range i).map fun k => .ref (ca k))) ∧ ∀ k, k < i → H' (ca k) = some (.lst (rowW n k o)), ⟨same_newO hd _, fun _ => d, fun k hk => absurd hk (Nat.not_lt_zero _), fun j k hj => absurd hj (Nat.not_lt_zero _), fun k hk => absurd hk (Nat.not_lt_zero _), upd_same, fun k hk => absurd hk (Nat.not_lt_zero _)⟩, fun i H1 hi hP => ?_, fun H1 hP => ?_⟩
  · obtain ⟨s1, ca, c1, c2, c3, c4, c5⟩ := hP
    have i' : i < n := by omega
    rw [show (0 : Int) + (i : Int) = (i : Int) from Int.zero_add _]
    refine turn_all ⟨_, rfl, _, rfl, _, rfl, n, i, o, rfl, i', hn, fun p H2 s2 hp2 g2 => ?_⟩
    have pd : p ≠ d := fun z => by rw [z, c4] at hp2; cases hp2
    have pk : ∀ k, k < i → ca k ≠ p := fun k hk z => by rw [← z, c5 k hk] at hp2; cases hp2
    refine ⟨_, s2 _ _ c4, ?_, same_upd hd (s1.trans s2), ext ca i p, fun k hk => ?_, fun j k hj hk e => ?_, fun k hk => ?_, ?_, fun k hk => ?_⟩
    · rw [List.length_map, List.length_range]; exact small1000 (by omega)
    · by_cases z : k = i
      · rw [ext_same z]; exact s1.free hp2
      · rw [ext_ne z]; exact c1 k (by omega)
    · by_cases z1 : j = i <;> by_cases z2 : k = i
      · omega
      · rw [ext_same z1, ext_ne z2] at e
        exact absurd e.symm (pk k (by omega))
      · rw [ext_ne z1, ext_same z2] at e
        exact absurd e (pk j (by omega))
      · rw [ext_ne z1, ext_ne z2] at e
        exact c2 j k (by omega) (by omega) e
    · by_cases z : k = i
      · rw [ext_same z]; exact pd
      · rw [ext_ne z]; exact c3 k (by omega)
    · rw [upd_same, List.range_succ, List.map_append]
      refine congrArg (fun z => some (HO.lst z)) ?_
      congr 1
      · refine List.map_congr_left fun k hk => ?_
        rw [ext_ne (by have := List.mem_range.mp hk; omega)]
      · show [V.ref p] = [V.ref (ext ca i p i)]
        rw [ext_same rfl]
    · by_cases z : k = i
      · rw [ext_same z, upd_ne pd, z]; exact g2
      · rw [ext_ne z, upd_ne (c3 k (by omega))]; exact s2 _ _ (c5 k (by omega))
  · obtain ⟨s1, ca, c1, c2, c3, c4, c5⟩ := hP
    rw [Int.toNat_natCast] at c1 c2 c3 c4 c5
    exact qq d ca H1 s1 hd c1 c2 c3 c4 c5
/-! least, added -/
def spLeast : Sp := fun vs H Q _ => ∃ (a : Addr) (xs : List OI), vs = [.ref a] ∧ H a = some (.lst (xs.map oV)) ∧ xs.length ≤ 100 ∧ ∀ H', Same H H' → Q (oV (lo xs)) H'
theorem scLeast : FnScope ["numbers"] ["numbers"] (defScope sLeast) := ⟨rfl, rfl, rfl, by decide +kernel, rfl, by decide +kernel, by decide +kernel⟩
theorem ndLe : (("number" : Str) :: ["numbers"]).Nodup := by decide +kernel
set_option maxHeartbeats 4000000 in
theorem ok_least (F : Fun K "least" "least" sLeast f fd) (mn : mg "min" = none) : FnOk P w K mg base CX0 1 f fd ["numbers"] spLeast := by
  refine F.ok (k := 0) scLeast (fun vs H Q E h => ?_) (fun cdv A outer s H vs Q E hr h => ?_)
  · obtain ⟨a, xs, rfl, _⟩ := h
    rfl
  obtain ⟨a, xs, rfl, ha, l1, qq⟩ := h
  refine ⟨_, pss_one (ps_ret (pe_minD rfl (by rfl) mn (pa_cons (pe_compL (M := ["numbers"]) rfl (CompScope.of (defScope sLeast) ["numbers"] rfl rfl rfl (by decide +kernel) (by decide +kernel) (by decide +kernel) rfl (by decide +kernel)) ndLe rfl (pv 0) mo_var
      (fun cl C s0 H0 fp => ⟨pts_one (pt_cmp (pc_notN (pv 0))), pv 0⟩)) pa_nil) (pk_cons pe_non pk_nil))), ?_⟩
  refine ⟨_, rfl, a, _, rfl, SqL.of ha, fun d hd => ?_⟩
  refine ⟨fun i H' => Same H H' ∧ H' d = some (.lst (((xs.take i).filterMap id).map V.int)), ⟨same_newO hd _, upd_same⟩, fun i H' _ hP => SqL.of (hP.1 _ _ ha), fun i x H' hx hP => ?_, fun H' hP => ?_⟩
  · obtain ⟨s5, hd'⟩ := hP
    have il := (List.getElem?_eq_some_iff.mp hx).1
    rw [List.length_map] at il
    rw [List.getElem?_map] at hx
    obtain ⟨z, hz, rfl⟩ := Option.map_eq_some_iff.mp hx
    have et : (xs.take (i + 1)).filterMap id = (xs.take i).filterMap id ++ [z].filterMap id := by rw [List.take_add_one, hz, List.filterMap_append]; rfl
    refine ⟨_, rfl, _, rfl, ?_⟩
    cases z with
    | none => exact ⟨s5, by rw [et]; simpa using hd'⟩
    | some v =>
      refine ⟨_, rfl, _, hd', ?_, same_upd hd s5, ?_⟩
      · rw [List.length_map]
        have := List.length_filterMap_le id (xs.take i)
        rw [List.length_take] at this
        exact small1000 (by omega)
      · rw [upd_same, et, List.map_append]
        rfl
  · obtain ⟨s5, hd'⟩ := hP
    rw [List.length_map, List.take_length] at hd'
    refine ⟨d, _, rfl, rfl, hd', ?_⟩
    have := qq H' s5
    unfold lo at this
    split
    · rename_i h
      rw [if_pos h] at this
      exact this
    · rename_i h
      rw [if_neg h] at this
      exact this
def spAdded : Sp := fun vs H Q _ => ∃ a b : OI, vs = [oV a, oV b] ∧ Q (oV (oadd a b)) H
theorem scAdded : FnScope ["one", "other"] ["one", "other"] (defScope sAdded) := ⟨rfl, rfl, rfl, by decide +kernel, rfl, by decide +kernel, by decide +kernel⟩
theorem ok_added (F : Fun K "added" "added" sAdded f fd) : FnOk P w K mg base CX0 1 f fd ["one", "other"] spAdded := by
  refine F.ok (k := 0) scAdded (fun vs H Q E h => ?_) (fun cdv A outer s H vs Q E hr h => ?_)
  · obtain ⟨a, b, rfl, _⟩ := h
    rfl
  obtain ⟨a, b, rfl, q⟩ := h
  refine ⟨_, pss_cons (ps_if (PW.pt (pw_or (pt_cmp (pc_isN (pv 0))) (pw_or1 (pt_cmp (pc_isN (pv 1)))))) (pss_one (ps_ret pe_non)) pss_nil) (pss_one (ps_ret (pe_op op_add (pv 0) (pv 1)))), ?_⟩
  refine ⟨_, rfl, _, rfl, ?_⟩
  cases a with
  | none => exact q
  | some i =>
    refine iteF ?_
    refine ⟨_, rfl, _, rfl, ?_⟩
    cases b with
    | none => exact q
    | some j => exact iteF ⟨_, rfl, _, rfl, _, _, rfl, rfl, q⟩
end
end K42
set_option Elab.async false
set_option linter.all false
set_option maxRecDepth 100000
namespace K42
open PySem L2
/-! ### the tables -/
structure Tb (H : Hp) (a : Addr) (ba : Nat → Addr) (ca : Nat → Nat → Addr) (L s : Nat) (T : Nat → Nat → Nat → OI) : Prop where
  o : H a = some (.lst ((List.range L).map fun l => .ref (ba l)))
  b : ∀ l, l < L → H (ba l) = some (.lst ((List.range s).map fun i => .ref (ca l i)))
  c : ∀ l i, l < L → i < s → H (ca l i) = some (.lst ((List.range s).map fun j => oV (T l i j)))
theorem Tb.same {H H' : Hp} {a : Addr} {ba : Nat → Addr} {ca : Nat → Nat → Addr} {L s : Nat} {T : Nat → Nat → Nat → OI} (h : Tb H a ba ca L s T) (k : Same H H') : Tb H' a ba ca L s T := ⟨k _ _ h.o, fun l hl => k _ _ (h.b l hl), fun l i hl hi => k _ _ (h.c l i hl hi)⟩
structure Ad where
  su : Addr
  th : Addr
  tt : Addr
  bh : Nat → Addr
  ch : Nat → Nat → Addr
  bt : Nat → Addr
  ct : Nat → Nat → Addr
/-- the cells that change -/
def Z (X : Ad) (L s : Nat) (a : Addr) : Prop := (∃ l i, l < L ∧ i < s ∧ a = X.ch l i) ∨ ∃ l i, l < L + 1 ∧ i < s ∧ a = X.ct l i
abbrev pf (p : Addr) (n : Int) (X : Ad) : List (Str × V) := [("prices", .ref p), ("things", .int n), ("sums", .ref X.su), ("heads", .ref X.th), ("tails", .ref X.tt)]
structure PAt (C : Addr) (H : Hp) (r p : Addr) (ps ws : List Int) (X : Ad) (h t : Nat → Nat → Nat → OI) : Prop where
  ob : ∃ dx, H r = some (.ins C dx (pf p (ws.length : Int) X))
  hp : TW H p ps
  su : H X.su = some (.lst ((sums ws ws.length).map V.int))
  hd : Tb H X.th X.bh X.ch ps.length (ws.length + 1) h
  tl : Tb H X.tt X.bt X.ct (ps.length + 1) (ws.length + 1) t
  ih : ∀ l i l' i', l < ps.length → l' < ps.length → i < ws.length + 1 → i' < ws.length + 1 → X.ch l i = X.ch l' i' → l = l' ∧ i = i'
  it : ∀ l i l' i', l < ps.length + 1 → l' < ps.length + 1 → i < ws.length + 1 → i' < ws.length + 1 → X.ct l i = X.ct l' i' → l = l' ∧ i = i'
  ix : ∀ l i l' i', l < ps.length → l' < ps.length + 1 → i < ws.length + 1 → i' < ws.length + 1 → X.ch l i ≠ X.ct l' i'
  ns : ¬ Z X ps.length (ws.length + 1) X.su
theorem PAt.same {C : Addr} {H H' : Hp} {r p : Addr} {ps ws : List Int} {X : Ad} {h t : Nat → Nat → Nat → OI} (a : PAt C H r p ps ws X h t) (k : Same H H') : PAt C H' r p ps ws X h t := by
  obtain ⟨dx, ho⟩ := a.ob
  exact ⟨⟨dx, k _ _ ho⟩, k _ _ a.hp, k _ _ a.su, a.hd.same k, a.tl.same k, a.ih, a.it, a.ix, a.ns⟩
structure PC (K : PySem.W.Frag) (C : Addr) : Prop where
  c : Cls K C
  np : NoAttr K C "prices"
  nn : NoAttr K C "things"
  ns : NoAttr K C "sums"
  nh : NoAttr K C "heads"
  nt : NoAttr K C "tails"
abbrev pf1 (p : Addr) : List (Str × V) := [("prices", .ref p)]
abbrev pf2 (p : Addr) (n : Int) : List (Str × V) := [("prices", .ref p), ("things", .int n)]
abbrev pf3 (p : Addr) (n : Int) (su : Addr) : List (Str × V) := [("prices", .ref p), ("things", .int n), ("sums", .ref su)]
abbrev pf4 (p : Addr) (n : Int) (su th : Addr) : List (Str × V) := [("prices", .ref p), ("things", .int n), ("sums", .ref su), ("heads", .ref th)]
/-! squares, one beside another -/
structure Grow (H0 H' : Hp) (s : Nat) (o : OI) (i : Nat) (ba : Nat → Addr) (ca : Nat → Nat → Addr) (d : Addr) : Prop where
  same : Same H0 H'
  fb : ∀ l, l < i → H0 (ba l) = none
  fc : ∀ l k, l < i → k < s → H0 (ca l k) = none
  inj : ∀ l k l' k', l < i → l' < i → k < s → k' < s → ca l k = ca l' k' → l = l' ∧ k = k'
  nb : ∀ l, l < i → ba l ≠ d
  nc : ∀ l k, l < i → k < s → ca l k ≠ d
  lo_ : H' d = some (.lst ((List.range i).map fun l => .ref (ba l)))
  lb : ∀ l, l < i → H' (ba l) = some (.lst ((List.range s).map fun k => .ref (ca l k)))
  lc : ∀ l k, l < i → k < s → H' (ca l k) = some (.lst (rowW s k o))
theorem Grow.start {H0 : Hp} {s : Nat} {o : OI} {d : Addr} (hd : H0 d = none) : Grow H0 (upd H0 d (.lst [])) s o 0 (fun _ => d) (fun _ _ => d) d :=
  ⟨same_newO hd _, fun l hl => absurd hl (Nat.not_lt_zero _), fun l k hl => absurd hl (Nat.not_lt_zero _), fun l k l' k' hl => absurd hl (Nat.not_lt_zero _), fun l hl => absurd hl (Nat.not_lt_zero _), fun l k hl => absurd hl (Nat.not_lt_zero _), upd_same, fun l hl => absurd hl (Nat.not_lt_zero _), fun l k hl => absurd hl (Nat.not_lt_zero _)⟩
theorem Grow.step {H0 H1 H2 : Hp} {s : Nat} {o : OI} {i : Nat} {ba : Nat → Addr} {ca : Nat → Nat → Addr} {d b : Addr} {c' : Nat → Addr} (hd : H0 d = none) (g : Grow H0 H1 s o i ba ca d) (k : Same H1 H2) (fb : H1 b = none) (fc : ∀ k, k < s → H1 (c' k) = none) (ij : ∀ j k, j < s → k < s → c' j = c' k → j = k) (hb : H2 b = some (.lst ((List.range s).map fun k => .ref (c' k)))) (hc : ∀ k, k < s → H2 (c' k) = some (.lst (rowW s k o))) :
    Grow H0 (upd H2 d (.lst (((List.range i).map fun l => V.ref (ba l)) ++ [.ref b]))) s o (i + 1) (ext ba i b) (ext ca i c') d := by
  have bd : b ≠ d := fun z => by rw [z, g.lo_] at fb; cases fb
  have cd : ∀ k, k < s → c' k ≠ d := fun k hk z => by
    have := fc k hk
    rw [z, g.lo_] at this; cases this
  have cc : ∀ l k k', l < i → k < s → k' < s → ca l k ≠ c' k' := fun l k k' hl hk hk' z => by
    have := fc k' hk'
    rw [← z, g.lc l k hl hk] at this; cases this
  refine ⟨same_upd hd (g.same.trans k), fun l hl => ?_, fun l m hl hm => ?_, fun l m l' m' hl hl' hm hm' e => ?_, fun l hl => ?_, fun l m hl hm => ?_, ?_, fun l hl => ?_, fun l m hl hm => ?_⟩
  · by_cases z : l = i
    · rw [ext_same z]; exact g.same.free fb
    · rw [ext_ne z]; exact g.fb l (by omega)
  · by_cases z : l = i
    · rw [ext_same z]; exact g.same.free (fc m hm)
    · rw [ext_ne z]; exact g.fc l m (by omega) hm
  · by_cases z1 : l = i <;> by_cases z2 : l' = i
    · rw [ext_same z1, ext_same z2] at e
      exact ⟨by omega, ij m m' hm hm' e⟩
    · rw [ext_same z1, ext_ne z2] at e
      exact absurd e.symm (cc l' m' m (by omega) hm' hm)
    · rw [ext_ne z1, ext_same z2] at e
      exact absurd e (cc l m m' (by omega) hm hm')
    · rw [ext_ne z1, ext_ne z2] at e
      exact g.inj l m l' m' (by omega) (by omega) hm hm' e
  · by_cases z : l = i
    · rw [ext_same z]; exact bd
    · rw [ext_ne z]; exact g.nb l (by omega)
  · by_cases z : l = i
    · rw [ext_same z]; exact cd m hm
    · rw [ext_ne z]; exact g.nc l m (by omega) hm
  · rw [upd_same, List.range_succ, List.map_append]
    refine congrArg (fun z => some (HO.lst z)) ?_
    congr 1
    · refine List.map_congr_left fun l hl => ?_
      rw [ext_ne (by have := List.mem_range.mp hl; omega)]
    · show [V.ref b] = [V.ref (ext ba i b i)]
      rw [ext_same rfl]
  · by_cases z : l = i
    · rw [ext_same z, ext_same z, upd_ne bd]; exact hb
    · rw [ext_ne z, ext_ne z, upd_ne (g.nb l (by omega))]; exact k _ _ (g.lb l (by omega))
  · by_cases z : l = i
    · rw [ext_same z, upd_ne (cd m hm)]; exact hc m hm
    · rw [ext_ne z, upd_ne (g.nc l m (by omega) hm)]; exact k _ _ (g.lc l m (by omega) hm)
def KeepR (r : Addr) (H H' : Hp) : Prop := ∀ a o, a ≠ r → H a = some o → H' a = some o
section
variable {P : Program} {w : World} {K : PySem.W.Frag} {mg : Str → Option Value} {base : Heap} {f : Addr} {fd : FuncData}
abbrev NI : List Str := ["self", "prices", "weights", "side"]
abbrev h0 : Nat → Nat → Nat → OI := fun _ a b => if b = a then none else none
abbrev t0 : Nat → Nat → Nat → OI := fun _ a b => if b = a then some 0 else none
def spPInit (C : Addr) : Sp := fun vs H Q _ => ∃ (r dx p q : Addr) (ps ws : List Int), vs = [.ref r, .ref p, .ref q] ∧ H r = some (.ins C dx []) ∧ TW H p ps ∧ TW H q ws ∧ 1 ≤ ps.length ∧ ps.length ≤ 10 ∧ ws.length ≤ 20 ∧
  ∀ H' X, KeepR r H H' → PAt C H' r p ps ws X h0 t0 → (∀ a, Z X ps.length (ws.length + 1) a → H a = none) → Q .non H'
theorem scPInit : FnScope NI ["self", "prices", "weights"] (defScope iParted) := ⟨rfl, rfl, rfl, by decide +kernel, rfl, by decide +kernel, by decide +kernel⟩
theorem ndI1 : (("price" : Str) :: NI).Nodup := by decide +kernel
theorem ndI2 : (("letter" : Str) :: NI).Nodup := by decide +kernel
set_option maxHeartbeats 8000000 in
theorem ok_pinit {C : Addr} (F : Fun K "__init__" "Parted.__init__" iParted f fd) (GS : Fns P w K mg base ["weights"] "weight_sums" spSums 2) (GQ : Fns P w K mg base ["side", "diagonal"] "square" spSquare 2) (rc : PC K C) (ml : mg "len" = none) (mr : mg "range" = none) : FnOk P w K mg base CX0 3 f fd ["self", "prices", "weights"] (spPInit C) := by
  refine F.ok (k := 2) scPInit (fun vs H Q E h => ?_) (fun cdv A outer s H vs Q E hr h => ?_)
  · obtain ⟨r, dx, p, q, ps, ws, rfl, _⟩ := h
    rfl
  obtain ⟨r, dx, p, q, ps, ws, rfl, hr0, hp, hq, p1, p10, w20, qq⟩ := h
  refine ⟨_, pss_cons (ps_fld (pv 0) (pv 1) rfl)
    (pss_cons (ps_fld (pv 0) (pe_callB call_len_seq (by rfl) ml PySem.boot_len (pa_cons (pv 2) pa_nil)) rfl)
    (pss_cons (ps_fld (pv 0) (pe_call GS.ok hr (by rfl) GS.m GS.kp GS.b .nil pass0 (pa_cons (pv 2) pa_nil)) rfl)
    (pss_cons (ps_set (i := 3) scPInit.nd rfl (Or.inr rfl) (pe_op op_add (pe_fld (pv 0) rfl) pe_int))
    (pss_cons (ps_fld (pv 0) (pe_compT (M := NI) rfl (CompScope.of (defScope iParted) NI rfl rfl rfl (by decide +kernel) (by decide +kernel) (by decide +kernel) rfl (by decide +kernel)) ndI1 rfl (pv 1) mo_var
      (fun cl C s0 H0 fp => ⟨pts_nil, pe_call GQ.ok hr (by rfl) GQ.m GQ.kp GQ.b .nil pass0 (pa_cons (pv 4) (pa_cons pe_non pa_nil))⟩)) rfl)
    (pss_one (ps_fld (pv 0) (pe_compR1 (M := NI) rfl (CompScope.of (defScope iParted) NI rfl rfl rfl (by decide +kernel) (by decide +kernel) (by decide +kernel) rfl (by decide +kernel)) ndI2 rfl (by rfl) mr (pa_cons (pe_op op_add (pe_callB call_len_seq (by rfl) ml PySem.boot_len (pa_cons (pv 1) pa_nil)) pe_int) pa_nil) (mo_cons (mo_op mo_rI0 (mo_len (mo_cons mo_var mo_nil)) mo_c) mo_nil)
      (fun cl C s0 H0 fp => ⟨pts_nil, pe_call GQ.ok hr (by rfl) GQ.m GQ.kp GQ.b .nil pass0 (pa_cons (pv 4) (pa_cons pe_int pa_nil))⟩)) rfl)))))), ?_⟩
  have pr : p ≠ r := ne_of hp hr0 (by intro z; cases z)
  have qr : q ≠ r := ne_of hq hr0 (by intro z; cases z)
  -- prices
  refine ⟨_, rfl, _, rfl, r, C, dx, _, rfl, hr0, rc.c, rc.np, (by show 0 < 1000; decide), ?_⟩
  rw [show putF "prices" (V.ref p) [] = (pf1 p) from rfl]
  have g1 : upd H r (.ins C dx (pf1 p)) r = some (.ins C dx (pf1 p)) := upd_same
  have k1 : KeepR r H (upd H r (.ins C dx (pf1 p))) := fun a o ha e => by rw [upd_ne ha]; exact e
  have f1 : ∀ a, upd H r (.ins C dx (pf1 p)) a = none → H a = none := fun a e => by
    by_cases z : a = r
    · subst z; rw [upd_same] at e; cases e
    · rw [upd_ne z] at e; exact e
  generalize upd H r (.ins C dx (pf1 p)) = H1 at g1 k1 f1 ⊢
  -- things
  refine ⟨_, rfl, q, _, rfl, .inr (SqT.of (k1 _ _ qr hq)), _, rfl, r, C, dx, _, rfl, g1, rc.c, rc.nn, (by show 1 < 1000; decide), ?_⟩
  rw [List.length_map, show putF "things" (V.int (ws.length : Int)) (pf1 p) = (pf2 p (ws.length : Int)) from rfl]
  have g2 : upd H1 r (.ins C dx (pf2 p (ws.length : Int))) r = some (.ins C dx (pf2 p (ws.length : Int))) := upd_same
  have k2 : KeepR r H (upd H1 r (.ins C dx (pf2 p (ws.length : Int)))) := fun a o ha e => by rw [upd_ne ha]; exact k1 a o ha e
  have f2 : ∀ a, upd H1 r (.ins C dx (pf2 p (ws.length : Int))) a = none → H a = none := fun a e => by
    by_cases z : a = r
    · subst z; rw [upd_same] at e; cases e
    · rw [upd_ne z] at e; exact f1 a e
  generalize upd H1 r (.ins C dx (pf2 p (ws.length : Int))) = H2 at g2 k2 f2 ⊢
  -- sums
  refine ⟨_, rfl, q, ws, rfl, k2 _ _ qr hq, by omega, fun su H3 s3 hn3 hs3 => ?_⟩
  have g3 := s3 _ _ g2
  refine ⟨_, rfl, r, C, dx, _, rfl, g3, rc.c, rc.ns, (by show 2 < 1000; decide), ?_⟩
  have sr : su ≠ r := ne_of hs3 g3 (by intro z; cases z)
  rw [show putF "sums" (V.ref su) (pf2 p (ws.length : Int)) = (pf3 p (ws.length : Int) su) from rfl]
  have g4 : upd H3 r (.ins C dx (pf3 p (ws.length : Int) su)) r = some (.ins C dx (pf3 p (ws.length : Int) su)) := upd_same
  have k4 : KeepR r H (upd H3 r (.ins C dx (pf3 p (ws.length : Int) su))) := fun a o ha e => by rw [upd_ne ha]; exact s3 _ _ (k2 a o ha e)
  have f4 : ∀ a, upd H3 r (.ins C dx (pf3 p (ws.length : Int) su)) a = none → H a = none := fun a e => by
    by_cases z : a = r
    · subst z; rw [upd_same] at e; cases e
    · rw [upd_ne z] at e; exact f2 a (s3.free e)
  have hs4 : upd H3 r (.ins C dx (pf3 p (ws.length : Int) su)) su = some (.lst ((sums ws ws.length).map V.int)) := by rw [upd_ne sr]; exact hs3
  generalize upd H3 r (.ins C dx (pf3 p (ws.length : Int) su)) = H4 at g4 k4 f4 hs4 ⊢
  -- side
  refine ⟨_, rfl, r, C, dx, _, _, rfl, g4, rc.c, rc.nn, rfl, _, _, rfl, rfl, ?_⟩
  have hp4 : TW H4 p ps := k4 _ _ pr hp
  -- heads
  refine ⟨_, rfl, p, _, rfl, SqT.of hp4, fun th hth => ?_⟩
  refine ⟨fun i H' => ∃ ba ca, Grow H4 H' (ws.length + 1) none i ba ca th, ⟨_, _, Grow.start hth⟩, fun i H' _ hP => (by obtain ⟨ba, ca, g⟩ := hP; exact SqT.of (g.same _ _ hp4)), fun i x H' hx hP => ?_, fun H5 hP => ?_⟩
  · obtain ⟨ba, ca, g⟩ := hP
    have il := (List.getElem?_eq_some_iff.mp hx).1
    rw [List.length_map] at il
    refine turn_all ⟨_, rfl, ws.length + 1, none, rfl, by omega, fun b c' H6 s6 fb fc ij cb hb hc => ⟨_, s6 _ _ g.lo_, ?_, _, _, g.step hth s6 fb fc ij hb hc⟩⟩
    rw [List.length_map, List.length_range]; exact small1000 (by omega)
  obtain ⟨bh, ch, gh⟩ := hP
  rw [List.length_map] at gh
  have g5 := gh.same _ _ g4
  refine ⟨_, rfl, r, C, dx, _, rfl, g5, rc.c, rc.nh, (by show 3 < 1000; decide), ?_⟩
  rw [show putF "heads" (V.ref th) (pf3 p (ws.length : Int) su) = (pf4 p (ws.length : Int) su th) from rfl]
  -- nothing of the heads is at r
  have rh1 : th ≠ r := ne_of gh.lo_ g5 (by intro z; cases z)
  have rh2 : ∀ l, l < ps.length → bh l ≠ r := fun l hl => ne_of (gh.lb l hl) g5 (by intro z; cases z)
  have rh3 : ∀ l k, l < ps.length → k < ws.length + 1 → ch l k ≠ r := fun l k hl hk => ne_of (gh.lc l k hl hk) g5 (by intro z; cases z)
  have tb6 : Tb (upd H5 r (.ins C dx (pf4 p (ws.length : Int) su th))) th bh ch ps.length (ws.length + 1) h0 := ⟨by rw [upd_ne rh1]; exact gh.lo_, fun l hl => by rw [upd_ne (rh2 l hl)]; exact gh.lb l hl, fun l k hl hk => by rw [upd_ne (rh3 l k hl hk)]; exact gh.lc l k hl hk⟩
  have g6 : upd H5 r (.ins C dx (pf4 p (ws.length : Int) su th)) r = some (.ins C dx (pf4 p (ws.length : Int) su th)) := upd_same
  have k46 : KeepR r H4 (upd H5 r (.ins C dx (pf4 p (ws.length : Int) su th))) := fun a o ha e => by rw [upd_ne ha]; exact gh.same _ _ e
  have f6 : ∀ a, upd H5 r (.ins C dx (pf4 p (ws.length : Int) su th)) a = none → H4 a = none := fun a e => by
    by_cases z : a = r
    · subst z; rw [upd_same] at e; cases e
    · rw [upd_ne z] at e; exact gh.same.free e
  generalize upd H5 r (.ins C dx (pf4 p (ws.length : Int) su th)) = H6 at tb6 g6 k46 f6 ⊢
  have hp6 : TW H6 p ps := k46 _ _ pr hp4
  have hs6 := k46 _ _ sr hs4
  -- tails
  refine ⟨_, rfl, p, _, rfl, .inr (SqT.of hp6), _, _, rfl, rfl, _, rfl, by rw [List.length_map]; omega, by rw [List.length_map]; omega, fun tt htt => ?_⟩
  have en : ((((ps.map V.int).length : Nat) : Int) + 1).toNat = ps.length + 1 := by rw [List.length_map]; omega
  rw [en]
  refine ⟨fun i H' => ∃ ba ca, Grow H6 H' (ws.length + 1) (some 0) i ba ca tt, ⟨_, _, Grow.start htt⟩, fun i H' hi hP => ?_, fun H7 hP => ?_⟩
  · obtain ⟨ba, ca, g⟩ := hP
    refine turn_all ⟨_, rfl, ws.length + 1, some 0, rfl, by omega, fun b c' H8 s8 fb fc ij cb hb hc => ⟨_, s8 _ _ g.lo_, ?_, _, _, g.step htt s8 fb fc ij hb hc⟩⟩
    rw [List.length_map, List.length_range]; exact small1000 (by omega)
  obtain ⟨bt, ct, gt⟩ := hP
  have g7 := gt.same _ _ g6
  refine ⟨_, rfl, r, C, dx, _, rfl, g7, rc.c, rc.nt, (by show 4 < 1000; decide), ?_⟩
  rw [show putF "tails" (V.ref tt) (pf4 p (ws.length : Int) su th) = pf p (ws.length : Int) ⟨su, th, tt, bh, ch, bt, ct⟩ from rfl]
  have rt1 : tt ≠ r := ne_of gt.lo_ g7 (by intro z; cases z)
  have rt2 : ∀ l, l < ps.length + 1 → bt l ≠ r := fun l hl => ne_of (gt.lb l hl) g7 (by intro z; cases z)
  have rt3 : ∀ l k, l < ps.length + 1 → k < ws.length + 1 → ct l k ≠ r := fun l k hl hk => ne_of (gt.lc l k hl hk) g7 (by intro z; cases z)
  have k68 : KeepR r H6 (upd H7 r (.ins C dx (pf p (ws.length : Int) ⟨su, th, tt, bh, ch, bt, ct⟩))) := fun a o ha e => by rw [upd_ne ha]; exact gt.same _ _ e
  refine qq _ ⟨su, th, tt, bh, ch, bt, ct⟩ (fun a o ha e => k68 a o ha (k46 a o ha (k4 a o ha e))) ⟨⟨dx, upd_same⟩, k68 _ _ pr hp6, k68 _ _ sr hs6, ⟨k68 _ _ rh1 tb6.o, fun l hl => k68 _ _ (rh2 l hl) (tb6.b l hl), fun l k hl hk => k68 _ _ (rh3 l k hl hk) (tb6.c l k hl hk)⟩, ⟨by rw [upd_ne rt1]; exact gt.lo_, fun l hl => by rw [upd_ne (rt2 l hl)]; exact gt.lb l hl, fun l k hl hk => by rw [upd_ne (rt3 l k hl hk)]; exact gt.lc l k hl hk⟩, fun l i l' i' hl hl' hi hi' e => gh.inj l i l' i' hl hl' hi hi' e, fun l i l' i' hl hl' hi hi' e => gt.inj l i l' i' hl hl' hi hi' e, fun l i l' i' hl hl' hi hi' e => ?_, fun z => ?_⟩ fun a hz => ?_
  · have e1 := gt.fc l' i' hl' hi'
    have e : ch l i = ct l' i' := e
    rw [← e, tb6.c l i hl hi] at e1
    cases e1
  · rcases z with ⟨l, i, hl, hi, e⟩ | ⟨l, i, hl, hi, e⟩
    · have e1 := gh.fc l i hl hi
      have e : su = ch l i := e
      rw [← e, hs4] at e1
      cases e1
    · have e1 := gt.fc l i hl hi
      have e : su = ct l i := e
      rw [← e, hs6] at e1
      cases e1
  · rcases hz with ⟨l, i, hl, hi, e⟩ | ⟨l, i, hl, hi, e⟩
    · have e : a = ch l i := e
      rw [e]
      exact f4 _ (gh.fc l i hl hi)
    · have e : a = ct l i := e
      rw [e]
      exact f4 _ (f6 _ (gt.fc l i hl hi))
end
end K42
set_option Elab.async false
set_option linter.all false
set_option maxRecDepth 100000
namespace K42
open PySem L2
theorem at_rng {f : Nat → V} {n k : Nat} (h : k < n) : atI ((List.range n).map f) (k : Int) = some (f k) := atI_nat (by rw [List.getElem?_map, List.getElem?_range h]; rfl)
theorem mo_fld {K : PySem.W.Frag} {ta : TE} {f : Str} (h : MonoE ta) : MonoE (tFld K ta f) := fun σ H Q Q' hq q => h σ H _ _ (fun v H1 ⟨a, C, dx, fs, u, e1, e2, e3, e4, e5, q1⟩ => ⟨a, C, dx, fs, u, e1, e2, e3, e4, e5, hq _ _ q1⟩) q
structure Mt (P : Program) (w : World) (K : PySem.W.Frag) (mg : Str → Option Value) (base : Heap) (C : Addr) (name : Str) (ps : List Str) (sp : Sp) (k : Nat) where
  f : Addr
  fd : FuncData
  m : Meth K C name f
  ok : FnOk P w K mg base CX0 k f fd ps sp
  b : Binds K fd ps []
def Mt.up {P : Program} {w : World} {K : PySem.W.Frag} {mg : Str → Option Value} {base : Heap} {C : Addr} {name : Str} {ps : List Str} {sp : Sp} {j k : Nat} (f : Mt P w K mg base C name ps sp j) (h : j ≤ k) : Mt P w K mg base C name ps sp k := ⟨f.f, f.fd, f.m, f.ok.mono h, f.b⟩
/-! one cell written -/
def up3 (T : Nat → Nat → Nat → OI) (l i j : Nat) (v : OI) : Nat → Nat → Nat → OI := fun l' i' j' => if l' = l ∧ i' = i ∧ j' = j then v else T l' i' j'
theorem up3_at {T : Nat → Nat → Nat → OI} {l i j : Nat} {v : OI} : up3 T l i j v l i j = v := if_pos ⟨rfl, rfl, rfl⟩
theorem up3_ne {T : Nat → Nat → Nat → OI} {l i j l' i' j' : Nat} {v : OI} (h : ¬ (l' = l ∧ i' = i ∧ j' = j)) : up3 T l i j v l' i' j' = T l' i' j' := if_neg h
theorem row_set {T : Nat → Nat → Nat → OI} {l i j s : Nat} {v : OI} (hj : j < s) : ((List.range s).map fun k => oV (T l i k)).set j (oV v) = (List.range s).map fun k => oV (up3 T l i j v l i k) := by
  refine List.ext_getElem? fun k => ?_
  rw [List.getElem?_map]
  by_cases hk : k < s
  · rw [List.getElem?_range hk]
    by_cases e : j = k
    · subst e
      rw [List.getElem?_set_self (by rw [List.length_map, List.length_range]; exact hk)]
      show some (oV v) = some (oV (up3 T l i j v l i j))
      rw [up3_at]
    · rw [List.getElem?_set_ne e, List.getElem?_map, List.getElem?_range hk]
      show some (oV (T l i k)) = some (oV (up3 T l i j v l i k))
      rw [up3_ne fun z => e z.2.2.symm]
  · rw [List.getElem?_eq_none (by rw [List.length_set, List.length_map, List.length_range]; omega), List.getElem?_eq_none (by rw [List.length_range]; omega)]
    rfl
theorem ne_refs {f : Nat → Addr} {g : Nat → OI} {m n : Nat} (hm : 0 < m) (hn : 0 < n) : (List.range m).map (fun l => V.ref (f l)) ≠ (List.range n).map fun j => oV (g j) := fun z => by
  have h1 : ((List.range m).map (fun l => V.ref (f l)))[0]? = some (V.ref (f 0)) := by rw [List.getElem?_map, List.getElem?_range hm]; rfl
  have h2 : ((List.range n).map fun j => oV (g j))[0]? = some (oV (g 0)) := by rw [List.getElem?_map, List.getElem?_range hn]; rfl
  rw [z, h2] at h1
  cases hg : g 0 <;> (rw [hg] at h1; cases h1)
theorem Tb.keep {H : Hp} {a c : Addr} {ba : Nat → Addr} {ca : Nat → Nat → Addr} {L s : Nat} {T : Nat → Nat → Nat → OI} {g : Nat → OI} {n : Nat} {o : HO} (h : Tb H a ba ca L s T) (hL : 0 < L) (hs : 0 < s) (hn : 0 < n) (hc : H c = some (.lst ((List.range n).map fun j => oV (g j)))) (nc : ∀ l i, l < L → i < s → ca l i ≠ c) : Tb (upd H c o) a ba ca L s T := by
  refine ⟨?_, fun l hl => ?_, fun l i hl hi => ?_⟩
  · rw [upd_ne (ne_of h.o hc (fun z => ne_refs hL hn (HO.lst.inj z)))]
    exact h.o
  · rw [upd_ne (ne_of (h.b l hl) hc (fun z => ne_refs hs hn (HO.lst.inj z)))]
    exact h.b l hl
  · rw [upd_ne (nc l i hl hi)]
    exact h.c l i hl hi
theorem Tb.put {H : Hp} {a : Addr} {ba : Nat → Addr} {ca : Nat → Nat → Addr} {L s : Nat} {T : Nat → Nat → Nat → OI} {l i j : Nat} {v : OI} (h : Tb H a ba ca L s T) (inj : ∀ l i l' i', l < L → l' < L → i < s → i' < s → ca l i = ca l' i' → l = l' ∧ i = i') (hl : l < L) (hi : i < s) (hj : j < s) :
    Tb (upd H (ca l i) (.lst (((List.range s).map fun k => oV (T l i k)).set j (oV v)))) a ba ca L s (up3 T l i j v) := by
  rw [row_set hj]
  have hc := h.c l i hl hi
  refine ⟨?_, fun l' hl' => ?_, fun l' i' hl' hi' => ?_⟩
  · rw [upd_ne (ne_of h.o hc (fun z => ne_refs (m := L) (n := s) (by omega) (by omega) (HO.lst.inj z)))]
    exact h.o
  · rw [upd_ne (ne_of (h.b l' hl') hc (fun z => ne_refs (m := s) (n := s) (by omega) (by omega) (HO.lst.inj z)))]
    exact h.b l' hl'
  · by_cases e : l' = l ∧ i' = i
    · obtain ⟨rfl, rfl⟩ := e
      rw [upd_same]
    · rw [upd_ne (fun z => e (inj l' i' l i hl' hl hi' hi z)), h.c l' i' hl' hi']
      refine congrArg (fun z => some (HO.lst z)) (List.map_congr_left fun k _ => ?_)
      rw [up3_ne fun z => e ⟨z.1, z.2.1⟩]
theorem PAt.puth {C : Addr} {H : Hp} {r p : Addr} {ps ws : List Int} {X : Ad} {h t : Nat → Nat → Nat → OI} {l i j : Nat} {v : OI} (a : PAt C H r p ps ws X h t) (hl : l < ps.length) (hi : i < ws.length + 1) (hj : j < ws.length + 1) :
    PAt C (upd H (X.ch l i) (.lst (((List.range (ws.length + 1)).map fun k => oV (h l i k)).set j (oV v)))) r p ps ws X (up3 h l i j v) t := by
  obtain ⟨dx, ho⟩ := a.ob
  have hc := a.hd.c l i hl hi
  refine ⟨⟨dx, ?_⟩, ?_, ?_, a.hd.put a.ih hl hi hj, a.tl.keep (by omega) (by omega) (by omega) hc fun l' i' hl' hi' => Ne.symm (a.ix l i l' i' hl hl' hi hi'), a.ih, a.it, a.ix, a.ns⟩
  · rw [upd_ne (ne_of ho hc (by intro z; cases z))]; exact ho
  · show upd _ _ _ p = _
    rw [upd_ne (ne_of a.hp hc (by intro z; cases z))]; exact a.hp
  · rw [upd_ne (fun z => a.ns (.inl ⟨l, i, hl, hi, z⟩))]; exact a.su
theorem PAt.putt {C : Addr} {H : Hp} {r p : Addr} {ps ws : List Int} {X : Ad} {h t : Nat → Nat → Nat → OI} {l i j : Nat} {v : OI} (a : PAt C H r p ps ws X h t) (hL : 0 < ps.length) (hl : l < ps.length + 1) (hi : i < ws.length + 1) (hj : j < ws.length + 1) :
    PAt C (upd H (X.ct l i) (.lst (((List.range (ws.length + 1)).map fun k => oV (t l i k)).set j (oV v)))) r p ps ws X h (up3 t l i j v) := by
  obtain ⟨dx, ho⟩ := a.ob
  have hc := a.tl.c l i hl hi
  refine ⟨⟨dx, ?_⟩, ?_, ?_, a.hd.keep hL (by omega) (by omega) hc fun l' i' hl' hi' => a.ix l' i' l i hl' hl hi' hi, a.tl.put a.it hl hi hj, a.ih, a.it, a.ix, a.ns⟩
  · rw [upd_ne (ne_of ho hc (by intro z; cases z))]; exact ho
  · show upd _ _ _ p = _
    rw [upd_ne (ne_of a.hp hc (by intro z; cases z))]; exact a.hp
  · rw [upd_ne (fun z => a.ns (.inr ⟨l, i, hl, hi, z⟩))]; exact a.su
def KZ (X : Ad) (L s : Nat) (H H' : Hp) : Prop := ∀ a o, ¬ Z X L s a → H a = some o → H' a = some o
section
variable {P : Program} {w : World} {K : PySem.W.Frag} {mg : Str → Option Value} {base : Heap} {f : Addr} {fd : FuncData}
/-! least_sum -/
abbrev lsum (h t : Nat → Nat → Nat → OI) (l i j k : Nat) : OI := lo ((List.range (k - i)).map fun b => oadd (h l i (i + b + 1)) (t (l + 1) (i + b + 1) j))
abbrev NLs : List Str := ["self", "letter", "first", "end", "last", "heads", "tails"]
def spLs (C : Addr) : Sp := fun vs H Q _ => ∃ (r p : Addr) (ps ws : List Int) (X : Ad) (h t : Nat → Nat → Nat → OI) (l i j k : Nat), vs = [.ref r, .int (l : Int), .int (i : Int), .int (j : Int), .int (k : Int)] ∧ PAt C H r p ps ws X h t ∧ ws.length ≤ 20 ∧ l < ps.length ∧ i ≤ k ∧ k ≤ ws.length ∧ j ≤ ws.length ∧ ∀ H', Same H H' → Q (oV (lsum h t l i j k)) H'
theorem scLs : FnScope NLs ["self", "letter", "first", "end", "last"] (defScope sLs) := ⟨rfl, rfl, rfl, by decide +kernel, rfl, by decide +kernel, by decide +kernel⟩
theorem ndLs : (("cut" : Str) :: NLs).Nodup := by decide +kernel
set_option maxHeartbeats 8000000 in
theorem ok_ls {C : Addr} (F : Fun K "least_sum" "Parted.least_sum" sLs f fd) (GL : Fns P w K mg base ["numbers"] "least" spLeast 1) (GA : Fns P w K mg base ["one", "other"] "added" spAdded 1) (rc : PC K C) (mr : mg "range" = none) : FnOk P w K mg base CX0 2 f fd ["self", "letter", "first", "end", "last"] (spLs C) := by
  refine F.ok (k := 1) scLs (fun vs H Q E h => ?_) (fun cdv A outer s H vs Q E hr h => ?_)
  · obtain ⟨r, p, ps, ws, X, h, t, l, i, j, k, rfl, _⟩ := h
    rfl
  obtain ⟨r, p, ps, ws, X, h, t, l, i, j, k, rfl, pa, w20, hl, hik, hk, hj, q⟩ := h
  refine ⟨_, pss_cons (ps_set (i := 5) scLs.nd rfl (Or.inr rfl) (pe_ix ix_list (pe_ix ix_list (pe_fld (pv 0) rfl) (pv 1) (fun _ _ => rfl)) (pv 2) (fun _ _ => rfl)))
    (pss_cons (ps_set (i := 6) scLs.nd rfl (Or.inr rfl) (pe_ix ix_list (pe_fld (pv 0) rfl) (pe_op op_add (pv 1) pe_int) (fun _ _ => rfl)))
    (pss_one (ps_ret (pe_call GL.ok hr (by rfl) GL.m GL.kp GL.b .nil pass0 (pa_cons (pe_compR2 (M := NLs) rfl (CompScope.of (defScope sLs) NLs rfl rfl rfl (by decide +kernel) (by decide +kernel) (by decide +kernel) rfl (by decide +kernel)) ndLs rfl (by rfl) mr (pa_cons (pe_op op_add (pv 2) pe_int) (pa_cons (pe_op op_add (pv 4) pe_int) pa_nil)) (mo_cons (mo_op mo_rI0 mo_var mo_c) (mo_cons (mo_op mo_rI0 mo_var mo_c) mo_nil))
      (fun cl C s0 H0 fp => ⟨pts_nil, pe_call GA.ok hr (by rfl) GA.m GA.kp GA.b .nil pass0 (pa_cons (pe_ix (ixL K) (pv 6) (pv 0) (fun _ _ => rfl)) (pa_cons (pe_ix (ixL K) (pe_ix (ixL K) (pv 7) (pv 0) (fun _ _ => rfl)) (pv 4) (fun _ _ => rfl)) pa_nil))⟩)) pa_nil))))), ?_⟩
  obtain ⟨dx, ho⟩ := pa.ob
  have i1 : i < ws.length + 1 := by omega
  have hT := pa.hd
  have tT := pa.tl
  refine ⟨_, rfl, r, C, dx, _, _, rfl, ho, rc.c, rc.nh, rfl, _, rfl, X.th, _, _, _, rfl, rfl, SqL.of hT.o, at_rng hl, _, rfl, X.bh l, _, _, _, rfl, rfl, SqL.of (hT.b l hl), at_rng i1, ?_⟩
  refine ⟨_, rfl, r, C, dx, _, _, rfl, ho, rc.c, rc.nt, rfl, _, rfl, _, _, rfl, rfl, X.tt, _, _, _, rfl, rfl, SqL.of tT.o, at_rng (k := l + 1) (by omega), ?_⟩
  refine ⟨_, rfl, _, _, rfl, rfl, _, rfl, _, _, rfl, rfl, _, _, rfl, ⟨by omega, by omega, by omega, by omega⟩, fun d hd => ?_⟩
  have en : (((k : Int) + 1) - ((i : Int) + 1)).toNat = k - i := by omega
  dsimp only
  rw [en]
  refine ⟨fun b H' => Same H H' ∧ H' d = some (.lst (((List.range b).map fun b => oadd (h l i (i + b + 1)) (t (l + 1) (i + b + 1) j)).map oV)), ⟨same_newO hd _, upd_same⟩, fun b H' hb hP => ?_, fun H' hP => ?_⟩
  · obtain ⟨s5, hd'⟩ := hP
    have eb : (i : Int) + 1 + (b : Int) = ((i + b + 1 : Nat) : Int) := by push_cast; omega
    rw [eb]
    have hb1 : i + b + 1 < ws.length + 1 := by omega
    refine turn_all ⟨_, rfl, _, rfl, X.ch l i, _, _, _, rfl, rfl, SqL.of (s5 _ _ (hT.c l i hl i1)), at_rng hb1, _, rfl, _, rfl, X.bt (l + 1), _, _, _, rfl, rfl, SqL.of (s5 _ _ (tT.b (l + 1) (by omega))), at_rng hb1, _, rfl, X.ct (l + 1) (i + b + 1), _, _, _, rfl, rfl, SqL.of (s5 _ _ (tT.c (l + 1) (i + b + 1) (by omega) hb1)), at_rng (k := j) (by omega), _, _, rfl, _, hd', ?_, same_upd hd s5, ?_⟩
    · rw [List.length_map, List.length_map, List.length_range]; exact small1000 (by omega)
    · rw [upd_same, List.range_succ, List.map_append, List.map_append]; rfl
  · obtain ⟨s5, hd'⟩ := hP
    exact ⟨d, _, rfl, hd', by rw [List.length_map, List.length_range]; omega, fun H6 s6 => q H6 (s5.trans s6)⟩
/-! bound -/
abbrev NB : List Str := ["self", "first", "end"]
def spBound (C : Addr) : Sp := fun vs H Q _ => ∃ (r p : Addr) (ps ws : List Int) (X : Ad) (h t : Nat → Nat → Nat → OI) (i j : Nat), vs = [.ref r, .int (i : Int), .int (j : Int)] ∧ PAt C H r p ps ws X h t ∧ ws.length ≤ 20 ∧ ps.length ≤ 10 ∧ i < j ∧ j ≤ ws.length ∧ ∀ H', Same H H' → Q (oV (bnd ps.length h t i j)) H'
theorem scBound : FnScope NB ["self", "first", "end"] (defScope sBound) := ⟨rfl, rfl, rfl, by decide +kernel, rfl, by decide +kernel, by decide +kernel⟩
theorem ndB : (("letter" : Str) :: NB).Nodup := by decide +kernel
set_option maxHeartbeats 8000000 in
theorem ok_bound {C : Addr} (F : Fun K "bound" "Parted.bound" sBound f fd) (GL : Fns P w K mg base ["numbers"] "least" spLeast 2) (M : Mt P w K mg base C "least_sum" ["self", "letter", "first", "end", "last"] (spLs C) 2) (rc : PC K C) (ml : mg "len" = none) (mr : mg "range" = none) : FnOk P w K mg base CX0 3 f fd ["self", "first", "end"] (spBound C) := by
  refine F.ok (k := 2) scBound (fun vs H Q E h => ?_) (fun cdv A outer s H vs Q E hr h => ?_)
  · obtain ⟨r, p, ps, ws, X, h, t, i, j, rfl, _⟩ := h
    rfl
  obtain ⟨r, p, ps, ws, X, h, t, i, j, rfl, pa, w20, p10, hij, hj, q⟩ := h
  refine ⟨_, pss_cons (ps_if (pt_cmpR op_eq (pe_op op_sub (pv 2) (pv 1)) pe_int (nomark _)) (pss_one (ps_ret pe_int)) pss_nil)
    (pss_one (ps_ret (pe_call GL.ok hr (by rfl) GL.m GL.kp GL.b .nil pass0 (pa_cons (pe_compR1 (M := NB) rfl (CompScope.of (defScope sBound) NB rfl rfl rfl (by decide +kernel) (by decide +kernel) (by decide +kernel) rfl (by decide +kernel)) ndB rfl (by rfl) mr (pa_cons (pe_callB call_len_seq (by rfl) ml PySem.boot_len (pa_cons (pe_fld (pv 0) rfl) pa_nil)) pa_nil) (mo_cons (mo_len (mo_cons (mo_fld mo_var) mo_nil)) mo_nil)
      (fun cl C s0 H0 fp => ⟨pts_nil, pe_meth (pv 1) rc.c M.m M.ok hr M.b .nil pass0 (pa_cons (pv 0) (pa_cons (pv 2) (pa_cons (pv 3) (pa_cons (pe_op op_sub (pv 3) pe_int) pa_nil))))⟩)) pa_nil)))), ?_⟩
  obtain ⟨dx, ho⟩ := pa.ob
  refine ⟨_, rfl, _, rfl, _, _, rfl, rfl, rfl, _, rfl, ?_⟩
  refine ite2 (fun z => ?_) (fun z => ?_)
  · have z1 : j - i = 1 := by
      have y : V.int ((j : Int) - (i : Int)) = V.int 1 := of_decide_eq_true z
      have := V.int.inj y
      omega
    have := q H (Same.refl _)
    unfold bnd at this
    rw [if_pos z1] at this
    exact this
  · have z1 : ¬ j - i = 1 := fun y => z (decide_eq_true (by show V.int ((j : Int) - (i : Int)) = V.int 1; congr 1; omega))
    unfold bnd at q
    rw [if_neg z1] at q
    refine ⟨_, rfl, r, C, dx, _, _, rfl, ho, rc.c, rc.np, rfl, p, _, rfl, .inr (SqT.of pa.hp), _, rfl, by rw [List.length_map]; omega, by rw [List.length_map]; omega, fun d hd => ?_⟩
    rw [List.length_map, Int.toNat_natCast]
    refine ⟨fun l H' => Same H H' ∧ H' d = some (.lst (((List.range l).map fun l => lsum h t l i j (j - 1)).map oV)), ⟨same_newO hd _, upd_same⟩, fun l H' hl hP => ?_, fun H' hP => ?_⟩
    · obtain ⟨s5, hd'⟩ := hP
      rw [show (0 : Int) + (l : Int) = (l : Int) from Int.zero_add _]
      have ej : (j : Int) - 1 = ((j - 1 : Nat) : Int) := by omega
      refine turn_all ⟨_, rfl, r, dx, _, rfl, s5 _ _ ho, rfl, _, rfl, _, rfl, _, rfl, _, rfl, _, _, rfl, rfl, r, p, ps, ws, X, h, t, l, i, j, j - 1, (by show V.ref r :: ([V.int (l : Int), V.int (i : Int), V.int (j : Int), V.int ((j : Int) - 1)] ++ []) = _; rw [ej]; rfl), pa.same s5, w20, hl, by omega, by omega, hj, fun H6 s6 => ⟨_, s6 _ _ hd', ?_, same_upd hd (s5.trans s6), ?_⟩⟩
      · rw [List.length_map, List.length_map, List.length_range]; exact small1000 (by omega)
      · rw [upd_same, List.range_succ, List.map_append, List.map_append]; rfl
    · obtain ⟨s5, hd'⟩ := hP
      exact ⟨d, _, rfl, hd', by rw [List.length_map, List.length_range]; omega, fun H6 s6 => q H6 (s5.trans s6)⟩
end
end K42
set_option Elab.async false
set_option linter.all false
set_option maxRecDepth 100000
namespace K42
open PySem L2
def Wt (ws : List Int) (i j : Nat) : Int := (ws.take j).sum - (ws.take i).sum
abbrev pl (ps : List Int) (l : Nat) : Int := ps.getD l 0
def Bw (ns : List Int) : Prop := ∀ x ∈ ns, 0 ≤ x ∧ x ≤ B30
theorem sum_bd {ns : List Int} (h : Bw ns) : 0 ≤ ns.sum ∧ ns.sum ≤ ns.length * B30 := by
  induction ns with
  | nil => simp
  | cons a t ih =>
    have h1 := h a (.head _)
    have h2 := ih fun x hx => h x (.tail _ hx)
    rw [List.sum_cons, List.length_cons]
    have e : (((t.length + 1 : Nat) : Int)) * B30 = t.length * B30 + B30 := by push_cast; rw [Int.add_mul]; omega
    rw [e]
    omega
theorem Wt_is {ws : List Int} {i j : Nat} (h : i ≤ j) : Wt ws i j = ((ws.take j).drop i).sum := by
  have e : ws.take j = ws.take i ++ (ws.take j).drop i := by
    have := (List.take_append_drop i (ws.take j)).symm
    rw [List.take_take, Nat.min_eq_left h] at this
    exact this
  unfold Wt
  have e2 : (ws.take j).sum = (ws.take i).sum + ((ws.take j).drop i).sum := by rw [← List.sum_append, ← e]
  omega
theorem Wt_bd {ws : List Int} {i j : Nat} (h : i ≤ j) (b : Bw ws) (l : ws.length ≤ 20) : 0 ≤ Wt ws i j ∧ Wt ws i j ≤ 20 * B30 := by
  rw [Wt_is h]
  have b2 : Bw ((ws.take j).drop i) := fun x hx => b x (List.mem_of_mem_take (List.mem_of_mem_drop hx))
  have := sum_bd b2
  have l2 : ((ws.take j).drop i).length ≤ 20 := by rw [List.length_drop, List.length_take]; omega
  refine ⟨this.1, Int.le_trans this.2 ?_⟩
  exact Int.mul_le_mul_of_nonneg_right (by omega) (by decide)
theorem lsum_congr {h1 h2 t1 t2 : Nat → Nat → Nat → OI} {l i j k : Nat} (eh : ∀ b, i < b → b ≤ k → h1 l i b = h2 l i b) (et : ∀ a, i < a → a ≤ k → t1 (l + 1) a j = t2 (l + 1) a j) : lsum h1 t1 l i j k = lsum h2 t2 l i j k := by
  show lo _ = lo _
  congr 1
  refine List.map_congr_left fun b hb => ?_
  have := List.mem_range.mp hb
  rw [eh _ (by omega) (by omega), et _ (by omega) (by omega)]
/-- what put leaves -/
structure Put (ps ws : List Int) (h t h' t' : Nat → Nat → Nat → OI) (i j : Nat) (fl : OI) (m : Nat) : Prop where
  oh : ∀ l a b, ¬ (a = i ∧ b = j) → h' l a b = h l a b
  ot : ∀ l a b, ¬ (a = i ∧ b = j) → t' l a b = t l a b
  oe : t' ps.length i j = t ps.length i j
  eh : ∀ l, ps.length - m ≤ l → l < ps.length → h' l i j = oadd (some (pl ps l * Wt ws i j)) fl
  et : ∀ l, ps.length - m ≤ l → l < ps.length → t' l i j = lo [lsum h' t' l i j j, t' (l + 1) i j]
theorem Put.step {ps ws : List Int} {h t h' t' : Nat → Nat → Nat → OI} {i j : Nat} {fl : OI} {m l : Nat} (u : Put ps ws h t h' t' i j fl m) (hm : m < ps.length) (el : l = ps.length - 1 - m) :
    Put ps ws h t (up3 h' l i j (oadd (some (pl ps l * Wt ws i j)) fl)) (up3 t' l i j (lo [lsum (up3 h' l i j (oadd (some (pl ps l * Wt ws i j)) fl)) t' l i j j, t' (l + 1) i j])) i j fl (m + 1) := by
  generalize ev : oadd (some (pl ps l * Wt ws i j)) fl = v
  have hT : ∀ l', l' ≠ l → ∀ v2 a b, up3 t' l i j v2 l' a b = t' l' a b := fun l' hne v2 a b => up3_ne fun z => hne z.1
  have hH : ∀ l', l' ≠ l → ∀ a b, up3 h' l i j v l' a b = h' l' a b := fun l' hne a b => up3_ne fun z => hne z.1
  generalize ev2 : lo [lsum (up3 h' l i j v) t' l i j j, t' (l + 1) i j] = v2
  refine ⟨fun l' a b z => ?_, fun l' a b z => ?_, ?_, fun l' h1 h2 => ?_, fun l' h1 h2 => ?_⟩
  · rw [up3_ne fun y => z ⟨y.2.1, y.2.2⟩]; exact u.oh l' a b z
  · rw [up3_ne fun y => z ⟨y.2.1, y.2.2⟩]; exact u.ot l' a b z
  · rw [hT _ (by omega)]; exact u.oe
  · by_cases e : l' = l
    · subst e; rw [up3_at]; exact ev.symm
    · rw [hH l' e]; exact u.eh l' (by omega) h2
  · by_cases e : l' = l
    · subst e
      rw [up3_at, ← ev2, hT (l' + 1) (by omega)]
      congr 2
      exact lsum_congr (fun _ _ _ => rfl) fun a _ _ => (hT (l' + 1) (by omega) _ a j).symm
    · rw [hT l' e, u.et l' (by omega) h2, hT (l' + 1) (by omega)]
      congr 2
      exact lsum_congr (fun b _ _ => (hH l' e i b).symm) fun a _ _ => (hT (l' + 1) (by omega) v2 a j).symm
section
variable {P : Program} {w : World} {K : PySem.W.Frag} {mg : Str → Option Value} {base : Heap} {f : Addr} {fd : FuncData}
abbrev NPt : List Str := ["self", "first", "end", "floor", "weight", "letter", "with_letter"]
def spPut (C : Addr) : Sp := fun vs H Q _ => ∃ (r p : Addr) (ps ws : List Int) (X : Ad) (h t : Nat → Nat → Nat → OI) (i j : Nat) (fl : OI), vs = [.ref r, .int (i : Int), .int (j : Int), oV fl] ∧ PAt C H r p ps ws X h t ∧ ws.length ≤ 20 ∧ 1 ≤ ps.length ∧ ps.length ≤ 10 ∧ Bw ps ∧ Bw ws ∧ i < j ∧ j ≤ ws.length ∧
  ∀ H' h' t', KZ X ps.length (ws.length + 1) H H' → PAt C H' r p ps ws X h' t' → Put ps ws h t h' t' i j fl ps.length → Q .non H'
theorem scPut : FnScope NPt ["self", "first", "end", "floor"] (defScope sPut) := ⟨rfl, rfl, rfl, by decide +kernel, rfl, by decide +kernel, by decide +kernel⟩
theorem at_sums {ws : List Int} {k : Nat} (h : k ≤ ws.length) : atI ((sums ws ws.length).map V.int) (k : Int) = some (.int (ws.take k).sum) := by
  unfold sums
  rw [List.map_map]
  exact at_rng (f := fun i => V.int (ws.take i).sum) (by omega)
theorem at_pl {ps : List Int} {l : Nat} (h : l < ps.length) : atI (ps.map V.int) (l : Int) = some (.int (pl ps l)) := by
  rw [at_int (List.getElem?_eq_getElem h)]
  unfold pl
  rw [List.getD_eq_getElem?_getD, List.getElem?_eq_getElem h]
  rfl
theorem pl_bd {ps : List Int} (b : Bw ps) (l : Nat) : 0 ≤ pl ps l ∧ pl ps l ≤ B30 := by
  unfold pl
  rw [List.getD_eq_getElem?_getD]
  cases e : ps[l]? with
  | none => exact ⟨by show (0 : Int) ≤ 0; omega, by show (0 : Int) ≤ B30; decide⟩
  | some x => exact b x (List.mem_of_getElem? e)
set_option maxHeartbeats 16000000 in
theorem ok_put {C : Addr} (F : Fun K "put" "Parted.put" sPut f fd) (GL : Fns P w K mg base ["numbers"] "least" spLeast 2) (GA : Fns P w K mg base ["one", "other"] "added" spAdded 2) (M : Mt P w K mg base C "least_sum" ["self", "letter", "first", "end", "last"] (spLs C) 2) (rc : PC K C) (ml : mg "len" = none) (mr : mg "range" = none) : FnOk P w K mg base CX0 3 f fd ["self", "first", "end", "floor"] (spPut C) := by
  refine F.ok (k := 2) scPut (fun vs H Q E h => ?_) (fun cdv A outer s H vs Q E hr h => ?_)
  · obtain ⟨r, p, ps, ws, X, h, t, i, j, fl, rfl, _⟩ := h
    rfl
  obtain ⟨r, p, ps, ws, X, h, t, i, j, fl, rfl, pa, w20, p1, p10, bp, bw, hij, hj, q⟩ := h
  refine ⟨_, pss_cons (ps_set (i := 4) scPut.nd rfl (Or.inl rfl) (pe_op op_sub (pe_ix ix_list (pe_fld (pv 0) rfl) (pv 2) (fun _ _ => rfl)) (pe_ix ix_list (pe_fld (pv 0) rfl) (pv 1) (fun _ _ => rfl))))
    (pss_one (ps_for PassesOwn.never rfl (pi_rangeD (by rfl) mr (pa_cons (pe_op op_sub (pe_callB call_len_seq (by rfl) ml PySem.boot_len (pa_cons (pe_fld (pv 0) rfl) pa_nil)) pe_int) (pa_cons (pe_un un_neg pe_int) (pa_cons (pe_un un_neg pe_int) pa_nil)))) (pg_name (i := 5) scPut.nd rfl (Or.inl rfl))
      (pss_cons (ps_asg (pe_call GA.ok hr (by rfl) GA.m GA.kp GA.b .nil pass0 (pa_cons (pe_op op_mulB (pe_ix ix_tup (pe_fld (pv 0) rfl) (pv 5) (fun _ _ => rfl)) (pv 4)) (pa_cons (pv 3) pa_nil))) (pg_sub (pe_ix ix_list (pe_ix ix_list (pe_fld (pv 0) rfl) (pv 5) (fun _ _ => rfl)) (pv 1) (fun _ _ => rfl)) (pv 2) set_list))
      (pss_cons (ps_set (i := 6) scPut.nd rfl (Or.inl rfl) (pe_meth (pv 0) rc.c M.m M.ok hr M.b .nil pass0 (pa_cons (pv 5) (pa_cons (pv 1) (pa_cons (pv 2) (pa_cons (pv 2) pa_nil))))))
      (pss_one (ps_asg (pe_call GL.ok hr (by rfl) GL.m GL.kp GL.b .nil pass0 (pa_cons (pe_lst (pa_cons (pv 6) (pa_cons (pe_ix ix_list (pe_ix ix_list (pe_ix ix_list (pe_fld (pv 0) rfl) (pe_op op_add (pv 5) pe_int) (fun _ _ => rfl)) (pv 1) (fun _ _ => rfl)) (pv 2) (fun _ _ => rfl)) pa_nil))) pa_nil)) (pg_sub (pe_ix ix_list (pe_ix ix_list (pe_fld (pv 0) rfl) (pv 5) (fun _ _ => rfl)) (pv 1) (fun _ _ => rfl)) (pv 2) set_list))))))), ?_⟩
  obtain ⟨dx, ho⟩ := pa.ob
  refine ⟨_, rfl, r, C, dx, _, _, rfl, ho, rc.c, rc.ns, rfl, _, rfl, X.su, _, _, _, rfl, rfl, SqL.of pa.su, at_sums hj, _, rfl, r, C, dx, _, _, rfl, ho, rc.c, rc.ns, rfl, _, rfl, X.su, _, _, _, rfl, rfl, SqL.of pa.su, at_sums (k := i) (by omega), _, _, rfl, rfl, ?_⟩
  have eW : (fun (x y : Int) => V.int (x - y)) (ws.take j).sum (ws.take i).sum = .int (Wt ws i j) := rfl
  dsimp only at eW ⊢
  rw [eW]
  have wb := Wt_bd (Nat.le_of_lt hij) bw w20
  refine ⟨_, rfl, r, C, dx, _, _, rfl, ho, rc.c, rc.np, rfl, p, _, rfl, .inr (SqT.of pa.hp), _, _, rfl, rfl, _, rfl, _, rfl, _, rfl, ⟨by rw [List.length_map]; omega, by rw [List.length_map]; omega⟩, ?_⟩
  rw [List.length_map, show ((ps.length : Int) - 1 + 1).toNat = ps.length by omega]
  have i1 : i < ws.length + 1 := by omega
  have j1 : j < ws.length + 1 := by omega
  refine for_range3 (fun m σ H' => KZ X ps.length (ws.length + 1) H H' ∧ (∃ h' t', PAt C H' r p ps ws X h' t' ∧ Put ps ws h t h' t' i j fl m) ∧ ∃ x5 x6 : Option V, σ = [some (.ref r), some (.int (i : Int)), some (.int (j : Int)), some (oV fl), some (.int (Wt ws i j)), x5, x6])
    ⟨fun _ _ _ e => e, ⟨h, t, pa, fun _ _ _ _ => rfl, fun _ _ _ _ => rfl, rfl, fun l a b => by omega, fun l a b => by omega⟩, _, _, rfl⟩ (fun m σ H1 hm hP => ?_) (fun σ H1 hP => ?_)
  · obtain ⟨k1, ⟨h', t', pa1, u⟩, x5, x6, rfl⟩ := hP
    obtain ⟨l, el⟩ : ∃ l, l = ps.length - 1 - m := ⟨_, rfl⟩
    have ev : (ps.length : Int) - 1 + (m : Int) * (-1) = (l : Int) := by omega
    rw [ev]
    have hl : l < ps.length := by omega
    obtain ⟨dx1, ho1⟩ := pa1.ob
    have pb := pl_bd bp l
    -- the head
    refine ⟨_, rfl, r, C, dx1, _, _, rfl, ho1, rc.c, rc.np, rfl, _, rfl, p, _, _, _, rfl, rfl, SqT.of pa1.hp, at_pl hl, _, rfl, _, _, rfl, rfl, ⟨⟨pb.1, by unfold B30 at *; omega⟩, ⟨wb.1, by unfold B30 at *; omega⟩⟩, _, rfl, some (pl ps l * Wt ws i j), fl, rfl, ?_⟩
    refine ⟨_, rfl, r, C, dx1, _, _, rfl, ho1, rc.c, rc.nh, rfl, _, rfl, X.th, _, _, _, rfl, rfl, SqL.of pa1.hd.o, at_rng hl, _, rfl, X.bh l, _, _, _, rfl, rfl, SqL.of (pa1.hd.b l hl), at_rng i1, _, rfl, X.ch l i, _, _, j, rfl, rfl, pa1.hd.c l i hl i1, (by rw [List.length_map, List.length_range]; exact ixN_nat j1), ?_⟩
    have pa2 := pa1.puth (v := oadd (some (pl ps l * Wt ws i j)) fl) hl i1 j1
    have k2 : KZ X ps.length (ws.length + 1) H (upd H1 (X.ch l i) (.lst (((List.range (ws.length + 1)).map fun k => oV (h' l i k)).set j (oV (oadd (some (pl ps l * Wt ws i j)) fl))))) := fun a o hz e => by
      rw [upd_ne (fun z => hz (.inl ⟨l, i, hl, i1, z⟩))]
      exact k1 a o hz e
    generalize upd H1 (X.ch l i) (.lst (((List.range (ws.length + 1)).map fun k => oV (h' l i k)).set j (oV (oadd (some (pl ps l * Wt ws i j)) fl)))) = H2 at pa2 k2 ⊢
    obtain ⟨dx2, ho2⟩ := pa2.ob
    -- with the letter
    refine ⟨_, rfl, r, dx2, _, rfl, ho2, rfl, _, rfl, _, rfl, _, rfl, _, rfl, r, p, ps, ws, X, _, t', l, i, j, j, rfl, pa2, w20, hl, by omega, hj, hj, fun H3 s3 => ?_⟩
    have pa3 := pa2.same s3
    have k3 : KZ X ps.length (ws.length + 1) H H3 := fun a o hz e => s3 _ _ (k2 a o hz e)
    obtain ⟨dx3, ho3⟩ := pa3.ob
    have l1 : l + 1 < ps.length + 1 := by omega
    refine ⟨_, rfl, _, rfl, r, C, dx3, _, _, rfl, ho3, rc.c, rc.nt, rfl, _, rfl, _, _, rfl, rfl, X.tt, _, _, _, rfl, rfl, SqL.of pa3.tl.o, at_rng l1, _, rfl, X.bt (l + 1), _, _, _, rfl, rfl, SqL.of (pa3.tl.b _ l1), at_rng i1, _, rfl, X.ct (l + 1) i, _, _, _, rfl, rfl, SqL.of (pa3.tl.c _ i l1 i1), at_rng j1, (by show 2 ≤ sizeLine; decide), fun e1 he1 => ?_⟩
    have s4 := same_newO he1 (.lst [oV (lsum (up3 h' l i j (oadd (some (pl ps l * Wt ws i j)) fl)) t' l i j j), oV (t' (l + 1) i j)])
    have g4 : upd H3 e1 (.lst [oV (lsum (up3 h' l i j (oadd (some (pl ps l * Wt ws i j)) fl)) t' l i j j), oV (t' (l + 1) i j)]) e1 = some (.lst (([lsum (up3 h' l i j (oadd (some (pl ps l * Wt ws i j)) fl)) t' l i j j, t' (l + 1) i j] : List OI).map oV)) := upd_same
    generalize upd H3 e1 (.lst [oV (lsum (up3 h' l i j (oadd (some (pl ps l * Wt ws i j)) fl)) t' l i j j), oV (t' (l + 1) i j)]) = H4 at s4 g4 ⊢
    refine ⟨e1, _, rfl, g4, by show 2 ≤ 100; decide, fun H5 s5 => ?_⟩
    have pa5 := pa3.same (s4.trans s5)
    have k5 : KZ X ps.length (ws.length + 1) H H5 := fun a o hz e => (s4.trans s5) _ _ (k3 a o hz e)
    obtain ⟨dx5, ho5⟩ := pa5.ob
    have l2 : l < ps.length + 1 := by omega
    refine ⟨_, rfl, r, C, dx5, _, _, rfl, ho5, rc.c, rc.nt, rfl, _, rfl, X.tt, _, _, _, rfl, rfl, SqL.of pa5.tl.o, at_rng l2, _, rfl, X.bt l, _, _, _, rfl, rfl, SqL.of (pa5.tl.b _ l2), at_rng i1, _, rfl, X.ct l i, _, _, j, rfl, rfl, pa5.tl.c l i l2 i1, (by rw [List.length_map, List.length_range]; exact ixN_nat j1), ?_⟩
    refine ⟨fun a o hz e => ?_, ⟨_, _, pa5.putt p1 l2 i1 j1, u.step hm el⟩, _, _, rfl⟩
    rw [upd_ne (fun z => hz (.inr ⟨l, i, l2, i1, z⟩))]
    exact k5 a o hz e
  · obtain ⟨k1, ⟨h', t', pa1, u⟩, x5, x6, rfl⟩ := hP
    exact q H1 h' t' k1 pa1 u
end
end K42
set_option Elab.async false
set_option linter.all false
set_option maxRecDepth 100000
namespace K42
open PySem L2
def Dn (f e i j : Nat) : Prop := f < i ∨ (i = f ∧ j < e)
/-- the least cost of more than one part -/
abbrev most (ps ws : List Int) (F : Nat → Nat → OI) (i j : Nat) : OI := lo (((P ps.length 0 i j).filter fun r => decide (1 < r.length)).map fun r => cost (pl ps) (Wt ws) F r)
/-- the bound of a stretch -/
def bdO (ps ws : List Int) (F : Nat → Nat → OI) (i j : Nat) : OI := if j - i = 1 then some 0 else most ps ws F i j
theorem most_none {ps ws : List Int} {i j : Nat} : most ps ws (fun _ _ => none) i j = none := by
  refine lo_none.mpr fun k hk => ?_
  obtain ⟨r, hr, e⟩ := List.mem_map.mp hk
  have l := of_decide_eq_true (List.mem_filter.mp hr).2
  cases r with
  | nil => cases l
  | cons q r => cases e
section
variable {P : Program} {w : World} {K : PySem.W.Frag} {mg : Str → Option Value} {base : Heap} {f : Addr} {fd : FuncData}
/-! bound_row, bounds -/
def spBrow (C : Addr) : Sp := fun vs H Q _ => ∃ (r p : Addr) (ps ws : List Int) (X : Ad) (h t : Nat → Nat → Nat → OI) (i : Nat), vs = [.ref r, .int (i : Int)] ∧ PAt C H r p ps ws X h t ∧ ws.length ≤ 20 ∧ ps.length ≤ 10 ∧ i < ws.length ∧
  ∀ (a : Addr) H', Same H H' → H a = none → H' a = some (.lst ((List.range (ws.length - i)).map fun b => oV (bnd ps.length h t i (i + b + 1)))) → Q (.ref a) H'
theorem scBrow : FnScope ["self", "first"] ["self", "first"] (defScope sBrow) := ⟨rfl, rfl, rfl, by decide +kernel, rfl, by decide +kernel, by decide +kernel⟩
theorem ndBr : (("end" : Str) :: ["self", "first"]).Nodup := by decide +kernel
set_option maxHeartbeats 4000000 in
theorem ok_brow {C : Addr} (F : Fun K "bound_row" "Parted.bound_row" sBrow f fd) (M : Mt P w K mg base C "bound" ["self", "first", "end"] (spBound C) 3) (rc : PC K C) (mr : mg "range" = none) : FnOk P w K mg base CX0 4 f fd ["self", "first"] (spBrow C) := by
  refine F.ok (k := 3) scBrow (fun vs H Q E h => ?_) (fun cdv A outer s H vs Q E hr h => ?_)
  · obtain ⟨r, p, ps, ws, X, h, t, i, rfl, _⟩ := h
    rfl
  obtain ⟨r, p, ps, ws, X, h, t, i, rfl, pa, w20, p10, hi, q⟩ := h
  refine ⟨_, pss_one (ps_ret (pe_compR2 (M := ["self", "first"]) rfl (CompScope.of (defScope sBrow) ["self", "first"] rfl rfl rfl (by decide +kernel) (by decide +kernel) (by decide +kernel) rfl (by decide +kernel)) ndBr rfl (by rfl) mr (pa_cons (pe_op op_add (pv 1) pe_int) (pa_cons (pe_op op_add (pe_fld (pv 0) rfl) pe_int) pa_nil)) (mo_cons (mo_op mo_rI0 mo_var mo_c) (mo_cons (mo_op mo_rI0 (mo_fld mo_var) mo_c) mo_nil))
      (fun cl C s0 H0 fp => ⟨pts_nil, pe_meth (pv 1) rc.c M.m M.ok hr M.b .nil pass0 (pa_cons (pv 2) (pa_cons (pv 0) pa_nil))⟩))), ?_⟩
  obtain ⟨dx, ho⟩ := pa.ob
  refine ⟨_, rfl, _, _, rfl, rfl, _, rfl, r, C, dx, _, _, rfl, ho, rc.c, rc.nn, rfl, _, _, rfl, rfl, _, _, rfl, ⟨by omega, by omega, by omega, by omega⟩, fun d hd => ?_⟩
  have en : (((ws.length : Int) + 1) - ((i : Int) + 1)).toNat = ws.length - i := by omega
  dsimp only
  rw [en]
  refine ⟨fun b H' => Same H H' ∧ H' d = some (.lst ((List.range b).map fun b => oV (bnd ps.length h t i (i + b + 1)))), ⟨same_newO hd _, upd_same⟩, fun b H' hb hP => ?_, fun H' hP => ?_⟩
  · obtain ⟨s5, hd'⟩ := hP
    have eb : (i : Int) + 1 + (b : Int) = ((i + b + 1 : Nat) : Int) := by push_cast; omega
    rw [eb]
    refine turn_all ⟨_, rfl, r, dx, _, rfl, s5 _ _ ho, rfl, _, rfl, _, rfl, r, p, ps, ws, X, h, t, i, i + b + 1, rfl, pa.same s5, w20, p10, by omega, by omega, fun H6 s6 => ⟨_, s6 _ _ hd', ?_, same_upd hd (s5.trans s6), ?_⟩⟩
    · rw [List.length_map, List.length_range]; exact small1000 (by omega)
    · rw [upd_same, List.range_succ, List.map_append]; rfl
  · obtain ⟨s5, hd'⟩ := hP
    exact q d H' s5 hd hd'
def spBounds (C : Addr) : Sp := fun vs H Q _ => ∃ (r p : Addr) (ps ws : List Int) (X : Ad) (h t : Nat → Nat → Nat → OI), vs = [.ref r] ∧ PAt C H r p ps ws X h t ∧ ws.length ≤ 20 ∧ ps.length ≤ 10 ∧
  ∀ (d : Addr) (ra : Nat → Addr) H', Same H H' → H d = none → (∀ i, i < ws.length → H (ra i) = none) → (∀ i j, i < ws.length → j < ws.length → ra i = ra j → i = j) → (∀ i, i < ws.length → ra i ≠ d) →
    H' d = some (.lst ((List.range ws.length).map fun i => .ref (ra i))) → (∀ i, i < ws.length → H' (ra i) = some (.lst ((List.range (ws.length - i)).map fun b => oV (bnd ps.length h t i (i + b + 1))))) → Q (.ref d) H'
theorem scBounds : FnScope ["self"] ["self"] (defScope sBounds) := ⟨rfl, rfl, rfl, by decide +kernel, rfl, by decide +kernel, by decide +kernel⟩
theorem ndBs : (("first" : Str) :: ["self"]).Nodup := by decide +kernel
set_option maxHeartbeats 4000000 in
theorem ok_bounds {C : Addr} (F : Fun K "bounds" "Parted.bounds" sBounds f fd) (M : Mt P w K mg base C "bound_row" ["self", "first"] (spBrow C) 4) (rc : PC K C) (mr : mg "range" = none) : FnOk P w K mg base CX0 5 f fd ["self"] (spBounds C) := by
  refine F.ok (k := 4) scBounds (fun vs H Q E h => ?_) (fun cdv A outer s H vs Q E hr h => ?_)
  · obtain ⟨r, p, ps, ws, X, h, t, rfl, _⟩ := h
    rfl
  obtain ⟨r, p, ps, ws, X, h, t, rfl, pa, w20, p10, qq⟩ := h
  refine ⟨_, pss_one (ps_ret (pe_compR1 (M := ["self"]) rfl (CompScope.of (defScope sBounds) ["self"] rfl rfl rfl (by decide +kernel) (by decide +kernel) (by decide +kernel) rfl (by decide +kernel)) ndBs rfl (by rfl) mr (pa_cons (pe_fld (pv 0) rfl) pa_nil) (mo_cons (mo_fld mo_var) mo_nil)
      (fun cl C s0 H0 fp => ⟨pts_nil, pe_meth (pv 1) rc.c M.m M.ok hr M.b .nil pass0 (pa_cons (pv 0) pa_nil)⟩))), ?_⟩
  obtain ⟨dx, ho⟩ := pa.ob
  refine ⟨_, rfl, r, C, dx, _, _, rfl, ho, rc.c, rc.nn, rfl, _, rfl, by omega, by omega, fun d hd => ?_⟩
  rw [Int.toNat_natCast]
  refine ⟨fun i H' => Same H H' ∧ ∃ ra : Nat → Addr, (∀ k, k < i → H (ra k) = none) ∧ (∀ j k, j < i → k < i → ra j = ra k → j = k) ∧ (∀ k, k < i → ra k ≠ d) ∧ H' d = some (.lst ((List.range i).map fun k => .ref (ra k))) ∧ ∀ k, k < i → H' (ra k) = some (.lst ((List.range (ws.length - k)).map fun b => oV (bnd ps.length h t k (k + b + 1)))), ⟨same_newO hd _, fun _ => d, fun k hk => absurd hk (Nat.not_lt_zero _), fun j k hj => absurd hj (Nat.not_lt_zero _), fun k hk => absurd hk (Nat.not_lt_zero _), upd_same, fun k hk => absurd hk (Nat.not_lt_zero _)⟩, fun i H1 hi hP => ?_, fun H1 hP => ?_⟩
  · obtain ⟨s1, ca, c1, c2, c3, c4, c5⟩ := hP
    rw [show (0 : Int) + (i : Int) = (i : Int) from Int.zero_add _]
    refine turn_all ⟨_, rfl, r, dx, _, rfl, s1 _ _ ho, rfl, _, rfl, r, p, ps, ws, X, h, t, i, rfl, pa.same s1, w20, p10, hi, fun a H2 s2 hp2 g2 => ?_⟩
    have pd : a ≠ d := fun z => by rw [z, c4] at hp2; cases hp2
    have pk : ∀ k, k < i → ca k ≠ a := fun k hk z => by rw [← z, c5 k hk] at hp2; cases hp2
    refine ⟨_, s2 _ _ c4, ?_, same_upd hd (s1.trans s2), ext ca i a, fun k hk => ?_, fun j k hj hk e => ?_, fun k hk => ?_, ?_, fun k hk => ?_⟩
    · rw [List.length_map, List.length_range]; exact small1000 (by omega)
    · by_cases z : k = i
      · rw [ext_same z]; exact s1.free hp2
      · rw [ext_ne z]; exact c1 k (by omega)
    · by_cases z1 : j = i <;> by_cases z2 : k = i
      · omega
      · rw [ext_same z1, ext_ne z2] at e
        exact absurd e.symm (pk k (by omega))
      · rw [ext_ne z1, ext_same z2] at e
        exact absurd e (pk j (by omega))
      · rw [ext_ne z1, ext_ne z2] at e
        exact c2 j k (by omega) (by omega) e
    · by_cases z : k = i
      · rw [ext_same z]; exact pd
      · rw [ext_ne z]; exact c3 k (by omega)
    · rw [upd_same, List.range_succ, List.map_append]
      refine congrArg (fun z => some (HO.lst z)) ?_
      congr 1
      · refine List.map_congr_left fun k hk => ?_
        rw [ext_ne (by have := List.mem_range.mp hk; omega)]
      · show [V.ref a] = [V.ref (ext ca i a i)]
        rw [ext_same rfl]
    · by_cases z : k = i
      · rw [ext_same z, upd_ne pd, z]; exact g2
      · rw [ext_ne z, upd_ne (c3 k (by omega))]; exact s2 _ _ (c5 k (by omega))
  · obtain ⟨s1, ca, c1, c2, c3, c4, c5⟩ := hP
    exact qq d ca H1 s1 hd c1 c2 c3 c4 c5
structure Num (ps ws : List Int) : Prop where
  p2 : 2 ≤ ps.length
  p10 : ps.length ≤ 10
  w1 : 1 ≤ ws.length
  w20 : ws.length ≤ 20
  bp : Bw ps
  bw : Bw ws
structure Cl (P : Program) (w : World) (K : PySem.W.Frag) (mg : Str → Option Value) (base : Heap) (C : Addr) where
  rc : PC K C
  g : mg "Parted" = some (.ref C)
  fi : Addr
  di : FuncData
  mkk : Mk K C fi
  oki : FnOk P w K mg base CX0 3 fi di ["self", "prices", "weights"] (spPInit C)
  bi : Binds K di ["self", "prices", "weights"] []
end
end K42
set_option Elab.async false
set_option linter.all false
set_option maxRecDepth 100000
namespace K42
open PySem L2
section
variable {P : Program} {w : World} {K : PySem.W.Frag} {mg : Str → Option Value} {base : Heap} {f : Addr} {fd : FuncData}
/-! _law_folded: some ints -/
abbrev NF : List Str := ["script", "many", "parts", "k", "at", "stir"]
def spFolded (K : PySem.W.Frag) : Sp := fun vs H Q _ => ∃ (a : Addr) (ns : List Int) (m : Nat), vs = [.ref a, .int (m : Int)] ∧ SqL K H a (ns.map V.int) ∧ ns.length ≤ 63 ∧ 1 ≤ m ∧ m ≤ 50 ∧ ∀ (p : Addr) (xs : List Int) H', Same H H' → H' p = some (.lst (xs.map V.int)) → xs.length = m → Q (.ref p) H'
theorem scFolded : FnScope NF ["script", "many"] (defScope sFolded) := ⟨rfl, rfl, rfl, by decide +kernel, rfl, by decide +kernel, by decide +kernel⟩
theorem reps0 (n : Nat) (x : Int) : (List.replicate n [V.int x]).flatten = (List.replicate n x).map V.int := by
  induction n with
  | zero => rfl
  | succ n ih => rw [List.replicate_succ, List.flatten_cons, ih, List.replicate_succ]; rfl
set_option maxHeartbeats 8000000 in
theorem ok_folded (F : Fun K "_law_folded" "_law_folded" sFolded f fd) (ml : mg "len" = none) (mr : mg "range" = none) (ms : mg "sum" = none) : FnOk P w K mg base CX0 1 f fd ["script", "many"] (spFolded K) := by
  refine F.ok (k := 0) scFolded (fun vs H Q E h => ?_) (fun cdv A outer s H vs Q E hr h => ?_)
  · obtain ⟨a, ns, m, rfl, _⟩ := h
    rfl
  obtain ⟨a, ns, m, rfl, hS, h63, m1, m50, q⟩ := h
  refine ⟨_, pss_cons (ps_set (i := 2) scFolded.nd rfl (Or.inl rfl) (pe_op op_rep (pe_lst (pa_cons pe_int pa_nil)) (pv 1)))
    (pss_cons (ps_for PassesOwn.never rfl (pi_range1 (by rfl) mr (pa_cons (pe_callB call_len_seq (by rfl) ml PySem.boot_len (pa_cons (pv 0) pa_nil)) pa_nil)) (pg_name (i := 3) scFolded.nd rfl (Or.inl rfl))
      (pss_cons (ps_set (i := 4) scFolded.nd rfl (Or.inl rfl) (pe_op op_mod (pv 3) (pv 1)))
      (pss_one (ps_asg (pe_op op_mod (pe_op op_add (pe_op op_mul (pe_ix ix_list (pv 2) (pv 4) (fun _ _ => rfl)) pe_int) (pe_ix ix_list (pv 0) (pv 3) (fun _ _ => rfl))) (pe_op op_add (pe_op op_pow pe_int pe_int) pe_int)) (pg_sub (pv 2) (pv 4) set_list)))))
    (pss_cons (ps_set (i := 5) scFolded.nd rfl (Or.inl rfl) (pe_op op_mod (pe_callB (call_sum rfl) (by rfl) ms b_sum (pa_cons (pv 2) pa_nil)) pe_int))
    (pss_cons (ps_for PassesOwn.never rfl (pi_range1 (by rfl) mr (pa_cons (pe_op op_mul (pv 1) (pe_op op_mod (pe_op op_fdiv (pe_ix ix_list (pv 2) pe_int (fun _ _ => rfl)) pe_int) pe_int)) pa_nil)) (pg_name (i := 3) scFolded.nd rfl (Or.inl rfl))
      (pss_cons (ps_set (i := 5) scFolded.nd rfl (Or.inl rfl) (pe_op op_mod (pe_op op_add (pe_op op_add (pe_op op_mul (pv 5) (pv 5)) (pe_op op_mul pe_int (pv 3))) pe_int) pe_int))
      (pss_one (ps_asg (pe_op op_mod (pe_op op_add (pe_ix ix_list (pv 2) (pv 3) (fun _ _ => rfl)) (pe_op op_mul (pv 5) (pv 5))) (pe_op op_add (pe_op op_pow pe_int pe_int) pe_int)) (pg_sub (pv 2) (pv 3) set_list)))))
    (pss_one (ps_ret (pv 2)))))), ?_⟩
  refine ⟨(by show 1 ≤ sizeLine; decide), fun l0 hl0 => ?_⟩
  have s1 := same_newO hl0 (.lst [.int 0])
  have g1 : upd H l0 (.lst [.int 0]) l0 = some (.lst [.int 0]) := upd_same
  generalize upd H l0 (.lst [.int 0]) = H1 at s1 g1 ⊢
  refine ⟨_, rfl, l0, (m : Int), _, rfl, rfl, g1, by omega, by omega, by show 1 * _ ≤ _; exact Nat.le_of_lt (small1000 (by omega)), fun l hl => ?_⟩
  rw [reps0, Int.toNat_natCast]
  have s2 := same_newO hl (.lst ((List.replicate m 0).map V.int))
  have g2 : upd H1 l (.lst ((List.replicate m 0).map V.int)) l = some (.lst ((List.replicate m (0 : Int)).map V.int)) := upd_same
  generalize upd H1 l (.lst ((List.replicate m 0).map V.int)) = H2 at s2 g2 ⊢
  have fl : H l = none := s1.free hl
  have s02 := s1.trans s2
  refine ⟨_, rfl, a, _, rfl, .inl (s02.seq hS), _, rfl, by omega, by rw [List.length_map]; omega, ?_⟩
  refine for_range (fun i σ H' => Same H H' ∧ (∃ xs : List Int, H' l = some (.lst (xs.map V.int)) ∧ xs.length = m) ∧ ∃ x3 x4 : Option V, σ = [some (.ref a), some (.int (m : Int)), some (.ref l), x3, x4, none])
    ⟨s02, ⟨_, g2, List.length_replicate⟩, _, _, rfl⟩ (fun i σ H3 hi hP => ?_) (fun σ H3 hP => ?_)
  · obtain ⟨s3, ⟨xs, g3, lx⟩, x3, x4, rfl⟩ := hP
    rw [show (0 : Int) + (i : Int) = (i : Int) from Int.zero_add _]
    have hi' : i < ns.length := by
      have : (ns.map V.int).length = ns.length := List.length_map ..
      omega
    refine ⟨_, rfl, _, rfl, _, _, rfl, rfl, (by show (0 : Int) < _; omega), ?_⟩
    have em : (fun (x y : Int) => V.int (x % y)) (i : Int) (m : Int) = .int ((i % m : Nat) : Int) := rfl
    dsimp only at em ⊢
    rw [em]
    have hm : i % m < xs.length := by rw [lx]; exact Nat.mod_lt _ (by omega)
    refine ⟨_, rfl, _, rfl, l, _, _, _, rfl, rfl, SqL.of g3, at_int (List.getElem?_eq_getElem hm), _, _, rfl, rfl, .inr ⟨by decide, by decide⟩, _, rfl, _, rfl, a, _, _, _, rfl, rfl, s3.seq hS, at_int (List.getElem?_eq_getElem hi'), _, _, rfl, rfl, _, _, rfl, rfl, ⟨by decide, by decide, by decide⟩, _, _, rfl, rfl, _, _, rfl, rfl, (by show (0 : Int) < _; decide), ?_⟩
    refine ⟨_, rfl, _, rfl, l, _, _, i % m, rfl, rfl, g3, (by rw [List.length_map]; exact ixN_nat hm), same_upd fl s3, ⟨xs.set (i % m) _, by rw [upd_same, List.map_set], by rw [List.length_set]; exact lx⟩, _, _, rfl⟩
  · obtain ⟨s3, ⟨xs, g3, lx⟩, x3, x4, rfl⟩ := hP
    refine ⟨_, rfl, l, xs, rfl, g3, _, _, rfl, rfl, (by show (0 : Int) < _; decide), ?_⟩
    have st0 : 0 ≤ xs.sum % 2305843009213693951 := by omega
    have st1 : xs.sum % 2305843009213693951 < 2305843009213693951 := by omega
    dsimp only
    generalize xs.sum % 2305843009213693951 = st at st0 st1 ⊢
    have h0 : xs[0]? = some (xs[0]'(by omega)) := List.getElem?_eq_getElem _
    generalize xs[0]'(by omega) = x0 at h0
    refine ⟨_, rfl, _, rfl, l, _, _, _, rfl, rfl, SqL.of g3, at_int (k := 0) h0, _, _, rfl, rfl, ⟨by decide, by decide⟩, _, _, rfl, rfl, (by show (0 : Int) < _; decide), _, _, rfl, rfl, .inl ⟨by omega, by omega⟩, ?_⟩
    have b0 : 0 ≤ x0 / 3 % 2 := by omega
    have b1 : x0 / 3 % 2 ≤ 1 := by omega
    dsimp only
    generalize x0 / 3 % 2 = bit at b0 b1 ⊢
    have c0 : 0 ≤ (m : Int) * bit := Int.mul_nonneg (by omega) b0
    have c1 : (m : Int) * bit ≤ m := by
      have := Int.mul_le_mul_of_nonneg_left b1 (show (0 : Int) ≤ m by omega)
      omega
    refine ⟨_, rfl, by omega, by omega, ?_⟩
    rw [show ([some (V.ref a), some (V.int (m : Int)), some (V.ref l), x3, x4, none] : St).set 5 (some (V.int st)) = [some (V.ref a), some (V.int (m : Int)), some (V.ref l), x3, x4, some (V.int st)] from rfl]
    refine for_range (lo := 0) (n := ((m : Int) * bit).toNat) (D := { nx := tRet (tVar 2) { nx := fun x H' => Q V.non H', rt := Q }, rt := Q }) (fun i σ H' => Same H H' ∧ (∃ xs : List Int, H' l = some (.lst (xs.map V.int)) ∧ xs.length = m) ∧ ∃ (x3 : Option V) (st : Int), 0 ≤ st ∧ st < 2305843009213693951 ∧ σ = [some (.ref a), some (.int (m : Int)), some (.ref l), x3, x4, some (.int st)])
      ⟨s3, ⟨xs, g3, lx⟩, x3, st, st0, st1, rfl⟩ (fun i σ H4 hi hP => ?_) (fun σ H4 hP => ?_)
    · obtain ⟨s4, ⟨ys, g4, ly⟩, x3', st', st0', st1', rfl⟩ := hP
      rw [show (0 : Int) + (i : Int) = (i : Int) from Int.zero_add _]
      have hi' : i < ys.length := by omega
      refine ⟨_, rfl, _, rfl, _, _, rfl, rfl, .inl ⟨by omega, by omega⟩, _, rfl, _, _, rfl, rfl, .inl ⟨by decide, by decide⟩, _, _, rfl, rfl, _, _, rfl, rfl, _, _, rfl, rfl, (by show (0 : Int) < _; decide), ?_⟩
      dsimp only
      have d0 : 0 ≤ (st' * st' + 7919 * (i : Int) + 31) % 2305843009213693951 := by omega
      have d1 : (st' * st' + 7919 * (i : Int) + 31) % 2305843009213693951 < 2305843009213693951 := by omega
      generalize (st' * st' + 7919 * (i : Int) + 31) % 2305843009213693951 = s' at d0 d1 ⊢
      refine ⟨_, rfl, _, rfl, l, _, _, _, rfl, rfl, SqL.of g4, at_int (List.getElem?_eq_getElem hi'), _, rfl, _, rfl, _, _, rfl, rfl, .inl ⟨by omega, by omega⟩, _, _, rfl, rfl, _, _, rfl, rfl, ⟨by decide, by decide, by decide⟩, _, _, rfl, rfl, _, _, rfl, rfl, (by show (0 : Int) < _; decide), ?_⟩
      refine ⟨_, rfl, _, rfl, l, _, _, i, rfl, rfl, g4, (by rw [List.length_map]; exact ixN_nat hi'), same_upd fl s4, ⟨ys.set i _, by rw [upd_same, List.map_set], by rw [List.length_set]; exact ly⟩, _, s', d0, d1, rfl⟩
    · obtain ⟨s4, ⟨ys, g4, ly⟩, x3', st', st0', st1', rfl⟩ := hP
      exact ⟨_, rfl, q l ys H4 s4 g4 ly⟩
/-! _law_number, _law_numbers -/
def spNumber : Sp := fun vs H Q _ => ∃ c m : Int, vs = [.int c, .int m] ∧ ∀ v, 1 ≤ v → v ≤ B30 → Q (.int v) H
theorem scNumber : FnScope ["cell", "manner"] ["cell", "manner"] (defScope sNumber) := ⟨rfl, rfl, rfl, by decide +kernel, rfl, by decide +kernel, by decide +kernel⟩
theorem ok_number (F : Fun K "_law_number" "_law_number" sNumber f fd) : FnOk P w K mg base CX0 1 f fd ["cell", "manner"] spNumber := by
  refine F.ok (k := 0) scNumber (fun vs H Q E h => ?_) (fun cdv A outer s H vs Q E hr h => ?_)
  · obtain ⟨c, m, rfl, _⟩ := h
    rfl
  obtain ⟨c, m, rfl, q⟩ := h
  refine ⟨_, pss_cons (ps_if (pt_cmpR op_eq (pv 1) pe_int (nomark _)) (pss_one (ps_ret (pe_op op_add pe_int (pe_op op_mod (pv 0) pe_int)))) pss_nil)
    (pss_cons (ps_if (pt_cmpR op_eq (pv 1) pe_int (nomark _)) (pss_one (ps_ret (pe_op op_add pe_int (pe_op op_mod (pv 0) pe_int)))) pss_nil)
    (pss_cons (ps_if (pt_cmpR op_eq (pv 1) pe_int (nomark _)) (pss_one (ps_ret (pe_op op_add pe_int (pe_op op_mod (pv 0) (pe_op op_pow pe_int pe_int))))) pss_nil)
    (pss_one (ps_ret (pe_op op_sub (pe_op op_pow pe_int pe_int) (pe_op op_mod (pv 0) pe_int)))))), ?_⟩
  refine ⟨_, rfl, rfl, _, rfl, ?_⟩
  refine ite2 (fun _ => ⟨_, rfl, _, _, rfl, rfl, (by show (0 : Int) < _; decide), _, _, rfl, rfl, q _ (by omega) (by unfold B30; omega)⟩) (fun _ => ?_)
  refine ⟨_, rfl, rfl, _, rfl, ?_⟩
  refine ite2 (fun _ => ⟨_, rfl, _, _, rfl, rfl, (by show (0 : Int) < _; decide), _, _, rfl, rfl, q _ (by omega) (by unfold B30; omega)⟩) (fun _ => ?_)
  refine ⟨_, rfl, rfl, _, rfl, ?_⟩
  refine ite2 (fun _ => ⟨_, rfl, _, _, rfl, rfl, ⟨by decide, by decide, by decide⟩, _, _, rfl, rfl, (by show (0 : Int) < _; decide), _, _, rfl, rfl, q _ (by rw [e30]; unfold B30; omega) (by rw [e30]; unfold B30; omega)⟩) (fun _ => ?_)
  exact ⟨_, _, rfl, rfl, ⟨by decide, by decide, by decide⟩, _, rfl, _, _, rfl, rfl, (by show (0 : Int) < _; decide), _, _, rfl, rfl, q _ (by rw [e30]; unfold B30; omega) (by rw [e30]; unfold B30; omega)⟩
abbrev NN : List Str := ["parts", "at", "many", "turn"]
def spNumbers : Sp := fun vs H Q _ => ∃ (p : Addr) (xs : List Int) (a m : Nat) (tn : Int), vs = [.ref p, .int (a : Int), .int (m : Int), .int tn] ∧ H p = some (.lst (xs.map V.int)) ∧ a + m ≤ xs.length ∧ 1 ≤ xs.length ∧ m ≤ 50 ∧ 0 < tn ∧ tn < 1073741824 ∧ ∀ (q : Addr) ns H', Same H H' → TW H' q ns → ns.length = m → Bw ns → Q (.ref q) H'
theorem scNumbers : FnScope NN ["parts", "at", "many", "turn"] (defScope sNumbers) := ⟨rfl, rfl, rfl, by decide +kernel, rfl, by decide +kernel, by decide +kernel⟩
theorem ndN : (("k" : Str) :: NN).Nodup := by decide +kernel
theorem ok_numbers (F : Fun K "_law_numbers" "_law_numbers" sNumbers f fd) (GN : Fns P w K mg base ["cell", "manner"] "_law_number" spNumber 1) (mr : mg "range" = none) (mt : mg "tuple" = none) : FnOk P w K mg base CX0 2 f fd ["parts", "at", "many", "turn"] spNumbers := by
  refine F.ok (k := 1) scNumbers (fun vs H Q E h => ?_) (fun cdv A outer s H vs Q E hr h => ?_)
  · obtain ⟨p, xs, a, m, tn, rfl, _⟩ := h
    rfl
  obtain ⟨p, xs, a, m, tn, rfl, hp, ham, lx, m50, t0, t1, q⟩ := h
  refine ⟨_, pss_one (ps_ret (pe_callTy call_tuple_of (by rfl) mt b_tuple (pa_cons (pe_compR1 (M := NN) rfl (CompScope.of (defScope sNumbers) NN rfl rfl rfl (by decide +kernel) (by decide +kernel) (by decide +kernel) rfl (by decide +kernel)) ndN rfl (by rfl) mr (pa_cons (pv 2) pa_nil) (mo_cons mo_var mo_nil)
      (fun cl C s0 H0 fp => ⟨pts_nil, pe_call GN.ok hr (by rfl) GN.m GN.kp GN.b .nil pass0 (pa_cons (pe_ix (ixL K) (pv 1) (pe_op op_add (pv 2) (pv 0)) (fun _ _ => rfl)) (pa_cons (pe_op op_mod (pe_op op_fdiv (pe_ix (ixL K) (pv 1) pe_int (fun _ _ => rfl)) (pv 4)) pe_int) pa_nil))⟩)) pa_nil))), ?_⟩
  refine ⟨_, rfl, (m : Int), rfl, by omega, by omega, fun d hd => ?_⟩
  rw [Int.toNat_natCast]
  have h0 : xs[0]? = some (xs[0]'(by omega)) := List.getElem?_eq_getElem _
  generalize xs[0]'(by omega) = x0 at h0
  refine ⟨fun i H' => Same H H' ∧ ∃ ns : List Int, H' d = some (.lst (ns.map V.int)) ∧ ns.length = i ∧ Bw ns, ⟨same_newO hd _, [], upd_same, rfl, fun x hx => by cases hx⟩, fun i H' hi hP => ?_, fun H' hP => ?_⟩
  · obtain ⟨s1, ns, hd', ln, bn⟩ := hP
    rw [show (0 : Int) + (i : Int) = (i : Int) from Int.zero_add _]
    have ea : (fun (x y : Int) => V.int (x + y)) (a : Int) (i : Int) = .int ((a + i : Nat) : Int) := rfl
    have hai : a + i < xs.length := by omega
    refine turn_all ⟨_, rfl, _, rfl, _, rfl, _, _, rfl, rfl, p, _, _, _, rfl, ea, SqL.of (s1 _ _ hp), at_int (List.getElem?_eq_getElem hai), _, rfl, p, _, _, _, rfl, rfl, SqL.of (s1 _ _ hp), at_int (k := 0) h0, _, rfl, _, _, rfl, rfl, ⟨t0, t1⟩, _, _, rfl, rfl, (by show (0 : Int) < _; decide), _, _, rfl, fun v v1 v2 => ⟨_, hd', ?_, same_upd hd s1, ns ++ [v], ?_, by rw [List.length_append, ln]; rfl, fun x hx => ?_⟩⟩
    · rw [List.length_map]; exact small1000 (by omega)
    · rw [upd_same, List.map_append]; rfl
    · rcases List.mem_append.mp hx with z | z
      · exact bn x z
      · rw [List.mem_singleton.mp z]; exact ⟨by omega, v2⟩
  · obtain ⟨s1, ns, hd', ln, bn⟩ := hP
    refine ⟨d, _, rfl, .inl ⟨SqL.of hd', fun c hc => ?_⟩⟩
    exact q c ns _ (s1.trans (same_newO hc _)) upd_same ln bn
/-! _law_whole -/
def spWhole : Sp := fun vs H Q _ => ∃ i, vs = [.int i] ∧ Q (.bl true) H
theorem scWhole : FnScope ["found"] ["found"] (defScope sWhole) := ⟨rfl, rfl, rfl, by decide +kernel, rfl, by decide +kernel, by decide +kernel⟩
theorem ok_whole (F : Fun K "_law_whole" "_law_whole" sWhole f fd) (mi : mg "isinstance" = none) (m1 : mg "int" = none) (m2 : mg "bool" = none) : FnOk P w K mg base CX0 1 f fd ["found"] spWhole := by
  refine F.ok (k := 0) scWhole (fun vs H Q E h => ?_) (fun cdv A outer s H vs Q E hr h => ?_)
  · obtain ⟨i, rfl, _⟩ := h
    rfl
  obtain ⟨i, rfl, q⟩ := h
  refine ⟨_, pss_one (ps_ret (pe_and (pe_callB call_isi (by rfl) mi b_isi (pa_cons (pv 0) (pa_cons (pe_bltn (v := .ty "int") (by rfl) m1 b_int rfl) pa_nil)))
    (pe_one (pe_not (pe_callB call_isi (by rfl) mi b_isi (pa_cons (pv 0) (pa_cons (pe_bltn (v := .ty "bool") (by rfl) m2 b_bool rfl) pa_nil))))))), ?_⟩
  exact ⟨_, rfl, _, _, _, _, rfl, .int i, kit_int_int _, _, rfl, iteT ⟨_, rfl, _, _, _, _, rfl, .int i, kit_int_bool _, _, rfl, q⟩⟩
end
end K42
set_option Elab.async false
set_option linter.all false
set_option maxRecDepth 100000
namespace K42
open PySem L2
/-! ### the law's partings -/
def TrAt (H : Hp) (y : V) (q : Nat × Nat × Nat) : Prop := ∃ t, y = .ref t ∧ H t = some (.tup [.int (q.1 : Int), .int (q.2.1 : Int), .int (q.2.2 : Int)])
theorem TrAt.same {H H' : Hp} {y : V} {q : Nat × Nat × Nat} (s : Same H H') (h : TrAt H y q) : TrAt H' y q := by
  obtain ⟨t, rfl, e⟩ := h
  exact ⟨t, rfl, s _ _ e⟩
theorem TrAt.upd {H : Hp} {y : V} {q : Nat × Nat × Nat} {l : Addr} {zs : List V} {o : HO} (hl : H l = some (.lst zs)) (h : TrAt H y q) : TrAt (L2.upd H l o) y q := by
  obtain ⟨t, rfl, e⟩ := h
  exact ⟨t, rfl, by rw [upd_ne (ne_of e hl (by intro z; cases z))]; exact e⟩
/-- a parting, its list new since H0 and not at lf -/
def PaL (H0 H : Hp) (lf : Addr) (x : V) (r : Pa) : Prop := ∃ b ys, x = .ref b ∧ H0 b = none ∧ b ≠ lf ∧ H b = some (.lst ys) ∧ Paired (TrAt H) ys r
theorem PaL.same {H0 H H' : Hp} {lf : Addr} {x : V} {r : Pa} (s : Same H H') (h : PaL H0 H lf x r) : PaL H0 H' lf x r := by
  obtain ⟨b, ys, rfl, h1, h2, h3, h4⟩ := h
  exact ⟨b, ys, rfl, h1, h2, s _ _ h3, Paired.mapP h4 fun _ _ q => q.same s⟩
theorem PaL.upd {H0 H : Hp} {lf : Addr} {x : V} {r : Pa} {zs us : List V} (hl : H lf = some (.lst zs)) (h : PaL H0 H lf x r) : PaL H0 (L2.upd H lf (.lst us)) lf x r := by
  obtain ⟨b, ys, rfl, h1, h2, h3, h4⟩ := h
  exact ⟨b, ys, rfl, h1, h2, by rw [upd_ne h2]; exact h3, Paired.mapP h4 fun _ _ q => q.upd hl⟩
def blk (m l i j : Nat) : List Pa := (List.range (j - i)).flatMap fun b => (P m (l + 1) (i + b + 1) j).map fun r => (i, i + b + 1, l) :: r
theorem P_blk {i j : Nat} (h : i ≠ j) : ∀ m l, P m l i j = (List.range m).flatMap fun a => blk (m - 1 - a) (l + a) i j
  | 0, l => by unfold P; rw [if_neg h]; rfl
  | m + 1, l => by
    rw [P_succ, if_neg h, P_blk h m (l + 1), List.range_succ_eq_map, List.flatMap_cons, List.flatMap_map]
    congr 1
    refine congrArg (fun f => (List.range m).flatMap f) (funext fun a => ?_)
    show _ = blk (m + 1 - 1 - (a + 1)) (l + (a + 1)) i j
    rw [show m + 1 - 1 - (a + 1) = m - 1 - a by omega, show l + (a + 1) = l + 1 + a by omega]
theorem P_len : ∀ m l i j, ∀ r ∈ P m l i j, r.length ≤ m
  | 0, l, i, j, r, hr => by
    unfold P at hr
    split at hr
    · rw [List.mem_singleton.mp hr]; exact Nat.le_refl _
    · cases hr
  | m + 1, l, i, j, r, hr => by
    rw [P_succ] at hr
    split at hr
    · rw [List.mem_singleton.mp hr]; exact Nat.zero_le _
    · rcases List.mem_append.mp hr with z | z
      · obtain ⟨b, hb, z⟩ := List.mem_flatMap.mp z
        obtain ⟨r', hr', rfl⟩ := List.mem_map.mp z
        have := P_len m (l + 1) (i + b + 1) j r' hr'
        rw [List.length_cons]
        omega
      · have := P_len m (l + 1) i j r z
        omega
theorem flat_len {α : Type} {f : Nat → List α} {a x : Nat} : ∀ m, a < m → x ≤ (f a).length → ((List.range a).flatMap f).length + x ≤ ((List.range m).flatMap f).length
  | 0, h, _ => by omega
  | m + 1, h, hx => by
    rw [List.range_succ, List.flatMap_append, List.length_append]
    by_cases e : a = m
    · subst e
      simp
      exact hx
    · have := flat_len m (by omega) hx
      omega
theorem flat_succ {α : Type} {f : Nat → List α} {a : Nat} : (List.range (a + 1)).flatMap f = (List.range a).flatMap f ++ f a := by
  rw [List.range_succ, List.flatMap_append]
  simp
section
variable {P' : Program} {w : World} {K : PySem.W.Frag} {mg : Str → Option Value} {base : Heap} {f : Addr} {fd : FuncData}
abbrev NG : List Str := ["first", "end", "low", "letters", "found", "letter", "cut", "rest"]
def spPt (n : Nat) : Sp := fun vs H Q _ => ∃ i j l L m : Nat, vs = [.int (i : Int), .int (j : Int), .int (l : Int), .int (L : Int)] ∧ l + m = L ∧ m ≤ n ∧ i ≤ j ∧ j ≤ 6 ∧ L ≤ 5 ∧
  ∀ (p : Addr) H' xs, Same H H' → H p = none → H' p = some (.lst xs) → (∀ lf, H lf ≠ none → Paired (PaL H H' lf) xs (P m l i j)) → Q (.ref p) H'
theorem scPt : FnScope NG ["first", "end", "low", "letters"] (defScope sPartings) := ⟨rfl, rfl, rfl, by decide +kernel, rfl, by decide +kernel, by decide +kernel⟩
theorem small9' {n : Nat} (h : n ≤ 9001) : n < sizeLine := Nat.lt_of_le_of_lt h (by decide)
theorem ps_nv {X : Cx} {st : Stmt} : PS X st (fun _ _ _ => False) := fun _ _ _ _ _ _ h => h.elim
theorem P_small {m l i j : Nat} (hm : m ≤ 5) (hij : i ≤ j) (hj : j ≤ 6) : (P m l i j).length ≤ 2048 := Nat.le_trans (P_count m l i j hij) (by
  have := Nat.pow_le_pow_right (n := 2) (by decide) (show m + (j - i) ≤ 11 by omega)
  exact this)
set_option maxHeartbeats 16000000 in
theorem ok_pt (F : Fun K "_law_partings" "_law_partings" sPartings f fd) (gm : mg "_law_partings" = some (.ref f)) (kp : PySem.W.keepIn K (.ref f) = true) (bb : Binds K fd ["first", "end", "low", "letters"] []) (mr : mg "range" = none) : ∀ n, FnOk P' w K mg base CX0 (n + 1) f fd ["first", "end", "low", "letters"] (spPt n) := by
  intro n
  induction n with
  | zero =>
    refine F.ok (k := 0) scPt (fun vs H Q E h => ?_) (fun cdv A outer s H vs Q E hr h => ?_)
    · obtain ⟨i, j, l, L, m, rfl, _⟩ := h
      rfl
    obtain ⟨i, j, l, L, m, rfl, elm, hm, hij, hj, hL, q⟩ := h
    have m0 : m = 0 := by omega
    subst m0
    refine ⟨_, pss_cons (ps_if (pt_cmpR op_eq (pv 0) (pv 1) (nomark _)) (pss_one (ps_ret (pe_lst (pa_cons (pe_lst pa_nil) pa_nil)))) pss_nil)
      (pss_cons (ps_set (i := 4) scPt.nd rfl (Or.inl rfl) (pe_lst pa_nil))
      (pss_cons (ps_for PassesOwn.never rfl (pi_range2 (by rfl) mr (pa_cons (pv 2) (pa_cons (pv 3) pa_nil))) (pg_name (i := 5) scPt.nd rfl (Or.inl rfl)) (pss_one ps_nv))
      (pss_one (ps_ret (pv 4))))), ?_⟩
    refine ⟨_, rfl, _, rfl, rfl, _, rfl, ?_⟩
    refine ite2 (fun z => ?_) (fun z => ?_)
    · have z1 : i = j := by have := V.int.inj (of_decide_eq_true z); omega
      subst z1
      refine ⟨(by show 0 ≤ sizeLine; decide), fun e1 he1 => ?_⟩
      have s1 := same_newO he1 (.lst [])
      have g1 : upd H e1 (.lst []) e1 = some (.lst []) := upd_same
      generalize upd H e1 (.lst []) = H1 at s1 g1 ⊢
      refine ⟨(by show 1 ≤ sizeLine; decide), fun e2 he2 => ?_⟩
      have s2 := same_newO he2 (.lst [.ref e1])
      refine q e2 _ [.ref e1] (s1.trans s2) (s1.free he2) upd_same fun lf hlf => ?_
      rw [P_same]
      exact .cons ⟨e1, [], rfl, he1, fun y => hlf (by rw [← y]; exact he1), s2 _ _ g1, .nil⟩ .nil
    · have z1 : i ≠ j := fun y => z (decide_eq_true (by rw [y]))
      refine ⟨(by show 0 ≤ sizeLine; decide), fun lf hlf => ?_⟩
      have s1 := same_newO hlf (.lst [])
      have g1 : upd H lf (.lst []) lf = some (.lst []) := upd_same
      generalize upd H lf (.lst []) = H1 at s1 g1 ⊢
      refine ⟨_, rfl, _, rfl, _, _, rfl, ⟨by omega, by omega, by omega, by omega⟩, ?_⟩
      have e0 : ((L : Int) - (l : Int)).toNat = 0 := by omega
      rw [e0]
      refine for_range (g := gName 5) (tb := fun _ _ _ => False) (D := { nx := tRet (tVar 4) { nx := fun x H' => Q V.non H', rt := Q }, rt := Q }) (fun a σ H' => H' = H1 ∧ σ = [some (.int (i : Int)), some (.int (j : Int)), some (.int (l : Int)), some (.int (L : Int)), some (.ref lf), none, none, none]) ⟨rfl, rfl⟩ (fun a σ H2 ha _ => absurd ha (Nat.not_lt_zero _)) (fun σ H2 hP => ?_)
      obtain ⟨rfl, rfl⟩ := hP
      refine ⟨_, rfl, q lf H2 [] s1 hlf g1 fun _ _ => ?_⟩
      unfold P
      rw [if_neg z1]
      exact .nil
  | succ n ih =>
    refine F.ok (k := n + 1) scPt (fun vs H Q E h => ?_) (fun cdv A outer s H vs Q E hr h => ?_)
    · obtain ⟨i, j, l, L, m, rfl, _⟩ := h
      rfl
    obtain ⟨i, j, l, L, m, rfl, elm, hm, hij, hj, hL, q⟩ := h
    refine ⟨_, pss_cons (ps_if (pt_cmpR op_eq (pv 0) (pv 1) (nomark _)) (pss_one (ps_ret (pe_lst (pa_cons (pe_lst pa_nil) pa_nil)))) pss_nil)
      (pss_cons (ps_set (i := 4) scPt.nd rfl (Or.inl rfl) (pe_lst pa_nil))
      (pss_cons (ps_for PassesOwn.never rfl (pi_range2 (by rfl) mr (pa_cons (pv 2) (pa_cons (pv 3) pa_nil))) (pg_name (i := 5) scPt.nd rfl (Or.inl rfl))
        (pss_one (ps_for PassesOwn.never rfl (pi_range2 (by rfl) mr (pa_cons (pe_op op_add (pv 0) pe_int) (pa_cons (pe_op op_add (pv 1) pe_int) pa_nil))) (pg_name (i := 6) scPt.nd rfl (Or.inl rfl))
          (pss_one (ps_for PassesOwn.never rfl (pi_list (pe_call ih hr (by rfl) gm kp bb .nil pass0 (pa_cons (pv 6) (pa_cons (pv 1) (pa_cons (pe_op op_add (pv 5) pe_int) (pa_cons (pv 3) pa_nil)))))) (pg_name (i := 7) scPt.nd rfl (Or.inl rfl))
            (pss_one (ps_expr (pe_bm PySem.F.plainAttrs_list PySem.F.slot_list_append PySem.F.type_list_append mt_append (pv 4) (pa_cons (pe_op op_cat (pe_lst (pa_cons (pe_tup (pa_cons (pv 0) (pa_cons (pv 6) (pa_cons (pv 5) pa_nil)))) pa_nil)) (pv 7)) pa_nil)))))))))
      (pss_one (ps_ret (pv 4))))), ?_⟩
    refine ⟨_, rfl, _, rfl, rfl, _, rfl, ?_⟩
    refine ite2 (fun z => ?_) (fun z => ?_)
    · have z1 : i = j := by have := V.int.inj (of_decide_eq_true z); omega
      subst z1
      refine ⟨(by show 0 ≤ sizeLine; decide), fun e1 he1 => ?_⟩
      have s1 := same_newO he1 (.lst [])
      have g1 : upd H e1 (.lst []) e1 = some (.lst []) := upd_same
      generalize upd H e1 (.lst []) = H1 at s1 g1 ⊢
      refine ⟨(by show 1 ≤ sizeLine; decide), fun e2 he2 => ?_⟩
      have s2 := same_newO he2 (.lst [.ref e1])
      refine q e2 _ [.ref e1] (s1.trans s2) (s1.free he2) upd_same fun lf hlf => ?_
      rw [P_same]
      exact .cons ⟨e1, [], rfl, he1, fun y => hlf (by rw [← y]; exact he1), s2 _ _ g1, .nil⟩ .nil
    · have z1 : i ≠ j := fun y => z (decide_eq_true (by rw [y]))
      refine ⟨(by show 0 ≤ sizeLine; decide), fun lf hlf => ?_⟩
      have s1 := same_newO hlf (.lst [])
      have g1 : upd H lf (.lst []) lf = some (.lst []) := upd_same
      generalize upd H lf (.lst []) = H1 at s1 g1 ⊢
      have tot := P_blk z1 m l
      have tl := P_small (m := m) (l := l) (by omega) hij hj
      rw [tot] at tl
      refine ⟨_, rfl, _, rfl, _, _, rfl, ⟨by omega, by omega, by omega, by omega⟩, ?_⟩
      have e0 : ((L : Int) - (l : Int)).toNat = m := by omega
      rw [e0]
      refine for_range (fun a σ H' => Same H H' ∧ (∃ xs, H' lf = some (.lst xs) ∧ Paired (PaL H H' lf) xs ((List.range a).flatMap fun a => blk (m - 1 - a) (l + a) i j)) ∧ ∃ x5 x6 x7 : Option V, σ = [some (.int (i : Int)), some (.int (j : Int)), some (.int (l : Int)), some (.int (L : Int)), some (.ref lf), x5, x6, x7])
        ⟨s1, ⟨[], g1, .nil⟩, _, _, _, rfl⟩ (fun a σ H2 ha hP => ?_) (fun σ H2 hP => ?_)
      · obtain ⟨s2, ⟨xs, g2, p2⟩, x5, x6, x7, rfl⟩ := hP
        have el : (l : Int) + (a : Int) = ((l + a : Nat) : Int) := by push_cast; rfl
        rw [el]
        refine ⟨_, rfl, _, _, rfl, rfl, _, rfl, _, _, rfl, rfl, _, _, rfl, ⟨by omega, by omega, by omega, by omega⟩, ?_⟩
        have e1 : (((j : Int) + 1) - ((i : Int) + 1)).toNat = j - i := by omega
        rw [e1]
        refine for_range (fun b σ H' => Same H H' ∧ (∃ xs, H' lf = some (.lst xs) ∧ Paired (PaL H H' lf) xs (((List.range a).flatMap fun a => blk (m - 1 - a) (l + a) i j) ++ (List.range b).flatMap fun b => (P (m - 1 - a) (l + a + 1) (i + b + 1) j).map fun r => (i, i + b + 1, l + a) :: r)) ∧ ∃ x6 x7 : Option V, σ = [some (.int (i : Int)), some (.int (j : Int)), some (.int (l : Int)), some (.int (L : Int)), some (.ref lf), some (.int ((l + a : Nat) : Int)), x6, x7])
          ⟨s2, ⟨xs, g2, by rw [List.range_zero, List.flatMap_nil, List.append_nil]; exact p2⟩, _, _, rfl⟩ (fun b σ H3 hb hP => ?_) (fun σ H3 hP => ?_)
        · obtain ⟨s3, ⟨xs, g3, p3⟩, x6, x7, rfl⟩ := hP
          have eb : (i : Int) + 1 + (b : Int) = ((i + b + 1 : Nat) : Int) := by push_cast; omega
          rw [eb]
          have ea : (fun (x y : Int) => V.int (x + y)) ((l + a : Nat) : Int) 1 = .int ((l + a + 1 : Nat) : Int) := rfl
          refine ⟨_, rfl, _, rfl, _, rfl, _, _, rfl, rfl, _, rfl, i + b + 1, j, l + a + 1, L, m - 1 - a, rfl, by omega, by omega, by omega, hj, hL, fun p4 H4 ys s4 hn4 hp4 pn4 => ?_⟩
          have np : p4 ≠ lf := fun y => by rw [y, g3] at hn4; cases hn4
          have pn := pn4 lf (by rw [g3]; intro y; cases y)
          refine ⟨p4, rfl, ⟨_, SqL.of hp4⟩, ?_⟩
          have g4 := s4 _ _ g3
          have p4' : Paired (PaL H H4 lf) xs _ := Paired.mapP p3 fun _ _ r => r.same s4
          refine for_list (xs := ys) (fun k σ H' => (∀ a o, a ≠ lf → H4 a = some o → H' a = some o) ∧ (∃ zs, H' lf = some (.lst zs) ∧ Paired (PaL H H' lf) zs ((((List.range a).flatMap fun a => blk (m - 1 - a) (l + a) i j) ++ (List.range b).flatMap fun b => (P (m - 1 - a) (l + a + 1) (i + b + 1) j).map fun r => (i, i + b + 1, l + a) :: r) ++ ((P (m - 1 - a) (l + a + 1) (i + b + 1) j).take k).map fun r => (i, i + b + 1, l + a) :: r)) ∧ ∃ x7 : Option V, σ = [some (.int (i : Int)), some (.int (j : Int)), some (.int (l : Int)), some (.int (L : Int)), some (.ref lf), some (.int ((l + a : Nat) : Int)), some (.int ((i + b + 1 : Nat) : Int)), x7])
            ⟨fun _ _ _ e => e, ⟨xs, g4, by rw [List.take_zero, List.map_nil, List.append_nil]; exact p4'⟩, _, rfl⟩ (fun k σ H' _ hP => SqL.of (hP.1 _ _ np hp4)) (fun k x σ H5 hx hP => ?_) (fun σ H5 hP => ?_)
          · obtain ⟨k5, ⟨zs, g5, p5⟩, x7', rfl⟩ := hP
            obtain ⟨r, hr', c, cs, rfl, hc1, hc2, hc3, hc4⟩ := Paired.right_of pn k x hx
            have kl := (List.getElem?_eq_some_iff.mp hr').1
            have lz : zs.length ≤ 2048 := by
              rw [p5.length, List.length_append, List.length_append, List.length_map, List.length_take]
              have h1 : min k (P (m - 1 - a) (l + a + 1) (i + b + 1) j).length ≤ ((P (m - 1 - a) (l + a + 1) (i + b + 1) j).map fun r => (i, i + b + 1, l + a) :: r).length := by rw [List.length_map]; omega
              have h2 := flat_len (f := fun b => (P (m - 1 - a) (l + a + 1) (i + b + 1) j).map fun r => (i, i + b + 1, l + a) :: r) (j - i) hb h1
              have h3 := flat_len (f := fun a => blk (m - 1 - a) (l + a) i j) m ha h2
              omega
            have lc : cs.length ≤ 100 := by
              rw [hc4.length]
              have := P_len _ _ _ _ r (List.mem_of_getElem? hr')
              omega
            refine ⟨_, rfl, .inl ⟨rfl, _, SqL.of g5⟩, _, rfl, _, rfl, _, rfl, (by show 3 ≤ sizeLine; decide), fun t ht => ?_⟩
            have s6 := same_newO ht (.tup [.int (i : Int), .int ((i + b + 1 : Nat) : Int), .int ((l + a : Nat) : Int)])
            have g6 : upd H5 t (.tup [.int (i : Int), .int ((i + b + 1 : Nat) : Int), .int ((l + a : Nat) : Int)]) t = some (.tup [.int (i : Int), .int ((i + b + 1 : Nat) : Int), .int ((l + a : Nat) : Int)]) := upd_same
            generalize upd H5 t (.tup [.int (i : Int), .int ((i + b + 1 : Nat) : Int), .int ((l + a : Nat) : Int)]) = H6 at s6 g6 ⊢
            refine ⟨(by show 1 ≤ sizeLine; decide), fun l7 hl7 => ?_⟩
            have s7 := same_newO hl7 (.lst [.ref t])
            have g7 : upd H6 l7 (.lst [.ref t]) l7 = some (.lst [.ref t]) := upd_same
            generalize upd H6 l7 (.lst [.ref t]) = H7 at s7 g7 ⊢
            have s57 := s6.trans s7
            have hc7 := s57 _ _ (k5 _ _ hc2 hc3)
            refine ⟨_, rfl, l7, c, _, _, rfl, rfl, g7, hc7, Nat.le_of_lt (small1000 (by show 1 + cs.length ≤ 1000; omega)), fun pA hpA => ?_⟩
            have s8 := same_newO hpA (.lst ([.ref t] ++ cs))
            have g8 : upd H7 pA (.lst ([.ref t] ++ cs)) pA = some (.lst (.ref t :: cs)) := upd_same
            generalize upd H7 pA (.lst ([.ref t] ++ cs)) = H8 at s8 g8 ⊢
            have s58 := s57.trans s8
            have gl8 := s58 _ _ g5
            have nA : pA ≠ lf := fun y => by rw [y, s57 _ _ g5] at hpA; cases hpA
            have fA : H pA = none := by
              have e1 : H5 pA = none := s57.free hpA
              cases hh : H pA with
              | none => rfl
              | some o =>
                have := k5 _ _ nA (s4 _ _ (s3 _ _ hh))
                rw [e1] at this; cases this
            have tr : Paired (TrAt H8) (.ref t :: cs) ((i, i + b + 1, l + a) :: r) := .cons ⟨t, rfl, (s7.trans s8) _ _ g6⟩ (Paired.mapP hc4 fun y q' hq => by
              obtain ⟨t2, rfl, e2⟩ := hq
              exact ⟨t2, rfl, s58 _ _ (k5 _ _ (fun y => by rw [y, g4] at e2; cases e2) e2)⟩)
            refine ⟨lf, _, _, rfl, rfl, gl8, small9' (by omega), fun a' o ha' e => by rw [upd_ne ha']; exact s58 _ _ (k5 a' o ha' e), ⟨_, upd_same, ?_⟩, _, rfl⟩
            rw [List.take_add_one, hr', List.map_append, ← List.append_assoc]
            exact L2.Paired.appendP (Paired.mapP p5 fun _ _ r => (r.same s58).upd gl8) (.cons (PaL.upd gl8 ⟨pA, _, rfl, fA, nA, g8, tr⟩) .nil)
          · obtain ⟨k5, ⟨zs, g5, p5⟩, x7', rfl⟩ := hP
            have ly : ys.length = (P (m - 1 - a) (l + a + 1) (i + b + 1) j).length := pn.length
            rw [ly, List.take_length] at p5
            refine ⟨fun a' o e => ?_, ⟨zs, g5, ?_⟩, _, _, rfl⟩
            · exact k5 a' o (fun y => by rw [y, hlf] at e; cases e) (s4 _ _ (s3 _ _ e))
            · rw [flat_succ, ← List.append_assoc]; exact p5
        · obtain ⟨s3, ⟨xs, g3, p3⟩, x6, x7, rfl⟩ := hP
          refine ⟨s3, ⟨xs, g3, ?_⟩, _, _, _, rfl⟩
          rw [flat_succ]
          exact p3
      · obtain ⟨s2, ⟨xs, g2, p2⟩, x5, x6, x7, rfl⟩ := hP
        refine ⟨_, rfl, q lf H2 xs s2 hlf g2 fun lf2 hlf2 => ?_⟩
        rw [tot]
        refine Paired.mapP p2 fun _ _ r => ?_
        obtain ⟨b, ys, rfl, h1, h2, h3, h4⟩ := r
        exact ⟨b, ys, rfl, h1, fun y => hlf2 (by rw [← y]; exact h1), h3, h4⟩
end
end K42
set_option Elab.async false
set_option linter.all false
set_option maxRecDepth 100000
namespace K42
open PySem L2
abbrev rowO (F : Nat → Nat → OI) (n i : Nat) : List OI := (List.range (n - i)).map fun b => F i (i + b + 1)
structure FlO (H : Hp) (d : Addr) (ra : Nat → Addr) (n : Nat) (F : Nat → Nat → OI) : Prop where
  o : H d = some (.lst ((List.range n).map fun i => .ref (ra i)))
  r : ∀ i, i < n → H (ra i) = some (.lst ((rowO F n i).map oV))
theorem FlO.same {H H' : Hp} {d : Addr} {ra : Nat → Addr} {n : Nat} {F : Nat → Nat → OI} (h : FlO H d ra n F) (s : Same H H') : FlO H' d ra n F := ⟨s _ _ h.o, fun i hi => s _ _ (h.r i hi)⟩
theorem at_O {n i j : Nat} {F : Nat → Nat → OI} (hij : i < j) (hj : j ≤ n) : atI ((rowO F n i).map oV) ((j - i - 1 : Nat) : Int) = some (oV (F i j)) := by
  rw [List.map_map]
  have := at_rng (f := fun b => oV (F i (i + b + 1))) (n := n - i) (k := j - i - 1) (by omega)
  rw [show i + (j - i - 1) + 1 = j by omega] at this
  exact this
theorem at_O' {n i k : Nat} {F : Nat → Nat → OI} (hk : k < n - i) : atI ((rowO F n i).map oV) (k : Int) = some (oV (F i (i + k + 1))) := by
  rw [List.map_map]
  exact at_rng (f := fun b => oV (F i (i + b + 1))) hk
theorem cut_mid (xs : List V) {i j : Nat} (h : i ≤ j) : cutV xs (some (i : Int)) (some (j : Int)) = (xs.take j).drop i := by
  unfold cutV
  rw [HT.sIx_nat, HT.sIx_nat]
  refine List.ext_getElem? fun k => ?_
  rw [List.getElem?_take, List.getElem?_drop, List.getElem?_drop, List.getElem?_take]
  by_cases hi : i ≤ xs.length
  · rw [Nat.min_eq_left hi]
    by_cases hj : j ≤ xs.length
    · rw [Nat.min_eq_left hj]
      by_cases hk : k < j - i
      · rw [if_pos hk, if_pos (by omega)]
      · rw [if_neg hk, if_neg (by omega)]
    · rw [Nat.min_eq_right (by omega)]
      by_cases hk : k < xs.length - i
      · rw [if_pos hk, if_pos (by omega)]
      · rw [if_neg hk]
        split
        · rw [List.getElem?_eq_none (by omega)]
        · rfl
  · rw [Nat.min_eq_right (by omega), Nat.min_eq_right (by omega), if_neg (by omega)]
    split
    · rw [List.getElem?_eq_none (by omega)]
    · rfl
theorem lo_snoc (xs : List OI) (x : OI) : lo (xs ++ [x]) = lo [lo xs, x] := by rw [lo_append, lo_one]
theorem lo_snocN (xs : List OI) : lo (xs ++ [none]) = lo xs := by
  rw [lo_snoc]
  cases e : lo xs with
  | none => exact lo_none.mpr fun k hk => by simp at hk
  | some m => exact lo_some.mpr ⟨.head _, fun k hk => by simp at hk; omega⟩
theorem lo_snoc0 {xs : List OI} {v : Int} (h : lo xs = none) : lo (xs ++ [some v]) = some v := by
  rw [lo_snoc, h]
  exact lo_some.mpr ⟨.tail _ (.head _), fun k hk => by simp at hk; omega⟩
theorem lo_snocL {xs : List OI} {v m : Int} (h : lo xs = some m) (hv : v < m) : lo (xs ++ [some v]) = some v := by
  rw [lo_snoc, h]
  exact lo_some.mpr ⟨.tail _ (.head _), fun k hk => by simp at hk; omega⟩
theorem lo_snocG {xs : List OI} {v m : Int} (h : lo xs = some m) (hv : ¬ v < m) : lo (xs ++ [some v]) = some m := by
  rw [lo_snoc, h]
  exact lo_some.mpr ⟨.head _, fun k hk => by simp at hk; omega⟩
section
variable {P' : Program} {w : World} {K : PySem.W.Frag} {mg : Str → Option Value} {base : Heap} {f : Addr} {fd : FuncData}
abbrev NSb : List Str := ["prices", "weights", "rows", "first", "end", "least_v", "parts", "total", "i", "j", "letter", "floor"]
structure Sm (ps ws : List Int) : Prop where
  p2 : 2 ≤ ps.length
  p5 : ps.length ≤ 5
  w1 : 1 ≤ ws.length
  w6 : ws.length ≤ 6
  bp : Bw ps
  bw : Bw ws
theorem Sm.num {ps ws : List Int} (s : Sm ps ws) : Num ps ws := ⟨s.p2, by have := s.p5; omega, s.w1, by have := s.w6; omega, s.bp, s.bw⟩
def spSb : Sp := fun vs H Q _ => ∃ (p q d : Addr) (ps ws : List Int) (ra : Nat → Addr) (F : Nat → Nat → OI) (i j : Nat), vs = [.ref p, .ref q, .ref d, .int (i : Int), .int (j : Int)] ∧ TW H p ps ∧ TW H q ws ∧ FlO H d ra ws.length F ∧ Sm ps ws ∧ i < j ∧ j ≤ ws.length ∧
  ∀ H', Same H H' → Q (oV (bdO ps ws F i j)) H'
theorem scSb : FnScope NSb ["prices", "weights", "rows", "first", "end"] (defScope sSb) := ⟨rfl, rfl, rfl, by decide +kernel, rfl, by decide +kernel, by decide +kernel⟩
set_option maxHeartbeats 16000000 in
theorem ok_sb (F : Fun K "_law_step_bound" "_law_step_bound" sSb f fd) (GP : Fns P' w K mg base ["first", "end", "low", "letters"] "_law_partings" (spPt 5) 6) (ml : mg "len" = none) (ms : mg "sum" = none) : FnOk P' w K mg base CX0 7 f fd ["prices", "weights", "rows", "first", "end"] spSb := by
  refine F.ok (k := 6) scSb (fun vs H Q E h => ?_) (fun cdv A outer s H vs Q E hr h => ?_)
  · obtain ⟨p, q, d, ps, ws, ra, F, i, j, rfl, _⟩ := h
    rfl
  obtain ⟨p, q, d, ps, ws, ra, F, i, j, rfl, hp, hq, fl, sm, hij, hj, qq⟩ := h
  obtain ⟨p2, p5, w1, w6, bp, bw⟩ := sm
  refine ⟨_, pss_cons (ps_if (pt_cmpR op_eq (pe_op op_sub (pv 4) (pv 3)) pe_int (nomark _)) (pss_one (ps_ret pe_int)) pss_nil)
    (pss_cons (ps_set (i := 5) scSb.nd rfl (Or.inl rfl) pe_non)
    (pss_cons (ps_for PassesOwn.never rfl (pi_list (pe_call GP.ok hr (by rfl) GP.m GP.kp GP.b .nil pass0 (pa_cons (pv 3) (pa_cons (pv 4) (pa_cons pe_int (pa_cons (pe_callB call_len_seq (by rfl) ml PySem.boot_len (pa_cons (pv 0) pa_nil)) pa_nil)))))) (pg_name (i := 6) scSb.nd rfl (Or.inl rfl))
      (pss_cons (ps_set (i := 7) scSb.nd rfl (Or.inl rfl) pe_int)
      (pss_cons (ps_for PassesOwn.never rfl (pi_list (pv 6)) (pg_tup rfl (pgs_cons (pg_name (i := 8) scSb.nd rfl (Or.inl rfl)) (pgs_cons (pg_name (i := 9) scSb.nd rfl (Or.inl rfl)) (pgs_cons (pg_name (i := 10) scSb.nd rfl (Or.inl rfl)) pgs_nil))))
        (pss_cons (ps_set (i := 11) scSb.nd rfl (Or.inl rfl) (pe_ix ix_list (pe_ix ix_list (pv 2) (pv 8) (fun _ _ => rfl)) (pe_op op_sub (pe_op op_sub (pv 9) (pv 8)) pe_int) (fun _ _ => rfl)))
        (pss_one (ps_if (PW.pt (pw_and (pt_cmp (pc_notN (pv 7))) (pw_and1 (pt_cmp (pc_notN (pv 11)))))) (pss_one (ps_set (i := 7) scSb.nd rfl (Or.inl rfl) (pe_op op_add (pe_op op_add (pv 7) (pv 11)) (pe_op op_mulB (pe_ix ix_tup (pv 0) (pv 10) (fun _ _ => rfl)) (pe_callB (call_sumT rfl) (by rfl) ms b_sum (pa_cons (pe_slice sl_tupG (pv 1) (po_some (pv 8)) (po_some (pv 9))) pa_nil))))))
          (pss_one (ps_set (i := 7) scSb.nd rfl (Or.inl rfl) pe_non))))))
      (pss_one (ps_if (PW.pt (pw_and (pt_cmpR op_gt (pe_callB call_len_seq (by rfl) ml PySem.boot_len (pa_cons (pv 6) pa_nil)) pe_int (nomark _)) (pw_and1 (pt_cmp (pc_notN (pv 7)))))) (pss_one (ps_if (PW.pt (pw_or (pt_cmp (pc_isN (pv 5))) (pw_or1 (pt_cmpR op_lt (pv 7) (pv 5) (nomark _))))) (pss_one (ps_set (i := 5) scSb.nd rfl (Or.inl rfl) (pv 7))) pss_nil)) pss_nil)))))
    (pss_one (ps_ret (pv 5))))), ?_⟩
  refine ⟨_, rfl, _, rfl, _, _, rfl, rfl, rfl, _, rfl, ?_⟩
  refine ite2 (fun z => ?_) (fun z => ?_)
  · have z1 : j - i = 1 := by
      have y : V.int ((j : Int) - (i : Int)) = V.int 1 := of_decide_eq_true z
      have := V.int.inj y
      omega
    have := qq H (Same.refl _)
    unfold bdO at this
    rw [if_pos z1] at this
    exact this
  · have z1 : ¬ j - i = 1 := fun y => z (decide_eq_true (by show V.int ((j : Int) - (i : Int)) = V.int 1; congr 1; omega))
    have el : (((ps.map V.int).length : Nat) : Int) = (ps.length : Int) := by rw [List.length_map]
    refine ⟨_, rfl, _, rfl, _, rfl, p, _, rfl, .inr (SqT.of hp), i, j, 0, ps.length, ps.length, (by rw [el]; rfl), Nat.zero_add _, p5, by omega, by omega, p5, fun pp H2 xs s2 hn2 hp2 pn2 => ?_⟩
    have pn := pn2 p (by rw [hp]; intro y; cases y)
    have Pin := P_in ps.length 0 i j (by omega)
    have lxs : xs.length = (P ps.length 0 i j).length := pn.length
    have fin : ∀ H', Same H H' → Q (oV (lo (((P ps.length 0 i j).filter fun r => decide (1 < r.length)).map fun r => cost (pl ps) (Wt ws) F r))) H' := fun H' s => by
      have := qq H' s
      unfold bdO at this
      rw [if_neg z1] at this
      exact this
    generalize P ps.length 0 i j = rs at pn Pin lxs fin
    refine ⟨pp, rfl, ⟨_, SqL.of hp2⟩, ?_⟩
    refine for_list (xs := xs) (fun k σ H' => Same H2 H' ∧ ∃ x6 x7 x8 x9 x10 x11 : Option V, σ = [some (.ref p), some (.ref q), some (.ref d), some (.int (i : Int)), some (.int (j : Int)), some (oV (lo (((rs.take k).filter fun r => decide (1 < r.length)).map fun r => cost (pl ps) (Wt ws) F r))), x6, x7, x8, x9, x10, x11])
      ⟨Same.refl _, _, _, _, _, _, _, by rw [show lo ((((rs.take 0).filter fun r => decide (1 < r.length))).map fun r => cost (pl ps) (Wt ws) F r) = none from lo_nil]; rfl⟩ (fun k σ H' _ hP => SqL.of (hP.1 _ _ hp2)) (fun k x σ H3 hx hP => ?_) (fun σ H3 hP => ?_)
    · obtain ⟨s3, x6, x7, x8, x9, x10, x11, rfl⟩ := hP
      obtain ⟨r, hr', c, cs, rfl, hc1, hc2, hc3, hc4⟩ := Paired.right_of pn k x hx
      have rin := Pin r (List.mem_of_getElem? hr')
      have lc : cs.length = r.length := hc4.length
      have s13 := s2.trans s3
      have hp3 : TW H3 p ps := s13 _ _ hp
      have hq3 : TW H3 q ws := s13 _ _ hq
      have hc3' := s3 _ _ hc3
      generalize eL : lo (((rs.take k).filter fun r => decide (1 < r.length)).map fun r => cost (pl ps) (Wt ws) F r) = least
      refine ⟨_, rfl, c, rfl, ⟨_, SqL.of hc3'⟩, ?_⟩
      refine for_list (xs := cs) (fun m σ H' => Same H3 H' ∧ ∃ x8 x9 x10 x11 : Option V, σ = [some (.ref p), some (.ref q), some (.ref d), some (.int (i : Int)), some (.int (j : Int)), some (oV least), some (.ref c), some (oV (cost (pl ps) (Wt ws) F (r.take m))), x8, x9, x10, x11])
        ⟨Same.refl _, _, _, _, _, rfl⟩ (fun m σ H' _ hP => SqL.of (hP.1 _ _ hc3')) (fun m y σ H4 hy hP => ?_) (fun σ H4 hP => ?_)
      · obtain ⟨s4, x8, x9, x10, x11, rfl⟩ := hP
        obtain ⟨u, hu, t, rfl, ht⟩ := Paired.right_of hc4 m y hy
        obtain ⟨u1, u2, u3, u4, u5⟩ := rin u (List.mem_of_getElem? hu)
        have ht3 := s3 _ _ ht
        have es : cost (pl ps) (Wt ws) F (r.take (m + 1)) = oadd (cost (pl ps) (Wt ws) F (r.take m)) (oadd (some (pl ps u.2.2 * Wt ws u.1 u.2.1)) (F u.1 u.2.1)) := by
          rw [List.take_add_one, hu]
          exact cost_snoc (pl ps) (Wt ws) F (r.take m) u
        rw [es]
        have fl4 := fl.same (s13.trans s4)
        have hu1 : u.1 < ws.length := by omega
        refine ⟨t, _, rfl, SqT.of (s4 _ _ ht3), rfl, _, _, rfl, _, _, rfl, _, _, rfl, rfl, ?_⟩
        refine ⟨_, rfl, _, rfl, d, _, _, _, rfl, rfl, SqL.of fl4.o, at_rng hu1, _, rfl, _, rfl, _, _, rfl, rfl, _, _, rfl, rfl, ra u.1, _, _, _, rfl, (by show V.int ((u.2.1 : Int) - (u.1 : Int) - 1) = V.int ((u.2.1 - u.1 - 1 : Nat) : Int); congr 1; omega), SqL.of (fl4.r u.1 hu1), at_O u2 (by omega), ?_⟩
        cases cost (pl ps) (Wt ws) F (r.take m) with
        | none => exact ⟨_, rfl, _, rfl, iteF ⟨s4, _, _, _, _, rfl⟩⟩
        | some a =>
          cases F u.1 u.2.1 with
          | none => exact ⟨_, rfl, _, rfl, iteT ⟨_, rfl, _, rfl, iteF ⟨s4, _, _, _, _, rfl⟩⟩⟩
          | some b =>
            refine ⟨_, rfl, _, rfl, iteT ⟨_, rfl, _, rfl, iteT ?_⟩⟩
            have hl : u.2.2 < ps.length := by omega
            refine ⟨_, rfl, _, rfl, _, _, rfl, rfl, _, rfl, _, rfl, p, _, _, _, rfl, rfl, SqT.of (s4 _ _ hp3), at_pl hl, _, rfl, _, rfl, _, rfl, _, rfl, _, rfl, q, _, rfl, s4 _ _ hq3, fun p5' H5 s5 hp5 => ?_⟩
            have ew : ((ws.take u.2.1).drop u.1).map V.int = cutV (ws.map V.int) (some (u.1 : Int)) (some (u.2.1 : Int)) := by rw [cut_mid _ (by omega), ← List.map_take, ← List.map_drop]
            rw [← ew] at hp5
            have wb := Wt_bd (i := u.1) (j := u.2.1) (by omega) bw (by omega)
            have ei := Wt_is (ws := ws) (i := u.1) (j := u.2.1) (by omega)
            have pb := pl_bd bp u.2.2
            refine ⟨p5', _, rfl, hp5, ?_⟩
            rw [← ei]
            refine ⟨_, _, rfl, rfl, ⟨⟨pb.1, by unfold B30 at *; omega⟩, ⟨wb.1, by unfold B30 at *; omega⟩⟩, _, _, rfl, rfl, s4.trans s5, some (.int (u.1 : Int)), some (.int (u.2.1 : Int)), some (.int (u.2.2 : Int)), some (.int b), ?_⟩
            have e9 : a + b + pl ps u.2.2 * Wt ws u.1 u.2.1 = a + (pl ps u.2.2 * Wt ws u.1 u.2.1 + b) := by
              generalize pl ps u.2.2 * Wt ws u.1 u.2.1 = pw
              omega
            show _ = [some (V.ref p), some (V.ref q), some (V.ref d), some (V.int (i : Int)), some (V.int (j : Int)), some (oV least), some (V.ref c), some (V.int (a + (pl ps u.2.2 * Wt ws u.1 u.2.1 + b))), _, _, _, _]
            rw [← e9]
            rfl
      · obtain ⟨s4, x8, x9, x10, x11, rfl⟩ := hP
        rw [lc, List.take_length]
        have et : (rs.take (k + 1)).filter (fun r => decide (1 < r.length)) = (rs.take k).filter (fun r => decide (1 < r.length)) ++ (if 1 < r.length then [r] else []) := by
          rw [List.take_add_one, hr', List.filter_append]
          congr 1
          show [r].filter _ = _
          rw [List.filter_cons]
          by_cases y : 1 < r.length
          · rw [if_pos (decide_eq_true y), if_pos y]; rfl
          · rw [if_neg (by rw [decide_eq_false y]; decide), if_neg y]; rfl
        rw [et]
        have s34 := s3.trans s4
        refine ⟨_, rfl, c, _, rfl, .inl (SqL.of (s4 _ _ hc3')), _, _, rfl, rfl, _, rfl, ?_⟩
        rw [lc]
        refine ite2 (fun y => ?_) (fun y => ?_)
        · have y1 : 1 < r.length := by have := of_decide_eq_true y; omega
          rw [if_pos y1, List.map_append, List.map_singleton]
          cases cost (pl ps) (Wt ws) F r with
          | none =>
            rw [lo_snocN, eL]
            exact ⟨_, rfl, _, rfl, iteF ⟨s34, _, _, _, _, _, _, rfl⟩⟩
          | some v =>
            refine ⟨_, rfl, _, rfl, iteT ?_⟩
            cases least with
            | none =>
              rw [lo_snoc0 eL]
              exact ⟨_, rfl, _, rfl, iteT ⟨_, rfl, s34, _, _, _, _, _, _, rfl⟩⟩
            | some m =>
              refine ⟨_, rfl, _, rfl, iteF ⟨_, rfl, _, rfl, _, _, rfl, rfl, _, rfl, ?_⟩⟩
              refine ite2 (fun y2 => ?_) (fun y2 => ?_)
              · rw [lo_snocL eL (of_decide_eq_true y2)]
                exact ⟨_, rfl, s34, _, _, _, _, _, _, rfl⟩
              · rw [lo_snocG eL (fun z => y2 (decide_eq_true z))]
                exact ⟨s34, _, _, _, _, _, _, rfl⟩
        · have y1 : ¬ 1 < r.length := fun y2 => y (decide_eq_true (by omega))
          rw [if_neg y1, List.append_nil, eL]
          exact ⟨s34, _, _, _, _, _, _, rfl⟩
    · obtain ⟨s3, x6, x7, x8, x9, x10, x11, rfl⟩ := hP
      rw [lxs, List.take_length]
      exact ⟨_, rfl, fin H3 (s2.trans s3)⟩
end
end K42
set_option Elab.async false
set_option linter.all false
set_option maxRecDepth 100000
namespace L2
open PySem
theorem call_listK {X : Cx} (K : PySem.W.Frag) (hK : X.K = K := by rfl) : CallR X (.type "list") (fun xs H Q => ∃ p ys, xs = [.ref p] ∧ (SqL K H p ys ∨ SqT K H p ys) ∧ ∀ l, H l = none → Q (.ref l) (upd H l (.lst ys))) := by
  subst hK
  exact call_list_of
theorem call_lenK {X : Cx} (K : PySem.W.Frag) (hK : X.K = K := by rfl) : CallR X (.builtin "len") (fun xs H Q => ∃ p ys, xs = [.ref p] ∧ (SqL K H p ys ∨ SqT K H p ys) ∧ Q (.int (ys.length : Nat)) H) := by
  subst hK
  exact call_len_seq
end L2
namespace K42
open PySem L2
/-! ### the tables by given floors -/
structure Fin (ps ws : List Int) (h t : Nat → Nat → Nat → OI) (F : Nat → Nat → OI) (pr : Nat → Nat → Prop) : Prop where
  dg : ∀ l i, l ≤ ps.length → i ≤ ws.length → t l i i = some 0
  ed : ∀ i j, i < j → j ≤ ws.length → t ps.length i j = none
  eq : ∀ i j, i < j → j ≤ ws.length → pr i j → Eqs (pl ps) (Wt ws) F ps.length h t i j
theorem Fin.weak {ps ws : List Int} {h t : Nat → Nat → Nat → OI} {F : Nat → Nat → OI} {pr pr' : Nat → Nat → Prop} (a : Fin ps ws h t F pr) (h1 : ∀ i j, i < j → j ≤ ws.length → pr' i j → pr i j) : Fin ps ws h t F pr' :=
  ⟨a.dg, a.ed, fun i j hij hj hp => a.eq i j hij hj (h1 i j hij hj hp)⟩
theorem Fin.step {ps ws : List Int} {h t h' t' : Nat → Nat → Nat → OI} {F : Nat → Nat → OI} {f e : Nat} (a : Fin ps ws h t F (Dn f e)) (hfe : f < e) (he : e ≤ ws.length) (u : Put ps ws h t h' t' f e (F f e) ps.length) : Fin ps ws h' t' F (Dn f (e + 1)) := by
  refine ⟨fun l i hl hi => ?_, fun i j hij hj => ?_, fun i j hij hj hp => ?_⟩
  · rw [u.ot l i i (by omega)]; exact a.dg l i hl hi
  · by_cases z : i = f ∧ j = e
    · rw [z.1, z.2, u.oe]; exact a.ed f e hfe he
    · rw [u.ot _ i j z]; exact a.ed i j hij hj
  · by_cases z : i = f ∧ j = e
    · obtain ⟨rfl, rfl⟩ := z
      refine ⟨fun l hl => ?_, fun l hl => u.et l (by omega) hl⟩
      rw [u.eh l (by omega) hl]
    · have d : Dn f e i j := by
        rcases hp with y | y
        · exact .inl y
        · exact .inr ⟨y.1, by omega⟩
      have E := a.eq i j hij hj d
      have nh : ∀ b, i < b → b ≤ j → ¬ (i = f ∧ b = e) := fun b h1 h2 y => by
        rcases d with w | w <;> omega
      have nt : ∀ x, i < x → x ≤ j → ¬ (x = f ∧ j = e) := fun x h1 h2 y => by
        rcases d with w | w <;> omega
      refine ⟨fun l hl => ?_, fun l hl => ?_⟩
      · rw [u.oh l i j z]; exact E.eh l hl
      · rw [u.ot l i j z, u.ot (l + 1) i j z, E.et l hl]
        congr 2
        exact (lsum_congr (k := j) (fun b h1 h2 => u.oh l i b (nh b h1 h2)) fun x h1 h2 => u.ot (l + 1) x j (nt x h1 h2)).symm
theorem Fin.bdO {ps ws : List Int} {h t : Nat → Nat → Nat → OI} {F : Nat → Nat → OI} (a : Fin ps ws h t F (fun _ _ => True)) : ∀ i j, i < j → j ≤ ws.length → bnd ps.length h t i j = bdO ps ws F i j := fun f e hfe he => by
  unfold K42.bdO
  by_cases e1 : e - f = 1
  · unfold bnd; rw [if_pos e1, if_pos e1]
  · rw [if_neg e1]
    exact bound_is (p := pl ps) (W := Wt ws) (F := F) a.dg a.ed (fun l c hl h1 h2 => (a.eq f c h1 (by omega) trivial).eh l hl) (fun x y h1 h2 h3 => a.eq x y h2 h3 trivial) (by omega) he
def ab : OI → OI → Bool
  | _, none => false
  | none, some _ => true
  | some x, some y => decide (y < x)
/-! the first of some pairs -/
def isS (c : Nat → Nat → Prop) (n : Nat) (o : Option (Nat × Nat)) : Prop := (o = none ∧ ∀ i j, i < j → j ≤ n → ¬ c i j) ∨ ∃ i j, o = some (i, j) ∧ i < j ∧ j ≤ n ∧ c i j ∧ ∀ a b, a < b → b ≤ n → (a < i ∨ (a = i ∧ b < j)) → ¬ c a b
theorem isS_uniq {c : Nat → Nat → Prop} {n : Nat} {o o' : Option (Nat × Nat)} (h : isS c n o) (h' : isS c n o') : o = o' := by
  rcases h with ⟨rfl, h⟩ | ⟨i, j, rfl, h1, h2, h3, h4⟩ <;> rcases h' with ⟨rfl, h'⟩ | ⟨i', j', rfl, h1', h2', h3', h4'⟩
  · rfl
  · exact absurd h3' (h i' j' h1' h2')
  · exact absurd h3 (h' i j h1 h2)
  · have e : i = i' ∧ j = j' := by
      refine ⟨?_, ?_⟩
      · rcases Nat.lt_trichotomy i i' with z | z | z
        · exact absurd h3 (h4' i j h1 h2 (.inl z))
        · exact z
        · exact absurd h3' (h4 i' j' h1' h2' (.inl z))
      · have ei : i = i' := by
          rcases Nat.lt_trichotomy i i' with z | z | z
          · exact absurd h3 (h4' i j h1 h2 (.inl z))
          · exact z
          · exact absurd h3' (h4 i' j' h1' h2' (.inl z))
        rcases Nat.lt_trichotomy j j' with z | z | z
        · exact absurd h3 (h4' i j h1 h2 (.inr ⟨ei, z⟩))
        · exact z
        · exact absurd h3' (h4 i' j' h1' h2' (.inr ⟨ei.symm, z⟩))
    rw [e.1, e.2]
theorem isS_congr {c c' : Nat → Nat → Prop} {n : Nat} {o : Option (Nat × Nat)} (e : ∀ i j, i < j → j ≤ n → (c i j ↔ c' i j)) (h : isS c n o) : isS c' n o := by
  rcases h with ⟨rfl, h⟩ | ⟨i, j, rfl, h1, h2, h3, h4⟩
  · exact .inl ⟨rfl, fun i j h1 h2 z => h i j h1 h2 ((e i j h1 h2).mpr z)⟩
  · exact .inr ⟨i, j, rfl, h1, h2, (e i j h1 h2).mp h3, fun a b h5 h6 h7 z => h4 a b h5 h6 h7 ((e a b h5 h6).mpr z)⟩
def OpAt (H : Hp) (r : V) : Option (Nat × Nat) → Prop
  | none => r = .non
  | some q => ∃ t, r = .ref t ∧ TW H t [(q.1 : Int), (q.2 : Int)]
/-- rows of some lengths -/
def RwAt (H : Hp) (d : Addr) (lens : List Nat) : Prop := ∃ xs, H d = some (.lst xs) ∧ Paired (fun x l => ∃ a zs, x = .ref a ∧ H a = some (.lst zs) ∧ zs.length = l) xs lens
theorem RwAt.same {H H' : Hp} {d : Addr} {lens : List Nat} (h : RwAt H d lens) (s : Same H H') : RwAt H' d lens := by
  obtain ⟨xs, h1, h2⟩ := h
  exact ⟨xs, s _ _ h1, Paired.mapP h2 fun x l ⟨a, zs, e1, e2, e3⟩ => ⟨a, zs, e1, s _ _ e2, e3⟩⟩
theorem paired_rng {α β : Type} {R : α → β → Prop} {f : Nat → α} {g : Nat → β} : ∀ n, (∀ i, i < n → R (f i) (g i)) → Paired R ((List.range n).map f) ((List.range n).map g)
  | 0, _ => .nil
  | n + 1, h => by
    rw [List.range_succ, List.map_append, List.map_append]
    exact L2.Paired.appendP (paired_rng n fun i hi => h i (by omega)) (.cons (h n (by omega)) .nil)
def down (n : Nat) : List Int := (List.range n).map fun i : Nat => (n : Int) + (i : Int) * (-1)
def good (lens : List Nat) (n : Nat) : Prop := lens.map (fun l : Nat => (l : Int)) = down n
theorem good_fl (n : Nat) : good ((List.range n).map fun i => n - i) n := by
  unfold good down
  rw [List.map_map]
  refine List.map_congr_left fun i hi => ?_
  have := List.mem_range.mp hi
  show ((n - i : Nat) : Int) = (n : Int) + (i : Int) * (-1)
  omega
section
variable {P' : Program} {w : World} {K : PySem.W.Frag} {mg : Str → Option Value} {base : Heap} {f : Addr} {fd : FuncData}
/-! parted_by -/
abbrev NPb : List Str := ["prices", "weights", "floors", "parted", "first", "end"]
def spPb (C : Addr) : Sp := fun vs H Q _ => ∃ (p q d : Addr) (ps ws : List Int) (ra : Nat → Addr) (F : Nat → Nat → OI), vs = [.ref p, .ref q, .ref d] ∧ TW H p ps ∧ TW H q ws ∧ FlO H d ra ws.length F ∧ Num ps ws ∧ ∀ (r : Addr) X h t H', Same H H' → PAt C H' r p ps ws X h t → Fin ps ws h t F (fun _ _ => True) → Q (.ref r) H'
theorem scPb : FnScope NPb ["prices", "weights", "floors"] (defScope sPb) := ⟨rfl, rfl, rfl, by decide +kernel, rfl, by decide +kernel, by decide +kernel⟩
set_option maxHeartbeats 8000000 in
theorem ok_pb {C : Addr} (F : Fun K "parted_by" "parted_by" sPb f fd) (cl : Cl P' w K mg base C) (MP : Mt P' w K mg base C "put" ["self", "first", "end", "floor"] (spPut C) 4) (ml : mg "len" = none) (mr : mg "range" = none) : FnOk P' w K mg base CX0 5 f fd ["prices", "weights", "floors"] (spPb C) := by
  refine F.ok (k := 4) scPb (fun vs H Q E h => ?_) (fun cdv A outer s H vs Q E hr h => ?_)
  · obtain ⟨p, q, d, ps, ws, ra, F, rfl, _⟩ := h
    rfl
  obtain ⟨p, q, d, ps, ws, ra, F, rfl, hp, hq, fl, nu, qq⟩ := h
  obtain ⟨p2, p10, w1, w20, bp, bw⟩ := nu
  refine ⟨_, pss_cons (ps_set (i := 3) scPb.nd rfl (Or.inl rfl) (pe_make cl.mkk cl.oki hr (by rfl) cl.g cl.bi .nil pass0 (pa_cons (pv 0) (pa_cons (pv 1) pa_nil))))
    (pss_cons (ps_for PassesOwn.never rfl (pi_rangeD (by rfl) mr (pa_cons (pe_op op_sub (pe_callB call_len_seq (by rfl) ml PySem.boot_len (pa_cons (pv 1) pa_nil)) pe_int) (pa_cons (pe_un un_neg pe_int) (pa_cons (pe_un un_neg pe_int) pa_nil)))) (pg_name (i := 4) scPb.nd rfl (Or.inl rfl))
      (pss_one (ps_for PassesOwn.never rfl (pi_range2 (by rfl) mr (pa_cons (pe_op op_add (pv 4) pe_int) (pa_cons (pe_op op_add (pe_callB call_len_seq (by rfl) ml PySem.boot_len (pa_cons (pv 1) pa_nil)) pe_int) pa_nil))) (pg_name (i := 5) scPb.nd rfl (Or.inl rfl))
        (pss_one (ps_expr (pe_meth (pv 3) cl.rc.c MP.m MP.ok hr MP.b .nil pass0 (pa_cons (pv 4) (pa_cons (pv 5) (pa_cons (pe_ix ix_list (pe_ix ix_list (pv 2) (pv 4) (fun _ _ => rfl)) (pe_op op_sub (pe_op op_sub (pv 5) (pv 4)) pe_int) (fun _ _ => rfl)) pa_nil)))))))))
    (pss_one (ps_ret (pv 3)))), ?_⟩
  refine ⟨_, rfl, _, rfl, fun r dx rn hdx _ => ?_⟩
  have sm : Same H (upd (upd H dx (.own r)) r (.ins C dx [])) := same_upd rn (same_newO hdx _)
  refine ⟨r, dx, p, q, ps, ws, rfl, upd_same, sm _ _ hp, sm _ _ hq, by omega, p10, w20, fun H1 X k1 pa1 fz => ⟨rfl, ?_⟩⟩
  have s1 : Same H H1 := fun a o e => k1 a o (fun z => by rw [z, rn] at e; cases e) (sm a o e)
  have fz' : ∀ a, Z X ps.length (ws.length + 1) a → H a = none := fun a hz => sm.free (fz a hz)
  have nz : ∀ {a o}, H a = some o → ¬ Z X ps.length (ws.length + 1) a := fun e hz => by rw [fz' _ hz] at e; cases e
  have st0 : Fin ps ws h0 t0 F (fun i _ => ws.length ≤ i) := ⟨fun l i _ _ => if_pos rfl, fun i j hij _ => if_neg (by omega), fun i j hij hj hp => absurd hp (by show ¬ ws.length ≤ i; omega)⟩
  refine ⟨_, rfl, q, _, rfl, .inr (SqT.of (s1 _ _ hq)), _, _, rfl, rfl, _, rfl, _, rfl, _, rfl, ⟨by rw [List.length_map]; omega, by rw [List.length_map]; omega⟩, ?_⟩
  rw [List.length_map, show ((ws.length : Int) - 1 + 1).toNat = ws.length by omega]
  refine for_range3 (fun m σ H' => Same H H' ∧ (∃ h t, PAt C H' r p ps ws X h t ∧ Fin ps ws h t F (fun i _ => ws.length - m ≤ i)) ∧ ∃ x3 x4 : Option V, σ = [some (.ref p), some (.ref q), some (.ref d), some (.ref r), x3, x4])
    ⟨s1, ⟨h0, t0, pa1, st0⟩, _, _, rfl⟩ (fun m σ H2 hm hP => ?_) (fun σ H2 hP => ?_)
  · obtain ⟨s2, ⟨h, t, pa2, fn2⟩, x3, x4, rfl⟩ := hP
    obtain ⟨f, ef⟩ : ∃ f, f = ws.length - 1 - m := ⟨_, rfl⟩
    have ev : (ws.length : Int) - 1 + (m : Int) * (-1) = (f : Int) := by omega
    rw [ev]
    have hf : f < ws.length := by omega
    refine ⟨_, rfl, _, _, rfl, rfl, _, rfl, q, _, rfl, .inr (SqT.of (s2 _ _ hq)), _, _, rfl, rfl, _, _, rfl, ⟨by omega, by omega, by rw [List.length_map]; omega, by rw [List.length_map]; omega⟩, ?_⟩
    refine for_range (fun k σ H' => Same H H' ∧ (∃ h t, PAt C H' r p ps ws X h t ∧ Fin ps ws h t F (Dn f (f + 1 + k))) ∧ ∃ x4 : Option V, σ = [some (.ref p), some (.ref q), some (.ref d), some (.ref r), some (.int (f : Int)), x4])
      ⟨s2, ⟨h, t, pa2, fn2.weak fun i j hij hj d => by show ws.length - m ≤ i; rcases d with z | z <;> omega⟩, _, rfl⟩ (fun k σ H3 hk hP => ?_) (fun σ H3 hP => ?_)
    · obtain ⟨s3, ⟨h3, t3, pa3, fn3⟩, x4, rfl⟩ := hP
      have hk' : f + 1 + k ≤ ws.length := by
        have : (ws.map V.int).length = ws.length := List.length_map ..
        omega
      have ee : (f : Int) + 1 + (k : Int) = ((f + 1 + k : Nat) : Int) := by push_cast; omega
      rw [ee]
      obtain ⟨dx3, ho3⟩ := pa3.ob
      have fl3 := fl.same s3
      refine ⟨_, rfl, r, dx3, _, rfl, ho3, rfl, _, rfl, _, rfl, _, rfl, _, rfl, d, _, _, _, rfl, rfl, SqL.of fl3.o, at_rng hf, _, rfl, _, rfl, _, _, rfl, rfl, _, _, rfl, rfl, ra f, _, _, _, rfl, (by show V.int (((f + 1 + k : Nat) : Int) - (f : Int) - 1) = V.int ((f + 1 + k - f - 1 : Nat) : Int); congr 1; omega), SqL.of (fl3.r f hf), at_O (j := f + 1 + k) (by omega) hk', ?_⟩
      refine ⟨r, p, ps, ws, X, h3, t3, f, f + 1 + k, F f (f + 1 + k), rfl, pa3, w20, by omega, p10, bp, bw, by omega, hk', fun H5 h5 t5 k5 pa5 u => ?_⟩
      exact ⟨fun a o e => k5 a o (nz e) (s3 _ _ e), ⟨h5, t5, pa5, fn3.step (by omega) hk' u⟩, _, rfl⟩
    · obtain ⟨s3, ⟨h3, t3, pa3, fn3⟩, x4, rfl⟩ := hP
      have en : (((((ws.map V.int).length : Nat) : Int) + 1) - ((f : Int) + 1)).toNat = ws.length - f := by rw [List.length_map]; omega
      rw [en] at fn3
      exact ⟨s3, ⟨h3, t3, pa3, fn3.weak fun i j hij hj d => by
        have d : ws.length - (m + 1) ≤ i := d
        by_cases z : f < i
        · exact .inl z
        · exact .inr ⟨by omega, by omega⟩⟩, _, _, rfl⟩
  · obtain ⟨s2, ⟨h, t, pa2, fn2⟩, x3, x4, rfl⟩ := hP
    exact ⟨_, rfl, qq r X h t H2 s2 pa2 (fn2.weak fun i j _ _ _ => by show ws.length - ws.length ≤ i; omega)⟩
/-! is_above, first_above -/
def spIsA : Sp := fun vs H Q _ => ∃ a b : OI, vs = [oV a, oV b] ∧ Q (.bl (ab a b)) H
theorem scIsA : FnScope ["floor", "bound"] ["floor", "bound"] (defScope sIs) := ⟨rfl, rfl, rfl, by decide +kernel, rfl, by decide +kernel, by decide +kernel⟩
theorem ok_isa (F : Fun K "is_above" "is_above" sIs f fd) : FnOk P' w K mg base CX0 1 f fd ["floor", "bound"] spIsA := by
  refine F.ok (k := 0) scIsA (fun vs H Q E h => ?_) (fun cdv A outer s H vs Q E hr h => ?_)
  · obtain ⟨a, b, rfl, _⟩ := h
    rfl
  obtain ⟨a, b, rfl, q⟩ := h
  refine ⟨_, pss_cons (ps_if (pt_cmp (pc_isN (pv 1))) (pss_one (ps_ret pe_bl)) pss_nil) (pss_one (ps_ret (pe_or (pe_cmp (pc_isN (pv 0))) (pe_one (pe_cmpR op_gt (pv 0) (pv 1) (nomark _)))))), ?_⟩
  cases b with
  | none =>
    refine ⟨_, rfl, _, rfl, iteT ?_⟩
    cases a <;> exact q
  | some y =>
    refine ⟨_, rfl, _, rfl, iteF ?_⟩
    cases a with
    | none => exact ⟨_, rfl, _, rfl, iteT q⟩
    | some x => exact ⟨_, rfl, _, rfl, iteF ⟨_, rfl, _, rfl, _, _, rfl, rfl, q⟩⟩
abbrev NAb : List Str := ["floors", "bounds", "first", "at"]
def spAbove : Sp := fun vs H Q _ => ∃ (d d2 : Addr) (ra ra2 : Nat → Addr) (F B : Nat → Nat → OI) (n : Nat), vs = [.ref d, .ref d2] ∧ FlO H d ra n F ∧ FlO H d2 ra2 n B ∧ n ≤ 20 ∧ ∀ r o H', Same H H' → OpAt H' r o → isS (fun i j => ab (F i j) (B i j) = true) n o → Q r H'
theorem scAbove : FnScope NAb ["floors", "bounds"] (defScope sAbove) := ⟨rfl, rfl, rfl, by decide +kernel, rfl, by decide +kernel, by decide +kernel⟩
set_option maxHeartbeats 8000000 in
theorem ok_above (F : Fun K "first_above" "first_above" sAbove f fd) (GI : Fns P' w K mg base ["floor", "bound"] "is_above" spIsA 1) (ml : mg "len" = none) (mr : mg "range" = none) : FnOk P' w K mg base CX0 2 f fd ["floors", "bounds"] spAbove := by
  refine F.ok (k := 1) scAbove (fun vs H Q E h => ?_) (fun cdv A outer s H vs Q E hr h => ?_)
  · obtain ⟨d, d2, ra, ra2, F, B, n, rfl, _⟩ := h
    rfl
  obtain ⟨d, d2, ra, ra2, F, B, n, rfl, fl, fb, n20, q⟩ := h
  refine ⟨_, pss_cons (ps_for PassesOwn.never rfl (pi_range1 (by rfl) mr (pa_cons (pe_callB call_len_seq (by rfl) ml PySem.boot_len (pa_cons (pv 1) pa_nil)) pa_nil)) (pg_name (i := 2) scAbove.nd rfl (Or.inl rfl))
      (pss_one (ps_for PassesOwn.never rfl (pi_range1 (by rfl) mr (pa_cons (pe_callB call_len_seq (by rfl) ml PySem.boot_len (pa_cons (pe_ix ix_list (pv 1) (pv 2) (fun _ _ => rfl)) pa_nil)) pa_nil)) (pg_name (i := 3) scAbove.nd rfl (Or.inl rfl))
        (pss_one (ps_if (pt_val (pe_call GI.ok hr (by rfl) GI.m GI.kp GI.b .nil pass0 (pa_cons (pe_ix ix_list (pe_ix ix_list (pv 0) (pv 2) (fun _ _ => rfl)) (pv 3) (fun _ _ => rfl)) (pa_cons (pe_ix ix_list (pe_ix ix_list (pv 1) (pv 2) (fun _ _ => rfl)) (pv 3) (fun _ _ => rfl)) pa_nil)))) (pss_one (ps_ret (pe_tup (pa_cons (pv 2) (pa_cons (pe_op op_add (pe_op op_add (pv 2) pe_int) (pv 3)) pa_nil))))) pss_nil)))))
    (pss_one (ps_ret pe_non)), ?_⟩
  refine ⟨_, rfl, d2, _, rfl, .inl (SqL.of fb.o), _, rfl, by omega, by rw [List.length_map, List.length_range]; omega, ?_⟩
  rw [List.length_map, List.length_range, Int.toNat_natCast]
  refine for_range (fun i σ H' => Same H H' ∧ (∀ a b, a < i → a < b → b ≤ n → ¬ ab (F a b) (B a b) = true) ∧ ∃ x2 x3 : Option V, σ = [some (.ref d), some (.ref d2), x2, x3]) ⟨Same.refl _, fun a b ha => absurd ha (Nat.not_lt_zero _), _, _, rfl⟩ (fun i σ H1 hi hP => ?_) (fun σ H1 hP => ?_)
  · obtain ⟨s1, c1, x2, x3, rfl⟩ := hP
    rw [show (0 : Int) + (i : Int) = (i : Int) from Int.zero_add _]
    refine ⟨_, rfl, _, rfl, d2, _, _, _, rfl, rfl, SqL.of (s1 _ _ fb.o), at_rng hi, ra2 i, _, rfl, .inl (SqL.of (s1 _ _ (fb.r i hi))), _, rfl, by omega, by rw [List.length_map, List.length_map, List.length_range]; omega, ?_⟩
    rw [List.length_map, List.length_map, List.length_range, Int.toNat_natCast]
    refine for_range (fun k σ H' => Same H H' ∧ (∀ b, i < b → b ≤ i + k → ¬ ab (F i b) (B i b) = true) ∧ ∃ x3 : Option V, σ = [some (.ref d), some (.ref d2), some (.int (i : Int)), x3]) ⟨s1, fun b h1 h2 => by omega, _, rfl⟩ (fun k σ H2 hk hP => ?_) (fun σ H2 hP => ?_)
    · obtain ⟨s2, c2, x3, rfl⟩ := hP
      rw [show (0 : Int) + (k : Int) = (k : Int) from Int.zero_add _]
      have fl2 := fl.same s2
      have fb2 := fb.same s2
      refine ⟨_, rfl, _, rfl, d, _, _, _, rfl, rfl, SqL.of fl2.o, at_rng hi, _, rfl, ra i, _, _, _, rfl, rfl, SqL.of (fl2.r i hi), at_O' hk, _, rfl, _, rfl, d2, _, _, _, rfl, rfl, SqL.of fb2.o, at_rng hi, _, rfl, ra2 i, _, _, _, rfl, rfl, SqL.of (fb2.r i hi), at_O' hk, _, _, rfl, _, rfl, ?_⟩
      refine ite2 (fun y => ?_) (fun y => ?_)
      · have y1 := y
        refine ⟨_, rfl, _, rfl, _, _, rfl, rfl, _, rfl, _, _, rfl, rfl, (by show 2 ≤ sizeLine; decide), fun t ht => ?_⟩
        have ek : (i : Int) + 1 + (k : Int) = ((i + k + 1 : Nat) : Int) := by push_cast; omega
        dsimp only
        rw [ek]
        refine q (.ref t) (some (i, i + k + 1)) _ (s2.trans (same_newO ht _)) ⟨t, rfl, upd_same⟩ (.inr ⟨i, i + k + 1, rfl, by omega, by omega, y1, fun a b h1 h2 h3 => ?_⟩)
        rcases h3 with z | ⟨z1, z2⟩
        · exact c1 a b z h1 h2
        · subst z1; exact c2 b h1 (by omega)
      · have y1 : ¬ ab (F i (i + k + 1)) (B i (i + k + 1)) = true := y
        refine ⟨s2, fun b h1 h2 => ?_, _, rfl⟩
        by_cases e : b = i + k + 1
        · subst e; exact y1
        · exact c2 b h1 (by omega)
    · obtain ⟨s2, c2, x3, rfl⟩ := hP
      refine ⟨s2, fun a b h1 h2 h3 => ?_, _, _, rfl⟩
      by_cases e : a = i
      · subst e; exact c2 b h2 (by omega)
      · exact c1 a b (by omega) h2 h3
  · obtain ⟨s1, c1, x2, x3, rfl⟩ := hP
    exact q .non none _ s1 rfl (.inl ⟨rfl, fun i j h1 h2 => c1 i j (by omega) h1 h2⟩)
/-! has_rows, refuse_rows -/
def spHas : Sp := fun vs H Q _ => ∃ (q d : Addr) (ws : List Int) (lens : List Nat), vs = [.ref q, .ref d] ∧ TW H q ws ∧ RwAt H d lens ∧ ws.length ≤ 20 ∧ lens.length ≤ 100 ∧ ∀ H' b, Same H H' → (b = true ↔ good lens ws.length) → Q (.bl b) H'
theorem scHas : FnScope ["weights", "floors"] ["weights", "floors"] (defScope sHas) := ⟨rfl, rfl, rfl, by decide +kernel, rfl, by decide +kernel, by decide +kernel⟩
theorem ndHas : (("row" : Str) :: ["weights", "floors"]).Nodup := by decide +kernel
set_option maxHeartbeats 4000000 in
theorem ok_has (F : Fun K "has_rows" "has_rows" sHas f fd) (ml : mg "len" = none) (mr : mg "range" = none) (mL : mg "list" = none) : FnOk P' w K mg base CX0 1 f fd ["weights", "floors"] spHas := by
  refine F.ok (k := 0) scHas (fun vs H Q E h => ?_) (fun cdv A outer s H vs Q E hr h => ?_)
  · obtain ⟨q, d, ws, lens, rfl, _⟩ := h
    rfl
  obtain ⟨q, d, ws, lens, rfl, hq, ⟨xs, hd, rw'⟩, w20, l100, qq⟩ := h
  refine ⟨_, pss_one (ps_ret (pe_cmpR (op_eqLI (hu4 hr)) (pe_compL (M := ["weights", "floors"]) rfl (CompScope.of (defScope sHas) ["weights", "floors"] rfl rfl rfl (by decide +kernel) (by decide +kernel) (by decide +kernel) rfl (by decide +kernel)) ndHas rfl (pv 1) mo_var
      (fun cl C s0 H0 fp => ⟨pts_nil, pe_callB (call_lenK K) (by rfl) ml PySem.boot_len (pa_cons (pv 0) pa_nil)⟩)) (pe_listrngD rfl (by rfl) mL (by rfl) mr (pa_cons (pe_callB call_len_seq (by rfl) ml PySem.boot_len (pa_cons (pv 0) pa_nil)) (pa_cons pe_int (pa_cons (pe_un un_neg pe_int) pa_nil)))) (nomark _))), ?_⟩
  have lx : xs.length = lens.length := rw'.length
  refine ⟨_, rfl, d, _, rfl, SqL.of hd, fun c hc => ?_⟩
  refine ⟨fun i H' => Same H H' ∧ H' c = some (.lst (((lens.take i).map fun l : Nat => (l : Int)).map V.int)), ⟨same_newO hc _, upd_same⟩, fun i H' _ hP => SqL.of (hP.1 _ _ hd), fun i x H' hx hP => ?_, fun H' hP => ?_⟩
  · obtain ⟨s5, hd'⟩ := hP
    obtain ⟨l, hl, a, zs, rfl, ha, lz⟩ := Paired.right_of rw' i x hx
    have il := (List.getElem?_eq_some_iff.mp hl).1
    refine turn_all ⟨_, rfl, a, _, rfl, .inl (SqL.of (s5 _ _ ha)), _, hd', ?_, same_upd hc s5, ?_⟩
    · rw [List.length_map, List.length_map, List.length_take]; exact small1000 (by omega)
    · rw [upd_same, List.take_add_one, hl, List.map_append, List.map_append, lz]; rfl
  · obtain ⟨s5, hd'⟩ := hP
    rw [lx, List.take_length] at hd'
    refine ⟨_, rfl, q, _, rfl, .inr (SqT.of (s5 _ _ hq)), _, rfl, ws.length, (by rw [List.length_map]), by omega, fun e he => ?_⟩
    have s6 := same_newO he (.lst ((List.range ws.length).map fun i : Nat => V.int ((ws.length : Int) + (i : Int) * (-1))))
    have g6 : upd H' e (.lst ((List.range ws.length).map fun i : Nat => V.int ((ws.length : Int) + (i : Int) * (-1)))) e = some (.lst ((down ws.length).map V.int)) := by
      rw [upd_same]
      unfold down
      rw [List.map_map]
      rfl
    generalize upd H' e (.lst ((List.range ws.length).map fun i : Nat => V.int ((ws.length : Int) + (i : Int) * (-1)))) = H6 at s6 g6 ⊢
    exact ⟨c, e, _, _, rfl, rfl, s6 _ _ hd', g6, qq H6 _ (s5.trans s6) (by unfold good; exact decide_eq_true_iff)⟩
end
end K42
set_option Elab.async false
set_option linter.all false
set_option maxRecDepth 100000
namespace K42
open PySem L2
theorem upd_ne' {H : Hp} {a b : Addr} {o o' : HO} (h : a ≠ b) (e : H a = some o) : upd H b o' a = some o := by rw [upd_ne h]; exact e
theorem row_of {ra : Nat → Addr} {n i : Nat} {x : V} (hx : ((List.range n).map fun k => V.ref (ra k))[i]? = some x) : i < n ∧ x = .ref (ra i) := by
  have il := (List.getElem?_eq_some_iff.mp hx).1
  rw [List.length_map, List.length_range] at il
  rw [List.getElem?_map, List.getElem?_range il] at hx
  exact ⟨il, (Option.some.inj hx).symm⟩
theorem mod_n {x : Int} {n : Nat} (hn : 1 ≤ n) : ∃ k : Nat, x % (n : Int) = (k : Int) ∧ k < n := by
  have h1 := Int.emod_nonneg x (show (n : Int) ≠ 0 by omega)
  have h2 := Int.emod_lt_of_pos x (show (0 : Int) < (n : Int) by omega)
  exact ⟨(x % (n : Int)).toNat, by omega, by omega⟩
/-! new lists of new lists -/
structure CpV (H0 H' : Hp) (R : Nat → List V) (i : Nat) (ka : Nat → Addr) (dk : Addr) : Prop where
  same : Same H0 H'
  fr : ∀ k, k < i → H0 (ka k) = none
  inj : ∀ j k, j < i → k < i → ka j = ka k → j = k
  nd : ∀ k, k < i → ka k ≠ dk
  lo_ : H' dk = some (.lst ((List.range i).map fun k => .ref (ka k)))
  lr : ∀ k, k < i → H' (ka k) = some (.lst (R k))
theorem CpV.start {H0 : Hp} {R : Nat → List V} {dk : Addr} (hd : H0 dk = none) : CpV H0 (upd H0 dk (.lst [])) R 0 (fun _ => dk) dk :=
  ⟨same_newO hd _, fun k hk => absurd hk (Nat.not_lt_zero _), fun j k hj => absurd hj (Nat.not_lt_zero _), fun k hk => absurd hk (Nat.not_lt_zero _), upd_same, fun k hk => absurd hk (Nat.not_lt_zero _)⟩
theorem CpV.step {H0 H1 H2 : Hp} {R : Nat → List V} {i : Nat} {ka : Nat → Addr} {dk l : Addr} (hd : H0 dk = none) (c : CpV H0 H1 R i ka dk) (s : Same H1 H2) (hl : H1 l = none) (gl : H2 l = some (.lst (R i))) : CpV H0 (upd H2 dk (.lst (((List.range i).map fun k => V.ref (ka k)) ++ [.ref l]))) R (i + 1) (ext ka i l) dk := by
  have ld : l ≠ dk := fun z => by rw [z, c.lo_] at hl; cases hl
  have lk : ∀ k, k < i → ka k ≠ l := fun k hk z => by rw [← z, c.lr k hk] at hl; cases hl
  refine ⟨same_upd hd (c.same.trans s), fun k hk => ?_, fun j k hj hk e => ?_, fun k hk => ?_, ?_, fun k hk => ?_⟩
  · by_cases z : k = i
    · rw [ext_same z]; exact c.same.free hl
    · rw [ext_ne z]; exact c.fr k (by omega)
  · by_cases z1 : j = i <;> by_cases z2 : k = i
    · omega
    · rw [ext_same z1, ext_ne z2] at e
      exact absurd e.symm (lk k (by omega))
    · rw [ext_ne z1, ext_same z2] at e
      exact absurd e (lk j (by omega))
    · rw [ext_ne z1, ext_ne z2] at e
      exact c.inj j k (by omega) (by omega) e
  · by_cases z : k = i
    · rw [ext_same z]; exact ld
    · rw [ext_ne z]; exact c.nd k (by omega)
  · rw [upd_same, List.range_succ, List.map_append]
    refine congrArg (fun z => some (HO.lst z)) ?_
    congr 1
    · refine List.map_congr_left fun k hk => ?_
      rw [ext_ne (by have := List.mem_range.mp hk; omega)]
    · show [V.ref l] = [V.ref (ext ka i l i)]
      rw [ext_same rfl]
  · by_cases z : k = i
    · rw [ext_same z, upd_ne ld, z]; exact gl
    · rw [ext_ne z, upd_ne (c.nd k (by omega))]; exact s _ _ (c.lr k (by omega))
theorem CpV.fl {H0 H' : Hp} {n : Nat} {F : Nat → Nat → OI} {ka : Nat → Addr} {dk : Addr} (c : CpV H0 H' (fun k => (rowO F n k).map oV) n ka dk) : FlO H' dk ka n F := ⟨c.lo_, c.lr⟩
/-! the ground -/
def gr (i j : Nat) : OI := if j - i = 1 then some 0 else none
theorem nons (n : Nat) : (List.replicate n [V.non]).flatten = List.replicate n V.non := by
  induction n with
  | zero => rfl
  | succ n ih => rw [List.replicate_succ, List.flatten_cons, ih]; rfl
theorem row_gr {n i : Nat} (h : i < n) : V.int 0 :: List.replicate (n - i - 1) V.non = (rowO gr n i).map oV := by
  refine List.ext_getElem? fun k => ?_
  rw [List.map_map]
  by_cases hk : k < n - i
  · rw [List.getElem?_map, List.getElem?_range hk]
    cases k with
    | zero =>
      show some (V.int 0) = some (oV (gr i (i + 0 + 1)))
      unfold gr
      rw [if_pos (by omega)]
      rfl
    | succ k =>
      show (List.replicate (n - i - 1) V.non)[k]? = some (oV (gr i (i + (k + 1) + 1)))
      unfold gr
      rw [if_neg (by omega), List.getElem?_replicate, if_pos (by omega)]
      rfl
  · rw [List.getElem?_eq_none (by rw [List.length_cons, List.length_replicate]; omega), List.getElem?_eq_none (by rw [List.length_map, List.length_range]; omega)]
theorem bd_none {ps ws : List Int} {i j : Nat} : bdO ps ws (fun _ _ => none) i j = gr i j := by
  unfold bdO gr
  rw [most_none]
/-! stairs -/
structure StO (H : Hp) (d : Addr) (da : Nat → Addr) (ra : Nat → Nat → Addr) (k n : Nat) (F : Nat → Nat → Nat → OI) : Prop where
  o : H d = some (.lst ((List.range k).map fun s => .ref (da s)))
  r : ∀ s, s < k → FlO H (da s) (ra s) n (F s)
theorem StO.same {H H' : Hp} {d : Addr} {da : Nat → Addr} {ra : Nat → Nat → Addr} {k n : Nat} {F : Nat → Nat → Nat → OI} (h : StO H d da ra k n F) (s : Same H H') : StO H' d da ra k n F := ⟨s _ _ h.o, fun i hi => (h.r i hi).same s⟩
def SwAt (H : Hp) (d : Addr) (lss : List (List Nat)) : Prop := ∃ xs, H d = some (.lst xs) ∧ Paired (fun x ls => ∃ a, x = .ref a ∧ RwAt H a ls) xs lss
theorem FlO.rw' {H : Hp} {d : Addr} {ra : Nat → Addr} {n : Nat} {F : Nat → Nat → OI} (h : FlO H d ra n F) : RwAt H d ((List.range n).map fun i => n - i) := ⟨_, h.o, paired_rng n fun i hi => ⟨ra i, _, rfl, h.r i hi, by rw [List.length_map, List.length_map, List.length_range]⟩⟩
theorem StO.sw {H : Hp} {d : Addr} {da : Nat → Addr} {ra : Nat → Nat → Addr} {k n : Nat} {F : Nat → Nat → Nat → OI} (h : StO H d da ra k n F) : SwAt H d ((List.range k).map fun _ => (List.range n).map fun i => n - i) := ⟨_, h.o, paired_rng k fun s hs => ⟨da s, rfl, (h.r s hs).rw'⟩⟩
def okS (lss : List (List Nat)) (tp n : Nat) : Prop := lss.length = tp + 1 ∧ ∀ l ∈ lss, good l n
theorem ok_st (k n : Nat) : okS ((List.range (k + 1)).map fun _ => (List.range n).map fun i => n - i) k n := by
  refine ⟨by rw [List.length_map, List.length_range], fun l hl => ?_⟩
  obtain ⟨s, _, rfl⟩ := List.mem_map.mp hl
  exact good_fl n
def Fb (F : Nat → Nat → Nat → OI) (s : Nat) : Nat → Nat → OI := if s = 0 then fun _ _ => none else F (s - 1)
def cS (ps ws : List Int) (F : Nat → Nat → Nat → OI) (s i j : Nat) : Prop := ab (F s i j) (bdO ps ws (Fb F s) i j) = true
def isT (c : Nat → Nat → Nat → Prop) (k n : Nat) (o : Option (Nat × Nat × Nat)) : Prop := (o = none ∧ ∀ s i j, s < k → i < j → j ≤ n → ¬ c s i j) ∨ ∃ s i j, o = some (s, i, j) ∧ s < k ∧ (∀ s' i j, s' < s → i < j → j ≤ n → ¬ c s' i j) ∧ isS (c s) n (some (i, j))
theorem isT_uniq {c : Nat → Nat → Nat → Prop} {k n : Nat} {o o' : Option (Nat × Nat × Nat)} (h : isT c k n o) (h' : isT c k n o') : o = o' := by
  have some_c : ∀ {s i j}, isS (c s) n (some (i, j)) → i < j ∧ j ≤ n ∧ c s i j := fun h => by
    rcases h with ⟨z, _⟩ | ⟨i', j', e, h1, h2, h3, _⟩
    · cases z
    · cases e; exact ⟨h1, h2, h3⟩
  rcases h with ⟨rfl, h⟩ | ⟨s, i, j, rfl, h1, h2, h3⟩ <;> rcases h' with ⟨rfl, h'⟩ | ⟨s', i', j', rfl, h1', h2', h3'⟩
  · rfl
  · obtain ⟨a1, a2, a3⟩ := some_c h3'
    exact absurd a3 (h s' i' j' h1' a1 a2)
  · obtain ⟨a1, a2, a3⟩ := some_c h3
    exact absurd a3 (h' s i j h1 a1 a2)
  · obtain ⟨a1, a2, a3⟩ := some_c h3
    obtain ⟨b1, b2, b3⟩ := some_c h3'
    rcases Nat.lt_trichotomy s s' with z | z | z
    · exact absurd a3 (h2' s i j z a1 a2)
    · subst z
      have := Option.some.inj (isS_uniq h3 h3')
      cases this
      rfl
    · exact absurd b3 (h2 s' i' j' z b1 b2)
def OpT (H : Hp) (r : V) : Option (Nat × Nat × Nat) → Prop
  | none => r = .non
  | some q => ∃ t, r = .ref t ∧ TW H t [(q.1 : Int), (q.2.1 : Int), (q.2.2 : Int)]
theorem OpT.same {H H' : Hp} {r : V} {o : Option (Nat × Nat × Nat)} (s : Same H H') (h : OpT H r o) : OpT H' r o := by
  cases o with
  | none => exact h
  | some q =>
    obtain ⟨t, e, ht⟩ := h
    exact ⟨t, e, s _ _ ht⟩
section
variable {P' : Program} {w : World} {K : PySem.W.Frag} {mg : Str → Option Value} {base : Heap} {f : Addr} {fd : FuncData}
/-! refuse_top -/
def spTop : Sp := fun vs H Q _ => ∃ tp : Nat, vs = [.int (tp : Int)] ∧ tp ≤ 24 ∧ Q .non H
theorem scTop : FnScope ["top"] ["top"] (defScope sTop) := ⟨rfl, rfl, rfl, by decide +kernel, rfl, by decide +kernel, by decide +kernel⟩
theorem ok_top {CB : Addr} (F : Fun K "refuse_top" "refuse_top" sTop f fd) (mB : mg "BadNumber" = some (.ref CB)) (eB : Ecl K CB) : FnOk P' w K mg base (CXF P' w) 1 f fd ["top"] spTop := by
  refine F.okF (k := 0) scTop (fun vs H Q E h => ?_) (fun cdv A outer s H vs Q E hr h => ?_)
  · obtain ⟨tp, rfl, _⟩ := h
    rfl
  obtain ⟨tp, rfl, t24, q⟩ := h
  refine ⟨_, pss_one (ps_if (pt_not (pt_chain op_le op_le pe_int (pv 0) pe_int)) (pss_one (ps_raise takes_def rfl (by rfl) mB eB (pa_cons pe_str pa_nil))) pss_nil), ?_⟩
  refine ⟨_, rfl, _, _, rfl, rfl, _, rfl, ?_⟩
  rw [decide_eq_true (show (0 : Int) ≤ (tp : Int) by omega)]
  refine iteT ⟨_, _, rfl, rfl, _, rfl, ?_⟩
  rw [decide_eq_true (show (tp : Int) ≤ 24 by omega)]
  exact iteF q
/-! bounds_on_ground -/
def spGround : Sp := fun vs H Q _ => ∃ n : Nat, vs = [.int (n : Int)] ∧ n ≤ 20 ∧ ∀ (d : Addr) ra H', Same H H' → FlO H' d ra n gr → Q (.ref d) H'
theorem scGround : FnScope ["things"] ["things"] (defScope sGround) := ⟨rfl, rfl, rfl, by decide +kernel, rfl, by decide +kernel, by decide +kernel⟩
theorem ndGr : (("first" : Str) :: ["things"]).Nodup := by decide +kernel
set_option maxHeartbeats 4000000 in
theorem ok_ground (F : Fun K "bounds_on_ground" "bounds_on_ground" sGround f fd) (mr : mg "range" = none) : FnOk P' w K mg base CX0 1 f fd ["things"] spGround := by
  refine F.ok (k := 0) scGround (fun vs H Q E h => ?_) (fun cdv A outer s H vs Q E hr h => ?_)
  · obtain ⟨n, rfl, _⟩ := h
    rfl
  obtain ⟨n, rfl, n20, q⟩ := h
  refine ⟨_, pss_one (ps_ret (pe_compR1 (M := ["things"]) rfl (CompScope.of (defScope sGround) ["things"] rfl rfl rfl (by decide +kernel) (by decide +kernel) (by decide +kernel) rfl (by decide +kernel)) ndGr rfl (by rfl) mr (pa_cons (pv 0) pa_nil) (mo_cons mo_var mo_nil)
      (fun cl C s0 H0 fp => ⟨pts_nil, pe_op op_cat (pe_lst (pa_cons pe_int pa_nil)) (pe_op op_rep (pe_lst (pa_cons pe_non pa_nil)) (pe_op op_sub (pe_op op_sub (pv 1) (pv 0)) pe_int))⟩))), ?_⟩
  refine ⟨_, rfl, _, rfl, by omega, by omega, fun d hd => ?_⟩
  rw [Int.toNat_natCast]
  refine ⟨fun i H' => ∃ ra, CpV H H' (fun k => (rowO gr n k).map oV) i ra d, ⟨_, CpV.start hd⟩, fun i H1 hi hP => ?_, fun H1 hP => ?_⟩
  · obtain ⟨ra, cp⟩ := hP
    rw [show (0 : Int) + (i : Int) = (i : Int) from Int.zero_add _]
    refine turn_all ⟨(by show 1 ≤ sizeLine; decide), fun l1 hl1 => ?_⟩
    have s1 := same_newO hl1 (.lst [.int 0])
    have g1 : upd H1 l1 (.lst [.int 0]) l1 = some (.lst [.int 0]) := upd_same
    generalize upd H1 l1 (.lst [.int 0]) = H2 at s1 g1 ⊢
    refine ⟨(by show 1 ≤ sizeLine; decide), fun l2 hl2 => ?_⟩
    have s2 := same_newO hl2 (.lst [.non])
    have g2 : upd H2 l2 (.lst [.non]) l2 = some (.lst [.non]) := upd_same
    generalize upd H2 l2 (.lst [.non]) = H3 at s2 g2 ⊢
    refine ⟨_, rfl, _, rfl, _, _, rfl, rfl, _, _, rfl, rfl, l2, _, _, rfl, rfl, g2, by omega, by omega, (by show 1 * _ ≤ _; exact Nat.le_of_lt (small1000 (by omega))), fun l3 hl3 => ?_⟩
    rw [show ((n : Int) - (i : Int) - 1).toNat = n - i - 1 by omega, nons]
    have s3 := same_newO hl3 (.lst (List.replicate (n - i - 1) V.non))
    have g3 : upd H3 l3 (.lst (List.replicate (n - i - 1) V.non)) l3 = some (.lst (List.replicate (n - i - 1) V.non)) := upd_same
    generalize upd H3 l3 (.lst (List.replicate (n - i - 1) V.non)) = H4 at s3 g3 ⊢
    have s14 := (s1.trans s2).trans s3
    refine ⟨l1, l3, _, _, rfl, rfl, s3 _ _ (s2 _ _ g1), g3, (by show 1 + _ ≤ _; rw [List.length_replicate]; exact Nat.le_of_lt (small1000 (by omega))), fun l hl => ?_⟩
    have er : ([V.int 0] ++ List.replicate (n - i - 1) V.non : List V) = (rowO gr n i).map oV := row_gr hi
    rw [er]
    refine ⟨_, upd_ne' (fun z => by rw [← z, s14 _ _ cp.lo_] at hl; cases hl) (s14 _ _ cp.lo_), ?_, _, CpV.step (R := fun k => (rowO gr n k).map oV) hd cp (s14.trans (same_newO hl _)) (s14.free hl) upd_same⟩
    rw [List.length_map, List.length_range]; exact small1000 (by omega)
  · obtain ⟨ra, cp⟩ := hP
    exact q d ra H1 cp.same cp.fl
/-! has_steps -/
abbrev NSt : List Str := ["weights", "top", "stairs"]
def spSteps : Sp := fun vs H Q _ => ∃ (q d : Addr) (ws : List Int) (tp : Nat) (lss : List (List Nat)), vs = [.ref q, .int (tp : Int), .ref d] ∧ TW H q ws ∧ SwAt H d lss ∧ ws.length ≤ 20 ∧ lss.length ≤ 100 ∧ (∀ l ∈ lss, l.length ≤ 100) ∧ ∀ H' b, Same H H' → (b = true ↔ okS lss tp ws.length) → Q (.bl b) H'
theorem scSteps : FnScope NSt NSt (defScope sSteps) := ⟨rfl, rfl, rfl, by decide +kernel, rfl, by decide +kernel, by decide +kernel⟩
theorem ndSt : (("floors" : Str) :: NSt).Nodup := by decide +kernel
set_option maxHeartbeats 4000000 in
theorem ok_steps (F : Fun K "has_steps" "has_steps" sSteps f fd) (GH : Fns P' w K mg base ["weights", "floors"] "has_rows" spHas 1) (ml : mg "len" = none) (ma : mg "all" = none) : FnOk P' w K mg base CX0 2 f fd NSt spSteps := by
  refine F.ok (k := 1) scSteps (fun vs H Q E h => ?_) (fun cdv A outer s H vs Q E hr h => ?_)
  · obtain ⟨q, d, ws, tp, lss, rfl, _⟩ := h
    rfl
  obtain ⟨q, d, ws, tp, lss, rfl, hq, hsw, w20, l100, li100, qq⟩ := h
  refine ⟨_, pss_one (ps_ret (pe_and (pe_cmpR op_eq (pe_callB call_len_seq (by rfl) ml PySem.boot_len (pa_cons (pv 2) pa_nil)) (pe_op op_add (pv 1) pe_int) (nomark _)) (pe_one (pe_callB (call_all rfl) (by rfl) ma b_all (pa_cons (pe_compL (M := NSt) rfl (CompScope.of (defScope sSteps) NSt rfl rfl rfl (by decide +kernel) (by decide +kernel) (by decide +kernel) rfl (by decide +kernel)) ndSt rfl (pv 2) mo_var
      (fun cl C s0 H0 fp => ⟨pts_nil, pe_call GH.ok hr (by rfl) GH.m GH.kp GH.b .nil pass0 (pa_cons (pv 1) (pa_cons (pv 0) pa_nil))⟩)) pa_nil))))), ?_⟩
  obtain ⟨xs, hd, pr⟩ := id hsw
  have lx : xs.length = lss.length := pr.length
  refine ⟨_, rfl, d, _, rfl, .inl (SqL.of hd), _, rfl, _, _, rfl, rfl, rfl, _, rfl, ?_⟩
  refine ite2 (fun y => ?_) (fun y => ?_)
  · have y1 : lss.length = tp + 1 := by
      have z : V.int (xs.length : Int) = V.int ((tp : Int) + 1) := of_decide_eq_true y
      have := V.int.inj z
      omega
    refine ⟨_, rfl, d, _, rfl, SqL.of hd, fun c hc => ?_⟩
    refine ⟨fun i H' => Same H H' ∧ ∃ bs : List Bool, H' c = some (.lst (bs.map V.bl)) ∧ bs.length = i ∧ (bs.all id = true ↔ ∀ l ∈ lss.take i, good l ws.length), ⟨same_newO hc _, [], upd_same, rfl, ⟨fun _ l hl => (by cases hl), fun _ => rfl⟩⟩, fun i H' _ hP => SqL.of (hP.1 _ _ hd), fun i x H' hx hP => ?_, fun H' hP => ?_⟩
    · obtain ⟨s5, bs, hc', lb, ib⟩ := hP
      obtain ⟨ls, hl, a, rfl, ha⟩ := Paired.right_of pr i x hx
      have il := (List.getElem?_eq_some_iff.mp hl).1
      refine turn_all ⟨_, rfl, _, rfl, q, a, ws, ls, rfl, s5 _ _ hq, ha.same s5, w20, li100 ls (List.mem_of_getElem? hl), fun H6 b s6 hb => ?_⟩
      refine ⟨_, s6 _ _ hc', ?_, same_upd hc (s5.trans s6), bs ++ [b], by rw [upd_same, List.map_append]; rfl, by rw [List.length_append, lb]; rfl, ?_⟩
      · rw [List.length_map, lb]; exact small1000 (by omega)
      · rw [List.take_add_one, hl, List.all_append, Bool.and_eq_true, ib]
        constructor
        · rintro ⟨h1, h2⟩ l hl'
          rcases List.mem_append.mp hl' with z | z
          · exact h1 l z
          · rw [List.mem_singleton.mp z]
            refine hb.mp ?_
            simpa using h2
        · intro h
          refine ⟨fun l hl' => h l (List.mem_append.mpr (.inl hl')), ?_⟩
          have := hb.mpr (h ls (List.mem_append.mpr (.inr (.head _))))
          rw [this]; rfl
    · obtain ⟨s5, bs, hc', lb, ib⟩ := hP
      rw [lx, List.take_length] at ib
      refine ⟨c, _, rfl, hc', qq H' _ s5 ?_⟩
      rw [ib]
      exact ⟨fun h => ⟨y1, h⟩, fun h => h.2⟩
  · refine qq H false (Same.refl _) ⟨fun z => (by cases z), fun z => ?_⟩
    refine absurd (decide_eq_true ?_) y
    show V.int (xs.length : Int) = V.int ((tp : Int) + 1)
    rw [lx, z.1]
    rfl
end
end K42
set_option Elab.async false
set_option linter.all false
set_option maxRecDepth 100000
namespace K42
open PySem L2
section
variable {P' : Program} {w : World} {K : PySem.W.Frag} {mg : Str → Option Value} {base : Heap} {f : Addr} {fd : FuncData}
/-! bounds_on -/
abbrev NOn : List Str := ["prices", "weights", "stairs", "step"]
def spOn : Sp := fun vs H Q _ => ∃ (p q d : Addr) (ps ws : List Int) (da : Nat → Addr) (ra : Nat → Nat → Addr) (F : Nat → Nat → Nat → OI) (k s : Nat), vs = [.ref p, .ref q, .ref d, .int (s : Int)] ∧ TW H p ps ∧ TW H q ws ∧ StO H d da ra k ws.length F ∧ Num ps ws ∧ s < k ∧
  ∀ (d' : Addr) ra' B H', Same H H' → FlO H' d' ra' ws.length B → (∀ i j, i < j → j ≤ ws.length → B i j = bdO ps ws (Fb F s) i j) → Q (.ref d') H'
theorem scOn : FnScope NOn NOn (defScope sOn) := ⟨rfl, rfl, rfl, by decide +kernel, rfl, by decide +kernel, by decide +kernel⟩
set_option maxHeartbeats 4000000 in
theorem ok_on {C : Addr} (F : Fun K "bounds_on" "bounds_on" sOn f fd) (GG : Fns P' w K mg base ["things"] "bounds_on_ground" spGround 5) (GP : Fns P' w K mg base ["prices", "weights", "floors"] "parted_by" (spPb C) 5) (M : Mt P' w K mg base C "bounds" ["self"] (spBounds C) 5) (rc : PC K C) (ml : mg "len" = none) : FnOk P' w K mg base CX0 6 f fd NOn spOn := by
  refine F.ok (k := 5) scOn (fun vs H Q E h => ?_) (fun cdv A outer s H vs Q E hr h => ?_)
  · obtain ⟨p, q, d, ps, ws, da, ra, F, k, s, rfl, _⟩ := h
    rfl
  obtain ⟨p, q, d, ps, ws, da, ra, F, k, s', rfl, hp, hq, st, nu, hs, qq⟩ := h
  have w20 := nu.w20
  refine ⟨_, pss_cons (ps_if (pt_cmpR op_eq (pv 3) pe_int (nomark _)) (pss_one (ps_ret (pe_call GG.ok hr (by rfl) GG.m GG.kp GG.b .nil pass0 (pa_cons (pe_callB call_len_seq (by rfl) ml PySem.boot_len (pa_cons (pv 1) pa_nil)) pa_nil)))) pss_nil)
    (pss_one (ps_ret (pe_meth0 (pe_call GP.ok hr (by rfl) GP.m GP.kp GP.b .nil pass0 (pa_cons (pv 0) (pa_cons (pv 1) (pa_cons (pe_ix ix_list (pv 2) (pe_op op_sub (pv 3) pe_int) (fun _ _ => rfl)) pa_nil)))) rc.c M.m M.ok hr M.b .nil pass0))), ?_⟩
  refine ⟨_, rfl, rfl, _, rfl, ?_⟩
  refine ite2 (fun y => ?_) (fun y => ?_)
  · have y1 : s' = 0 := by
      have := V.int.inj (of_decide_eq_true y)
      omega
    subst y1
    refine ⟨_, rfl, q, _, rfl, .inr (SqT.of hq), ws.length, (by rw [List.length_map]; rfl), w20, fun d' ra' H' s1 fl => qq d' ra' gr H' s1 fl fun i j _ _ => ?_⟩
    unfold Fb
    rw [if_pos rfl, bd_none]
  · have y1 : s' ≠ 0 := fun z => y (decide_eq_true (by rw [z]; rfl))
    have e1 : V.int ((s' : Int) - 1) = .int ((s' - 1 : Nat) : Int) := by congr 1; omega
    have fl := st.r (s' - 1) (by omega)
    refine ⟨_, rfl, _, rfl, _, rfl, _, rfl, _, _, rfl, rfl, d, _, _, _, rfl, e1, SqL.of st.o, at_rng (k := s' - 1) (by omega), p, q, da (s' - 1), ps, ws, ra (s' - 1), F (s' - 1), rfl, hp, hq, fl, nu, fun r X h t H2 s2 pa fn => ?_⟩
    obtain ⟨dx, ho⟩ := pa.ob
    refine ⟨r, dx, _, rfl, ho, rfl, r, p, ps, ws, X, h, t, rfl, pa, w20, nu.p10, fun d2 ra2 H3 s3 _ _ _ _ h4 h5 => ?_⟩
    refine qq d2 ra2 (fun i j => bnd ps.length h t i j) H3 (s2.trans s3) ⟨h4, fun i hi => by rw [h5 i hi, List.map_map]; rfl⟩ fun i j hij hj => ?_
    unfold Fb
    rw [if_neg y1]
    exact fn.bdO i j hij hj
/-! step_lie -/
abbrev NSl : List Str := ["prices", "weights", "top", "stairs", "step", "lie"]
def spStep (CU : Addr) : Sp := fun vs H Q E => ∃ (p q d : Addr) (ps ws : List Int) (tp : Nat), vs = [.ref p, .ref q, .int (tp : Int), .ref d] ∧ TW H p ps ∧ TW H q ws ∧ Num ps ws ∧ tp ≤ 24 ∧
  ((∃ da ra F, StO H d da ra (tp + 1) ws.length F ∧ ∀ r o H', Same H H' → OpT H' r o → isT (cS ps ws F) (tp + 1) ws.length o → Q r H') ∨
    ∃ lss, SwAt H d lss ∧ lss.length ≤ 100 ∧ (∀ l ∈ lss, l.length ≤ 100) ∧ ¬ okS lss tp ws.length ∧ ∀ H', Same H H' → E (.ref CU) none H')
theorem scStep : FnScope NSl ["prices", "weights", "top", "stairs"] (defScope sStep) := ⟨rfl, rfl, rfl, by decide +kernel, rfl, by decide +kernel, by decide +kernel⟩
set_option maxHeartbeats 8000000 in
theorem ok_step {CU : Addr} (F : Fun K "step_lie" "step_lie" sStep f fd) (GT : Fns' P' w K mg base ["top"] "refuse_top" spTop 6) (GS : Fns P' w K mg base NSt "has_steps" spSteps 6) (GA : Fns P' w K mg base ["floors", "bounds"] "first_above" spAbove 6) (GO : Fns P' w K mg base NOn "bounds_on" spOn 6) (mU : mg "Unlike" = some (.ref CU)) (eU : Ecl K CU) (mr : mg "range" = none) : FnOk P' w K mg base (CXF P' w) 7 f fd ["prices", "weights", "top", "stairs"] (spStep CU) := by
  refine F.okF (k := 6) scStep (fun vs H Q E h => ?_) (fun cdv A outer s H vs Q E hr h => ?_)
  · obtain ⟨p, q, d, ps, ws, tp, rfl, _⟩ := h
    rfl
  obtain ⟨p, q, d, ps, ws, tp, rfl, hp, hq, nu, t24, h⟩ := h
  have w20 := nu.w20
  refine ⟨_, pss_cons (ps_expr (pe_call GT.ok hr (by rfl) GT.m GT.kp GT.b .nil takes_def (pa_cons (pv 2) pa_nil)))
    (pss_cons (ps_if (pt_not (pt_val (pe_call GS.ok hr (by rfl) GS.m GS.kp GS.b .nil pass0 (pa_cons (pv 1) (pa_cons (pv 2) (pa_cons (pv 3) pa_nil)))))) (pss_one (ps_raise takes_def rfl (by rfl) mU eU (pa_cons pe_str pa_nil))) pss_nil)
    (pss_cons (ps_for PassesOwn.leaving rfl (pi_range1 (by rfl) mr (pa_cons (pe_op op_add (pv 2) pe_int) pa_nil)) (pg_name (i := 4) scStep.nd rfl (Or.inl rfl))
      (pss_cons (ps_set (i := 5) scStep.nd rfl (Or.inl rfl) (pe_call GA.ok hr (by rfl) GA.m GA.kp GA.b .nil pass0 (pa_cons (pe_ix ix_list (pv 3) (pv 4) (fun _ _ => rfl)) (pa_cons (pe_call GO.ok hr (by rfl) GO.m GO.kp GO.b .nil pass0 (pa_cons (pv 0) (pa_cons (pv 1) (pa_cons (pv 3) (pa_cons (pv 4) pa_nil))))) pa_nil))))
      (pss_one (ps_if (pt_cmp (pc_notN (pv 5))) (pss_one (ps_ret (pe_tup (pa_cons (pv 4) (pa_cons (pe_ix ix_tup (pv 5) pe_int (fun _ _ => rfl)) (pa_cons (pe_ix ix_tup (pv 5) pe_int (fun _ _ => rfl)) pa_nil)))))) pss_nil))))
    (pss_one (ps_ret pe_non)))), ?_⟩
  refine ⟨_, rfl, tp, rfl, t24, ?_⟩
  rcases h with ⟨da, ra, F, st, qq⟩ | ⟨lss, hsw, l100, li, ng, qq⟩
  · refine ⟨_, rfl, _, rfl, _, rfl, q, d, ws, tp, _, rfl, hq, st.sw, w20, by rw [List.length_map, List.length_range]; omega, fun l hl => ?_, fun H1 b s1 hb => ?_⟩
    · obtain ⟨_, _, rfl⟩ := List.mem_map.mp hl
      rw [List.length_map, List.length_range]; omega
    have eb : b = true := hb.mpr (ok_st tp ws.length)
    subst eb
    refine ⟨_, rfl, iteF ?_⟩
    refine ⟨_, rfl, _, _, rfl, rfl, _, rfl, by omega, by omega, ?_⟩
    rw [show ((tp : Int) + 1).toNat = tp + 1 by omega]
    refine for_range (fun i σ H' => Same H H' ∧ (∀ s' i' j', s' < i → i' < j' → j' ≤ ws.length → ¬ cS ps ws F s' i' j') ∧ ∃ x4 x5 : Option V, σ = [some (.ref p), some (.ref q), some (.int (tp : Int)), some (.ref d), x4, x5]) ⟨s1, fun s' i' j' hs => absurd hs (Nat.not_lt_zero _), _, _, rfl⟩ (fun i σ H2 hi hP => ?_) (fun σ H2 hP => ?_)
    · obtain ⟨s2, c2, x4, x5, rfl⟩ := hP
      rw [show (0 : Int) + (i : Int) = (i : Int) from Int.zero_add _]
      have st2 := st.same s2
      refine ⟨_, rfl, _, rfl, d, _, _, _, rfl, rfl, SqL.of st2.o, at_rng hi, _, rfl, _, rfl, _, rfl, _, rfl, p, q, d, ps, ws, da, ra, F, tp + 1, i, rfl, s2 _ _ hp, s2 _ _ hq, st2, nu, hi, fun d3 ra3 B H3 s3 fl3 hB => ?_⟩
      have s13 := s2.trans s3
      refine ⟨da i, d3, ra i, ra3, F i, B, ws.length, rfl, (st.same s13).r i hi, fl3, w20, fun r o H4 s4 oa is => ?_⟩
      have is' : isS (cS ps ws F i) ws.length o := isS_congr (fun a b h1 h2 => by unfold cS; rw [hB a b h1 h2]) is
      have s14 := s13.trans s4
      cases o with
      | none =>
        obtain rfl : r = .non := oa
        refine ⟨_, rfl, _, rfl, iteF ⟨s14, fun s' i' j' h1 h2 h3 => ?_, _, _, rfl⟩⟩
        by_cases e : s' = i
        · subst e
          rcases is' with ⟨_, z⟩ | ⟨_, _, z, _⟩
          · exact z i' j' h2 h3
          · cases z
        · exact c2 s' i' j' (by omega) h2 h3
      | some ij =>
        obtain ⟨t, rfl, ht⟩ := oa
        refine ⟨_, rfl, _, rfl, iteT ?_⟩
        refine ⟨_, rfl, _, rfl, t, _, _, _, rfl, rfl, SqT.of ht, rfl, _, rfl, t, _, _, _, rfl, rfl, SqT.of ht, rfl, (by show 3 ≤ sizeLine; decide), fun t2 ht2 => ?_⟩
        exact qq (.ref t2) (some (i, ij.1, ij.2)) _ (s14.trans (same_newO ht2 _)) ⟨t2, rfl, upd_same⟩ (.inr ⟨i, ij.1, ij.2, rfl, hi, c2, is'⟩)
    · obtain ⟨s2, c2, x4, x5, rfl⟩ := hP
      exact qq .non none _ s2 rfl (.inl ⟨rfl, c2⟩)
  · refine ⟨_, rfl, _, rfl, _, rfl, q, d, ws, tp, lss, rfl, hq, hsw, w20, l100, li, fun H1 b s1 hb => ?_⟩
    have eb : b = false := by
      cases b with
      | false => rfl
      | true => exact absurd (hb.mp rfl) ng
    subst eb
    exact ⟨_, rfl, iteT ⟨by decide, qq H1 s1⟩⟩
end
end K42
set_option Elab.async false
set_option linter.all false
set_option maxRecDepth 100000
namespace K42
open PySem L2
theorem oV_vO (os : List OI) : os.map oV = os.map vO := List.map_congr_left fun o _ => by cases o <;> rfl
def up2 (F : Nat → Nat → OI) (i j : Nat) (v : OI) : Nat → Nat → OI := fun a b => if a = i ∧ b = j then v else F a b
theorem row_up {F : Nat → Nat → OI} {n i j : Nat} {v : OI} (hij : i < j) (hj : j ≤ n) : ((rowO F n i).map oV).set (j - i - 1) (oV v) = (rowO (up2 F i j v) n i).map oV := by
  refine List.ext_getElem? fun k => ?_
  rw [List.map_map, List.map_map]
  by_cases hk : k < n - i
  · by_cases e : j - i - 1 = k
    · rw [e, List.getElem?_set_self (by rw [List.length_map, List.length_range]; exact hk), List.getElem?_map, List.getElem?_range hk]
      show some (oV v) = some (oV (up2 F i j v i (i + k + 1)))
      unfold up2
      rw [if_pos ⟨rfl, by omega⟩]
    · rw [List.getElem?_set_ne e, List.getElem?_map, List.getElem?_range hk, List.getElem?_map, List.getElem?_range hk]
      show some (oV (F i (i + k + 1))) = some (oV (up2 F i j v i (i + k + 1)))
      unfold up2
      rw [if_neg (fun z => e (by omega))]
  · rw [List.getElem?_eq_none (by rw [List.length_set, List.length_map, List.length_range]; omega), List.getElem?_eq_none (by rw [List.length_map, List.length_range]; omega)]
theorem row_else {F : Nat → Nat → OI} {n i j k : Nat} {v : OI} (h : k ≠ i) : (rowO F n k).map oV = (rowO (up2 F i j v) n k).map oV := by
  congr 1
  refine List.map_congr_left fun b _ => ?_
  unfold up2
  rw [if_neg (fun z => h z.1)]
theorem row_lenO {F : Nat → Nat → OI} {n i : Nat} : ((rowO F n i).map oV).length = n - i := by rw [List.length_map, List.length_map, List.length_range]
abbrev RO (F : Nat → Nat → OI) (n : Nat) : Nat → List V := fun k => (rowO F n k).map oV
theorem CpV.put {H0 H' : Hp} {n : Nat} {F : Nat → Nat → OI} {ka : Nat → Addr} {dk : Addr} {i j : Nat} {v : OI} (c : CpV H0 H' (RO F n) n ka dk) (hij : i < j) (hj : j ≤ n) : CpV H0 (upd H' (ka i) (.lst (((rowO F n i).map oV).set (j - i - 1) (oV v)))) (RO (up2 F i j v) n) n ka dk := by
  have hi : i < n := by omega
  rw [row_up hij hj]
  refine ⟨same_upd (c.fr i hi) c.same, c.fr, c.inj, c.nd, upd_ne' (Ne.symm (c.nd i hi)) c.lo_, fun k hk => ?_⟩
  by_cases e : k = i
  · subst e; rw [upd_same]
  · rw [upd_ne (fun z => e (c.inj k i hk hi z)), c.lr k hk]
    exact congrArg (fun z => some (HO.lst z)) (row_else e)
/-! copies of stairs -/
structure CpS (H0 H' : Hp) (n : Nat) (F : Nat → Nat → Nat → OI) (i : Nat) (da : Nat → Addr) (ra : Nat → Nat → Addr) (dk : Addr) : Prop where
  same : Same H0 H'
  frr : ∀ s j, s < i → j < n → H0 (ra s j) = none
  frd : ∀ s, s < i → H0 (da s) = none
  frk : H0 dk = none
  inj : ∀ s j s' j', s < i → j < n → s' < i → j' < n → ra s j = ra s' j' → s = s' ∧ j = j'
  ind : ∀ s s', s < i → s' < i → da s = da s' → s = s'
  nd : ∀ s j, s < i → j < n → ra s j ≠ dk
  ndd : ∀ s, s < i → da s ≠ dk
  nda : ∀ s j s', s < i → j < n → s' < i → ra s j ≠ da s'
  lo_ : H' dk = some (.lst ((List.range i).map fun k => .ref (da k)))
  fl : ∀ s, s < i → FlO H' (da s) (ra s) n (F s)
theorem CpS.start {H0 : Hp} {n : Nat} {F : Nat → Nat → Nat → OI} {dk : Addr} (hd : H0 dk = none) : CpS H0 (upd H0 dk (.lst [])) n F 0 (fun _ => dk) (fun _ _ => dk) dk :=
  ⟨same_newO hd _, fun s j h => absurd h (Nat.not_lt_zero _), fun s h => absurd h (Nat.not_lt_zero _), hd, fun s j s' j' h => absurd h (Nat.not_lt_zero _), fun s s' h => absurd h (Nat.not_lt_zero _), fun s j h => absurd h (Nat.not_lt_zero _), fun s h => absurd h (Nat.not_lt_zero _), fun s j s' h => absurd h (Nat.not_lt_zero _), upd_same, fun s h => absurd h (Nat.not_lt_zero _)⟩
def ext2 (ra : Nat → Nat → Addr) (i : Nat) (ka : Nat → Addr) : Nat → Nat → Addr := fun s => if s = i then ka else ra s
theorem ext2_same {ra : Nat → Nat → Addr} {i : Nat} {ka : Nat → Addr} {s : Nat} (h : s = i) : ext2 ra i ka s = ka := by unfold ext2; rw [if_pos h]
theorem ext2_ne {ra : Nat → Nat → Addr} {i : Nat} {ka : Nat → Addr} {s : Nat} (h : s ≠ i) : ext2 ra i ka s = ra s := by unfold ext2; rw [if_neg h]
theorem CpS.step {H0 H1 H2 : Hp} {n : Nat} {F : Nat → Nat → Nat → OI} {i : Nat} {da : Nat → Addr} {ra : Nat → Nat → Addr} {ka : Nat → Addr} {dk dl : Addr} (c : CpS H0 H1 n F i da ra dk) (v : CpV H1 H2 (RO (F i) n) n ka dl) (hdl : H1 dl = none) : CpS H0 (upd H2 dk (.lst (((List.range i).map fun k => V.ref (da k)) ++ [.ref dl]))) n F (i + 1) (ext da i dl) (ext2 ra i ka) dk := by
  have old : ∀ {a b o}, H1 a = some o → H1 b = none → a ≠ b := fun h1 h2 z => by rw [z, h2] at h1; cases h1
  have kd : ∀ j, j < n → ka j ≠ dk := fun j hj => Ne.symm (old c.lo_ (v.fr j hj))
  have ld : dl ≠ dk := Ne.symm (old c.lo_ hdl)
  have kr : ∀ s j m, s < i → j < n → m < n → ra s j ≠ ka m := fun s j m hs hj hm => old ((c.fl s hs).r j hj) (v.fr m hm)
  have lr : ∀ s j, s < i → j < n → ra s j ≠ dl := fun s j hs hj => old ((c.fl s hs).r j hj) hdl
  have dd : ∀ s, s < i → da s ≠ dl := fun s hs => old (c.fl s hs).o hdl
  have dka : ∀ s m, s < i → m < n → da s ≠ ka m := fun s m hs hm => old (c.fl s hs).o (v.fr m hm)
  refine ⟨same_upd c.frk (c.same.trans v.same), fun s j hs hj => ?_, fun s hs => ?_, c.frk, fun s j s' j' hs hj hs' hj' e => ?_, fun s s' hs hs' e => ?_, fun s j hs hj => ?_, fun s hs => ?_, fun s j s' hs hj hs' => ?_, ?_, fun s hs => ?_⟩
  · by_cases z : s = i
    · rw [ext2_same z]; exact c.same.free (v.fr j hj)
    · rw [ext2_ne z]; exact c.frr s j (by omega) hj
  · by_cases z : s = i
    · rw [ext_same z]; exact c.same.free hdl
    · rw [ext_ne z]; exact c.frd s (by omega)
  · by_cases z1 : s = i <;> by_cases z2 : s' = i
    · rw [ext2_same z1, ext2_same z2] at e
      exact ⟨by omega, v.inj j j' hj hj' e⟩
    · rw [ext2_same z1, ext2_ne z2] at e
      exact absurd e.symm (kr s' j' j (by omega) hj' hj)
    · rw [ext2_ne z1, ext2_same z2] at e
      exact absurd e (kr s j j' (by omega) hj hj')
    · rw [ext2_ne z1, ext2_ne z2] at e
      exact c.inj s j s' j' (by omega) hj (by omega) hj' e
  · by_cases z1 : s = i <;> by_cases z2 : s' = i
    · omega
    · rw [ext_same z1, ext_ne z2] at e
      exact absurd e.symm (dd s' (by omega))
    · rw [ext_ne z1, ext_same z2] at e
      exact absurd e (dd s (by omega))
    · rw [ext_ne z1, ext_ne z2] at e
      exact c.ind s s' (by omega) (by omega) e
  · by_cases z : s = i
    · rw [ext2_same z]; exact kd j hj
    · rw [ext2_ne z]; exact c.nd s j (by omega) hj
  · by_cases z : s = i
    · rw [ext_same z]; exact ld
    · rw [ext_ne z]; exact c.ndd s (by omega)
  · by_cases z1 : s = i <;> by_cases z2 : s' = i
    · rw [ext2_same z1, ext_same z2]; exact v.nd j hj
    · rw [ext2_same z1, ext_ne z2]; exact Ne.symm (dka s' j (by omega) hj)
    · rw [ext2_ne z1, ext_same z2]; exact lr s j (by omega) hj
    · rw [ext2_ne z1, ext_ne z2]; exact c.nda s j s' (by omega) hj (by omega)
  · rw [upd_same, List.range_succ, List.map_append]
    refine congrArg (fun z => some (HO.lst z)) ?_
    congr 1
    · refine List.map_congr_left fun k hk => ?_
      rw [ext_ne (by have := List.mem_range.mp hk; omega)]
    · show [V.ref dl] = [V.ref (ext da i dl i)]
      rw [ext_same rfl]
  · by_cases z : s = i
    · rw [ext_same z, ext2_same z, z]
      exact ⟨upd_ne' ld v.lo_, fun j hj => upd_ne' (kd j hj) (v.lr j hj)⟩
    · rw [ext_ne z, ext2_ne z]
      have f := (c.fl s (by omega)).same v.same
      exact ⟨upd_ne' (c.ndd s (by omega)) f.o, fun j hj => upd_ne' (c.nd s j (by omega) hj) (f.r j hj)⟩
theorem CpS.st {H0 H' : Hp} {n : Nat} {F : Nat → Nat → Nat → OI} {i : Nat} {da : Nat → Addr} {ra : Nat → Nat → Addr} {dk : Addr} (c : CpS H0 H' n F i da ra dk) : StO H' dk da ra i n F := ⟨c.lo_, c.fl⟩
def upT (F : Nat → Nat → Nat → OI) (s i j : Nat) (v : OI) : Nat → Nat → Nat → OI := fun t => if t = s then up2 (F s) i j v else F t
theorem CpS.put {H0 H' : Hp} {n : Nat} {F : Nat → Nat → Nat → OI} {k : Nat} {da : Nat → Addr} {ra : Nat → Nat → Addr} {dk : Addr} {s i j : Nat} {v : OI} (c : CpS H0 H' n F k da ra dk) (hs : s < k) (hij : i < j) (hj : j ≤ n) : CpS H0 (upd H' (ra s i) (.lst (((rowO (F s) n i).map oV).set (j - i - 1) (oV v)))) n (upT F s i j v) k da ra dk := by
  have hi : i < n := by omega
  rw [row_up hij hj]
  refine ⟨same_upd (c.frr s i hs hi) c.same, c.frr, c.frd, c.frk, c.inj, c.ind, c.nd, c.ndd, c.nda, upd_ne' (Ne.symm (c.nd s i hs hi)) c.lo_, fun t ht => ?_⟩
  have f := c.fl t ht
  refine ⟨upd_ne' (Ne.symm (c.nda s i t hs hi ht)) f.o, fun m hm => ?_⟩
  by_cases e : t = s
  · subst e
    have e3 : upT F t i j v t = up2 (F t) i j v := by unfold upT; rw [if_pos rfl]
    rw [e3]
    by_cases e2 : m = i
    · subst e2; rw [upd_same]
    · rw [upd_ne (fun z => e2 (c.inj t m t i ht hm ht hi z).2), f.r m hm]
      exact congrArg (fun z => some (HO.lst z)) (row_else e2)
  · have e3 : upT F s i j v t = F t := by unfold upT; rw [if_neg e]
    rw [e3]
    exact upd_ne' (fun z => e (c.inj t m s i ht hm hs hi z).1) (f.r m hm)
section
variable {P' : Program} {w : World} {K : PySem.W.Frag} {mg : Str → Option Value} {base : Heap} {f : Addr} {fd : FuncData}
/-! _law_nothing -/
def spNothing : Sp := fun vs H Q _ => ∃ n : Nat, vs = [.int (n : Int)] ∧ n ≤ 20 ∧ ∀ (d : Addr) ra H', CpV H H' (RO (fun _ _ => none) n) n ra d → H d = none → Q (.ref d) H'
theorem scNothing : FnScope ["things"] ["things"] (defScope sNothing) := ⟨rfl, rfl, rfl, by decide +kernel, rfl, by decide +kernel, by decide +kernel⟩
theorem nons' {n i : Nat} : List.replicate (n - i) V.non = RO (fun _ _ => none) n i := by
  show _ = List.map oV ((List.range (n - i)).map fun _ => none)
  rw [List.map_map, show (oV ∘ fun _ : Nat => (none : OI)) = fun _ => V.non from rfl, List.map_const', List.length_range]
set_option maxHeartbeats 4000000 in
theorem ok_nothing (F : Fun K "_law_nothing" "_law_nothing" sNothing f fd) (mr : mg "range" = none) : FnOk P' w K mg base CX0 1 f fd ["things"] spNothing := by
  refine F.ok (k := 0) scNothing (fun vs H Q E h => ?_) (fun cdv A outer s H vs Q E hr h => ?_)
  · obtain ⟨n, rfl, _⟩ := h
    rfl
  obtain ⟨n, rfl, n20, q⟩ := h
  refine ⟨_, pss_one (ps_ret (pe_compR1 (M := ["things"]) rfl (CompScope.of (defScope sNothing) ["things"] rfl rfl rfl (by decide +kernel) (by decide +kernel) (by decide +kernel) rfl (by decide +kernel)) ndGr rfl (by rfl) mr (pa_cons (pv 0) pa_nil) (mo_cons mo_var mo_nil)
      (fun cl C s0 H0 fp => ⟨pts_nil, pe_op op_rep (pe_lst (pa_cons pe_non pa_nil)) (pe_op op_sub (pv 1) (pv 0))⟩))), ?_⟩
  refine ⟨_, rfl, _, rfl, by omega, by omega, fun d hd => ?_⟩
  rw [Int.toNat_natCast]
  refine ⟨fun i H' => ∃ ra, CpV H H' (RO (fun _ _ => none) n) i ra d, ⟨_, CpV.start hd⟩, fun i H1 hi hP => ?_, fun H1 hP => ?_⟩
  · obtain ⟨ra, cp⟩ := hP
    rw [show (0 : Int) + (i : Int) = (i : Int) from Int.zero_add _]
    refine turn_all ⟨(by show 1 ≤ sizeLine; decide), fun l2 hl2 => ?_⟩
    have s2 := same_newO hl2 (.lst [.non])
    have g2 : upd H1 l2 (.lst [.non]) l2 = some (.lst [.non]) := upd_same
    generalize upd H1 l2 (.lst [.non]) = H3 at s2 g2 ⊢
    refine ⟨_, rfl, _, rfl, _, _, rfl, rfl, l2, _, _, rfl, rfl, g2, by omega, by omega, (by show 1 * _ ≤ _; exact Nat.le_of_lt (small1000 (by omega))), fun l hl => ?_⟩
    rw [show ((n : Int) - (i : Int)).toNat = n - i by omega, nons, nons']
    refine ⟨_, upd_ne' (fun z => by rw [← z, s2 _ _ cp.lo_] at hl; cases hl) (s2 _ _ cp.lo_), ?_, _, CpV.step (R := RO (fun _ _ => none) n) hd cp (s2.trans (same_newO hl _)) (s2.free hl) upd_same⟩
    rw [List.length_map, List.length_range]; exact small1000 (by omega)
  · obtain ⟨ra, cp⟩ := hP
    exact q d ra H1 cp hd
/-! _law_above -/
theorem scLab : FnScope ["floor", "bound"] ["floor", "bound"] (defScope sLabove) := ⟨rfl, rfl, rfl, by decide +kernel, rfl, by decide +kernel, by decide +kernel⟩
theorem ok_lab (F : Fun K "_law_above" "_law_above" sLabove f fd) : FnOk P' w K mg base CX0 1 f fd ["floor", "bound"] spIsA := by
  refine F.ok (k := 0) scLab (fun vs H Q E h => ?_) (fun cdv A outer s H vs Q E hr h => ?_)
  · obtain ⟨a, b, rfl, _⟩ := h
    rfl
  obtain ⟨a, b, rfl, q⟩ := h
  refine ⟨_, pss_cons (ps_if (pt_cmp (pc_isN (pv 1))) (pss_one (ps_ret pe_bl)) pss_nil) (pss_one (ps_ret (pe_or (pe_cmp (pc_isN (pv 0))) (pe_one (pe_cmpR op_gt (pv 0) (pv 1) (nomark _)))))), ?_⟩
  cases b with
  | none =>
    refine ⟨_, rfl, _, rfl, iteT ?_⟩
    cases a <;> exact q
  | some y =>
    refine ⟨_, rfl, _, rfl, iteF ?_⟩
    cases a with
    | none => exact ⟨_, rfl, _, rfl, iteT q⟩
    | some x => exact ⟨_, rfl, _, rfl, iteF ⟨_, rfl, _, rfl, _, _, rfl, rfl, q⟩⟩
/-! _law_copied -/
def spCopied : Sp := fun vs H Q _ => ∃ (d : Addr) (da : Nat → Addr) (ra : Nat → Nat → Addr) (k n : Nat) (F : Nat → Nat → Nat → OI), vs = [.ref d] ∧ StO H d da ra k n F ∧ k ≤ 30 ∧ n ≤ 20 ∧ ∀ (d' : Addr) da' ra' H', CpS H H' n F k da' ra' d' → Q (.ref d') H'
theorem scCopied : FnScope ["stairs"] ["stairs"] (defScope sCopied) := ⟨rfl, rfl, rfl, by decide +kernel, rfl, by decide +kernel, by decide +kernel⟩
theorem ndC1 : (("rows" : Str) :: ["stairs"]).Nodup := by decide +kernel
theorem ndC2 : (("row" : Str) :: ["rows", "stairs"]).Nodup := by decide +kernel
set_option maxHeartbeats 8000000 in
theorem ok_copied (F : Fun K "_law_copied" "_law_copied" sCopied f fd) (mL : mg "list" = none) : FnOk P' w K mg base CX0 1 f fd ["stairs"] spCopied := by
  refine F.ok (k := 0) scCopied (fun vs H Q E h => ?_) (fun cdv A outer s H vs Q E hr h => ?_)
  · obtain ⟨d, da, ra, k, n, F, rfl, _⟩ := h
    rfl
  obtain ⟨d, da, ra, k, n, F, rfl, st, k30, n20, q⟩ := h
  refine ⟨_, pss_one (ps_ret (pe_compL (M := ["stairs"]) rfl (CompScope.of (defScope sCopied) ["stairs"] rfl rfl rfl (by decide +kernel) (by decide +kernel) (by decide +kernel) rfl (by decide +kernel)) ndC1 rfl (pv 0) mo_var
      (fun cl C s0 H0 fp => ⟨pts_nil, pe_mid (pe_compLK K (M := ["rows", "stairs"]) rfl (CompScope.inner ["rows", "stairs"] rfl rfl (by decide +kernel) (by decide +kernel) (by decide +kernel) rfl (by decide +kernel)) ndC2 rfl (pv 0 (hv := Or.inl rfl)) mo_var
        (fun cl2 C2 s02 H02 fp2 => ⟨pts_nil, pe_callTy (call_listK K) (by rfl) mL b_list (pa_cons (pv 0 (hv := Or.inl rfl)) pa_nil)⟩))⟩))), ?_⟩
  refine ⟨_, rfl, d, _, rfl, SqL.of st.o, fun dk hdk => ?_⟩
  refine ⟨fun i H' => ∃ da' ra', CpS H H' n F i da' ra' dk, ⟨_, _, CpS.start hdk⟩, fun i H' _ hP => SqL.of (hP.elim fun _ h => h.elim fun _ c => c.same _ _ st.o), fun i x H1 hx hP => ?_, fun H1 hP => ?_⟩
  · obtain ⟨da', ra', cs⟩ := hP
    obtain ⟨il, rfl⟩ := row_of hx
    have fl := (st.r i il).same cs.same
    refine turn_all ⟨fun v H2 => ∃ dl ka, v = .ref dl ∧ CpV H1 H2 (RO (F i) n) n ka dl ∧ H1 dl = none, ?_, fun v H2 hv => ?_⟩
    · refine ⟨_, rfl, da i, _, rfl, SqL.of fl.o, fun dl hdl => ⟨fun m H' => ∃ ka, CpV H1 H' (RO (F i) n) m ka dl, ⟨_, CpV.start hdl⟩, fun m H' _ hP => SqL.of (hP.elim fun _ c => c.same _ _ fl.o), fun m x H7 hx hP => ?_, fun H2 hP => ?_⟩⟩
      · obtain ⟨ka, cp⟩ := hP
        obtain ⟨ml, rfl⟩ := row_of hx
        refine turn_all ⟨_, rfl, ra i m, _, rfl, .inl (SqL.of (cp.same _ _ (fl.r m ml))), fun l hl => ⟨_, upd_ne' (fun z => by rw [← z, cp.lo_] at hl; cases hl) cp.lo_, ?_, _, CpV.step (R := RO (F i) n) hdl cp (same_newO hl _) hl upd_same⟩⟩
        rw [List.length_map, List.length_range]; exact small1000 (by omega)
      · obtain ⟨ka, cp⟩ := hP
        rw [List.length_map, List.length_range] at cp
        exact ⟨dl, ka, rfl, cp, hdl⟩
    · obtain ⟨dl, ka, rfl, cp, hdl⟩ := hv
      refine ⟨_, cp.same _ _ cs.lo_, ?_, _, _, cs.step cp hdl⟩
      rw [List.length_map, List.length_range]; exact small1000 (by omega)
  · obtain ⟨da', ra', cs⟩ := hP
    rw [List.length_map, List.length_range] at cs
    exact q dk da' ra' H1 cs
end
end K42
set_option Elab.async false
set_option linter.all false
set_option maxRecDepth 100000
namespace K42
open PySem L2
theorem fiveI {x y z a b i : Int} (i0 : 0 ≤ i) (i1 : i < 5) : ∃ v, atI [V.int x, .int y, .int z, .int a, .int b] i = some (.int v) := by
  have h : i = 0 ∨ i = 1 ∨ i = 2 ∨ i = 3 ∨ i = 4 := by omega
  rcases h with h | h | h | h | h <;> subst h <;> exact ⟨_, rfl⟩
section
variable {P' : Program} {w : World} {K : PySem.W.Frag} {mg : Str → Option Value} {base : Heap} {f : Addr} {fd : FuncData}
/-! _law_made -/
abbrev NMa : List Str := ["prices", "weights", "top", "parts", "things", "beneath", "stairs", "step", "rows", "first", "end", "cell", "bound"]
def spMade : Sp := fun vs H Q _ => ∃ (p q pa : Addr) (ps ws xs : List Int) (tp : Nat), vs = [.ref p, .ref q, .int (tp : Int), .ref pa] ∧ TW H p ps ∧ TW H q ws ∧ H pa = some (.lst (xs.map V.int)) ∧ xs.length = 45 ∧ Sm ps ws ∧ tp ≤ 3 ∧ ∀ (d : Addr) da ra F H', Same H H' → StO H' d da ra (tp + 1) ws.length F → Q (.ref d) H'
theorem scMade : FnScope NMa ["prices", "weights", "top", "parts"] (defScope sMade) := ⟨rfl, rfl, rfl, by decide +kernel, rfl, by decide +kernel, by decide +kernel⟩
set_option maxHeartbeats 16000000 in
theorem ok_made (F : Fun K "_law_made" "_law_made" sMade f fd) (GN : Fns P' w K mg base ["things"] "_law_nothing" spNothing 7) (GB : Fns P' w K mg base ["prices", "weights", "rows", "first", "end"] "_law_step_bound" spSb 7) (ml : mg "len" = none) (mr : mg "range" = none) : FnOk P' w K mg base CX0 8 f fd ["prices", "weights", "top", "parts"] spMade := by
  refine F.ok (k := 7) scMade (fun vs H Q E h => ?_) (fun cdv A outer s H vs Q E hr h => ?_)
  · obtain ⟨p, q, pa, ps, ws, xs, tp, rfl, _⟩ := h
    rfl
  obtain ⟨p, q, pa, ps, ws, xs, tp, rfl, hp, hq, hpa, lx, sm, t3, qq⟩ := h
  have w6 := sm.w6
  refine ⟨_, pss_cons (ps_set (i := 4) scMade.nd rfl (Or.inl rfl) (pe_callB call_len_seq (by rfl) ml PySem.boot_len (pa_cons (pv 1) pa_nil)))
    (pss_cons (ps_set (i := 5) scMade.nd rfl (Or.inl rfl) (pe_call GN.ok hr (by rfl) GN.m GN.kp GN.b .nil pass0 (pa_cons (pv 4) pa_nil)))
    (pss_cons (ps_set (i := 6) scMade.nd rfl (Or.inl rfl) (pe_lst pa_nil))
    (pss_cons (ps_for PassesOwn.never rfl (pi_range1 (by rfl) mr (pa_cons (pe_op op_add (pv 2) pe_int) pa_nil)) (pg_name (i := 7) scMade.nd rfl (Or.inl rfl))
      (pss_cons (ps_set (i := 8) scMade.nd rfl (Or.inl rfl) (pe_call GN.ok hr (by rfl) GN.m GN.kp GN.b .nil pass0 (pa_cons (pv 4) pa_nil)))
      (pss_cons (ps_for PassesOwn.never rfl (pi_range1 (by rfl) mr (pa_cons (pv 4) pa_nil)) (pg_name (i := 9) scMade.nd rfl (Or.inl rfl))
        (pss_one (ps_for PassesOwn.never rfl (pi_range2 (by rfl) mr (pa_cons (pe_op op_add (pv 9) pe_int) (pa_cons (pe_op op_add (pv 4) pe_int) pa_nil))) (pg_name (i := 10) scMade.nd rfl (Or.inl rfl))
          (pss_cons (ps_set (i := 11) scMade.nd rfl (Or.inl rfl) (pe_ix ix_list (pv 3) (pe_op op_add pe_int (pe_op op_mod (pe_op op_add (pe_op op_add (pe_op op_mul (pv 7) pe_int) (pe_op op_mul (pv 9) pe_int)) (pv 10)) pe_int)) (fun _ _ => rfl)))
          (pss_cons (ps_set (i := 12) scMade.nd rfl (Or.inl rfl) (pe_call GB.ok hr (by rfl) GB.m GB.kp GB.b .nil pass0 (pa_cons (pv 0) (pa_cons (pv 1) (pa_cons (pv 5) (pa_cons (pv 9) (pa_cons (pv 10) pa_nil)))))))
          (pss_cons (ps_mid (ps_if (pt_cmp (pc_notN (pv 12))) (pss_one (ps_set (i := 12) scMade.nd rfl (Or.inl rfl) (pe_op op_sub (pv 12) (pe_ix ix_list (pe_lst (pa_cons pe_int (pa_cons pe_int (pa_cons pe_int (pa_cons (pe_op op_mod (pe_op op_fdiv (pv 11) pe_int) pe_int) (pa_cons (pe_op op_mod (pe_op op_fdiv (pv 11) pe_int) (pe_op op_pow pe_int pe_int)) pa_nil)))))) (pe_op op_mod (pv 11) pe_int) (fun _ _ => rfl)))))
              (pss_one (ps_if (pt_cmpR op_eq (pe_op op_mod (pv 11) pe_int) pe_int (nomark _)) (pss_one (ps_set (i := 12) scMade.nd rfl (Or.inl rfl) (pe_op op_mod (pe_op op_fdiv (pv 11) pe_int) (pe_op op_pow pe_int pe_int)))) pss_nil))))
          (pss_one (ps_asg (pv 12) (pg_sub (pe_ix ix_list (pv 8) (pv 9) (fun _ _ => rfl)) (pe_op op_sub (pe_op op_sub (pv 10) (pv 9)) pe_int) set_list))))))))) 
      (pss_cons (ps_expr (pe_bm PySem.F.plainAttrs_list PySem.F.slot_list_append PySem.F.type_list_append mt_append (pv 6) (pa_cons (pv 8) pa_nil)))
      (pss_one (ps_set (i := 5) scMade.nd rfl (Or.inl rfl) (pv 8)))))))
    (pss_one (ps_ret (pv 6)))))), ?_⟩
  refine ⟨_, rfl, q, _, rfl, .inr (SqT.of hq), ?_⟩
  have el : (ws.map V.int).length = ws.length := List.length_map ..
  rw [el]
  refine ⟨_, rfl, ws.length, rfl, by omega, fun b0 rb0 H1 cb0 _ => ?_⟩
  refine ⟨(by show 0 ≤ sizeLine; decide), fun d hd => ?_⟩
  have s2 := same_newO hd (.lst [])
  have g2 : upd H1 d (.lst []) d = some (.lst []) := upd_same
  have fb2 : FlO (upd H1 d (.lst [])) b0 rb0 ws.length (fun _ _ => none) := (⟨cb0.lo_, cb0.lr⟩ : FlO H1 b0 rb0 ws.length (fun _ _ => none)).same s2
  generalize upd H1 d (.lst []) = H2 at s2 g2 fb2 ⊢
  have s02 := cb0.same.trans s2
  refine ⟨_, rfl, _, _, rfl, rfl, _, rfl, by omega, by omega, ?_⟩
  rw [show ((tp : Int) + 1).toNat = tp + 1 by omega]
  have hdH : H d = none := cb0.same.free hd
  refine for_range (fun i σ H' => Same H H' ∧ (∃ da ra F, StO H' d da ra i ws.length F ∧ ∀ s, s < i → da s ≠ d ∧ ∀ j, j < ws.length → ra s j ≠ d) ∧ ∃ (b : Addr) (rb : Nat → Addr) (Fb : Nat → Nat → OI), FlO H' b rb ws.length Fb ∧ b ≠ d ∧ (∀ j, j < ws.length → rb j ≠ d) ∧ ∃ x7 x8 x9 x10 x11 x12 : Option V, σ = [some (.ref p), some (.ref q), some (.int (tp : Int)), some (.ref pa), some (.int (ws.length : Int)), some (.ref b), some (.ref d), x7, x8, x9, x10, x11, x12])
    ⟨s02, ⟨fun _ => d, fun _ _ => d, fun _ _ _ => none, ⟨g2, fun s hs => absurd hs (Nat.not_lt_zero _)⟩, fun s hs => absurd hs (Nat.not_lt_zero _)⟩, b0, rb0, _, fb2, (fun z => by rw [← z, cb0.lo_] at hd; cases hd), (fun j hj z => by rw [← z, cb0.lr j hj] at hd; cases hd), _, _, _, _, _, _, rfl⟩ (fun i σ H3 hi hP => ?_) (fun σ H3 hP => ?_)
  · obtain ⟨s3, ⟨da, ra, Fs, st, sd⟩, b, rb, Fb, fb, bd, rbd, x7, x8, x9, x10, x11, x12, rfl⟩ := hP
    rw [show (0 : Int) + (i : Int) = (i : Int) from Int.zero_add _]
    refine ⟨_, rfl, ws.length, rfl, by omega, fun r0 rr H4 cr hr0 => ?_⟩
    have cr1 : ∃ F, CpV H3 H4 (RO F ws.length) ws.length rr r0 := ⟨_, cr⟩
    clear cr
    refine ⟨_, rfl, _, rfl, by omega, by omega, ?_⟩
    rw [Int.toNat_natCast]
    refine for_range (fun a σ H' => (∃ F, CpV H3 H' (RO F ws.length) ws.length rr r0) ∧ ∃ x9 x10 x11 x12 : Option V, σ = [some (.ref p), some (.ref q), some (.int (tp : Int)), some (.ref pa), some (.int (ws.length : Int)), some (.ref b), some (.ref d), some (.int (i : Int)), some (.ref r0), x9, x10, x11, x12]) ⟨cr1, _, _, _, _, rfl⟩ (fun a σ H5 ha hP => ?_) (fun σ H5 hP => ?_)
    · obtain ⟨cr5, x9, x10, x11, x12, rfl⟩ := hP
      rw [show (0 : Int) + (a : Int) = (a : Int) from Int.zero_add _]
      refine ⟨_, rfl, _, _, rfl, rfl, _, rfl, _, _, rfl, rfl, _, _, rfl, ⟨by omega, by omega, by omega, by omega⟩, ?_⟩
      refine for_range (fun c σ H' => (∃ F, CpV H3 H' (RO F ws.length) ws.length rr r0) ∧ ∃ x10 x11 x12 : Option V, σ = [some (.ref p), some (.ref q), some (.int (tp : Int)), some (.ref pa), some (.int (ws.length : Int)), some (.ref b), some (.ref d), some (.int (i : Int)), some (.ref r0), some (.int (a : Int)), x10, x11, x12]) ⟨cr5, _, _, _, rfl⟩ (fun c σ H6 hc hP => ?_) (fun σ H6 hP => ?_)
      · obtain ⟨⟨F6, cr6⟩, x10, x11, x12, rfl⟩ := hP
        have s6 := s3.trans cr6.same
        have hc' : a + 1 + c ≤ ws.length := by omega
        have ec : (a : Int) + 1 + (c : Int) = ((a + 1 + c : Nat) : Int) := by push_cast; omega
        rw [ec]
        have hx : 11 + (i * 11 + a * 4 + (a + 1 + c)) % 29 < xs.length := by omega
        refine ⟨_, rfl, _, rfl, _, _, rfl, rfl, .inr ⟨by decide, by decide⟩, _, rfl, _, _, rfl, rfl, .inr ⟨by decide, by decide⟩, _, _, rfl, rfl, _, rfl, _, _, rfl, rfl, _, _, rfl, rfl, (by show (0 : Int) < _; decide), _, _, rfl, rfl, pa, _, _, _, rfl, (by show V.int (11 + ((i : Int) * 11 + (a : Int) * 4 + ((a + 1 + c : Nat) : Int)) % 29) = V.int ((11 + (i * 11 + a * 4 + (a + 1 + c)) % 29 : Nat) : Int); congr 1), SqL.of (s6 _ _ hpa), at_int (List.getElem?_eq_getElem hx), ?_⟩
        generalize xs[11 + (i * 11 + a * 4 + (a + 1 + c)) % 29]'hx = cell
        refine ⟨_, rfl, _, rfl, _, rfl, _, rfl, _, rfl, p, q, b, ps, ws, rb, Fb, a, a + 1 + c, rfl, s6 _ _ hp, s6 _ _ hq, fb.same cr6.same, sm, by omega, hc', fun H7 s7 => ?_⟩
        generalize bdO ps ws Fb a (a + 1 + c) = v
        refine ⟨fun σ' H' => Same H7 H' ∧ ∃ v' : OI, σ' = [some (.ref p), some (.ref q), some (.int (tp : Int)), some (.ref pa), some (.int (ws.length : Int)), some (.ref b), some (.ref d), some (.int (i : Int)), some (.ref r0), some (.int (a : Int)), some (.int ((a + 1 + c : Nat) : Int)), some (.int cell), some (oV v')], ?_, fun σ' H' hM => ?_⟩
        · cases v with
          | some m =>
            refine ⟨_, rfl, _, rfl, iteT ?_⟩
            refine ⟨_, rfl, _, rfl, _, _, rfl, rfl, ⟨by decide, by decide⟩, _, _, rfl, rfl, (by show (0 : Int) < _; decide), _, rfl, _, _, rfl, rfl, ⟨by decide, by decide⟩, _, _, rfl, rfl, ⟨by decide, by decide, by decide⟩, _, _, rfl, rfl, (by show (0 : Int) < _; decide), (by show 5 ≤ sizeLine; decide), fun lL hL => ?_⟩
            obtain ⟨v5, h5⟩ := fiveI (x := 0) (y := 0) (z := 0) (a := cell / 5 % 5) (b := cell / 5 % 10 ^ (30 : Int).toNat) (i := cell % 5) (by omega) (by omega)
            refine ⟨_, rfl, _, _, rfl, rfl, (by show (0 : Int) < _; decide), lL, _, _, _, rfl, rfl, SqL.of upd_same, h5, _, _, rfl, rfl, same_newO hL _, some (m - v5), rfl⟩
          | none =>
            refine ⟨_, rfl, _, rfl, iteF ?_⟩
            refine ⟨_, rfl, _, _, rfl, rfl, (by show (0 : Int) < _; decide), rfl, _, rfl, ?_⟩
            refine ite2 (fun _ => ?_) (fun _ => ?_)
            · exact ⟨_, rfl, _, _, rfl, rfl, ⟨by decide, by decide⟩, _, _, rfl, rfl, ⟨by decide, by decide, by decide⟩, _, _, rfl, rfl, (by show (0 : Int) < _; decide), Same.refl _, some (cell / 5 % 10 ^ (30 : Int).toNat), rfl⟩
            · exact ⟨Same.refl _, none, rfl⟩
        · obtain ⟨s8, v', rfl⟩ := hM
          have s68 := s7.trans s8
          have cr8 : CpV H3 H' (RO F6 ws.length) ws.length rr r0 := ⟨cr6.same.trans s68, cr6.fr, cr6.inj, cr6.nd, s68 _ _ cr6.lo_, fun k hk => s68 _ _ (cr6.lr k hk)⟩
          have ha' : a < ws.length := ha
          refine ⟨_, rfl, _, rfl, _, rfl, r0, _, _, _, rfl, rfl, SqL.of cr8.lo_, at_rng ha', _, rfl, _, rfl, _, _, rfl, rfl, _, _, rfl, rfl, rr a, _, _, a + 1 + c - a - 1, rfl, rfl, cr8.lr a ha', ?_, ⟨_, cr8.put (i := a) (j := a + 1 + c) (by omega) hc'⟩, _, _, _, rfl⟩
          rw [row_lenO, show ((a + 1 + c : Nat) : Int) - (a : Int) - 1 = ((a + 1 + c - a - 1 : Nat) : Int) by omega]
          exact ixN_nat (by omega)
      · obtain ⟨cr6, x10, x11, x12, rfl⟩ := hP
        exact ⟨cr6, _, _, _, _, rfl⟩
    · obtain ⟨⟨F5, cr5⟩, x9, x10, x11, x12, rfl⟩ := hP
      have s5 := s3.trans cr5.same
      have st5 := st.same cr5.same
      have rd : r0 ≠ d := fun z => by rw [z, st.o] at hr0; cases hr0
      have rrd : ∀ j, j < ws.length → rr j ≠ d := fun j hj z => by
        have := cr5.fr j hj
        rw [z, st.o] at this; cases this
      refine ⟨_, rfl, .inl ⟨rfl, _, SqL.of st5.o⟩, _, rfl, d, _, _, rfl, rfl, st5.o, (by rw [List.length_map, List.length_range]; exact small1000 (by omega)), ?_⟩
      have fr5 : FlO H5 r0 rr ws.length F5 := ⟨cr5.lo_, cr5.lr⟩
      have fr6 : FlO (upd H5 d (.lst (((List.range i).map fun s => V.ref (da s)) ++ [.ref r0]))) r0 rr ws.length F5 := ⟨upd_ne' rd fr5.o, fun j hj => upd_ne' (rrd j hj) (fr5.r j hj)⟩
      refine ⟨_, rfl, same_upd hdH s5, ⟨ext da i r0, ext ra i rr, ext Fs i F5, ⟨?_, fun s hs => ?_⟩, fun s hs => ?_⟩, r0, rr, F5, fr6, rd, rrd, _, _, _, _, _, _, rfl⟩
      · rw [upd_same, List.range_succ, List.map_append]
        refine congrArg (fun z => some (HO.lst z)) ?_
        congr 1
        · refine List.map_congr_left fun k hk => ?_
          rw [ext_ne (by have := List.mem_range.mp hk; omega)]
        · show [V.ref r0] = [V.ref (ext da i r0 i)]
          rw [ext_same rfl]
      · by_cases z : s = i
        · rw [ext_same z, ext_same z, ext_same z]; exact fr6
        · rw [ext_ne z, ext_ne z, ext_ne z]
          have f := st5.r s (by omega)
          exact ⟨upd_ne' (sd s (by omega)).1 f.o, fun j hj => upd_ne' ((sd s (by omega)).2 j hj) (f.r j hj)⟩
      · by_cases z : s = i
        · rw [ext_same z, ext_same z]; exact ⟨rd, rrd⟩
        · rw [ext_ne z, ext_ne z]; exact sd s (by omega)
  · obtain ⟨s3, ⟨da, ra, Fs, st, sd⟩, b, rb, Fb, fb, bd, rbd, x7, x8, x9, x10, x11, x12, rfl⟩ := hP
    exact ⟨_, rfl, qq d da ra Fs H3 s3 st⟩
end
end K42
set_option Elab.async false
set_option linter.all false
set_option maxRecDepth 100000
namespace K42
open PySem L2
theorem fourO {a b i : Int} (i0 : 0 ≤ i) (i1 : i < 4) : ∃ v : OI, atI [V.non, .int 0, .int a, .int b] i = some (oV v) := by
  have h : i = 0 ∨ i = 1 ∨ i = 2 ∨ i = 3 := by omega
  rcases h with h | h | h | h <;> subst h
  · exact ⟨none, rfl⟩
  · exact ⟨some 0, rfl⟩
  · exact ⟨some a, rfl⟩
  · exact ⟨some b, rfl⟩
theorem CpS.same' {H0 H' H'' : Hp} {n : Nat} {F : Nat → Nat → Nat → OI} {i : Nat} {da : Nat → Addr} {ra : Nat → Nat → Addr} {dk : Addr} (c : CpS H0 H' n F i da ra dk) (s : Same H' H'') : CpS H0 H'' n F i da ra dk := ⟨c.same.trans s, c.frr, c.frd, c.frk, c.inj, c.ind, c.nd, c.ndd, c.nda, s _ _ c.lo_, fun t ht => (c.fl t ht).same s⟩
section
variable {P' : Program} {w : World} {K : PySem.W.Frag} {mg : Str → Option Value} {base : Heap} {f : Addr} {fd : FuncData}
/-! _law_turned -/
abbrev NTu : List Str := ["stairs", "cells", "made", "cell", "rows", "row", "at", "far"]
def spTurned : Sp := fun vs H Q _ => ∃ (d ca : Addr) (da : Nat → Addr) (ra : Nat → Nat → Addr) (F : Nat → Nat → Nat → OI) (k n : Nat) (cs : List Int), vs = [.ref d, .ref ca] ∧ StO H d da ra k n F ∧ H ca = some (.lst (cs.map V.int)) ∧ 1 ≤ k ∧ k ≤ 30 ∧ 1 ≤ n ∧ n ≤ 6 ∧ ∀ (d' : Addr) da' ra' F' H', Same H H' → StO H' d' da' ra' k n F' → Q (.ref d') H'
theorem scTurned : FnScope NTu ["stairs", "cells"] (defScope sTurned) := ⟨rfl, rfl, rfl, by decide +kernel, rfl, by decide +kernel, by decide +kernel⟩
set_option maxHeartbeats 16000000 in
theorem ok_turned (F : Fun K "_law_turned" "_law_turned" sTurned f fd) (GC : Fns P' w K mg base ["stairs"] "_law_copied" spCopied 1) (ml : mg "len" = none) : FnOk P' w K mg base CX0 2 f fd ["stairs", "cells"] spTurned := by
  refine F.ok (k := 1) scTurned (fun vs H Q E h => ?_) (fun cdv A outer s H vs Q E hr h => ?_)
  · obtain ⟨d, ca, da, ra, F, k, n, cs, rfl, _⟩ := h
    rfl
  obtain ⟨d, ca, da, ra, F, k, n, cs, rfl, st, hca, k1, k30, n1, n6, qq⟩ := h
  refine ⟨_, pss_cons (ps_set (i := 2) scTurned.nd rfl (Or.inl rfl) (pe_call GC.ok hr (by rfl) GC.m GC.kp GC.b .nil pass0 (pa_cons (pv 0) pa_nil)))
    (pss_cons (ps_for PassesOwn.never rfl (pi_list (pv 1)) (pg_name (i := 3) scTurned.nd rfl (Or.inl rfl))
      (pss_cons (ps_set (i := 4) scTurned.nd rfl (Or.inl rfl) (pe_ix ix_list (pv 2) (pe_op op_mod (pe_op op_fdiv (pv 3) pe_int) (pe_callB call_len_seq (by rfl) ml PySem.boot_len (pa_cons (pv 2) pa_nil))) (fun _ _ => rfl)))
      (pss_cons (ps_set (i := 5) scTurned.nd rfl (Or.inl rfl) (pe_ix ix_list (pv 4) (pe_op op_mod (pe_op op_fdiv (pv 3) pe_int) (pe_callB call_len_seq (by rfl) ml PySem.boot_len (pa_cons (pv 4) pa_nil))) (fun _ _ => rfl)))
      (pss_cons (ps_set (i := 6) scTurned.nd rfl (Or.inl rfl) (pe_op op_mod (pe_op op_fdiv (pv 3) pe_int) (pe_callB call_len_seq (by rfl) ml PySem.boot_len (pa_cons (pv 5) pa_nil))))
      (pss_cons (ps_set (i := 7) scTurned.nd rfl (Or.inl rfl) (pe_op op_add pe_int (pe_op op_mod (pe_op op_fdiv (pv 3) pe_int) (pe_op op_pow pe_int pe_int))))
      (pss_one (ps_if (PW.pt (pw_or (pt_cmp (pc_isN (pe_ix ix_list (pv 5) (pv 6) (fun _ _ => rfl)))) (pw_or1 (pt_cmpR op_eq (pe_op op_mod (pv 3) pe_int) pe_int (nomark _)))))
        (pss_one (ps_asg (pe_ix ix_list (pe_lst (pa_cons pe_non (pa_cons pe_int (pa_cons (pe_op op_sub pe_int (pv 7)) (pa_cons (pv 7) pa_nil))))) (pe_op op_mod (pe_op op_fdiv (pv 3) pe_int) pe_int) (fun _ _ => rfl)) (pg_sub (pv 5) (pv 6) set_list)))
        (pss_one (ps_asg (pe_op op_add (pe_ix ix_list (pv 5) (pv 6) (fun _ _ => rfl)) (pe_ix ix_list (pe_lst (pa_cons pe_int (pa_cons (pe_un un_neg pe_int) (pa_cons (pv 7) (pa_cons (pe_op op_sub pe_int (pv 7)) (pa_cons pe_int pa_nil)))))) (pe_op op_mod (pv 3) pe_int) (fun _ _ => rfl))) (pg_sub (pv 5) (pv 6) set_list))))))))))
    (pss_one (ps_ret (pv 2)))), ?_⟩
  refine ⟨_, rfl, d, da, ra, k, n, F, rfl, st, k30, by omega, fun dk da' ra' H1 cs1 => ?_⟩
  have s1 := cs1.same
  have c1 : ∃ F, CpS H H1 n F k da' ra' dk := ⟨_, cs1⟩
  clear cs1
  refine ⟨_, rfl, ca, rfl, ⟨_, SqL.of (s1 _ _ hca)⟩, ?_⟩
  refine for_list (xs := cs.map V.int) (fun m σ H' => (∃ F, CpS H H' n F k da' ra' dk) ∧ ∃ x3 x4 x5 x6 x7 : Option V, σ = [some (.ref d), some (.ref ca), some (.ref dk), x3, x4, x5, x6, x7]) ⟨c1, _, _, _, _, _, rfl⟩ (fun m σ H' _ hP => SqL.of (hP.1.elim fun _ c => c.same _ _ hca)) (fun m x σ H3 hx hP => ?_) (fun σ H3 hP => ?_)
  · obtain ⟨⟨F3, c3⟩, x3, x4, x5, x6, x7, rfl⟩ := hP
    rw [List.getElem?_map] at hx
    obtain ⟨cell, hz, rfl⟩ := Option.map_eq_some_iff.mp hx
    refine ⟨_, rfl, _, rfl, _, _, rfl, rfl, ⟨by decide, by decide⟩, _, rfl, dk, _, rfl, .inl (SqL.of c3.lo_), ?_⟩
    rw [List.length_map, List.length_range]
    obtain ⟨t, et, ht⟩ := mod_n (x := cell / 6) k1
    refine ⟨_, _, rfl, rfl, (by show (0 : Int) < _; omega), dk, _, _, _, rfl, congrArg V.int et, SqL.of c3.lo_, at_rng ht, ?_⟩
    have f3 := c3.fl t ht
    refine ⟨_, rfl, _, rfl, _, _, rfl, rfl, ⟨by decide, by decide⟩, _, rfl, da' t, _, rfl, .inl (SqL.of f3.o), ?_⟩
    rw [List.length_map, List.length_range]
    obtain ⟨i, ei, hi⟩ := mod_n (x := cell / 60) n1
    refine ⟨_, _, rfl, rfl, (by show (0 : Int) < _; omega), da' t, _, _, _, rfl, congrArg V.int ei, SqL.of f3.o, at_rng hi, ?_⟩
    refine ⟨_, rfl, _, _, rfl, rfl, ⟨by decide, by decide⟩, _, rfl, ra' t i, _, rfl, .inl (SqL.of (f3.r i hi)), ?_⟩
    rw [row_lenO]
    obtain ⟨j, ej, hj⟩ := mod_n (x := cell / 600) (n := n - i) (by omega)
    have ej' : V.int (cell / 600 % ((n - i : Nat) : Int)) = .int (j : Int) := congrArg V.int ej
    refine ⟨_, _, rfl, rfl, (by show (0 : Int) < _; omega), ?_⟩
    refine ⟨_, rfl, _, _, rfl, rfl, ⟨by decide, by decide⟩, _, _, rfl, rfl, ⟨by decide, by decide, by decide⟩, _, _, rfl, rfl, (by show (0 : Int) < _; decide), _, _, rfl, rfl, ?_⟩
    have hat := at_O' (F := F3 t) (n := n) (i := i) (k := j) hj
    have hix : ixN (((rowO (F3 t) n i).map oV).length) (j : Int) = some (i + j + 1 - i - 1) := by
      rw [row_lenO, show (j : Int) = ((i + j + 1 - i - 1 : Nat) : Int) by omega]
      exact ixN_nat (by omega)
    -- what each branch ends with
    have fin : ∀ H4, Same H3 H4 → ∀ v : OI, ∃ F, CpS H (upd H4 (ra' t i) (.lst (((rowO (F3 t) n i).map oV).set (i + j + 1 - i - 1) (oV v)))) n F k da' ra' dk := fun H4 s4 v => ⟨_, (c3.same' s4).put (s := t) (i := i) (j := i + j + 1) ht (by omega) (by omega)⟩
    have asg4 : ∀ b : Bool, b = b := fun _ => rfl
    generalize eo : F3 t i (i + j + 1) = old at hat
    have one : ∀ H4, Same H3 H4 → H4 (ra' t i) = some (.lst ((rowO (F3 t) n i).map oV)) := fun H4 s4 => s4 _ _ (f3.r i hi)
    refine ⟨_, rfl, _, rfl, ra' t i, _, _, _, rfl, ej', SqL.of (f3.r i hi), hat, ?_⟩
    cases old with
    | none =>
      refine ⟨_, rfl, iteT ?_⟩
      refine ⟨_, rfl, _, _, rfl, rfl, _, rfl, (by show 4 ≤ sizeLine; decide), fun lL hL => ?_⟩
      obtain ⟨v4, h4⟩ := fourO (a := 0 - (1 + cell / 6000 % 10 ^ (30 : Int).toNat)) (b := 1 + cell / 6000 % 10 ^ (30 : Int).toNat) (i := cell / 7 % 4) (by omega) (by omega)
      refine ⟨_, rfl, _, _, rfl, rfl, ⟨by decide, by decide⟩, _, _, rfl, rfl, (by show (0 : Int) < _; decide), lL, _, _, _, rfl, rfl, SqL.of upd_same, h4, ?_⟩
      exact ⟨_, rfl, _, rfl, ra' t i, _, _, i + j + 1 - i - 1, rfl, ej', one _ (same_newO hL _), hix, fin _ (same_newO hL _) v4, _, _, _, _, _, rfl⟩
    | some m0 =>
      refine ⟨_, rfl, iteF ?_⟩
      refine ⟨_, rfl, _, _, rfl, rfl, (by show (0 : Int) < _; decide), rfl, _, rfl, ?_⟩
      refine ite2 (fun _ => ?_) (fun y => ?_)
      · refine ⟨_, rfl, _, _, rfl, rfl, _, rfl, (by show 4 ≤ sizeLine; decide), fun lL hL => ?_⟩
        obtain ⟨v4, h4⟩ := fourO (a := 0 - (1 + cell / 6000 % 10 ^ (30 : Int).toNat)) (b := 1 + cell / 6000 % 10 ^ (30 : Int).toNat) (i := cell / 7 % 4) (by omega) (by omega)
        refine ⟨_, rfl, _, _, rfl, rfl, ⟨by decide, by decide⟩, _, _, rfl, rfl, (by show (0 : Int) < _; decide), lL, _, _, _, rfl, rfl, SqL.of upd_same, h4, ?_⟩
        exact ⟨_, rfl, _, rfl, ra' t i, _, _, i + j + 1 - i - 1, rfl, ej', one _ (same_newO hL _), hix, fin _ (same_newO hL _) v4, _, _, _, _, _, rfl⟩
      · have y1 : cell % 6 < 5 := by
          have : ¬ cell % 6 = 5 := fun z => y (decide_eq_true (by show V.int (cell % 6) = V.int 5; rw [z]))
          omega
        refine ⟨_, rfl, _, rfl, ra' t i, _, _, _, rfl, ej', SqL.of (f3.r i hi), hat, ?_⟩
        refine ⟨_, rfl, _, rfl, _, rfl, _, _, rfl, rfl, (by show 5 ≤ sizeLine; decide), fun lL hL => ?_⟩
        obtain ⟨v5, h5⟩ := fiveI (x := 1) (y := -1) (z := 1 + cell / 6000 % 10 ^ (30 : Int).toNat) (a := 0 - (1 + cell / 6000 % 10 ^ (30 : Int).toNat)) (b := 0) (i := cell % 6) (by omega) y1
        refine ⟨_, rfl, _, _, rfl, rfl, (by show (0 : Int) < _; decide), lL, _, _, _, rfl, rfl, SqL.of upd_same, h5, _, _, rfl, rfl, ?_⟩
        exact ⟨_, rfl, _, rfl, ra' t i, _, _, i + j + 1 - i - 1, rfl, ej', one _ (same_newO hL _), hix, fin _ (same_newO hL _) (some (m0 + v5)), _, _, _, _, _, rfl⟩
  · obtain ⟨⟨F3, c3⟩, x3, x4, x5, x6, x7, rfl⟩ := hP
    exact ⟨_, rfl, qq dk da' ra' F3 H3 c3.same c3.st⟩
end
end K42
set_option Elab.async false
set_option linter.all false
set_option maxRecDepth 100000
namespace K42
open PySem L2
section
variable {P' : Program} {w : World} {K : PySem.W.Frag} {mg : Str → Option Value} {base : Heap} {f : Addr} {fd : FuncData}
/-! _law_due -/
abbrev NDu : List Str := ["prices", "weights", "stairs", "beneath", "step", "first", "end", "bound"]
def spDue : Sp := fun vs H Q _ => ∃ (p q d : Addr) (ps ws : List Int) (da : Nat → Addr) (ra : Nat → Nat → Addr) (F : Nat → Nat → Nat → OI) (k : Nat), vs = [.ref p, .ref q, .ref d] ∧ TW H p ps ∧ TW H q ws ∧ StO H d da ra k ws.length F ∧ Sm ps ws ∧ k ≤ 30 ∧ ∀ r o H', Same H H' → OpT H' r o → isT (cS ps ws F) k ws.length o → Q r H'
theorem scDue : FnScope NDu ["prices", "weights", "stairs"] (defScope sDue) := ⟨rfl, rfl, rfl, by decide +kernel, rfl, by decide +kernel, by decide +kernel⟩
set_option maxHeartbeats 8000000 in
theorem ok_due (F : Fun K "_law_due" "_law_due" sDue f fd) (GN : Fns P' w K mg base ["things"] "_law_nothing" spNothing 7) (GB : Fns P' w K mg base ["prices", "weights", "rows", "first", "end"] "_law_step_bound" spSb 7) (GA : Fns P' w K mg base ["floor", "bound"] "_law_above" spIsA 7) (ml : mg "len" = none) (mr : mg "range" = none) : FnOk P' w K mg base CX0 8 f fd ["prices", "weights", "stairs"] spDue := by
  refine F.ok (k := 7) scDue (fun vs H Q E h => ?_) (fun cdv A outer s H vs Q E hr h => ?_)
  · obtain ⟨p, q, d, ps, ws, da, ra, F, k, rfl, _⟩ := h
    rfl
  obtain ⟨p, q, d, ps, ws, da, ra, F, k, rfl, hp, hq, st, sm, k30, qq⟩ := h
  have w6 := sm.w6
  refine ⟨_, pss_cons (ps_set (i := 3) scDue.nd rfl (Or.inl rfl) (pe_call GN.ok hr (by rfl) GN.m GN.kp GN.b .nil pass0 (pa_cons (pe_callB call_len_seq (by rfl) ml PySem.boot_len (pa_cons (pv 1) pa_nil)) pa_nil)))
    (pss_cons (ps_for PassesOwn.never rfl (pi_range1 (by rfl) mr (pa_cons (pe_callB call_len_seq (by rfl) ml PySem.boot_len (pa_cons (pv 2) pa_nil)) pa_nil)) (pg_name (i := 4) scDue.nd rfl (Or.inl rfl))
      (pss_cons (ps_for PassesOwn.never rfl (pi_range1 (by rfl) mr (pa_cons (pe_callB call_len_seq (by rfl) ml PySem.boot_len (pa_cons (pv 1) pa_nil)) pa_nil)) (pg_name (i := 5) scDue.nd rfl (Or.inl rfl))
        (pss_one (ps_for PassesOwn.never rfl (pi_range2 (by rfl) mr (pa_cons (pe_op op_add (pv 5) pe_int) (pa_cons (pe_op op_add (pe_callB call_len_seq (by rfl) ml PySem.boot_len (pa_cons (pv 1) pa_nil)) pe_int) pa_nil))) (pg_name (i := 6) scDue.nd rfl (Or.inl rfl))
          (pss_cons (ps_set (i := 7) scDue.nd rfl (Or.inl rfl) (pe_call GB.ok hr (by rfl) GB.m GB.kp GB.b .nil pass0 (pa_cons (pv 0) (pa_cons (pv 1) (pa_cons (pv 3) (pa_cons (pv 5) (pa_cons (pv 6) pa_nil)))))))
          (pss_one (ps_if (pt_val (pe_call GA.ok hr (by rfl) GA.m GA.kp GA.b .nil pass0 (pa_cons (pe_ix ix_list (pe_ix ix_list (pe_ix ix_list (pv 2) (pv 4) (fun _ _ => rfl)) (pv 5) (fun _ _ => rfl)) (pe_op op_sub (pe_op op_sub (pv 6) (pv 5)) pe_int) (fun _ _ => rfl)) (pa_cons (pv 7) pa_nil)))) (pss_one (ps_ret (pe_tup (pa_cons (pv 4) (pa_cons (pv 5) (pa_cons (pv 6) pa_nil)))))) pss_nil))))))
      (pss_one (ps_set (i := 3) scDue.nd rfl (Or.inl rfl) (pe_ix ix_list (pv 2) (pv 4) (fun _ _ => rfl))))))
    (pss_one (ps_ret pe_non))), ?_⟩
  have el : (ws.map V.int).length = ws.length := List.length_map ..
  refine ⟨_, rfl, q, _, rfl, .inr (SqT.of hq), ws.length, (by rw [el]; rfl), by omega, fun b0 rb0 H1 cb0 _ => ?_⟩
  refine ⟨_, rfl, d, _, rfl, .inl (SqL.of (cb0.same _ _ st.o)), ?_⟩
  rw [List.length_map, List.length_range]
  refine ⟨_, rfl, by omega, by omega, ?_⟩
  rw [Int.toNat_natCast]
  refine for_range (fun i σ H' => Same H H' ∧ (∀ s' a b, s' < i → a < b → b ≤ ws.length → ¬ cS ps ws F s' a b) ∧ (∃ (b : Addr) (rb : Nat → Addr), FlO H' b rb ws.length (Fb F i) ∧ ∃ x4 x5 x6 x7 : Option V, σ = [some (.ref p), some (.ref q), some (.ref d), some (.ref b), x4, x5, x6, x7]))
    ⟨cb0.same, fun s' a b hs => absurd hs (Nat.not_lt_zero _), b0, rb0, ⟨cb0.lo_, cb0.lr⟩, _, _, _, _, rfl⟩ (fun t σ H2 ht hP => ?_) (fun σ H2 hP => ?_)
  · obtain ⟨s2, c2, b, rb, fb, x4, x5, x6, x7, rfl⟩ := hP
    rw [show (0 : Int) + (t : Int) = (t : Int) from Int.zero_add _]
    refine ⟨_, rfl, q, _, rfl, .inr (SqT.of (s2 _ _ hq)), ?_⟩
    rw [el]
    refine ⟨_, rfl, by omega, by omega, ?_⟩
    rw [Int.toNat_natCast]
    refine for_range (fun i σ H' => Same H2 H' ∧ (∀ a b, a < i → a < b → b ≤ ws.length → ¬ cS ps ws F t a b) ∧ ∃ x5 x6 x7 : Option V, σ = [some (.ref p), some (.ref q), some (.ref d), some (.ref b), some (.int (t : Int)), x5, x6, x7]) ⟨Same.refl _, fun a b ha => absurd ha (Nat.not_lt_zero _), _, _, _, rfl⟩ (fun i σ H3 hi hP => ?_) (fun σ H3 hP => ?_)
    · obtain ⟨s3, c3, x5, x6, x7, rfl⟩ := hP
      rw [show (0 : Int) + (i : Int) = (i : Int) from Int.zero_add _]
      refine ⟨_, rfl, _, _, rfl, rfl, _, rfl, q, _, rfl, .inr (SqT.of (s3 _ _ (s2 _ _ hq))), ?_⟩
      rw [el]
      refine ⟨_, _, rfl, rfl, _, _, rfl, ⟨by omega, by omega, by omega, by omega⟩, ?_⟩
      refine for_range (fun m σ H' => Same H2 H' ∧ (∀ b, i < b → b ≤ i + m → ¬ cS ps ws F t i b) ∧ ∃ x6 x7 : Option V, σ = [some (.ref p), some (.ref q), some (.ref d), some (.ref b), some (.int (t : Int)), some (.int (i : Int)), x6, x7]) ⟨s3, fun b h1 h2 => by omega, _, _, rfl⟩ (fun m σ H4 hm hP => ?_) (fun σ H4 hP => ?_)
      · obtain ⟨s4, c4, x6, x7, rfl⟩ := hP
        have hk' : i + 1 + m ≤ ws.length := by omega
        have ek : (i : Int) + 1 + (m : Int) = ((i + 1 + m : Nat) : Int) := by push_cast; omega
        rw [ek]
        have s24 := s2.trans s4
        refine ⟨_, rfl, _, rfl, _, rfl, _, rfl, _, rfl, p, q, b, ps, ws, rb, Fb F t, i, i + 1 + m, rfl, s24 _ _ hp, s24 _ _ hq, fb.same s4, sm, by omega, hk', fun H5 s5 => ?_⟩
        have s25 := s24.trans s5
        have st5 := st.same s25
        have f5 := st5.r t ht
        refine ⟨_, rfl, _, rfl, d, _, _, _, rfl, rfl, SqL.of st5.o, at_rng ht, _, rfl, da t, _, _, _, rfl, rfl, SqL.of f5.o, at_rng hi, _, rfl, _, rfl, _, _, rfl, rfl, _, _, rfl, rfl, ra t i, _, _, _, rfl, (by show V.int (((i + 1 + m : Nat) : Int) - (i : Int) - 1) = V.int ((i + 1 + m - i - 1 : Nat) : Int); congr 1; omega), SqL.of (f5.r i hi), at_O (j := i + 1 + m) (by omega) hk', ?_⟩
        refine ⟨_, rfl, F t i (i + 1 + m), bdO ps ws (Fb F t) i (i + 1 + m), rfl, ?_⟩
        refine ⟨_, rfl, ?_⟩
        refine ite2 (fun y => ?_) (fun y => ?_)
        · refine ⟨_, rfl, _, rfl, _, rfl, (by show 3 ≤ sizeLine; decide), fun t2 ht2 => ?_⟩
          refine qq (.ref t2) (some (t, i, i + 1 + m)) _ (s25.trans (same_newO ht2 _)) ⟨t2, rfl, upd_same⟩ (.inr ⟨t, i, i + 1 + m, rfl, ht, c2, .inr ⟨i, i + 1 + m, rfl, by omega, by omega, y, fun a b g1 g2 g3 => ?_⟩⟩)
          rcases g3 with z | ⟨z1, z2⟩
          · exact c3 a b z g1 g2
          · subst z1; exact c4 b g1 (by omega)
        · refine ⟨s4.trans s5, fun b h1 h2 => ?_, _, _, rfl⟩
          by_cases e : b = i + 1 + m
          · subst e; exact y
          · exact c4 b h1 (by omega)
      · obtain ⟨s4, c4, x6, x7, rfl⟩ := hP
        refine ⟨s4, fun a b h1 h2 h3 => ?_, _, _, _, rfl⟩
        by_cases e : a = i
        · subst e
          exact c4 b h2 (by omega)
        · exact c3 a b (by omega) h2 h3
    · obtain ⟨s3, c3, x5, x6, x7, rfl⟩ := hP
      have s23 := s2.trans s3
      have st3 := st.same s23
      refine ⟨_, rfl, _, rfl, d, _, _, _, rfl, rfl, SqL.of st3.o, at_rng ht, s23, fun s' a b' h1 h2 h3 => ?_, da t, ra t, ?_, _, _, _, _, rfl⟩
      · by_cases e : s' = t
        · subst e; exact c3 a b' (by omega) h2 h3
        · exact c2 s' a b' (by omega) h2 h3
      · have := st3.r t ht
        unfold Fb
        rw [if_neg (by omega)]
        exact this
  · obtain ⟨s2, c2, b, rb, fb, x4, x5, x6, x7, rfl⟩ := hP
    exact qq .non none _ s2 rfl (.inl ⟨rfl, c2⟩)
end
end K42
set_option Elab.async false
set_option linter.all false
set_option maxRecDepth 100000
namespace K42
open PySem L2
theorem paired_oi (os : List OI) : Paired ROI (os.map oV) os := by rw [oV_vO]; exact Paired.ois _
theorem StO.l3 {H : Hp} {d : Addr} {da : Nat → Addr} {ra : Nat → Nat → Addr} {k n : Nat} {F : Nat → Nat → Nat → OI} (h : StO H d da ra k n F) : Paired (RLst H (RLst H ROI)) ((List.range k).map fun s => .ref (da s)) ((List.range k).map fun s => (List.range n).map fun i => rowO (F s) n i) :=
  paired_rng k fun s hs => ⟨da s, _, rfl, (h.r s hs).o, paired_rng n fun i hi => ⟨ra s i, _, rfl, (h.r s hs).r i hi, paired_oi _⟩⟩
section
variable {P' : Program} {w : World} {K : PySem.W.Frag} {mg : Str → Option Value} {base : Heap} {f : Addr} {fd : FuncData}
abbrev NRi : List Str := ["prices", "weights", "top", "stairs", "handed", "found", "due"]
abbrev NPs : List Str := ["prices", "weights", "top", "stairs"]
def spRight : Sp := fun vs H Q _ => ∃ (p q d : Addr) (ps ws : List Int) (da : Nat → Addr) (ra : Nat → Nat → Addr) (F : Nat → Nat → Nat → OI) (tp : Nat), vs = [.ref p, .ref q, .int (tp : Int), .ref d] ∧ TW H p ps ∧ TW H q ws ∧ StO H d da ra (tp + 1) ws.length F ∧ Sm ps ws ∧ tp ≤ 3 ∧ ∀ H', Same H H' → Q (.bl true) H'
theorem scRight : FnScope NRi NPs (defScope sRight) := ⟨rfl, rfl, rfl, by decide +kernel, rfl, by decide +kernel, by decide +kernel⟩
theorem ndRp : (("place" : Str) :: NRi).Nodup := by decide +kernel
set_option maxHeartbeats 16000000 in
theorem ok_right {CU : Addr} (F : Fun K "_law_right" "_law_right" sRight f fd) (GC : Fns P' w K mg base ["stairs"] "_law_copied" spCopied 8) (GL : Fns' P' w K mg base NPs "step_lie" (spStep CU) 8) (GD : Fns P' w K mg base ["prices", "weights", "stairs"] "_law_due" spDue 8) (GW : Fns P' w K mg base ["found"] "_law_whole" spWhole 8) (mi : mg "isinstance" = none) (mt : mg "tuple" = none) (ma : mg "all" = none) : FnOk P' w K mg base CX0 9 f fd NPs spRight := by
  refine F.ok (k := 8) scRight (fun vs H Q E h => ?_) (fun cdv A outer s H vs Q E hr h => ?_)
  · obtain ⟨p, q, d, ps, ws, da, ra, F, tp, rfl, _⟩ := h
    rfl
  obtain ⟨p, q, d, ps, ws, da, ra, F, tp, rfl, hp, hq, st, sm, t3, qq⟩ := h
  have w6 := sm.w6
  refine ⟨_, pss_cons (ps_set (i := 4) scRight.nd rfl (Or.inl rfl) (pe_call GC.ok hr (by rfl) GC.m GC.kp GC.b .nil pass0 (pa_cons (pv 3) pa_nil)))
    (pss_cons (ps_set (i := 5) scRight.nd rfl (Or.inl rfl) (pe_call GL.ok hr (by rfl) GL.m GL.kp GL.b .nil passN (pa_cons (pv 0) (pa_cons (pv 1) (pa_cons (pv 2) (pa_cons (pv 4) pa_nil))))))
    (pss_cons (ps_set (i := 6) scRight.nd rfl (Or.inl rfl) (pe_call GD.ok hr (by rfl) GD.m GD.kp GD.b .nil pass0 (pa_cons (pv 0) (pa_cons (pv 1) (pa_cons (pv 3) pa_nil)))))
    (pss_cons (ps_if (PW.pt (pw_or (pt_cmpR (op_neL3 (hu4 hr)) (pv 4) (pv 3) (nomark _)) (pw_or1 (pt_cmpR op_ne (pe_cmp (pc_isN (pv 5))) (pe_cmp (pc_isN (pv 6))) (nomark _))))) (pss_one (ps_ret pe_bl)) pss_nil)
    (pss_cons (ps_if (pt_cmp (pc_isN (pv 6))) (pss_one (ps_ret pe_bl)) pss_nil)
    (pss_one (ps_ret (pe_and (pe_callB call_isi (by rfl) mi b_isi (pa_cons (pv 5) (pa_cons (pe_bltn (v := .ty "tuple") (by rfl) mt b_tuple rfl) pa_nil))) (pe_and (pe_cmpR (op_eqTI (hu4 hr)) (pv 5) (pv 6) (nomark _)) (pe_one (pe_callB (call_all rfl) (by rfl) ma b_all (pa_cons (pe_compT (M := NRi) rfl (CompScope.of (defScope sRight) NRi rfl rfl rfl (by decide +kernel) (by decide +kernel) (by decide +kernel) rfl (by decide +kernel)) ndRp rfl (pv 5) mo_var
      (fun cl C s0 H0 fp => ⟨pts_nil, pe_call GW.ok hr (by rfl) GW.m GW.kp GW.b .nil pass0 (pa_cons (pv 0) pa_nil)⟩)) pa_nil)))))))))))
    , ?_⟩
  refine ⟨_, rfl, d, da, ra, tp + 1, ws.length, F, rfl, st, by omega, by omega, fun dk da' ra' H1 c1 => ?_⟩
  have s1 := c1.same
  have fk := c1.st
  refine ⟨_, rfl, _, rfl, _, rfl, _, rfl, p, q, dk, ps, ws, tp, rfl, s1 _ _ hp, s1 _ _ hq, sm.num, by omega, .inl ⟨da', ra', F, fk, fun r o H2 s2 oa is => ?_⟩⟩
  have s12 := s1.trans s2
  refine ⟨_, rfl, _, rfl, _, rfl, p, q, d, ps, ws, da, ra, F, tp + 1, rfl, s12 _ _ hp, s12 _ _ hq, st.same s12, sm, by omega, fun r' o' H3 s3 oa' is' => ?_⟩
  have eo : o' = o := isT_uniq is' is
  subst eo
  have s13 := s12.trans s3
  have oa3 := OpT.same s3 oa
  have fl3 := st.same s13
  have fk3 := fk.same (s2.trans s3)
  refine ⟨_, rfl, _, rfl, dk, d, _, _, _, _, rfl, rfl, fk3.o, fl3.o, fk3.l3, fl3.l3, _, rfl, iteNS rfl ?_⟩
  cases o' with
  | none =>
    obtain rfl : r = .non := oa3
    obtain rfl : r' = .non := oa'
    refine ⟨_, rfl, _, rfl, rfl, _, rfl, iteF ?_⟩
    exact ⟨_, rfl, _, rfl, iteT (qq _ s13)⟩
  | some ij =>
    obtain ⟨t, rfl, ht⟩ := oa3
    obtain ⟨t', rfl, ht'⟩ := oa'
    refine ⟨_, rfl, _, rfl, rfl, _, rfl, iteF ?_⟩
    refine ⟨_, rfl, _, rfl, iteF ?_⟩
    refine ⟨_, rfl, _, _, _, _, rfl, .tup ht, kit_tuple_tuple _, _, rfl, iteT ?_⟩
    refine ⟨_, rfl, _, rfl, _, _, rtup_ints ht, rtup_ints ht', _, rfl, ?_⟩
    rw [decide_eq_true rfl]
    refine iteT ⟨_, rfl, t, _, rfl, SqT.of ht, fun d2 hd => ?_⟩
    refine ⟨fun k H' => Same H3 H' ∧ H' d2 = some (.lst ((List.replicate k true).map V.bl)), ⟨same_newO hd _, upd_same⟩, fun k H' _ hP => SqT.of (hP.1 _ _ ht), fun k x H' hx hP => ?_, fun H' hP => ?_⟩
    · obtain ⟨s5, hd'⟩ := hP
      have il := (List.getElem?_eq_some_iff.mp hx).1
      rw [List.length_map] at il
      have il : k < 3 := il
      rw [List.getElem?_map] at hx
      obtain ⟨z, hz, rfl⟩ := Option.map_eq_some_iff.mp hx
      refine turn_all ⟨_, rfl, z, rfl, _, hd', ?_, same_upd hd s5, ?_⟩
      · rw [List.length_map, List.length_replicate]
        exact small1000 (by omega)
      · rw [upd_same, List.replicate_succ', List.map_append]; rfl
    · obtain ⟨s5, hd'⟩ := hP
      refine ⟨d2, _, rfl, hd', ?_⟩
      have e : (List.replicate 3 true).all id = true := rfl
      show Q (.bl ((List.replicate 3 true).all id)) _
      rw [e]
      exact qq _ (s13.trans s5)
/-! _law_refused -/
structure Cls (K : PySem.W.Frag) (mg : Str → Option Value) (D CU CB : Addr) : Prop where
  gD : mg "TollError" = some (.ref D)
  gU : mg "Unlike" = some (.ref CU)
  gB : mg "BadNumber" = some (.ref CB)
  xD : XC K D
  xU : XC K CU
  xB : XC K CB
  uD : PySem.W.subIn K (.ref CU) (.ref D) = some true
  uB : PySem.W.subIn K (.ref CU) (.ref CB) = some false
abbrev NRf : List Str := ["prices", "weights", "top", "stairs", "refused", "e"]
def spRefused : Sp := fun vs H Q _ => ∃ (p q d : Addr) (ps ws : List Int) (tp : Nat) (lss : List (List Nat)), vs = [.ref p, .ref q, .int (tp : Int), .ref d] ∧ TW H p ps ∧ TW H q ws ∧ Sm ps ws ∧ tp ≤ 3 ∧ SwAt H d lss ∧ lss.length ≤ 100 ∧ (∀ l ∈ lss, l.length ≤ 100) ∧ ¬ okS lss tp ws.length ∧ ∀ H', Same H H' → Q (.bl true) H'
theorem scRefused : FnScope NRf NPs (defScope sRefused) := ⟨rfl, rfl, rfl, by decide +kernel, rfl, by decide +kernel, by decide +kernel⟩
set_option maxHeartbeats 8000000 in
theorem ok_refused {D CU CB : Addr} (F : Fun K "_law_refused" "_law_refused" sRefused f fd) (GL : Fns' P' w K mg base NPs "step_lie" (spStep CU) 7) (c : Cls K mg D CU CB) (mi : mg "isinstance" = none) : FnOk P' w K mg base CX0 8 f fd NPs spRefused := by
  refine F.ok (k := 7) scRefused (fun vs H Q E h => ?_) (fun cdv A outer s H vs Q E hr h => ?_)
  · obtain ⟨p, q, d, ps, ws, tp, lss, rfl, _⟩ := h
    rfl
  obtain ⟨p, q, d, ps, ws, tp, lss, rfl, hp, hq, sm, t3, hsw, l100, li, ng, qq⟩ := h
  refine ⟨_, pss_cons (ps_set (i := 4) scRefused.nd rfl (Or.inl rfl) pe_bl)
    (pss_cons (ps_try (i := 5) rfl ⟨rfl, rfl⟩ (fun pn xe Ex hx => pss_one (ps_expr (pe_callX GL.ok hr (by rfl) GL.m GL.kp GL.b hx (pa_cons (pv 0) (pa_cons (pv 1) (pa_cons (pv 2) (pa_cons (pv 3) pa_nil)))))))
      (fun ea => pss_one (ps_set (i := 4) scRefused.nd rfl (Or.inl rfl) (pe_and (pe_callB (isiE K) (by rfl) mi b_isi (pa_cons (pv 5) (pa_cons (pe_glob (v := .ref CU) (by rfl) c.gU rfl) pa_nil))) (pe_one (pe_not (pe_callB (isiE K) (by rfl) mi b_isi (pa_cons (pv 5) (pa_cons (pe_glob (v := .ref CB) (by rfl) c.gB rfl) pa_nil))))))))
      scRefused.nd rfl rfl (by rfl) c.gD c.xD.h)
    (pss_one (ps_ret (pv 4)))), ?_⟩
  refine ⟨_, rfl, _, rfl, _, rfl, _, rfl, p, q, d, ps, ws, tp, rfl, hp, hq, sm.num, by omega, .inr ⟨lss, hsw, l100, li, ng, fun H1 s1 => ?_⟩⟩
  refine ⟨CU, rfl, c.uD, fun ea hea => ?_⟩
  have s2 := same_newO hea (excO ea CU none)
  refine ⟨_, rfl, ea, CU, none, _, true, rfl, upd_same, c.xU.e, .inl rfl, .inl ⟨CU, rfl, kit_t c.xU.h c.xU.sf⟩, _, rfl, iteT ?_⟩
  exact ⟨_, rfl, ea, CU, none, _, false, rfl, upd_same, c.xU.e, .inl rfl, .inl ⟨CB, rfl, kit_f c.xU c.xB.h c.uB⟩, _, rfl, _, rfl, qq _ (s1.trans s2)⟩
end
end K42
set_option Elab.async false
set_option linter.all false
set_option maxRecDepth 100000
namespace K42
open PySem L2
theorem cut_map (xs : List Int) (lo hi : Option Int) : ∃ cs : List Int, cutV (xs.map V.int) lo hi = cs.map V.int := by
  unfold cutV
  exact ⟨_, by rw [← List.map_drop, ← List.map_take]⟩
theorem down_len (n : Nat) : (down n).length = n := by unfold down; rw [List.length_map, List.length_range]
theorem good_len {lens : List Nat} {n : Nat} (h : good lens n) : lens.length = n := by
  have := congrArg List.length h
  rw [List.length_map, down_len] at this
  exact this
theorem good_at {lens : List Nat} {n k l : Nat} (h : good lens n) (hk : k < n) (hl : lens[k]? = some l) : l = n - k := by
  have e := congrArg (fun z => z[k]?) h
  unfold down at e
  rw [List.getElem?_map, hl, List.getElem?_map, List.getElem?_range hk] at e
  have e : (l : Int) = (n : Int) + (k : Int) * (-1) := Option.some.inj e
  omega
theorem paired_rep {α β : Type} {R : α → β → Prop} {L : β} : ∀ xs : List α, (∀ x ∈ xs, R x L) → Paired R xs (List.replicate xs.length L)
  | [], _ => .nil
  | x :: xs, h => by
    rw [List.length_cons, List.replicate_succ]
    exact .cons (h x (.head _)) (paired_rep xs fun y hy => h y (.tail _ hy))
/-- a wrong number of steps -/
theorem StO.wrong {H0 H : Hp} {d dk : Addr} {da : Nat → Addr} {ra : Nat → Nat → Addr} {k n : Nat} {F : Nat → Nat → Nat → OI} {xs : List V} (h : ∀ s, s < k → RwAt H (da s) ((List.range n).map fun i => n - i)) (hd : H dk = some (.lst xs)) (hx : ∀ x ∈ xs, ∃ s, s < k ∧ x = .ref (da s)) : SwAt H dk (List.replicate xs.length ((List.range n).map fun i => n - i)) :=
  ⟨xs, hd, paired_rep xs fun x hx' => by
    obtain ⟨s, hs, rfl⟩ := hx x hx'
    exact ⟨da s, rfl, h s hs⟩⟩
theorem mem_da {da : Nat → Addr} {k : Nat} {x : V} (h : x ∈ (List.range k).map fun s => V.ref (da s)) : ∃ s, s < k ∧ x = .ref (da s) := by
  obtain ⟨s, hs, rfl⟩ := List.mem_map.mp h
  exact ⟨s, List.mem_range.mp hs, rfl⟩
section
variable {P' : Program} {w : World} {K : PySem.W.Frag} {mg : Str → Option Value} {base : Heap} {f : Addr} {fd : FuncData}
abbrev NLw : List Str := ["script", "parts", "things", "prices", "weights", "top", "stairs", "turned", "tried", "short", "step", "first"]
def spLaw (K : PySem.W.Frag) : Sp := fun vs H Q _ => ∃ (a : Addr) (ns : List Int), vs = [.ref a] ∧ SqL K H a (ns.map V.int) ∧ ns.length ≤ 63 ∧ ∀ H', Q (.bl true) H'
theorem scLaw : FnScope NLw ["script"] (defScope sLaw) := ⟨rfl, rfl, rfl, by decide +kernel, rfl, by decide +kernel, by decide +kernel⟩
set_option maxHeartbeats 16000000 in
theorem ok_law {e : Addr} {ed : FuncData} (F : Fun K "law" "law" sLaw e ed) (GF : Fns P' w K mg base ["script", "many"] "_law_folded" (spFolded K) 9) (GN : Fns P' w K mg base ["parts", "at", "many", "turn"] "_law_numbers" spNumbers 9) (GM : Fns P' w K mg base ["prices", "weights", "top", "parts"] "_law_made" spMade 9) (GT : Fns P' w K mg base ["stairs", "cells"] "_law_turned" spTurned 9) (GC : Fns P' w K mg base ["stairs"] "_law_copied" spCopied 9) (GR : Fns P' w K mg base NPs "_law_right" spRight 9) (GE : Fns P' w K mg base NPs "_law_refused" spRefused 9) (ml : mg "len" = none) : FnOk P' w K mg base CX0 10 e ed ["script"] (spLaw K) := by
  refine F.ok (k := 9) scLaw (fun vs H Q E h => ?_) (fun cdv A outer s H vs Q E hr h => ?_)
  · obtain ⟨a, ns, rfl, _⟩ := h
    rfl
  obtain ⟨a, ns, rfl, hS, h63, q⟩ := h
  refine ⟨_, pss_cons (ps_set (i := 1) scLaw.nd rfl (Or.inl rfl) (pe_call GF.ok hr (by rfl) GF.m GF.kp GF.b .nil pass0 (pa_cons (pv 0) (pa_cons pe_int pa_nil))))
    (pss_cons (ps_set (i := 2) scLaw.nd rfl (Or.inl rfl) (pe_op op_add pe_int (pe_op op_mod (pe_ix ix_list (pv 1) pe_int (fun _ _ => rfl)) pe_int)))
    (pss_cons (ps_set (i := 3) scLaw.nd rfl (Or.inl rfl) (pe_call GN.ok hr (by rfl) GN.m GN.kp GN.b .nil pass0 (pa_cons (pv 1) (pa_cons pe_int (pa_cons (pe_op op_add pe_int (pe_op op_mod (pe_op op_fdiv (pe_ix ix_list (pv 1) pe_int (fun _ _ => rfl)) pe_int) pe_int)) (pa_cons pe_int pa_nil))))))
    (pss_cons (ps_set (i := 4) scLaw.nd rfl (Or.inl rfl) (pe_call GN.ok hr (by rfl) GN.m GN.kp GN.b .nil pass0 (pa_cons (pv 1) (pa_cons pe_int (pa_cons (pv 2) (pa_cons pe_int pa_nil))))))
    (pss_cons (ps_set (i := 5) scLaw.nd rfl (Or.inl rfl) (pe_op op_mod (pe_op op_fdiv (pe_ix ix_list (pv 1) pe_int (fun _ _ => rfl)) pe_int) pe_int))
    (pss_cons (ps_set (i := 6) scLaw.nd rfl (Or.inl rfl) (pe_call GM.ok hr (by rfl) GM.m GM.kp GM.b .nil pass0 (pa_cons (pv 3) (pa_cons (pv 4) (pa_cons (pv 5) (pa_cons (pv 1) pa_nil))))))
    (pss_cons (ps_set (i := 7) scLaw.nd rfl (Or.inl rfl) (pe_call GT.ok hr (by rfl) GT.m GT.kp GT.b .nil pass0 (pa_cons (pv 6) (pa_cons (pe_slice sl_list (pv 1) (po_some pe_int) (po_some (pe_op op_add pe_int (pe_op op_mod (pe_op op_fdiv (pe_ix ix_list (pv 1) pe_int (fun _ _ => rfl)) pe_int) pe_int)))) pa_nil))))
    (pss_cons (ps_for PassesOwn.never rfl (pi_list (pe_lst (pa_cons (pv 6) (pa_cons (pv 7) pa_nil)))) (pg_name (i := 8) scLaw.nd rfl (Or.inl rfl))
      (pss_one (ps_if (pt_not (pt_val (pe_call GR.ok hr (by rfl) GR.m GR.kp GR.b .nil pass0 (pa_cons (pv 3) (pa_cons (pv 4) (pa_cons (pv 5) (pa_cons (pv 8) pa_nil))))))) (pss_one (ps_ret pe_bl)) pss_nil)))
    (pss_cons (ps_set (i := 9) scLaw.nd rfl (Or.inl rfl) (pe_call GC.ok hr (by rfl) GC.m GC.kp GC.b .nil pass0 (pa_cons (pv 6) pa_nil)))
    (pss_cons (ps_set (i := 10) scLaw.nd rfl (Or.inl rfl) (pe_op op_mod (pe_op op_fdiv (pe_ix ix_list (pv 1) pe_int (fun _ _ => rfl)) pe_int) (pe_callB call_len_seq (by rfl) ml PySem.boot_len (pa_cons (pv 9) pa_nil))))
    (pss_cons (ps_set (i := 11) scLaw.nd rfl (Or.inl rfl) (pe_op op_mod (pe_op op_fdiv (pe_ix ix_list (pv 1) pe_int (fun _ _ => rfl)) pe_int) (pv 2)))
    (pss_cons (ps_if (pt_cmpR op_eq (pe_op op_mod (pe_ix ix_list (pv 1) pe_int (fun _ _ => rfl)) pe_int) pe_int (nomark _)) (pss_one (ps_expr (pe_bm PySem.F.plainAttrs_list PySem.F.slot_list_pop PySem.F.type_list_pop mt_popAt (pv 9) (pa_cons (pv 10) pa_nil))))
      (pss_one (ps_if (pt_cmpR op_eq (pe_op op_mod (pe_ix ix_list (pv 1) pe_int (fun _ _ => rfl)) pe_int) pe_int (nomark _)) (pss_one (ps_expr (pe_bm PySem.F.plainAttrs_list PySem.F.slot_list_append PySem.F.type_list_append mt_append (pe_ix ix_list (pv 9) (pv 10) (fun _ _ => rfl)) (pa_cons (pe_lst (pa_cons pe_int pa_nil)) pa_nil))))
        (pss_one (ps_if (pt_cmpR op_eq (pe_op op_mod (pe_ix ix_list (pv 1) pe_int (fun _ _ => rfl)) pe_int) pe_int (nomark _)) (pss_one (ps_expr (pe_bm0 PySem.F.plainAttrs_list PySem.F.slot_list_pop PySem.F.type_list_pop mt_pop (pe_ix ix_list (pe_ix ix_list (pv 9) (pv 10) (fun _ _ => rfl)) (pv 11) (fun _ _ => rfl)))))
          (pss_one (ps_expr (pe_bm PySem.F.plainAttrs_list PySem.F.slot_list_insert PySem.F.type_list_insert mt_insert (pv 9) (pa_cons (pv 10) (pa_cons (pe_ix ix_list (pv 9) (pv 10) (fun _ _ => rfl)) pa_nil))))))))))
    (pss_one (ps_ret (pe_call GE.ok hr (by rfl) GE.m GE.kp GE.b .nil pass0 (pa_cons (pv 3) (pa_cons (pv 4) (pa_cons (pv 5) (pa_cons (pv 9) pa_nil)))))))))))))))))), ?_⟩
  refine ⟨_, rfl, a, ns, 45, rfl, hS, h63, by decide, by decide, fun pa xs H1 s1 g1 lx => ?_⟩
  have h0 : xs[0]? = some (xs[0]'(by omega)) := List.getElem?_eq_getElem _
  generalize xs[0]'(by omega) = x0 at h0
  refine ⟨_, rfl, pa, _, _, _, rfl, rfl, SqL.of g1, at_int (k := 0) h0, _, _, rfl, rfl, (by show (0 : Int) < _; decide), _, _, rfl, rfl, ?_⟩
  obtain ⟨n, en, n1, n4⟩ : ∃ n : Nat, 1 + x0 % 4 = (n : Int) ∧ 1 ≤ n ∧ n ≤ 4 := ⟨(1 + x0 % 4).toNat, by omega, by omega, by omega⟩
  have en' : (fun (x y : Int) => V.int (x + y)) 1 (x0 % 4) = .int (n : Int) := congrArg V.int en
  obtain ⟨b, eb, b2, b4⟩ : ∃ b : Nat, 2 + x0 / 8 % 2 = (b : Int) ∧ 2 ≤ b ∧ b ≤ 3 := ⟨(2 + x0 / 8 % 2).toNat, by omega, by omega, by omega⟩
  have eb' : (fun (x y : Int) => V.int (x + y)) 2 (x0 / 8 % 2) = .int (b : Int) := congrArg V.int eb
  rw [en']
  -- prices
  refine ⟨_, rfl, _, rfl, pa, _, _, _, rfl, rfl, SqL.of g1, at_int (k := 0) h0, _, _, rfl, rfl, ⟨by decide, by decide⟩, _, _, rfl, rfl, (by show (0 : Int) < _; decide), _, _, rfl, rfl, pa, xs, 1, b, 1024, (by rw [eb']; rfl), g1, by omega, by omega, by omega, by decide, by decide, fun p ps H2 s2 hp lp bp => ?_⟩
  -- weights
  refine ⟨_, rfl, _, rfl, pa, xs, 7, n, 4096, rfl, s2 _ _ g1, by omega, by omega, by omega, by decide, by decide, fun w' ws H3 s3 hw lw bw => ?_⟩
  have sm : Sm ps ws := ⟨by omega, by omega, by omega, by omega, bp, bw⟩
  have hp3 : TW H3 p ps := s3 _ _ hp
  have g3 := s3 _ _ (s2 _ _ g1)
  -- top
  obtain ⟨tp, et, t3⟩ : ∃ tp : Nat, x0 / 65536 % 4 = (tp : Int) ∧ tp ≤ 3 := ⟨(x0 / 65536 % 4).toNat, by omega, by omega⟩
  have et' : (fun (i j : Int) => V.int (i % j)) (x0 / 65536) 4 = .int (tp : Int) := congrArg V.int et
  refine ⟨_, rfl, pa, _, _, _, rfl, rfl, SqL.of g3, at_int (k := 0) h0, _, _, rfl, rfl, ⟨by decide, by decide⟩, _, _, rfl, rfl, (by show (0 : Int) < _; decide), ?_⟩
  rw [et']
  -- stairs
  refine ⟨_, rfl, _, rfl, _, rfl, _, rfl, p, w', pa, ps, ws, xs, tp, rfl, hp3, hw, g3, lx, sm, t3, fun d da ra F4 H4 s4 st4 => ?_⟩
  have w5 : ws.length = n := lw
  -- turned
  refine ⟨_, rfl, _, rfl, _, rfl, _, rfl, pa, _, _, _, rfl, rfl, SqL.of (s4 _ _ g3), at_int (k := 0) h0, _, _, rfl, rfl, ⟨by decide, by decide⟩, _, _, rfl, rfl, (by show (0 : Int) < _; decide), _, _, rfl, rfl, _, rfl, pa, _, rfl, SqL.of (s4 _ _ g3), fun lc hlc => ?_⟩
  obtain ⟨cs, ecs⟩ := cut_map xs (some 40) (some (40 + x0 / 16 % 4))
  have s5 := same_newO hlc (.lst (cutV (xs.map V.int) (some 40) (some (40 + x0 / 16 % 4))))
  have g5 : upd H4 lc (.lst (cutV (xs.map V.int) (some 40) (some (40 + x0 / 16 % 4)))) lc = some (.lst (cs.map V.int)) := by rw [upd_same, ecs]
  refine ⟨d, lc, da, ra, F4, tp + 1, ws.length, cs, rfl, st4.same s5, g5, by omega, by omega, by omega, by omega, fun d2 da2 ra2 F5 H5 s5' st5 => ?_⟩
  have s45 := s5.trans s5'
  have g4 := s4 _ _ g3
  have h44 : xs[44]? = some (xs[44]'(by omega)) := List.getElem?_eq_getElem _
  generalize xs[44]'(by omega) = x44 at h44
  -- the two
  refine ⟨_, rfl, _, rfl, (by show 2 ≤ sizeLine; decide), fun l3 hl3 => ?_⟩
  have s8 := same_newO hl3 (.lst [V.ref d, .ref d2])
  have g8 : upd H5 l3 (.lst [V.ref d, .ref d2]) l3 = some (.lst [V.ref d, .ref d2]) := upd_same
  have fa := (st4.same s45).same s8
  have fb := st5.same s8
  have hp8 : TW _ p ps := s8 _ _ (s45 _ _ (s4 _ _ hp3))
  have hw8 : TW _ w' ws := s8 _ _ (s45 _ _ (s4 _ _ hw))
  have gp8 := s8 _ _ (s45 _ _ g4)
  generalize upd H5 l3 (.lst [V.ref d, .ref d2]) = H8 at s8 g8 fa fb hp8 hw8 gp8 ⊢
  refine ⟨l3, rfl, ⟨_, SqL.of g8⟩, ?_⟩
  refine for_list (xs := [V.ref d, .ref d2]) (fun k σ H' => Same H8 H' ∧ ∃ x8 : Option V, σ = [some (.ref a), some (.ref pa), some (.int (n : Int)), some (.ref p), some (.ref w'), some (.int (tp : Int)), some (.ref d), some (.ref d2), x8, none, none, none]) ⟨Same.refl _, _, rfl⟩ (fun k σ H' _ hP => SqL.of (hP.1 _ _ g8)) (fun k x σ H9 hx hP => ?_) (fun σ H9 hP => ?_)
  · obtain ⟨s9, x8, rfl⟩ := hP
    obtain ⟨dx, dax, rx, Fx, rfl, fx⟩ : ∃ (dx : Addr) (dax : Nat → Addr) (rx : Nat → Nat → Addr) (Fx : Nat → Nat → Nat → OI), x = .ref dx ∧ StO H8 dx dax rx (tp + 1) ws.length Fx := by
      match k, hx with
      | 0, hx => exact ⟨d, da, ra, F4, (Option.some.inj hx).symm, fa⟩
      | 1, hx => exact ⟨d2, da2, ra2, F5, (Option.some.inj hx).symm, fb⟩
      | (m + 2), hx => cases hx
    refine ⟨_, rfl, _, rfl, _, rfl, _, rfl, p, w', dx, ps, ws, dax, rx, Fx, tp, rfl, s9 _ _ hp8, s9 _ _ hw8, fx.same s9, sm, t3, fun H10 s10 => ⟨true, rfl, iteF ?_⟩⟩
    exact ⟨s9.trans s10, _, rfl⟩
  obtain ⟨s9, x8, rfl⟩ := hP
  have fa9 := fa.same s9
  have hp9 : TW H9 p ps := s9 _ _ hp8
  have hw9 : TW H9 w' ws := s9 _ _ hw8
  have gp9 := s9 _ _ gp8
  -- short
  refine ⟨_, rfl, d, da, ra, tp + 1, ws.length, F4, rfl, fa9, by omega, by omega, fun dk da' ra' H10 c10 => ?_⟩
  have s10 := c10.same
  have gp10 := s10 _ _ gp9
  -- step
  refine ⟨_, rfl, pa, _, _, _, rfl, rfl, SqL.of gp10, at_int (k := 44) h44, _, _, rfl, rfl, ⟨by decide, by decide⟩, _, rfl, dk, _, rfl, .inl (SqL.of c10.lo_), ?_⟩
  rw [List.length_map, List.length_range]
  obtain ⟨k, ek, hk⟩ := mod_n (x := x44 / 4) (n := tp + 1) (by omega)
  have ek' : V.int (x44 / 4 % ((tp + 1 : Nat) : Int)) = .int (k : Int) := congrArg V.int ek
  refine ⟨_, _, rfl, rfl, (by show (0 : Int) < _; omega), ?_⟩
  -- first
  obtain ⟨i, ei, hi⟩ := mod_n (x := x44 / 40) n1
  have ei' : V.int (x44 / 40 % (n : Int)) = .int (i : Int) := congrArg V.int ei
  refine ⟨_, rfl, pa, _, _, _, rfl, rfl, SqL.of gp10, at_int (k := 44) h44, _, _, rfl, rfl, ⟨by decide, by decide⟩, _, rfl, _, _, rfl, rfl, (by show (0 : Int) < _; omega), ?_⟩
  have hi' : i < ws.length := by omega
  have fk := c10.fl k hk
  have lr : ∀ {s i}, ((rowO (F4 s) ws.length i).map oV).length = ws.length - i := row_lenO
  have good' : ∀ l : List Nat, l.length ≤ 100 → ∀ m, ∀ l' ∈ List.replicate m l, l'.length ≤ 100 := fun l hl m l' hl' => by rw [(List.mem_replicate.mp hl').2]; exact hl
  have l0 : ((List.range ws.length).map fun i => ws.length - i).length ≤ 100 := by rw [List.length_map, List.length_range]; omega
  refine ⟨_, rfl, pa, _, _, _, rfl, rfl, SqL.of gp10, at_int (k := 44) h44, _, _, rfl, rfl, (by show (0 : Int) < _; decide), rfl, _, rfl, ?_⟩
  refine ite2 (fun _ => ?_) (fun _ => ?_)
  · refine ⟨_, rfl, .inl ⟨rfl, _, SqL.of c10.lo_⟩, _, rfl, dk, _, x44 / 4 % ((tp + 1 : Nat) : Int), k, .ref (da' k), rfl, rfl, c10.lo_, by omega, by omega, (by rw [ek, List.length_map, List.length_range]; exact (ixN_seq (ixN_nat hk)).1), (by rw [List.getElem?_map, List.getElem?_range hk]; rfl), ?_⟩
    have sx := same_upd (o := .lst (((List.range (tp + 1)).map fun k => V.ref (da' k)).eraseIdx k)) c10.frk s10
    have sw : SwAt (upd H10 dk (.lst (((List.range (tp + 1)).map fun k => V.ref (da' k)).eraseIdx k))) dk _ := StO.wrong (H0 := H) (d := d) (ra := ra') (F := F4) (k := tp + 1) (n := ws.length) (fun s hs => (⟨upd_ne' (c10.ndd s hs) (c10.fl s hs).o, fun j hj => upd_ne' (c10.nd s j hs hj) ((c10.fl s hs).r j hj)⟩ : FlO _ (da' s) (ra' s) ws.length (F4 s)).rw') upd_same (fun x hx => mem_da (List.mem_of_mem_eraseIdx hx))
    have ll : (((List.range (tp + 1)).map fun k => V.ref (da' k)).eraseIdx k).length = tp := by rw [List.length_eraseIdx, List.length_map, List.length_range, if_pos hk]; omega
    rw [ll] at sw
    exact ⟨_, rfl, _, rfl, _, rfl, _, rfl, p, w', dk, ps, ws, tp, _, rfl, sx _ _ hp9, sx _ _ hw9, sm, t3, sw, by rw [List.length_replicate]; omega, good' _ l0 _, (fun z => by have := z.1; rw [List.length_replicate] at this; omega), fun H11 _ => q _⟩
  refine ⟨_, rfl, pa, _, _, _, rfl, rfl, SqL.of gp10, at_int (k := 44) h44, _, _, rfl, rfl, (by show (0 : Int) < _; decide), rfl, _, rfl, ?_⟩
  refine ite2 (fun _ => ?_) (fun _ => ?_)
  · refine ⟨_, rfl, _, rfl, dk, _, _, _, rfl, ek', SqL.of c10.lo_, at_rng hk, .inl ⟨rfl, _, SqL.of fk.o⟩, (by show 1 ≤ sizeLine; decide), fun l hl => ?_⟩
    have ld : dk ≠ l := fun z => by rw [← z, c10.lo_] at hl; cases hl
    have dl : ∀ s, s < tp + 1 → da' s ≠ l := fun s hs z => by rw [← z, (c10.fl s hs).o] at hl; cases hl
    have rl : ∀ s j, s < tp + 1 → j < ws.length → ra' s j ≠ l := fun s j hs hj z => by rw [← z, (c10.fl s hs).r j hj] at hl; cases hl
    refine ⟨da' k, _, _, rfl, rfl, upd_ne' (dl k hk) fk.o, (by rw [List.length_map, List.length_range]; exact small1000 (by omega)), ?_⟩
    have sx := same_upd (o := .lst (((List.range ws.length).map fun i => V.ref (ra' k i)) ++ [.ref l])) (c10.frd k hk) (s10.trans (same_newO hl (.lst [V.int 0])))
    have sw : SwAt (upd (upd H10 l (.lst [V.int 0])) (da' k) (.lst (((List.range ws.length).map fun i => V.ref (ra' k i)) ++ [.ref l]))) dk ((List.range (tp + 1)).map fun s => if s = k then ((List.range ws.length).map fun i => ws.length - i) ++ [1] else (List.range ws.length).map fun i => ws.length - i) := ⟨_, upd_ne' (Ne.symm (c10.ndd k hk)) (upd_ne' ld c10.lo_), paired_rng _ fun s hs => by
      by_cases e : s = k
      · subst e
        rw [if_pos rfl]
        exact ⟨da' s, rfl, _, upd_same, L2.Paired.appendP (paired_rng _ fun j hj => ⟨ra' s j, _, rfl, upd_ne' (c10.nda s j s hs hj hs) (upd_ne' (rl s j hs hj) ((c10.fl s hs).r j hj)), lr⟩) (.cons ⟨l, _, rfl, upd_ne' (Ne.symm (dl s hs)) upd_same, rfl⟩ .nil)⟩
      · rw [if_neg e]
        exact ⟨da' s, rfl, (⟨upd_ne' (fun z => e (c10.ind s k hs hk z)) (upd_ne' (dl s hs) (c10.fl s hs).o), fun j hj => upd_ne' (c10.nda s j k hs hj hk) (upd_ne' (rl s j hs hj) ((c10.fl s hs).r j hj))⟩ : FlO _ (da' s) (ra' s) ws.length (F4 s)).rw'⟩⟩
    refine ⟨_, rfl, _, rfl, _, rfl, _, rfl, p, w', dk, ps, ws, tp, _, rfl, sx _ _ hp9, sx _ _ hw9, sm, t3, sw, by rw [List.length_map, List.length_range]; omega, fun l' hl' => ?_, fun z => ?_, fun H11 _ => q _⟩
    · obtain ⟨s, _, rfl⟩ := List.mem_map.mp hl'

      split
      · rw [List.length_append, List.length_singleton, List.length_map, List.length_range]; omega
      · exact l0
    · have := good_len (z.2 _ (List.mem_map.mpr ⟨k, List.mem_range.mpr hk, rfl⟩))
      rw [if_pos rfl, List.length_append, List.length_singleton, List.length_map, List.length_range] at this
      omega
  refine ⟨_, rfl, pa, _, _, _, rfl, rfl, SqL.of gp10, at_int (k := 44) h44, _, _, rfl, rfl, (by show (0 : Int) < _; decide), rfl, _, rfl, ?_⟩
  refine ite2 (fun _ => ?_) (fun _ => ?_)
  · have ri := fk.r i hi'
    obtain ⟨y, hy⟩ : ∃ y, ((rowO (F4 k) ws.length i).map oV)[((rowO (F4 k) ws.length i).map oV).length - 1]? = some y := ⟨_, List.getElem?_eq_getElem (by rw [lr]; omega)⟩
    refine ⟨_, rfl, _, rfl, dk, _, _, _, rfl, ek', SqL.of c10.lo_, at_rng hk, _, rfl, da' k, _, _, _, rfl, ei', SqL.of fk.o, at_rng hi', .inl ⟨rfl, _, SqL.of ri⟩, ra' k i, _, y, rfl, rfl, ri, hy, ?_⟩
    have sx := same_upd (o := .lst ((rowO (F4 k) ws.length i).map oV).dropLast) (c10.frr k i hk hi') s10
    have sw : SwAt (upd H10 (ra' k i) (.lst ((rowO (F4 k) ws.length i).map oV).dropLast)) dk ((List.range (tp + 1)).map fun s => (List.range ws.length).map fun j => if s = k ∧ j = i then ws.length - i - 1 else ws.length - j) := ⟨_, upd_ne' (Ne.symm (c10.nd k i hk hi')) c10.lo_, paired_rng _ fun s hs => ⟨da' s, rfl, _, upd_ne' (Ne.symm (c10.nda k i s hk hi' hs)) (c10.fl s hs).o, paired_rng _ fun j hj => by
      by_cases e : s = k ∧ j = i
      · obtain ⟨rfl, rfl⟩ := e
        exact ⟨ra' s j, _, rfl, upd_same, by rw [List.length_dropLast, lr, if_pos ⟨rfl, rfl⟩]⟩
      · exact ⟨ra' s j, _, rfl, upd_ne' (fun z => e (c10.inj s j k i hs hj hk hi' z)) ((c10.fl s hs).r j hj), by rw [lr, if_neg e]⟩⟩⟩
    refine ⟨_, rfl, _, rfl, _, rfl, _, rfl, p, w', dk, ps, ws, tp, _, rfl, sx _ _ hp9, sx _ _ hw9, sm, t3, sw, by rw [List.length_map, List.length_range]; omega, fun l' hl' => ?_, fun z => ?_, fun H11 _ => q _⟩
    · obtain ⟨s, _, rfl⟩ := List.mem_map.mp hl'
      rw [List.length_map, List.length_range]; omega
    · have := good_at (l := ws.length - i - 1) (z.2 _ (List.mem_map.mpr ⟨k, List.mem_range.mpr hk, rfl⟩)) hi' (by rw [List.getElem?_map, List.getElem?_range hi']; show some (if k = k ∧ i = i then _ else _) = _; rw [if_pos ⟨rfl, rfl⟩])
      omega
  · refine ⟨_, rfl, .inl ⟨rfl, _, SqL.of c10.lo_⟩, _, rfl, _, rfl, _, rfl, dk, _, _, _, rfl, ek', SqL.of c10.lo_, at_rng hk, dk, _, x44 / 4 % ((tp + 1 : Nat) : Int), k, _, rfl, rfl, ek, c10.lo_, (by rw [List.length_map, List.length_range]; omega), (by rw [List.length_map, List.length_range]; omega), ?_⟩
    have sx := same_upd (o := .lst (((List.range (tp + 1)).map fun k => V.ref (da' k)).take k ++ .ref (da' k) :: ((List.range (tp + 1)).map fun k => V.ref (da' k)).drop k)) c10.frk s10
    have sw : SwAt (upd H10 dk (.lst (((List.range (tp + 1)).map fun k => V.ref (da' k)).take k ++ .ref (da' k) :: ((List.range (tp + 1)).map fun k => V.ref (da' k)).drop k))) dk _ := StO.wrong (H0 := H) (d := d) (ra := ra') (F := F4) (k := tp + 1) (n := ws.length) (fun s hs => (⟨upd_ne' (c10.ndd s hs) (c10.fl s hs).o, fun j hj => upd_ne' (c10.nd s j hs hj) ((c10.fl s hs).r j hj)⟩ : FlO _ (da' s) (ra' s) ws.length (F4 s)).rw') upd_same (fun x hx => by
      rcases List.mem_append.mp hx with z | z
      · exact mem_da (List.mem_of_mem_take z)
      · rcases List.mem_cons.mp z with z | z
        · exact ⟨k, hk, z⟩
        · exact mem_da (List.mem_of_mem_drop z))
    have ll : (((List.range (tp + 1)).map fun k => V.ref (da' k)).take k ++ V.ref (da' k) :: ((List.range (tp + 1)).map fun k => V.ref (da' k)).drop k).length = tp + 2 := by rw [List.length_append, List.length_cons, List.length_take, List.length_drop, List.length_map, List.length_range]; omega
    rw [ll] at sw
    exact ⟨_, rfl, _, rfl, _, rfl, _, rfl, p, w', dk, ps, ws, tp, _, rfl, sx _ _ hp9, sx _ _ hw9, sm, t3, sw, by rw [List.length_replicate]; omega, good' _ l0 _, (fun z => by have := z.1; rw [List.length_replicate] at this; omega), fun H11 _ => q _⟩
end
end K42
set_option Elab.async false
set_option linter.all false
set_option maxRecDepth 100000
namespace K42
open PySem L2
theorem al0 {α : Type} {P : List α → Prop} (h : P []) : ∀ us : List α, us.length = 0 → P us
  | [], _ => h
theorem al1 {α : Type} {P : List α → Prop} (h : ∀ a0 : α, P [a0]) : ∀ us : List α, us.length = 1 → P us
  | [a0], _ => h a0
theorem al2 {α : Type} {P : List α → Prop} (h : ∀ a0 a1 : α, P [a0, a1]) : ∀ us : List α, us.length = 2 → P us
  | [a0, a1], _ => h a0 a1
theorem al3 {α : Type} {P : List α → Prop} (h : ∀ a0 a1 a2 : α, P [a0, a1, a2]) : ∀ us : List α, us.length = 3 → P us
  | [a0, a1, a2], _ => h a0 a1 a2
theorem al4 {α : Type} {P : List α → Prop} (h : ∀ a0 a1 a2 a3 : α, P [a0, a1, a2, a3]) : ∀ us : List α, us.length = 4 → P us
  | [a0, a1, a2, a3], _ => h a0 a1 a2 a3
theorem al5 {α : Type} {P : List α → Prop} (h : ∀ a0 a1 a2 a3 a4 : α, P [a0, a1, a2, a3, a4]) : ∀ us : List α, us.length = 5 → P us
  | [a0, a1, a2, a3, a4], _ => h a0 a1 a2 a3 a4
theorem al6 {α : Type} {P : List α → Prop} (h : ∀ a0 a1 a2 a3 a4 a5 : α, P [a0, a1, a2, a3, a4, a5]) : ∀ us : List α, us.length = 6 → P us
  | [a0, a1, a2, a3, a4, a5], _ => h a0 a1 a2 a3 a4 a5
theorem al7 {α : Type} {P : List α → Prop} (h : ∀ a0 a1 a2 a3 a4 a5 a6 : α, P [a0, a1, a2, a3, a4, a5, a6]) : ∀ us : List α, us.length = 7 → P us
  | [a0, a1, a2, a3, a4, a5, a6], _ => h a0 a1 a2 a3 a4 a5 a6
theorem al8 {α : Type} {P : List α → Prop} (h : ∀ a0 a1 a2 a3 a4 a5 a6 a7 : α, P [a0, a1, a2, a3, a4, a5, a6, a7]) : ∀ us : List α, us.length = 8 → P us
  | [a0, a1, a2, a3, a4, a5, a6, a7], _ => h a0 a1 a2 a3 a4 a5 a6 a7
set_option maxHeartbeats 0 in
theorem all_mk {l : PySem.W.OpenLaw} {w : World} {K : PySem.W.Frag} {h : Heap} {mg : Str → Option Value} {fa f1 f2 f3 f4 f5 f6 f7 f8 f9 f10 f11 f12 f13 f14 f15 f16 f17 f18 f19 f20 f21 f22 f23 f24 f25 f26 f27 f28 f29 : Addr} (X : K.In h) (G : h.Ns mainGlobals mg) (hfa : mg "law" = some (.ref fa))
    {od1 an1 od2 an2 od3 an3 od4 an4 od5 an5 od6 an6 od7 an7 od8 an8 od9 an9 od10 an10 od11 an11 od12 an12 od13 an13 od14 an14 od15 an15 od16 an16 od17 an17 od18 an18 od19 an19 od20 an20 od21 an21 od22 an22 od23 an23 od24 an24 od25 an25 od26 an26 od27 an27 od28 an28 od29 an29 : Option Addr} {sl1 sl2 sl3 sl4 sl5 sl6 sl7 sl8 sl9 sl10 sl11 sl12 sl13 sl14 sl15 sl16 sl17 sl18 sl19 sl20 sl21 sl22 sl23 sl24 sl25 sl26 sl27 sl28 sl29 : Array (Option Value)}
    {oc1 kV1 dc1 pm1 cd1 ct1 oc2 kV2 dc2 pm2 cd2 ct2 oc3 kV3 dc3 pm3 cd3 ct3 oc4 kV4 dc4 pm4 cd4 ct4 oc5 kV5 dc5 pm5 cd5 ct5 oc6 kV6 dc6 pm6 cd6 ct6 oc7 kV7 dc7 pm7 cd7 ct7 oc8 kV8 dc8 pm8 cd8 ct8 oc9 kV9 dc9 pm9 cd9 ct9 oc10 kV10 dc10 pm10 cd10 ct10 oc11 kV11 dc11 pm11 cd11 ct11 oc12 kV12 dc12 pm12 cd12 ct12 oc13 kV13 dc13 pm13 cd13 ct13 oc14 kV14 dc14 pm14 cd14 ct14 oc15 kV15 dc15 pm15 cd15 ct15 oc16 kV16 dc16 pm16 cd16 ct16 oc17 kV17 dc17 pm17 cd17 ct17 oc18 kV18 dc18 pm18 cd18 ct18 oc19 kV19 dc19 pm19 cd19 ct19 oc20 kV20 dc20 pm20 cd20 ct20 oc21 kV21 dc21 pm21 cd21 ct21 oc22 kV22 dc22 pm22 cd22 ct22 oc23 kV23 dc23 pm23 cd23 ct23 oc24 kV24 dc24 pm24 cd24 ct24 oc25 kV25 dc25 pm25 cd25 ct25 oc26 kV26 dc26 pm26 cd26 ct26 oc27 kV27 dc27 pm27 cd27 ct27 oc28 kV28 dc28 pm28 cd28 ct28 oc29 kV29 dc29 pm29 cd29 ct29 : Value}
    (a1 : PySem.W.nsIn K mainGlobals "weight_sums" = some (some (.ref f1))) (l1 : K.lookup f1 = some ⟨oc1, od1, .func (PySem.W.fnOf "weight_sums" "weight_sums" (defArgs sSums) (defBody sSums) (defScope sSums) .none kV1 dc1 pm1 an1 cd1 ct1), sl1⟩) (c1 : PySem.W.codeIn K cd1 "weight_sums" = true) (k1 : PySem.W.keepIn K (.ref f1) = true)
    (a2 : PySem.W.nsIn K mainGlobals "row_with" = some (some (.ref f2))) (l2 : K.lookup f2 = some ⟨oc2, od2, .func (PySem.W.fnOf "row_with" "row_with" (defArgs sRow) (defBody sRow) (defScope sRow) .none kV2 dc2 pm2 an2 cd2 ct2), sl2⟩) (c2 : PySem.W.codeIn K cd2 "row_with" = true) (k2 : PySem.W.keepIn K (.ref f2) = true)
    (a3 : PySem.W.nsIn K mainGlobals "square" = some (some (.ref f3))) (l3 : K.lookup f3 = some ⟨oc3, od3, .func (PySem.W.fnOf "square" "square" (defArgs sSquare) (defBody sSquare) (defScope sSquare) .none kV3 dc3 pm3 an3 cd3 ct3), sl3⟩) (c3 : PySem.W.codeIn K cd3 "square" = true) (k3 : PySem.W.keepIn K (.ref f3) = true)
    (a4 : PySem.W.nsIn K mainGlobals "least" = some (some (.ref f4))) (l4 : K.lookup f4 = some ⟨oc4, od4, .func (PySem.W.fnOf "least" "least" (defArgs sLeast) (defBody sLeast) (defScope sLeast) .none kV4 dc4 pm4 an4 cd4 ct4), sl4⟩) (c4 : PySem.W.codeIn K cd4 "least" = true) (k4 : PySem.W.keepIn K (.ref f4) = true)
    (a5 : PySem.W.nsIn K mainGlobals "added" = some (some (.ref f5))) (l5 : K.lookup f5 = some ⟨oc5, od5, .func (PySem.W.fnOf "added" "added" (defArgs sAdded) (defBody sAdded) (defScope sAdded) .none kV5 dc5 pm5 an5 cd5 ct5), sl5⟩) (c5 : PySem.W.codeIn K cd5 "added" = true) (k5 : PySem.W.keepIn K (.ref f5) = true)
    (a6 : PySem.W.nsIn K mainGlobals "parted_by" = some (some (.ref f6))) (l6 : K.lookup f6 = some ⟨oc6, od6, .func (PySem.W.fnOf "parted_by" "parted_by" (defArgs sPb) (defBody sPb) (defScope sPb) .none kV6 dc6 pm6 an6 cd6 ct6), sl6⟩) (c6 : PySem.W.codeIn K cd6 "parted_by" = true) (k6 : PySem.W.keepIn K (.ref f6) = true)
    (a7 : PySem.W.nsIn K mainGlobals "refuse_top" = some (some (.ref f7))) (l7 : K.lookup f7 = some ⟨oc7, od7, .func (PySem.W.fnOf "refuse_top" "refuse_top" (defArgs sTop) (defBody sTop) (defScope sTop) .none kV7 dc7 pm7 an7 cd7 ct7), sl7⟩) (c7 : PySem.W.codeIn K cd7 "refuse_top" = true) (k7 : PySem.W.keepIn K (.ref f7) = true)
    (a8 : PySem.W.nsIn K mainGlobals "bounds_on_ground" = some (some (.ref f8))) (l8 : K.lookup f8 = some ⟨oc8, od8, .func (PySem.W.fnOf "bounds_on_ground" "bounds_on_ground" (defArgs sGround) (defBody sGround) (defScope sGround) .none kV8 dc8 pm8 an8 cd8 ct8), sl8⟩) (c8 : PySem.W.codeIn K cd8 "bounds_on_ground" = true) (k8 : PySem.W.keepIn K (.ref f8) = true)
    (a9 : PySem.W.nsIn K mainGlobals "has_rows" = some (some (.ref f9))) (l9 : K.lookup f9 = some ⟨oc9, od9, .func (PySem.W.fnOf "has_rows" "has_rows" (defArgs sHas) (defBody sHas) (defScope sHas) .none kV9 dc9 pm9 an9 cd9 ct9), sl9⟩) (c9 : PySem.W.codeIn K cd9 "has_rows" = true) (k9 : PySem.W.keepIn K (.ref f9) = true)
    (a10 : PySem.W.nsIn K mainGlobals "first_above" = some (some (.ref f10))) (l10 : K.lookup f10 = some ⟨oc10, od10, .func (PySem.W.fnOf "first_above" "first_above" (defArgs sAbove) (defBody sAbove) (defScope sAbove) .none kV10 dc10 pm10 an10 cd10 ct10), sl10⟩) (c10 : PySem.W.codeIn K cd10 "first_above" = true) (k10 : PySem.W.keepIn K (.ref f10) = true)
    (a11 : PySem.W.nsIn K mainGlobals "is_above" = some (some (.ref f11))) (l11 : K.lookup f11 = some ⟨oc11, od11, .func (PySem.W.fnOf "is_above" "is_above" (defArgs sIs) (defBody sIs) (defScope sIs) .none kV11 dc11 pm11 an11 cd11 ct11), sl11⟩) (c11 : PySem.W.codeIn K cd11 "is_above" = true) (k11 : PySem.W.keepIn K (.ref f11) = true)
    (a12 : PySem.W.nsIn K mainGlobals "step_lie" = some (some (.ref f12))) (l12 : K.lookup f12 = some ⟨oc12, od12, .func (PySem.W.fnOf "step_lie" "step_lie" (defArgs sStep) (defBody sStep) (defScope sStep) .none kV12 dc12 pm12 an12 cd12 ct12), sl12⟩) (c12 : PySem.W.codeIn K cd12 "step_lie" = true) (k12 : PySem.W.keepIn K (.ref f12) = true)
    (a13 : PySem.W.nsIn K mainGlobals "has_steps" = some (some (.ref f13))) (l13 : K.lookup f13 = some ⟨oc13, od13, .func (PySem.W.fnOf "has_steps" "has_steps" (defArgs sSteps) (defBody sSteps) (defScope sSteps) .none kV13 dc13 pm13 an13 cd13 ct13), sl13⟩) (c13 : PySem.W.codeIn K cd13 "has_steps" = true) (k13 : PySem.W.keepIn K (.ref f13) = true)
    (a14 : PySem.W.nsIn K mainGlobals "bounds_on" = some (some (.ref f14))) (l14 : K.lookup f14 = some ⟨oc14, od14, .func (PySem.W.fnOf "bounds_on" "bounds_on" (defArgs sOn) (defBody sOn) (defScope sOn) .none kV14 dc14 pm14 an14 cd14 ct14), sl14⟩) (c14 : PySem.W.codeIn K cd14 "bounds_on" = true) (k14 : PySem.W.keepIn K (.ref f14) = true)
    (a15 : PySem.W.nsIn K mainGlobals "_law_folded" = some (some (.ref f15))) (l15 : K.lookup f15 = some ⟨oc15, od15, .func (PySem.W.fnOf "_law_folded" "_law_folded" (defArgs sFolded) (defBody sFolded) (defScope sFolded) .none kV15 dc15 pm15 an15 cd15 ct15), sl15⟩) (c15 : PySem.W.codeIn K cd15 "_law_folded" = true) (k15 : PySem.W.keepIn K (.ref f15) = true)
    (a16 : PySem.W.nsIn K mainGlobals "_law_number" = some (some (.ref f16))) (l16 : K.lookup f16 = some ⟨oc16, od16, .func (PySem.W.fnOf "_law_number" "_law_number" (defArgs sNumber) (defBody sNumber) (defScope sNumber) .none kV16 dc16 pm16 an16 cd16 ct16), sl16⟩) (c16 : PySem.W.codeIn K cd16 "_law_number" = true) (k16 : PySem.W.keepIn K (.ref f16) = true)
    (a17 : PySem.W.nsIn K mainGlobals "_law_numbers" = some (some (.ref f17))) (l17 : K.lookup f17 = some ⟨oc17, od17, .func (PySem.W.fnOf "_law_numbers" "_law_numbers" (defArgs sNumbers) (defBody sNumbers) (defScope sNumbers) .none kV17 dc17 pm17 an17 cd17 ct17), sl17⟩) (c17 : PySem.W.codeIn K cd17 "_law_numbers" = true) (k17 : PySem.W.keepIn K (.ref f17) = true)
    (a18 : PySem.W.nsIn K mainGlobals "_law_whole" = some (some (.ref f18))) (l18 : K.lookup f18 = some ⟨oc18, od18, .func (PySem.W.fnOf "_law_whole" "_law_whole" (defArgs sWhole) (defBody sWhole) (defScope sWhole) .none kV18 dc18 pm18 an18 cd18 ct18), sl18⟩) (c18 : PySem.W.codeIn K cd18 "_law_whole" = true) (k18 : PySem.W.keepIn K (.ref f18) = true)
    (a19 : PySem.W.nsIn K mainGlobals "_law_partings" = some (some (.ref f19))) (l19 : K.lookup f19 = some ⟨oc19, od19, .func (PySem.W.fnOf "_law_partings" "_law_partings" (defArgs sPartings) (defBody sPartings) (defScope sPartings) .none kV19 dc19 pm19 an19 cd19 ct19), sl19⟩) (c19 : PySem.W.codeIn K cd19 "_law_partings" = true) (k19 : PySem.W.keepIn K (.ref f19) = true)
    (a20 : PySem.W.nsIn K mainGlobals "_law_step_bound" = some (some (.ref f20))) (l20 : K.lookup f20 = some ⟨oc20, od20, .func (PySem.W.fnOf "_law_step_bound" "_law_step_bound" (defArgs sSb) (defBody sSb) (defScope sSb) .none kV20 dc20 pm20 an20 cd20 ct20), sl20⟩) (c20 : PySem.W.codeIn K cd20 "_law_step_bound" = true) (k20 : PySem.W.keepIn K (.ref f20) = true)
    (a21 : PySem.W.nsIn K mainGlobals "_law_nothing" = some (some (.ref f21))) (l21 : K.lookup f21 = some ⟨oc21, od21, .func (PySem.W.fnOf "_law_nothing" "_law_nothing" (defArgs sNothing) (defBody sNothing) (defScope sNothing) .none kV21 dc21 pm21 an21 cd21 ct21), sl21⟩) (c21 : PySem.W.codeIn K cd21 "_law_nothing" = true) (k21 : PySem.W.keepIn K (.ref f21) = true)
    (a22 : PySem.W.nsIn K mainGlobals "_law_above" = some (some (.ref f22))) (l22 : K.lookup f22 = some ⟨oc22, od22, .func (PySem.W.fnOf "_law_above" "_law_above" (defArgs sLabove) (defBody sLabove) (defScope sLabove) .none kV22 dc22 pm22 an22 cd22 ct22), sl22⟩) (c22 : PySem.W.codeIn K cd22 "_law_above" = true) (k22 : PySem.W.keepIn K (.ref f22) = true)
    (a23 : PySem.W.nsIn K mainGlobals "_law_made" = some (some (.ref f23))) (l23 : K.lookup f23 = some ⟨oc23, od23, .func (PySem.W.fnOf "_law_made" "_law_made" (defArgs sMade) (defBody sMade) (defScope sMade) .none kV23 dc23 pm23 an23 cd23 ct23), sl23⟩) (c23 : PySem.W.codeIn K cd23 "_law_made" = true) (k23 : PySem.W.keepIn K (.ref f23) = true)
    (a24 : PySem.W.nsIn K mainGlobals "_law_copied" = some (some (.ref f24))) (l24 : K.lookup f24 = some ⟨oc24, od24, .func (PySem.W.fnOf "_law_copied" "_law_copied" (defArgs sCopied) (defBody sCopied) (defScope sCopied) .none kV24 dc24 pm24 an24 cd24 ct24), sl24⟩) (c24 : PySem.W.codeIn K cd24 "_law_copied" = true) (k24 : PySem.W.keepIn K (.ref f24) = true)
    (a25 : PySem.W.nsIn K mainGlobals "_law_turned" = some (some (.ref f25))) (l25 : K.lookup f25 = some ⟨oc25, od25, .func (PySem.W.fnOf "_law_turned" "_law_turned" (defArgs sTurned) (defBody sTurned) (defScope sTurned) .none kV25 dc25 pm25 an25 cd25 ct25), sl25⟩) (c25 : PySem.W.codeIn K cd25 "_law_turned" = true) (k25 : PySem.W.keepIn K (.ref f25) = true)
    (a26 : PySem.W.nsIn K mainGlobals "_law_due" = some (some (.ref f26))) (l26 : K.lookup f26 = some ⟨oc26, od26, .func (PySem.W.fnOf "_law_due" "_law_due" (defArgs sDue) (defBody sDue) (defScope sDue) .none kV26 dc26 pm26 an26 cd26 ct26), sl26⟩) (c26 : PySem.W.codeIn K cd26 "_law_due" = true) (k26 : PySem.W.keepIn K (.ref f26) = true)
    (a27 : PySem.W.nsIn K mainGlobals "_law_right" = some (some (.ref f27))) (l27 : K.lookup f27 = some ⟨oc27, od27, .func (PySem.W.fnOf "_law_right" "_law_right" (defArgs sRight) (defBody sRight) (defScope sRight) .none kV27 dc27 pm27 an27 cd27 ct27), sl27⟩) (c27 : PySem.W.codeIn K cd27 "_law_right" = true) (k27 : PySem.W.keepIn K (.ref f27) = true)
    (a28 : PySem.W.nsIn K mainGlobals "_law_refused" = some (some (.ref f28))) (l28 : K.lookup f28 = some ⟨oc28, od28, .func (PySem.W.fnOf "_law_refused" "_law_refused" (defArgs sRefused) (defBody sRefused) (defScope sRefused) .none kV28 dc28 pm28 an28 cd28 ct28), sl28⟩) (c28 : PySem.W.codeIn K cd28 "_law_refused" = true) (k28 : PySem.W.keepIn K (.ref f28) = true)
    (a29 : PySem.W.nsIn K mainGlobals "law" = some (some (.ref f29))) (l29 : K.lookup f29 = some ⟨oc29, od29, .func (PySem.W.fnOf "law" "law" (defArgs sLaw) (defBody sLaw) (defScope sLaw) .none kV29 dc29 pm29 an29 cd29 ct29), sl29⟩) (c29 : PySem.W.codeIn K cd29 "law" = true) (k29 : PySem.W.keepIn K (.ref f29) = true)
    (z1 : PySem.W.nsIn K mainGlobals "len" = some none)
    (z2 : PySem.W.nsIn K mainGlobals "range" = some none)
    (z3 : PySem.W.nsIn K mainGlobals "sum" = some none)
    (z4 : PySem.W.nsIn K mainGlobals "min" = some none)
    (z5 : PySem.W.nsIn K mainGlobals "tuple" = some none)
    (z6 : PySem.W.nsIn K mainGlobals "list" = some none)
    (z7 : PySem.W.nsIn K mainGlobals "isinstance" = some none)
    (z8 : PySem.W.nsIn K mainGlobals "int" = some none)
    (z9 : PySem.W.nsIn K mainGlobals "bool" = some none)
    (z10 : PySem.W.nsIn K mainGlobals "all" = some none)
    {D : Addr} (gD : PySem.W.nsIn K mainGlobals "TollError" = some (some (.ref D)))
    (xD : xcIn K D = true)
    (eD : PySem.W.excIn K D bmVE newVE = true)
    {CU : Addr} (gCU : PySem.W.nsIn K mainGlobals "Unlike" = some (some (.ref CU)))
    (xCU : xcIn K CU = true)
    (eCU : PySem.W.excIn K CU bmVE newVE = true)
    {CB : Addr} (gCB : PySem.W.nsIn K mainGlobals "BadNumber" = some (some (.ref CB)))
    (xCB : xcIn K CB = true)
    (eCB : PySem.W.excIn K CB bmVE newVE = true)
    (sCUD : PySem.W.subIn K (.ref CU) (.ref D) = some true)
    (sCUCB : PySem.W.subIn K (.ref CU) (.ref CB) = some false)
    {C : Addr} (gC : PySem.W.nsIn K mainGlobals "Parted" = some (some (.ref C)))
    {qCinit : Addr} (faCinit : PySem.W.findIn K (.ref C) "__init__" = some (some (.ref qCinit)))
    (fiCinit : PySem.W.isFn K (.ref qCinit) = true)
    {oiCinit : Value} {diCinit : Option Addr} {kiCinit : Value} {uiCinit : Value} {miCinit : Value} {niCinit : Option Addr} {viCinit : Value} {tiCinit : Value} {siCinit : Array (Option Value)} (liCinit : K.lookup qCinit = some ⟨oiCinit, diCinit, .func (PySem.W.fnOf "__init__" "Parted.__init__" (defArgs iParted) (defBody iParted) (defScope iParted) .none kiCinit uiCinit miCinit niCinit viCinit tiCinit), siCinit⟩)
    (ciCinit : PySem.W.codeIn K viCinit "Parted.__init__" = true)
    (kkCinit : PySem.W.keepIn K (.ref qCinit) = true)
    {qCput : Addr} (faCput : PySem.W.findIn K (.ref C) "put" = some (some (.ref qCput)))
    (fiCput : PySem.W.isFn K (.ref qCput) = true)
    {oiCput : Value} {diCput : Option Addr} {kiCput : Value} {uiCput : Value} {miCput : Value} {niCput : Option Addr} {viCput : Value} {tiCput : Value} {siCput : Array (Option Value)} (liCput : K.lookup qCput = some ⟨oiCput, diCput, .func (PySem.W.fnOf "put" "Parted.put" (defArgs sPut) (defBody sPut) (defScope sPut) .none kiCput uiCput miCput niCput viCput tiCput), siCput⟩)
    (ciCput : PySem.W.codeIn K viCput "Parted.put" = true)
    (kkCput : PySem.W.keepIn K (.ref qCput) = true)
    {qCleast_sum : Addr} (faCleast_sum : PySem.W.findIn K (.ref C) "least_sum" = some (some (.ref qCleast_sum)))
    (fiCleast_sum : PySem.W.isFn K (.ref qCleast_sum) = true)
    {oiCleast_sum : Value} {diCleast_sum : Option Addr} {kiCleast_sum : Value} {uiCleast_sum : Value} {miCleast_sum : Value} {niCleast_sum : Option Addr} {viCleast_sum : Value} {tiCleast_sum : Value} {siCleast_sum : Array (Option Value)} (liCleast_sum : K.lookup qCleast_sum = some ⟨oiCleast_sum, diCleast_sum, .func (PySem.W.fnOf "least_sum" "Parted.least_sum" (defArgs sLs) (defBody sLs) (defScope sLs) .none kiCleast_sum uiCleast_sum miCleast_sum niCleast_sum viCleast_sum tiCleast_sum), siCleast_sum⟩)
    (ciCleast_sum : PySem.W.codeIn K viCleast_sum "Parted.least_sum" = true)
    (kkCleast_sum : PySem.W.keepIn K (.ref qCleast_sum) = true)
    {qCbound : Addr} (faCbound : PySem.W.findIn K (.ref C) "bound" = some (some (.ref qCbound)))
    (fiCbound : PySem.W.isFn K (.ref qCbound) = true)
    {oiCbound : Value} {diCbound : Option Addr} {kiCbound : Value} {uiCbound : Value} {miCbound : Value} {niCbound : Option Addr} {viCbound : Value} {tiCbound : Value} {siCbound : Array (Option Value)} (liCbound : K.lookup qCbound = some ⟨oiCbound, diCbound, .func (PySem.W.fnOf "bound" "Parted.bound" (defArgs sBound) (defBody sBound) (defScope sBound) .none kiCbound uiCbound miCbound niCbound viCbound tiCbound), siCbound⟩)
    (ciCbound : PySem.W.codeIn K viCbound "Parted.bound" = true)
    (kkCbound : PySem.W.keepIn K (.ref qCbound) = true)
    {qCbound_row : Addr} (faCbound_row : PySem.W.findIn K (.ref C) "bound_row" = some (some (.ref qCbound_row)))
    (fiCbound_row : PySem.W.isFn K (.ref qCbound_row) = true)
    {oiCbound_row : Value} {diCbound_row : Option Addr} {kiCbound_row : Value} {uiCbound_row : Value} {miCbound_row : Value} {niCbound_row : Option Addr} {viCbound_row : Value} {tiCbound_row : Value} {siCbound_row : Array (Option Value)} (liCbound_row : K.lookup qCbound_row = some ⟨oiCbound_row, diCbound_row, .func (PySem.W.fnOf "bound_row" "Parted.bound_row" (defArgs sBrow) (defBody sBrow) (defScope sBrow) .none kiCbound_row uiCbound_row miCbound_row niCbound_row viCbound_row tiCbound_row), siCbound_row⟩)
    (ciCbound_row : PySem.W.codeIn K viCbound_row "Parted.bound_row" = true)
    (kkCbound_row : PySem.W.keepIn K (.ref qCbound_row) = true)
    {qCbounds : Addr} (faCbounds : PySem.W.findIn K (.ref C) "bounds" = some (some (.ref qCbounds)))
    (fiCbounds : PySem.W.isFn K (.ref qCbounds) = true)
    {oiCbounds : Value} {diCbounds : Option Addr} {kiCbounds : Value} {uiCbounds : Value} {miCbounds : Value} {niCbounds : Option Addr} {viCbounds : Value} {tiCbounds : Value} {siCbounds : Array (Option Value)} (liCbounds : K.lookup qCbounds = some ⟨oiCbounds, diCbounds, .func (PySem.W.fnOf "bounds" "Parted.bounds" (defArgs sBounds) (defBody sBounds) (defScope sBounds) .none kiCbounds uiCbounds miCbounds niCbounds viCbounds tiCbounds), siCbounds⟩)
    (ciCbounds : PySem.W.codeIn K viCbounds "Parted.bounds" = true)
    (kkCbounds : PySem.W.keepIn K (.ref qCbounds) = true)
    (pgC : PySem.W.plainGet K C Str.empty = true)
    (hdC : PySem.W.hasDictIn K C = true)
    (poC : PySem.W.plainOver K C = true)
    (saC : PySem.W.findIn K (.ref C) "__setattr__" = some (some (.builtin "object.__setattr__")))
    (mkC : PySem.W.makesIn K C = true)
    (kcC : PySem.W.keepIn K (.ref C) = true)
    (naCprices : PySem.W.findIn K (.ref C) "prices" = some none)
    (naCthings : PySem.W.findIn K (.ref C) "things" = some none)
    (naCsums : PySem.W.findIn K (.ref C) "sums" = some none)
    (naCheads : PySem.W.findIn K (.ref C) "heads" = some none)
    (naCtails : PySem.W.findIn K (.ref C) "tails" = some none) :
    ∃ fd : FuncData, (∀ (s : Shared) (v : Value), BindsTo s fd ⟨[v], []⟩ [("script", v)]) ∧ ∀ base : Heap, K.In base → base.Ns mainGlobals mg → FnOk l.prog w K mg base CX0 10 fa fd ["script"] (spLaw K) := by
  have e := hfa.symm.trans (PySem.W.mg_of X G a29)
  cases e
  have F1 := fun_mk (st := sSums) l1 c1 k1
  have m1 := PySem.W.mg_of X G a1
  have b1 := F1.binds (ps := ["weights"]) fun _ _ _ _ _ _ => al1 fun _ => rfl
  have F2 := fun_mk (st := sRow) l2 c2 k2
  have m2 := PySem.W.mg_of X G a2
  have b2 := F2.binds (ps := ["side", "at", "number"]) fun _ _ _ _ _ _ => al3 fun _ _ _ => rfl
  have F3 := fun_mk (st := sSquare) l3 c3 k3
  have m3 := PySem.W.mg_of X G a3
  have b3 := F3.binds (ps := ["side", "diagonal"]) fun _ _ _ _ _ _ => al2 fun _ _ => rfl
  have F4 := fun_mk (st := sLeast) l4 c4 k4
  have m4 := PySem.W.mg_of X G a4
  have b4 := F4.binds (ps := ["numbers"]) fun _ _ _ _ _ _ => al1 fun _ => rfl
  have F5 := fun_mk (st := sAdded) l5 c5 k5
  have m5 := PySem.W.mg_of X G a5
  have b5 := F5.binds (ps := ["one", "other"]) fun _ _ _ _ _ _ => al2 fun _ _ => rfl
  have F6 := fun_mk (st := sPb) l6 c6 k6
  have m6 := PySem.W.mg_of X G a6
  have b6 := F6.binds (ps := ["prices", "weights", "floors"]) fun _ _ _ _ _ _ => al3 fun _ _ _ => rfl
  have F7 := fun_mk (st := sTop) l7 c7 k7
  have m7 := PySem.W.mg_of X G a7
  have b7 := F7.binds (ps := ["top"]) fun _ _ _ _ _ _ => al1 fun _ => rfl
  have F8 := fun_mk (st := sGround) l8 c8 k8
  have m8 := PySem.W.mg_of X G a8
  have b8 := F8.binds (ps := ["things"]) fun _ _ _ _ _ _ => al1 fun _ => rfl
  have F9 := fun_mk (st := sHas) l9 c9 k9
  have m9 := PySem.W.mg_of X G a9
  have b9 := F9.binds (ps := ["weights", "floors"]) fun _ _ _ _ _ _ => al2 fun _ _ => rfl
  have F10 := fun_mk (st := sAbove) l10 c10 k10
  have m10 := PySem.W.mg_of X G a10
  have b10 := F10.binds (ps := ["floors", "bounds"]) fun _ _ _ _ _ _ => al2 fun _ _ => rfl
  have F11 := fun_mk (st := sIs) l11 c11 k11
  have m11 := PySem.W.mg_of X G a11
  have b11 := F11.binds (ps := ["floor", "bound"]) fun _ _ _ _ _ _ => al2 fun _ _ => rfl
  have F12 := fun_mk (st := sStep) l12 c12 k12
  have m12 := PySem.W.mg_of X G a12
  have b12 := F12.binds (ps := ["prices", "weights", "top", "stairs"]) fun _ _ _ _ _ _ => al4 fun _ _ _ _ => rfl
  have F13 := fun_mk (st := sSteps) l13 c13 k13
  have m13 := PySem.W.mg_of X G a13
  have b13 := F13.binds (ps := ["weights", "top", "stairs"]) fun _ _ _ _ _ _ => al3 fun _ _ _ => rfl
  have F14 := fun_mk (st := sOn) l14 c14 k14
  have m14 := PySem.W.mg_of X G a14
  have b14 := F14.binds (ps := ["prices", "weights", "stairs", "step"]) fun _ _ _ _ _ _ => al4 fun _ _ _ _ => rfl
  have F15 := fun_mk (st := sFolded) l15 c15 k15
  have m15 := PySem.W.mg_of X G a15
  have b15 := F15.binds (ps := ["script", "many"]) fun _ _ _ _ _ _ => al2 fun _ _ => rfl
  have F16 := fun_mk (st := sNumber) l16 c16 k16
  have m16 := PySem.W.mg_of X G a16
  have b16 := F16.binds (ps := ["cell", "manner"]) fun _ _ _ _ _ _ => al2 fun _ _ => rfl
  have F17 := fun_mk (st := sNumbers) l17 c17 k17
  have m17 := PySem.W.mg_of X G a17
  have b17 := F17.binds (ps := ["parts", "at", "many", "turn"]) fun _ _ _ _ _ _ => al4 fun _ _ _ _ => rfl
  have F18 := fun_mk (st := sWhole) l18 c18 k18
  have m18 := PySem.W.mg_of X G a18
  have b18 := F18.binds (ps := ["found"]) fun _ _ _ _ _ _ => al1 fun _ => rfl
  have F19 := fun_mk (st := sPartings) l19 c19 k19
  have m19 := PySem.W.mg_of X G a19
  have b19 := F19.binds (ps := ["first", "end", "low", "letters"]) fun _ _ _ _ _ _ => al4 fun _ _ _ _ => rfl
  have F20 := fun_mk (st := sSb) l20 c20 k20
  have m20 := PySem.W.mg_of X G a20
  have b20 := F20.binds (ps := ["prices", "weights", "rows", "first", "end"]) fun _ _ _ _ _ _ => al5 fun _ _ _ _ _ => rfl
  have F21 := fun_mk (st := sNothing) l21 c21 k21
  have m21 := PySem.W.mg_of X G a21
  have b21 := F21.binds (ps := ["things"]) fun _ _ _ _ _ _ => al1 fun _ => rfl
  have F22 := fun_mk (st := sLabove) l22 c22 k22
  have m22 := PySem.W.mg_of X G a22
  have b22 := F22.binds (ps := ["floor", "bound"]) fun _ _ _ _ _ _ => al2 fun _ _ => rfl
  have F23 := fun_mk (st := sMade) l23 c23 k23
  have m23 := PySem.W.mg_of X G a23
  have b23 := F23.binds (ps := ["prices", "weights", "top", "parts"]) fun _ _ _ _ _ _ => al4 fun _ _ _ _ => rfl
  have F24 := fun_mk (st := sCopied) l24 c24 k24
  have m24 := PySem.W.mg_of X G a24
  have b24 := F24.binds (ps := ["stairs"]) fun _ _ _ _ _ _ => al1 fun _ => rfl
  have F25 := fun_mk (st := sTurned) l25 c25 k25
  have m25 := PySem.W.mg_of X G a25
  have b25 := F25.binds (ps := ["stairs", "cells"]) fun _ _ _ _ _ _ => al2 fun _ _ => rfl
  have F26 := fun_mk (st := sDue) l26 c26 k26
  have m26 := PySem.W.mg_of X G a26
  have b26 := F26.binds (ps := ["prices", "weights", "stairs"]) fun _ _ _ _ _ _ => al3 fun _ _ _ => rfl
  have F27 := fun_mk (st := sRight) l27 c27 k27
  have m27 := PySem.W.mg_of X G a27
  have b27 := F27.binds (ps := ["prices", "weights", "top", "stairs"]) fun _ _ _ _ _ _ => al4 fun _ _ _ _ => rfl
  have F28 := fun_mk (st := sRefused) l28 c28 k28
  have m28 := PySem.W.mg_of X G a28
  have b28 := F28.binds (ps := ["prices", "weights", "top", "stairs"]) fun _ _ _ _ _ _ => al4 fun _ _ _ _ => rfl
  have F29 := fun_mk (st := sLaw) l29 c29 k29
  have m29 := PySem.W.mg_of X G a29
  have B_len := PySem.W.mg_none_of X G z1
  have B_range := PySem.W.mg_none_of X G z2
  have B_sum := PySem.W.mg_none_of X G z3
  have B_min := PySem.W.mg_none_of X G z4
  have B_tuple := PySem.W.mg_none_of X G z5
  have B_list := PySem.W.mg_none_of X G z6
  have B_isinstance := PySem.W.mg_none_of X G z7
  have B_int := PySem.W.mg_none_of X G z8
  have B_bool := PySem.W.mg_none_of X G z9
  have B_all := PySem.W.mg_none_of X G z10
  refine ⟨PySem.W.fnOf "law" "law" (defArgs sLaw) (defBody sLaw) (defScope sLaw) .none kV29 dc29 pm29 an29 cd29 ct29, fun s v => .of_eq rfl, fun base _ _ => ?_⟩
  have rc : PC K C := ⟨⟨pgC, hdC, poC, saC⟩, naCprices, naCthings, naCsums, naCheads, naCtails⟩
  have cc : Cls K mg D CU CB := ⟨PySem.W.mg_of X G gD, PySem.W.mg_of X G gCU, PySem.W.mg_of X G gCB, .of xD, .of xCU, .of xCB, sCUD, sCUCB⟩
  have FI := fun_mk (st := iParted) liCinit ciCinit kkCinit
  have bI := FI.binds (ps := ["self", "prices", "weights"]) fun _ _ _ _ _ _ => al3 fun _ _ _ => rfl
  have FP := fun_mk (st := sPut) liCput ciCput kkCput
  have bP := FP.binds (ps := ["self", "first", "end", "floor"]) fun _ _ _ _ _ _ => al4 fun _ _ _ _ => rfl
  have FL := fun_mk (st := sLs) liCleast_sum ciCleast_sum kkCleast_sum
  have bL := FL.binds (ps := ["self", "letter", "first", "end", "last"]) fun _ _ _ _ _ _ => al5 fun _ _ _ _ _ => rfl
  have FB := fun_mk (st := sBound) liCbound ciCbound kkCbound
  have bB := FB.binds (ps := ["self", "first", "end"]) fun _ _ _ _ _ _ => al3 fun _ _ _ => rfl
  have FR := fun_mk (st := sBrow) liCbound_row ciCbound_row kkCbound_row
  have bR := FR.binds (ps := ["self", "first"]) fun _ _ _ _ _ _ => al2 fun _ _ => rfl
  have FS := fun_mk (st := sBounds) liCbounds ciCbounds kkCbounds
  have bS := FS.binds (ps := ["self"]) fun _ _ _ _ _ _ => al1 fun _ => rfl
  have B1 : Fns l.prog w K mg base ["weights"] "weight_sums" spSums 2 := ⟨_, _, (ok_sums F1).mono (by decide), b1, k1, m1⟩
  have B2 : Fns l.prog w K mg base ["side", "at", "number"] "row_with" spRow 1 := ⟨_, _, ok_row F2, b2, k2, m2⟩
  have B3 : Fns l.prog w K mg base ["side", "diagonal"] "square" spSquare 2 := ⟨_, _, ok_square F3 (B2.up (by decide)) B_range, b3, k3, m3⟩
  have B4 : Fns l.prog w K mg base ["numbers"] "least" spLeast 1 := ⟨_, _, ok_least F4 B_min, b4, k4, m4⟩
  have B5 : Fns l.prog w K mg base ["one", "other"] "added" spAdded 1 := ⟨_, _, ok_added F5, b5, k5, m5⟩
  have ML : Mt l.prog w K mg base C "least_sum" ["self", "letter", "first", "end", "last"] (spLs C) 2 := ⟨_, _, ⟨faCleast_sum, fiCleast_sum, kkCleast_sum⟩, ok_ls FL B4 B5 rc B_range, bL⟩
  have MB : Mt l.prog w K mg base C "bound" ["self", "first", "end"] (spBound C) 3 := ⟨_, _, ⟨faCbound, fiCbound, kkCbound⟩, ok_bound FB (B4.up (by decide)) ML rc B_len B_range, bB⟩
  have MP : Mt l.prog w K mg base C "put" ["self", "first", "end", "floor"] (spPut C) 3 := ⟨_, _, ⟨faCput, fiCput, kkCput⟩, ok_put FP (B4.up (by decide)) (B5.up (by decide)) ML rc B_len B_range, bP⟩
  have MR : Mt l.prog w K mg base C "bound_row" ["self", "first"] (spBrow C) 4 := ⟨_, _, ⟨faCbound_row, fiCbound_row, kkCbound_row⟩, ok_brow FR MB rc B_range, bR⟩
  have MS : Mt l.prog w K mg base C "bounds" ["self"] (spBounds C) 5 := ⟨_, _, ⟨faCbounds, fiCbounds, kkCbounds⟩, ok_bounds FS MR rc B_range, bS⟩
  have cl : Cl l.prog w K mg base C := ⟨rc, PySem.W.mg_of X G gC, _, _, ⟨mkC, faCinit, fiCinit, kcC⟩, ok_pinit FI B1 B3 rc B_len B_range, bI⟩
  have B6 : Fns l.prog w K mg base ["prices", "weights", "floors"] "parted_by" (spPb C) 5 := ⟨_, _, ok_pb F6 cl (MP.up (by decide)) B_len B_range, b6, k6, m6⟩
  have B7 : Fns' l.prog w K mg base ["top"] "refuse_top" spTop 6 := ⟨_, _, (ok_top F7 cc.gB ⟨eCB⟩).mono (by decide), b7, k7, m7⟩
  have B8 : Fns l.prog w K mg base ["things"] "bounds_on_ground" spGround 5 := ⟨_, _, (ok_ground F8 B_range).mono (by decide), b8, k8, m8⟩
  have B9 : Fns l.prog w K mg base ["weights", "floors"] "has_rows" spHas 1 := ⟨_, _, ok_has F9 B_len B_range B_list, b9, k9, m9⟩
  have B11 : Fns l.prog w K mg base ["floor", "bound"] "is_above" spIsA 1 := ⟨_, _, ok_isa F11, b11, k11, m11⟩
  have B10 : Fns l.prog w K mg base ["floors", "bounds"] "first_above" spAbove 6 := ⟨_, _, (ok_above F10 B11 B_len B_range).mono (by decide), b10, k10, m10⟩
  have B13 : Fns l.prog w K mg base ["weights", "top", "stairs"] "has_steps" spSteps 6 := ⟨_, _, (ok_steps F13 B9 B_len B_all).mono (by decide), b13, k13, m13⟩
  have B14 : Fns l.prog w K mg base ["prices", "weights", "stairs", "step"] "bounds_on" spOn 6 := ⟨_, _, ok_on F14 B8 B6 MS rc B_len, b14, k14, m14⟩
  have B12 : Fns' l.prog w K mg base ["prices", "weights", "top", "stairs"] "step_lie" (spStep CU) 7 := ⟨_, _, ok_step F12 B7 B13 B10 B14 cc.gU ⟨eCU⟩ B_range, b12, k12, m12⟩
  have B15 : Fns l.prog w K mg base ["script", "many"] "_law_folded" (spFolded K) 9 := ⟨_, _, (ok_folded F15 B_len B_range B_sum).mono (by decide), b15, k15, m15⟩
  have B16 : Fns l.prog w K mg base ["cell", "manner"] "_law_number" spNumber 1 := ⟨_, _, ok_number F16, b16, k16, m16⟩
  have B17 : Fns l.prog w K mg base ["parts", "at", "many", "turn"] "_law_numbers" spNumbers 9 := ⟨_, _, (ok_numbers F17 B16 B_range B_tuple).mono (by decide), b17, k17, m17⟩
  have B18 : Fns l.prog w K mg base ["found"] "_law_whole" spWhole 8 := ⟨_, _, (ok_whole F18 B_isinstance B_int B_bool).mono (by decide), b18, k18, m18⟩
  have B19 : Fns l.prog w K mg base ["first", "end", "low", "letters"] "_law_partings" (spPt 5) 6 := ⟨_, _, ok_pt F19 m19 k19 b19 B_range 5, b19, k19, m19⟩
  have B20 : Fns l.prog w K mg base ["prices", "weights", "rows", "first", "end"] "_law_step_bound" spSb 7 := ⟨_, _, ok_sb F20 B19 B_len B_sum, b20, k20, m20⟩
  have B21 : Fns l.prog w K mg base ["things"] "_law_nothing" spNothing 7 := ⟨_, _, (ok_nothing F21 B_range).mono (by decide), b21, k21, m21⟩
  have B22 : Fns l.prog w K mg base ["floor", "bound"] "_law_above" spIsA 7 := ⟨_, _, (ok_lab F22).mono (by decide), b22, k22, m22⟩
  have B23 : Fns l.prog w K mg base ["prices", "weights", "top", "parts"] "_law_made" spMade 9 := ⟨_, _, (ok_made F23 B21 B20 B_len B_range).mono (by decide), b23, k23, m23⟩
  have B24 : Fns l.prog w K mg base ["stairs"] "_law_copied" spCopied 1 := ⟨_, _, ok_copied F24 B_list, b24, k24, m24⟩
  have B25 : Fns l.prog w K mg base ["stairs", "cells"] "_law_turned" spTurned 9 := ⟨_, _, (ok_turned F25 B24 B_len).mono (by decide), b25, k25, m25⟩
  have B26 : Fns l.prog w K mg base ["prices", "weights", "stairs"] "_law_due" spDue 8 := ⟨_, _, ok_due F26 B21 B20 B22 B_len B_range, b26, k26, m26⟩
  have B27 : Fns l.prog w K mg base ["prices", "weights", "top", "stairs"] "_law_right" spRight 9 := ⟨_, _, ok_right F27 (B24.up (by decide)) (B12.up (by decide)) B26 B18 B_isinstance B_tuple B_all, b27, k27, m27⟩
  have B28 : Fns l.prog w K mg base ["prices", "weights", "top", "stairs"] "_law_refused" spRefused 9 := ⟨_, _, (ok_refused F28 B12 cc B_isinstance).mono (by decide), b28, k28, m28⟩
  exact ok_law F29 B15 B17 B23 B25 (B24.up (by decide)) B27 B28 B_len
theorem walk {l : PySem.W.OpenLaw} {q : Program} {loose : List Str} {XP : (Str → Option Value) → Heap → Prop} {YP : World → Heap → Prop} {d : DefRec} {K : Params → PySem.W.Frag} (hn : l.most = some 63) (hdf : d.params.defaults = [])
    (hY : ∀ (w : World) (h : Heap), YP w h → (K w.params).In h)
    (F : ∀ (w : World) (mg : Str → Option Value) (fa : Addr) (h : Heap), (K w.params).In h → h.Ns mainGlobals mg → mg d.name = some (.ref fa) →
      ∃ fd : FuncData, (∀ (s : Shared) (u : Value), BindsTo s fd ⟨[u], []⟩ [("script", u)]) ∧ ∀ base : Heap, (K w.params).In base → base.Ns mainGlobals mg → FnOk l.prog w (K w.params) mg base CX0 10 fa fd ["script"] (spLaw (K w.params))) :
    PySem.W.WalkO q loose XP YP l.row.toRowW d [] (fun f vs => PySem.call f vs) :=
  L2.walk_of (n := 63) (k := 10) (x := "script") (CX := fun _ => CX0) (sp := fun w => spLaw (K w.params)) hn (by decide) hdf ⟨rfl, by decide, by decide⟩ hY F (fun _ _ a ns hl _ hS => ⟨a, ns, rfl, hS, hl, fun _ => rfl⟩) fun _ _ _ _ _ z => z
end K42
open PySem PySem.W PyProof.Rows
set_option maxRecDepth 100000 in
set_option maxHeartbeats 0 in
theorem PySem.Challenge.cw_lettertoll_k42_lies_on_steps_holds : PySem.Challenge.rw_lettertoll_k42_lies_on_steps.Holds := by
  w_on; o_law; k_head; (case hw => w_witness2)
  k_fill
  refine K42.walk (l := PySem.Challenge.rw_lettertoll_k42_lies_on_steps) rfl rfl (fun w h Y => PySem.W.kIn_of Y) ?F
  case F =>
    intro w mg fa h KX G hmg
    refine' K42.all_mk KX G hmg ?a1 ?l1 ?c1 ?k1 ?a2 ?l2 ?c2 ?k2 ?a3 ?l3 ?c3 ?k3 ?a4 ?l4 ?c4 ?k4 ?a5 ?l5 ?c5 ?k5 ?a6 ?l6 ?c6 ?k6 ?a7 ?l7 ?c7 ?k7 ?a8 ?l8 ?c8 ?k8 ?a9 ?l9 ?c9 ?k9 ?a10 ?l10 ?c10 ?k10 ?a11 ?l11 ?c11 ?k11 ?a12 ?l12 ?c12 ?k12 ?a13 ?l13 ?c13 ?k13 ?a14 ?l14 ?c14 ?k14 ?a15 ?l15 ?c15 ?k15 ?a16 ?l16 ?c16 ?k16 ?a17 ?l17 ?c17 ?k17 ?a18 ?l18 ?c18 ?k18 ?a19 ?l19 ?c19 ?k19 ?a20 ?l20 ?c20 ?k20 ?a21 ?l21 ?c21 ?k21 ?a22 ?l22 ?c22 ?k22 ?a23 ?l23 ?c23 ?k23 ?a24 ?l24 ?c24 ?k24 ?a25 ?l25 ?c25 ?k25 ?a26 ?l26 ?c26 ?k26 ?a27 ?l27 ?c27 ?k27 ?a28 ?l28 ?c28 ?k28 ?a29 ?l29 ?c29 ?k29 ?z1 ?z2 ?z3 ?z4 ?z5 ?z6 ?z7 ?z8 ?z9 ?z10 ?gD ?xD ?eD ?gCU ?xCU ?eCU ?gCB ?xCB ?eCB ?sCUD ?sCUCB ?gC ?faCinit ?fiCinit ?liCinit ?ciCinit ?kkCinit ?faCput ?fiCput ?liCput ?ciCput ?kkCput ?faCleast_sum ?fiCleast_sum ?liCleast_sum ?ciCleast_sum ?kkCleast_sum ?faCbound ?fiCbound ?liCbound ?ciCbound ?kkCbound ?faCbound_row ?fiCbound_row ?liCbound_row ?ciCbound_row ?kkCbound_row ?faCbounds ?fiCbounds ?liCbounds ?ciCbounds ?kkCbounds ?pgC ?hdC ?poC ?saC ?mkC ?kcC ?naCprices ?naCthings ?naCsums ?naCheads ?naCtails
    (case a1 => k_is); (case l1 => k_is); (case c1 => k_is); (case k1 => k_is)
    (case a2 => k_is); (case l2 => k_is); (case c2 => k_is); (case k2 => k_is)
    (case a3 => k_is); (case l3 => k_is); (case c3 => k_is); (case k3 => k_is)
    (case a4 => k_is); (case l4 => k_is); (case c4 => k_is); (case k4 => k_is)
    (case a5 => k_is); (case l5 => k_is); (case c5 => k_is); (case k5 => k_is)
    (case a6 => k_is); (case l6 => k_is); (case c6 => k_is); (case k6 => k_is)
    (case a7 => k_is); (case l7 => k_is); (case c7 => k_is); (case k7 => k_is)
    (case a8 => k_is); (case l8 => k_is); (case c8 => k_is); (case k8 => k_is)
    (case a9 => k_is); (case l9 => k_is); (case c9 => k_is); (case k9 => k_is)
    (case a10 => k_is); (case l10 => k_is); (case c10 => k_is); (case k10 => k_is)
    (case a11 => k_is); (case l11 => k_is); (case c11 => k_is); (case k11 => k_is)
    (case a12 => k_is); (case l12 => k_is); (case c12 => k_is); (case k12 => k_is)
    (case a13 => k_is); (case l13 => k_is); (case c13 => k_is); (case k13 => k_is)
    (case a14 => k_is); (case l14 => k_is); (case c14 => k_is); (case k14 => k_is)
    (case a15 => k_is); (case l15 => k_is); (case c15 => k_is); (case k15 => k_is)
    (case a16 => k_is); (case l16 => k_is); (case c16 => k_is); (case k16 => k_is)
    (case a17 => k_is); (case l17 => k_is); (case c17 => k_is); (case k17 => k_is)
    (case a18 => k_is); (case l18 => k_is); (case c18 => k_is); (case k18 => k_is)
    (case a19 => k_is); (case l19 => k_is); (case c19 => k_is); (case k19 => k_is)
    (case a20 => k_is); (case l20 => k_is); (case c20 => k_is); (case k20 => k_is)
    (case a21 => k_is); (case l21 => k_is); (case c21 => k_is); (case k21 => k_is)
    (case a22 => k_is); (case l22 => k_is); (case c22 => k_is); (case k22 => k_is)
    (case a23 => k_is); (case l23 => k_is); (case c23 => k_is); (case k23 => k_is)
    (case a24 => k_is); (case l24 => k_is); (case c24 => k_is); (case k24 => k_is)
    (case a25 => k_is); (case l25 => k_is); (case c25 => k_is); (case k25 => k_is)
    (case a26 => k_is); (case l26 => k_is); (case c26 => k_is); (case k26 => k_is)
    (case a27 => k_is); (case l27 => k_is); (case c27 => k_is); (case k27 => k_is)
    (case a28 => k_is); (case l28 => k_is); (case c28 => k_is); (case k28 => k_is)
    (case a29 => k_is); (case l29 => k_is); (case c29 => k_is); (case k29 => k_is)
    (case z1 => k_is)
    (case z2 => k_is)
    (case z3 => k_is)
    (case z4 => k_is)
    (case z5 => k_is)
    (case z6 => k_is)
    (case z7 => k_is)
    (case z8 => k_is)
    (case z9 => k_is)
    (case z10 => k_is)
    (case gD => k_is)
    (case xD => kernel_rfl)
    (case eD => kernel_rfl)
    (case gCU => k_is)
    (case xCU => kernel_rfl)
    (case eCU => kernel_rfl)
    (case gCB => k_is)
    (case xCB => kernel_rfl)
    (case eCB => kernel_rfl)
    (case sCUD => k_is)
    (case sCUCB => k_is)
    (case gC => k_is)
    (case faCinit => k_is)
    (case fiCinit => k_is)
    (case liCinit => k_is)
    (case ciCinit => k_is)
    (case kkCinit => k_is)
    (case faCput => k_is)
    (case fiCput => k_is)
    (case liCput => k_is)
    (case ciCput => k_is)
    (case kkCput => k_is)
    (case faCleast_sum => k_is)
    (case fiCleast_sum => k_is)
    (case liCleast_sum => k_is)
    (case ciCleast_sum => k_is)
    (case kkCleast_sum => k_is)
    (case faCbound => k_is)
    (case fiCbound => k_is)
    (case liCbound => k_is)
    (case ciCbound => k_is)
    (case kkCbound => k_is)
    (case faCbound_row => k_is)
    (case fiCbound_row => k_is)
    (case liCbound_row => k_is)
    (case ciCbound_row => k_is)
    (case kkCbound_row => k_is)
    (case faCbounds => k_is)
    (case fiCbounds => k_is)
    (case liCbounds => k_is)
    (case ciCbounds => k_is)
    (case kkCbounds => k_is)
    (case pgC => k_is)
    (case hdC => k_is)
    (case poC => k_is)
    (case saC => k_is)
    (case mkC => k_is)
    (case kcC => k_is)
    (case naCprices => k_is)
    (case naCthings => k_is)
    (case naCsums => k_is)
    (case naCheads => k_is)
    (case naCtails => k_is)
