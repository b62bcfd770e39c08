import PyProof.Rows.All
import Wide.All
import OpenK.AllK
import Wide.FinOn
import Lean
import PyProof.EqAt
import PyProof.EqKinds
import PyProof.TupleCall
import PyProof.NeKinds
import PyProof.ConsumeWalk
import PyProof.SumAny
import PyProof.Rows.SumGenD
import PyProof.ExcInit
import PyProof.InstStoreFacts
import PyProof.ZipIter
import PyProof.DictWalks
import KE.KSortTup
import KE.KDictList
import PyProof.EnumMake
import KE.IntBitsLaws
import PyProof.Rows.Range3
import KE.KRevIter
import PyProof.CollectIter
import PyProof.WalkInts
import PyProof.MinMaxWalk
import PyProof.TupleOfSeq
import PyProof.Rows.SortShell
import PyProof.WalksS
import PyProof.SeqWrite
import PyProof.ListRange
import PySem.Challenge.RW_lettertoll_k62_shares
set_option Elab.async false
set_option linter.all false
set_option maxRecDepth 100000
/-! THE HAND LAYER, for ints, bools, texts, own classes, LISTS and tuples (index, slices, in, append, pop ..), calls, loops. Paste it whole ahead of your own text; what your proof does not reach may be deleted. -/
namespace L2
open PySem PySem.Spec PyProof.Rows

/-- a key: an int or a str -/
abbrev Key := Sum Int Str
def keyIs : Key → Value → Bool
  | .inl k, v => Value.isInt k v
  | .inr x, v => Value.isStrOf x v
def keyH (w : World) : Key → Int
  | .inl k => hashInt k
  | .inr x => hashStr w x
theorem keyIs_shape : ∀ {k : Key} {v : Value}, keyIs k v = true → (∃ i t, k = Sum.inl i ∧ v = Value.int i t) ∨ (∃ x t, k = Sum.inr x ∧ v = Value.str x t)
  | .inl i, v, h => by
    obtain ⟨t, e⟩ := Value.isInt_shape (k := i) (v := v) h
    exact .inl ⟨i, t, rfl, e⟩
  | .inr x, v, h => by
    obtain ⟨t, e⟩ := Value.isStrOf_shape (x := x) (v := v) h
    exact .inr ⟨x, t, rfl, e⟩
theorem key_ll (a b : Int) : decide ((Sum.inl a : Key) = Sum.inl b) = (a == b) := by
  by_cases e : a = b
  · subst e; simp
  · have h : ¬ (Sum.inl a : Key) = Sum.inl b := fun q => e (Sum.inl.inj q)
    rw [decide_eq_false h]
    exact (beq_eq_false_iff_ne.mpr e).symm
theorem key_rr (a b : Str) : decide ((Sum.inr a : Key) = Sum.inr b) = decide (a = b) := by
  by_cases e : a = b
  · subst e; simp
  · have h : ¬ (Sum.inr a : Key) = Sum.inr b := fun q => e (Sum.inr.inj q)
    rw [decide_eq_false h, decide_eq_false e]
theorem key_lr (a : Int) (b : Str) : decide ((Sum.inl a : Key) = Sum.inr b) = false := decide_eq_false (fun q => nomatch q)
theorem key_rl (a : Str) (b : Int) : decide ((Sum.inr a : Key) = Sum.inl b) = false := decide_eq_false (fun q => nomatch q)

def mixKind (prog : Program) (w : World) : PySem.KeyKind prog w Key where
  is := keyIs
  hash := keyH w
  inj := fun v a b ha hb => by
    rcases keyIs_shape ha with ⟨i, t, rfl, rfl⟩ | ⟨x, t, rfl, rfl⟩
    · rcases keyIs_shape hb with ⟨j, u, rfl, e⟩ | ⟨y, u, rfl, e⟩
      · injection e with e1 _; rw [e1]
      · exact nomatch e
    · rcases keyIs_shape hb with ⟨j, u, rfl, e⟩ | ⟨y, u, rfl, e⟩
      · exact nomatch e
      · injection e with e1 _; rw [e1]
  byValue := fun k v h => by
    rcases keyIs_shape h with ⟨i, t, rfl, rfl⟩ | ⟨x, t, rfl, rfl⟩ <;> rfl
  pyHash := fun hv h => by
    rcases keyIs_shape hv with ⟨i, t, rfl, rfl⟩ | ⟨x, t, rfl, rfl⟩
    · exact wpAny_pyHash_int h
    · exact wpAny_pyHash_str h
  eqBool := fun hu hv h => by
    rcases keyIs_shape hu with ⟨i, t, rfl, rfl⟩ | ⟨x, t, rfl, rfl⟩
    · rcases keyIs_shape hv with ⟨j, u, rfl, rfl⟩ | ⟨y, u, rfl, rfl⟩
      · rw [key_ll] at h; exact wpAny_eqBool_int h
      · rw [key_lr] at h; exact SeqAt.EqAt.int_str i t y u _ _ _ _ h
    · rcases keyIs_shape hv with ⟨j, u, rfl, rfl⟩ | ⟨y, u, rfl, rfl⟩
      · rw [key_rl] at h; exact SeqAt.EqAt.str_int x t j u _ _ _ _ h
      · rw [key_rr] at h; exact wpAny_eqBool_str h
  «strs» := fun k x t v h => by
    rcases keyIs_shape h with ⟨i, u, rfl, e⟩ | ⟨y, u, rfl, e⟩
    · exact nomatch e
    · injection e with e1 _
      subst e1
      cases v <;> rfl

end L2

namespace L2
open PySem PySem.Spec PyProof.Rows

/-- a value, without the heap -/
inductive V where
  | non | bl (b : Bool) | int (i : Int) | str (x : Str) | byt (b : Array UInt8) | flt (b : UInt64) | ref (a : Addr) | ty (n : String)
  deriving DecidableEq

def RelV : V → Value → Prop
  | .non, u => u = Value.none
  | .bl b, u => u = Value.bool b
  | .int i, u => ∃ t, u = Value.int i t
  | .str x, u => ∃ t, u = Value.str x t
  | .byt b, u => ∃ t, u = Value.bytes b t
  | .flt b, u => ∃ t, u = Value.float b t
  | .ref a, u => u = Value.ref a
  | .ty n, u => u = Value.type n

abbrev Vals : List V → List Value → Prop := Paired RelV
theorem Vals.length {xs : List V} {us : List Value} (r : Vals xs us) : xs.length = us.length := Paired.length r
theorem Vals.get : ∀ {xs : List V} {us : List Value} {i : Nat} {x : V}, Vals xs us → xs[i]? = some x → ∃ u, us[i]? = some u ∧ RelV x u
  | _, _, _, _, .nil, e => by simp at e
  | _, _, 0, _, .cons r _, e => by simp at e; subst e; exact ⟨_, rfl, r⟩
  | _, _, i + 1, x, .cons _ t, e => by
    obtain ⟨u, h1, h2⟩ := Vals.get (i := i) (x := x) t (by simpa using e)
    exact ⟨u, by simpa using h1, h2⟩
theorem Vals.set {x : V} {u : Value} (r : RelV x u) : ∀ {xs : List V} {us : List Value} (i : Nat), Vals xs us → Vals (xs.set i x) (us.set i u)
  | _, _, _, .nil => .nil
  | _, _, 0, .cons _ t => .cons r t
  | _, _, i + 1, .cons q t => .cons q (Vals.set r i t)
theorem Vals.append : ∀ {xs ys : List V} {us ws : List Value}, Vals xs us → Vals ys ws → Vals (xs ++ ys) (us ++ ws)
  | _, _, _, _, .nil, s => s
  | _, _, _, _, .cons r t, s => .cons r (Vals.append t s)
theorem Vals.take : ∀ {xs : List V} {us : List Value} (n : Nat), Vals xs us → Vals (xs.take n) (us.take n)
  | _, _, 0, _ => .nil
  | _, _, _ + 1, .nil => .nil
  | _, _, n + 1, .cons r t => .cons r (Vals.take n t)
theorem Vals.drop : ∀ {xs : List V} {us : List Value} (n : Nat), Vals xs us → Vals (xs.drop n) (us.drop n)
  | _, _, 0, r => r
  | _, _, _ + 1, .nil => .nil
  | _, _, n + 1, .cons _ t => Vals.drop n t

def RelO : Option V → Option Value → Prop
  | some v, some u => RelV v u
  | none, none => True
  | _, _ => False
def KV {κ : Type} : List (κ × V) → List (κ × Value) → Prop := Paired fun (p : κ × V) (q : κ × Value) => p.1 = q.1 ∧ RelV p.2 q.2

/-- a key of a dict (00_mix): an int or a text -/
def kV : Key → V
  | .inl i => .int i
  | .inr x => .str x

/-- what stands at a tracked address -/
inductive HO where
  /-- a list -/
  | lst (xs : List V)
  /-- a tuple (never changes) -/
  | tup (xs : List V)
  /-- a dict whose keys are ints and texts; one whose keys are tuples of ints and texts (the empty one is both) -/
  | dK (kvs : List (Key × V)) | dT (kvs : List (List Key × V))
  /-- a set of ints: its members, its size -/
  | set (S : Int → Bool) (n : Nat)
  /-- an instance of the class at C, its dict at dx, its attributes -/
  | ins (C dx : Addr) (fs : List (Str × V))
  /-- the dict of the instance at x -/
  | own (x : Addr)
  /-- the dict of an exception -/
  | xd (fs : List (Str × V))
  /-- a bound method, f of x -/
  | met (f x : Addr)
  /-- a range object lo, lo + 1, .. below hi -/
  | rng (lo hi : Int)
  /-- a thing that is known to the object (the script; a dict while a loop walks it): read, never written while it is so -/
  | frz (o : Obj) (u : HO)
  /-- a code object's table -/
  | tbl (ps : Array Value)
  /-- any other thing, by what is true of its one object (a def of one's own: SetO a S n := HO.ext fun h => ..) -/
  | ext (φ : Heap → Prop)

abbrev Hp := Addr → Option HO
def upd (H : Hp) (a : Addr) (o : HO) : Hp := fun b => if b = a then some o else H b
theorem upd_same {H : Hp} {a : Addr} {o : HO} : upd H a o a = some o := by unfold upd; rw [if_pos rfl]
theorem upd_ne {H : Hp} {a b : Addr} {o : HO} (h : b ≠ a) : upd H a o b = H b := by unfold upd; rw [if_neg h]
/-- two objects of different content stand apart -/
theorem ne_of {H : Hp} {a b : Addr} {o u : HO} (h : H a = some o) (h' : H b = some u) (d : o ≠ u) : a ≠ b := by
  intro e; subst e; rw [h] at h'; exact d (Option.some.inj h')
theorem ne_of_none {H : Hp} {a b : Addr} {o : HO} (h : H a = some o) (h' : H b = none) : a ≠ b := by
  intro e; subst e; rw [h] at h'; cases h'

/-- a bare tuple -/
def IsTp (h : Heap) (a : Addr) (items : Array Value) : Prop := ∃ o, h.get? a = some o ∧ ∃ n, o = { cls := .type "tuple", data := .seq items n }
theorem IsTp.is {h : Heap} {a : Addr} {items : Array Value} (x : IsTp h a items) : IsTup h a items := by
  obtain ⟨o, e, n, rfl⟩ := x
  exact ⟨_, e, rfl, n, rfl⟩
instance {h : Heap} {a : Addr} {items : Array Value} : Coe (IsTp h a items) (IsTup h a items) := ⟨IsTp.is⟩
instance {h : Heap} {a : Addr} {items : Array Value} : Coe (IsTp h a items) (Heap.IsTuple h a items) := ⟨fun x => x.is⟩
theorem IsTp.lt {h : Heap} {a : Addr} {items : Array Value} (x : IsTp h a items) : a < h.objs.size := x.is.lt
theorem IsTp.new (h : Heap) (items : Array Value) : IsTp (h.push { cls := .type "tuple", data := .seq items }) h.objs.size items := ⟨_, Heap.get?_push_size _ rfl, _, rfl⟩

section
variable (P : Program) (w : World)
def ObjOk (H : Hp) (h : Heap) (a : Addr) : HO → Prop
  | .lst xs => xs.length ≤ sizeLine ∧ ∃ (its : List Value) (n : Nat), Vals xs its ∧ h.get? a = some { cls := .type "list", data := .seq its.toArray n }
  | .tup xs => xs.length ≤ sizeLine ∧ ∃ its : List Value, Vals xs its ∧ IsTp h a its.toArray
  | .dK kvs => kvs.length ≤ sizeLine ∧ (a == sysModules) = false ∧ ∃ vs, KV kvs vs ∧ h.DictOf (mixKind P w) a vs
  | .dT kvs => kvs.length ≤ sizeLine ∧ (a == sysModules) = false ∧ ∃ xs : List (List Key × Addr × Value),
      Paired (fun (p : List Key × V) (q : List Key × Addr × Value) => p.1 = q.1 ∧ H q.2.1 = some (.tup (p.1.map kV)) ∧ RelV p.2 q.2.2) kvs xs ∧
      ∃ o es ep, h.get? a = some o ∧ o.ExactDict ∧ o.data = .dict es ep ∧ es.toList = xs.map (entryOfKey (tupleKind (mixKind P w))) ∧ (xs.map (·.1)).Nodup
  | .set S n => h.SetOf (intKind P w) a S n
  | .ins C dx fs => H dx = some (.own a) ∧ fs.length ≤ 1000 ∧ dx ≠ a ∧ h.get? a = some (PySem.W.instObj C dx) ∧
      ∃ mA, h.Ns1 dx mA ∧ (∀ f, RelO (fs.lookup f) (mA f)) ∧ PySem.Within mA (fs.map (·.1))
  | .own _ => ∃ o, h.get? a = some o
  | .xd fs => ∃ mA, h.Ns1 a mA ∧ ∀ f, RelO (fs.lookup f) (mA f)
  | .rng lo hi => ∃ t u v, h.get? a = some { cls := .type "range", data := .fields #[.int lo t, .int hi u, .int 1 v] }
  | .frz o u => h.get? a = some o ∧ ObjOk H h a u
  | .tbl ps => h.get? a = some { cls := .none, data := .fields ps }
  | .met f x => h.get? a = some (PySem.W.methodObj (.ref f) (.ref x))
  | .ext φ => φ h ∧ (∃ o, h.get? a = some o) ∧ ∀ h1 h2 : Heap, φ h1 → (∀ o, h1.get? a = some o → h2.get? a = some o) → φ h2
/-- the abstract heap is held -/
def HOk (H : Hp) (h : Heap) : Prop := ∀ a o, H a = some o → ObjOk P w H h a o
end

section
variable {P : Program} {w : World} {H H' : Hp} {h h' : Heap} {a : Addr} {o : HO}
theorem ObjOk.lt (x : ObjOk P w H h a o) : a < h.objs.size := by
  cases o with
  | lst xs => obtain ⟨_, _, _, _, e⟩ := x; exact Heap.lt_size e
  | tup xs => obtain ⟨_, _, _, p⟩ := x; exact p.lt
  | dK kvs => obtain ⟨_, _, _, _, o, _, _, e, _⟩ := x; exact Heap.lt_size e
  | dT kvs => obtain ⟨_, _, _, _, o, _, _, e, _⟩ := x; exact Heap.lt_size e
  | set S n => obtain ⟨o, _, _, _, e, _⟩ := x; exact Heap.lt_size e
  | ins C dx fs => obtain ⟨_, _, _, e, _⟩ := x; exact Heap.lt_size e
  | own y => obtain ⟨_, e⟩ := x; exact Heap.lt_size e
  | xd fs => obtain ⟨_, ⟨_, _, _, e, _⟩, _⟩ := x; exact Heap.lt_size e
  | rng lo hi => obtain ⟨_, _, _, e⟩ := x; exact Heap.lt_size e
  | frz ob u => obtain ⟨e, _⟩ := x; exact Heap.lt_size e
  | tbl ps => exact Heap.lt_size (show h.get? a = some _ from x)
  | met f y => exact Heap.lt_size (show h.get? a = some _ from x)
  | ext φ => obtain ⟨_, ⟨_, e⟩, _⟩ := x; exact Heap.lt_size e
theorem Paired.mapP {α β : Type} {F G : α → β → Prop} : ∀ {l₁ : List α} {l₂ : List β}, Paired F l₁ l₂ → (∀ a b, F a b → G a b) → Paired G l₁ l₂
  | _, _, .nil, _ => .nil
  | _, _, .cons r t, f => .cons (f _ _ r) (Paired.mapP t f)
/-- what an object's description leans on: its own object, its own dict, the tuples -/
theorem ObjOk.stay (x : ObjOk P w H h a o) (k : ∀ b u, (b = a ∨ H b = some (.own a)) → h.get? b = some u → h'.get? b = some u)
    (ho : ∀ b, H b = some (.own a) → H' b = some (.own a)) (ht : ∀ b xs, H b = some (.tup xs) → H' b = some (.tup xs)) : ObjOk P w H' h' a o := by
  induction o with
  | lst xs => obtain ⟨z, its, n, r, e⟩ := x; exact ⟨z, its, n, r, k _ _ (.inl rfl) e⟩
  | tup xs => obtain ⟨z, its, r, ob, e, c⟩ := x; exact ⟨z, its, r, ob, k _ _ (.inl rfl) e, c⟩
  | dK kvs => obtain ⟨z, y, vs, r, ob, es, ep, e, c⟩ := x; exact ⟨z, y, vs, r, ob, es, ep, k _ _ (.inl rfl) e, c⟩
  | dT kvs =>
    obtain ⟨z, y, xs, r, ob, es, ep, e, c⟩ := x
    exact ⟨z, y, xs, Paired.mapP r fun p q z => ⟨z.1, ht _ _ z.2.1, z.2.2⟩, ob, es, ep, k _ _ (.inl rfl) e, c⟩
  | set S n => obtain ⟨ob, es, ep, t, e, c⟩ := x; exact ⟨ob, es, ep, t, k _ _ (.inl rfl) e, c⟩
  | ins C dx fs =>
    obtain ⟨d, z, ne, e, mA, ⟨od, es, ep, e2, c⟩, r⟩ := x
    exact ⟨ho _ d, z, ne, k _ _ (.inl rfl) e, mA, ⟨od, es, ep, k _ _ (.inr d) e2, c⟩, r⟩
  | own y => obtain ⟨ob, e⟩ := x; exact ⟨ob, k _ _ (.inl rfl) e⟩
  | xd fs => obtain ⟨mA, ⟨od, es, ep, e, c⟩, r⟩ := x; exact ⟨mA, ⟨od, es, ep, k _ _ (.inl rfl) e, c⟩, r⟩
  | rng lo hi => obtain ⟨t, u, v, e⟩ := x; exact ⟨t, u, v, k _ _ (.inl rfl) e⟩
  | frz ob u ih => obtain ⟨e, q⟩ := x; exact ⟨k _ _ (.inl rfl) e, ih q⟩
  | tbl ps =>
    have e : h.get? a = some { cls := .none, data := .fields ps } := x
    show h'.get? a = some { cls := .none, data := .fields ps }
    exact k a _ (.inl rfl) e
  | met f y =>
    have e : h.get? a = some (PySem.W.methodObj (.ref f) (.ref y)) := x
    show h'.get? a = some (PySem.W.methodObj (.ref f) (.ref y))
    exact k a _ (.inl rfl) e
  | ext φ => obtain ⟨p, ⟨o, e⟩, st⟩ := x; exact ⟨st _ _ p fun o q => k _ _ (.inl rfl) q, ⟨o, k _ _ (.inl rfl) e⟩, st⟩
theorem HOk.lt (x : HOk P w H h) (e : H a = some o) : a < h.objs.size := (x a o e).lt
theorem HOk.fresh (x : HOk P w H h) (e : h.objs.size ≤ a) : H a = none := by
  cases q : H a with
  | none => rfl
  | some u => exact absurd (Nat.lt_of_lt_of_le (x.lt q) e) (Nat.lt_irrefl _)
/-- every object of the heap is kept -/
theorem HOk.kept (x : HOk P w H h) (k : ∀ b u, h.get? b = some u → h'.get? b = some u) : HOk P w H h' := fun a o e =>
  (x a o e).stay (fun b u _ q => k b u q) (fun _ q => q) fun _ _ q => q
/-- a new object is laid and tracked -/
theorem HOk.laid (x : HOk P w H h) (k : ∀ b u, h.get? b = some u → h'.get? b = some u) (hp : h.objs.size ≤ a) (new : ObjOk P w (upd H a o) h' a o) : HOk P w (upd H a o) h' := fun b u e => by
  have hn := x.fresh hp
  by_cases hb : b = a
  · subst hb; rw [upd_same] at e; cases e; exact new
  · rw [upd_ne hb] at e
    exact (x b u e).stay (fun c v _ q => k c v q) (fun c q => by rw [upd_ne (ne_of_none q hn)]; exact q) fun c xs q => by rw [upd_ne (ne_of_none q hn)]; exact q
end

/-- what may be read as u: it is u, or a known u -/
def Rd (H : Hp) (a : Addr) (u : HO) : Prop := H a = some u ∨ ∃ o, H a = some (.frz o u)
theorem Rd.ok {P : Program} {w : World} {H : Hp} {h : Heap} {a : Addr} {u : HO} (r : Rd H a u) (x : HOk P w H h) : ObjOk P w H h a u := by
  rcases r with r | ⟨o, r⟩
  · exact x a u r
  · obtain ⟨_, q⟩ := x a _ r
    exact q
/-- what may be written -/
def Mut : Option HO → Prop
  | some (.lst _) => True
  | some (.dK _) => True
  | some (.dT _) => True
  | some (.set _ _) => True
  | some (.ins _ _ _) => True
  | some (.ext _) => True
  | _ => False
section
variable {P : Program} {w : World} {H : Hp} {h h' : Heap} {x e : Addr} {o' : HO}
/-- the object at e is changed: x itself, or the dict of the instance x -/
theorem HOk.write (ok : HOk P w H h) (mu : Mut (H x)) (he : e = x ∨ H e = some (.own x)) (k : ∀ b u, b ≠ e → h.get? b = some u → h'.get? b = some u) (heo : ∃ u, h'.get? e = some u)
    (new : ObjOk P w (upd H x o') h' x o') : HOk P w (upd H x o') h' := fun b u q => by
  have nown : ∀ c y, H c = some (.own y) → c ≠ x := fun c y r z => by subst z; rw [r] at mu; exact mu
  have ntup : ∀ c xs, H c = some (.tup xs) → c ≠ x := fun c xs r z => by subst z; rw [r] at mu; exact mu
  by_cases hb : b = x
  · subst hb; rw [upd_same] at q; cases q; exact new
  · rw [upd_ne hb] at q
    by_cases hbe : b = e
    · have q' : H b = some (.own x) := by
        rcases he with z | z
        · exact absurd (hbe.trans z) hb
        · rw [hbe]; exact z
      rw [q] at q'; cases q'
      obtain ⟨v, hv⟩ := heo
      exact ⟨v, by rw [hbe]; exact hv⟩
    · refine (ok b u q).stay (fun c v hc r => k c v ?_ r) (fun c r => by rw [upd_ne (nown c b r)]; exact r) fun c xs r => by rw [upd_ne (ntup c xs r)]; exact r
      rcases hc with rfl | hc
      · exact hbe
      · rintro rfl
        rcases he with z | z
        · exact nown c b hc z
        · rw [hc] at z; cases z; exact hb rfl
end

/-! ### kept unless tracked; of the frames at fs (the callers') the slots may change (an exception that passes writes there); of the records at ex (iterators) nothing is said -/
structure Un (fs ex : List Addr) (H H' : Hp) (h h' : Heap) : Prop where
  keep : ∀ b o, h.get? b = some o → H b = none → b ∉ fs → b ∉ ex → h'.get? b = some o
  slot : ∀ b o, h.get? b = some o → H b = none → b ∈ fs → b ∉ ex → ∃ sl, h'.get? b = some { o with slots := sl }
  free : ∀ b o, h.get? b = some o → H b = none → b ∉ ex → H' b = none
  there : ∀ b o, h.get? b = some o → b ∉ ex → ∃ o', h'.get? b = some o'
  tups : ∀ b xs, H b = some (.tup xs) → H' b = some (.tup xs)
  frzs : ∀ b o u, H b = some (.frz o u) → H' b = some (.frz o u)
  tbls : ∀ b ps, H b = some (.tbl ps) → ∃ more, H' b = some (.tbl (ps ++ more))
section
variable {fs fs' ex ex' : List Addr} {H H1 H2 : Hp} {h h1 h2 h' : Heap} {a x e : Addr} {o : HO}
theorem Un.any (u : Un fs ex H H1 h h1) {b : Addr} {ob : Obj} (q : h.get? b = some ob) (n : H b = none) (hx : b ∉ ex) : ∃ sl, h1.get? b = some { ob with slots := sl } := by
  by_cases hb : b ∈ fs
  · exact u.slot b ob q n hb hx
  · exact ⟨ob.slots, u.keep b ob q n hb hx⟩
theorem Un.kept (k : ∀ b u, h.get? b = some u → h'.get? b = some u) : Un fs ex H H h h' :=
  ⟨fun b ob q _ _ _ => k b ob q, fun b ob q _ _ _ => ⟨ob.slots, k b ob q⟩, fun _ _ _ n _ => n, fun b ob q _ => ⟨ob, k b ob q⟩, fun _ _ q => q, fun _ _ _ q => q, fun _ ps q => ⟨#[], by rw [q]; simp⟩⟩
theorem Un.refl : Un fs ex H H h h := Un.kept fun _ _ q => q
theorem Un.laid (k : ∀ b u, h.get? b = some u → h'.get? b = some u) (hp : h.objs.size ≤ a) (hn : H a = none) : Un fs ex H (upd H a o) h h' where
  keep := fun b u q _ _ _ => k b u q
  slot := fun b u q _ _ _ => ⟨u.slots, k b u q⟩
  free := fun b u q n _ => by rw [upd_ne (Nat.ne_of_lt (Nat.lt_of_lt_of_le (Heap.lt_size q) hp))]; exact n
  there := fun b u q _ => ⟨u, k b u q⟩
  tups := fun b xs q => by rw [upd_ne (ne_of_none q hn)]; exact q
  frzs := fun b u xs q => by rw [upd_ne (ne_of_none q hn)]; exact q
  tbls := fun b ps q => ⟨#[], by rw [upd_ne (ne_of_none q hn), q]; simp⟩
theorem Un.write (mu : Mut (H x)) (he : e = x ∨ H e = some (.own x)) (k : ∀ b u, b ≠ e → h.get? b = some u → h'.get? b = some u) (heo : ∃ u, h'.get? e = some u) : Un fs ex H (upd H x o) h h' := by
  have hx : ∀ b, H b = none → b ≠ x := fun b n z => by subst z; rw [n] at mu; exact mu
  have hb : ∀ b, H b = none → b ≠ e := fun b n z => by
    subst z
    rcases he with r | r
    · exact hx b n r
    · rw [n] at r; cases r
  have hm : ∀ b u, H b = some u → ¬ Mut (some u) → b ≠ x := fun b u q nm z => by subst z; rw [q] at mu; exact nm mu
  refine ⟨fun b u q n _ _ => k b u (hb b n) q, fun b u q n _ _ => ⟨u.slots, k b u (hb b n) q⟩, fun b u q n _ => by rw [upd_ne (hx b n)]; exact n, fun b u q _ => ?_,
    fun b xs q => by rw [upd_ne (hm b _ q fun z => z)]; exact q, fun b u xs q => by rw [upd_ne (hm b _ q fun z => z)]; exact q, fun b ps q => ⟨#[], by rw [upd_ne (hm b _ q fun z => z), q]; simp⟩⟩
  by_cases hbe : b = e
  · subst hbe; exact heo
  · exact ⟨u, k b u hbe q⟩
end

/-! ### the heap without what is tracked -/
def trk (h : Heap) (H : Hp) : List Addr := (List.range h.objs.size).filter fun a => (H a).isSome
def hidT (h : Heap) (H : Hp) : Heap := PySem.W.hideAll h (trk h H)
theorem hidT_size (h : Heap) (H : Hp) : (hidT h H).objs.size = h.objs.size := PySem.W.hideAll_size _ _
theorem hidT_get {h : Heap} {H : Hp} {b : Addr} {o : Obj} (e : h.get? b = some o) (n : H b = none) : (hidT h H).get? b = some o :=
  PySem.W.hideAll_get _ e fun hm => by
    have q : (H b).isSome = true := (List.mem_filter.mp hm).2
    rw [n] at q; simp at q
theorem of_hidT {h : Heap} {H : Hp} {b : Addr} {o : Obj} (e : (hidT h H).get? b = some o) : h.get? b = some o ∧ H b = none := by
  have e' : h.get? b = some o := PySem.W.of_hideAll (trk h H) e
  refine ⟨e', ?_⟩
  cases q : H b with
  | none => rfl
  | some x =>
    have hm : b ∈ trk h H := List.mem_filter.mpr ⟨List.mem_range.mpr (Heap.lt_size e'), by simp [q]⟩
    have z : (hidT h H).get? b = none := PySem.W.hideAll_none (trk h H) hm
    rw [z] at e; cases e

/-! ### OpenK's ledger, filled with every new object but one -/
def allNews (g h : Heap) (L : Addr) : List (Addr × Obj) := (List.range h.objs.size).filterMap fun a => if a = L ∨ (g.get? a).isSome = true then none else (h.get? a).map fun o => (a, o)
def rest (g h : Heap) (L d : Addr) : List (Addr × Obj) := (allNews g h L).filter fun p => decide (p.1 ≠ d)
end L2

namespace L2
open PySem PySem.Spec PyProof.Rows

/-- the module's facts, over the base: the heap at the law's entry without what is tracked there -/
structure Mod (K : PySem.W.Frag) (mg : Str → Option Value) (base : Heap) : Prop where
  kin : K.In base
  glob : base.Ns mainGlobals mg
  blt : ∃ mb, base.Ns builtinsNs mb ∧ ∀ x : Str, x ≠ "__name__" → mb x = bootBuiltins x
  nolimit : base.NoLimit

/-- the context: a def's body (or a comprehension's block) running. base: fixed through the whole law; s₀, H₀: the entry; outer: the frames whose slots others may change (a def's callers); stack: all frames that run;
   ex: iterators that were made ahead of the entry and are walked here (a comprehension's); fn: the names whose cells were made at the entry (a def: all; a comprehension's block: its own); calm: not within an except suite; pn: pins that every state bears; xe: what is wanted of an exception that leaves the code -/
structure Cx where
  prog : Program
  w : World
  K : PySem.W.Frag
  mg : Str → Option Value
  base : Heap
  A : Around
  N : List Str
  s₀ : Shared
  H₀ : Hp
  env : Env
  outer : List Env
  stack : List Env
  ex : List Addr
  fn : Str → Bool
  calm : Bool
  pn : List (Addr × Obj)
  xe : Value → Shared → Prop
/-- the callers' frames -/
def frs (l : List Env) : List Addr := l.filterMap (·.frame)
abbrev Cx.fs (X : Cx) : List Addr := frs X.outer

def Vis (sc : Scope) (x : Str) : Prop := sc.names.lookup x = some .local ∨ sc.names.lookup x = some .cell ∨ sc.names.lookup x = some .free
def Loc (sc : Scope) (x : Str) : Prop := sc.names.lookup x = some .local ∨ sc.names.lookup x = some .cell
def Look (env : Env) (h : Heap) (m : Str → Option Value) (x : Str) (u : Value) : Prop :=
  (env.kindOf x = some .local ∧ m x = some u) ∨ ((env.kindOf x = some .cell ∨ env.kindOf x = some .free) ∧ ∃ c, env.cells.lookup x = some c ∧ h.IsCell c (some u))

structure Cx.Ok (X : Cx) : Prop where
  mod : Mod X.K X.mg X.base
  kind : X.env.scope.kind = .function
  glob : X.env.globals = mainGlobals
  blt : X.env.builtins = builtinsNs
  above : X.s₀.heap.objs.size ≤ X.env.locals
  inj : ∀ x y c, X.env.cells.lookup x = some c → X.env.cells.lookup y = some c → x = y
  has : ∀ x, (X.env.kindOf x = some .cell ∨ X.env.kindOf x = some .free) → ∃ c, X.env.cells.lookup x = some c
  cab : ∀ x c, X.fn x = true → X.env.cells.lookup x = some c → X.s₀.heap.objs.size ≤ c
  hd : X.calm = true → X.A.handled = none
  frames : X.A.frames = some X.stack
  stk : X.stack = X.outer ∨ (X.stack = X.env :: X.outer ∧ X.env.frame = some X.env.locals)
  exf : ∀ b ∈ X.ex, b ≠ X.env.locals ∧ ∀ x c, X.env.cells.lookup x = some c → c ≠ b
  bs : ∀ b o, X.base.get? b = some o → X.s₀.heap.get? b = some o ∧ X.H₀ b = none
  bsz : X.base.objs.size ≤ X.s₀.heap.objs.size
  noex : ∀ b o, X.base.get? b = some o → b ∉ X.ex
  exfs : ∀ b ∈ X.ex, b ∉ X.fs
  funs : X.s₀.heap.FunFrames X.base X.outer
  frf : ∀ b ∈ X.fs, X.H₀ b = none

structure Inv (X : Cx) (pins : List (Addr × Obj)) (σ : List (Option V)) (H : Hp) (s : Shared) : Prop where
  ok : X.Ok
  os : s.os = X.s₀.os
  bare : AllBare s.gens
  base : Un X.fs X.ex X.H₀ H X.s₀.heap s.heap
  loc : ∃ m, s.heap.Ns X.env.locals m ∧ ∀ (i : Nat) (x : Str) (v : V), X.N[i]? = some x → σ[i]? = some (some v) → Vis X.env.scope x → ∃ u, RelV v u ∧ Look X.env s.heap m x u
  cell : ∀ x c, X.env.cells.lookup x = some c → ∃ v, s.heap.IsCell c v
  free : H X.env.locals = none
  freeC : ∀ x c, X.env.cells.lookup x = some c → H c = none
  pin : ∀ p ∈ X.pn ++ pins, s.heap.get? p.1 = some p.2 ∧ H p.1 = none ∧ p.1 ≠ X.env.locals ∧ p.1 ∉ X.fs ∧ ∀ v, p.2.data ≠ .cell v
  hok : HOk X.prog X.w H s.heap
  len : σ.length = X.N.length

section
variable {X : Cx} {pins : List (Addr × Obj)} {σ : List (Option V)} {H H' : Hp} {s : Shared} {h' : Heap}

theorem Cx.Ok.nofr (ok : X.Ok) {b : Addr} {o : Obj} (e : X.base.get? b = some o) : b ∉ X.fs := fun hb => by
  have := (ok.funs.mem hb).1
  rw [e] at this; cases this
theorem Inv.bs (I : Inv X pins σ H s) : ∀ b o, X.base.get? b = some o → s.heap.get? b = some o ∧ H b = none := fun b o e =>
  ⟨I.base.keep b o (I.ok.bs b o e).1 (I.ok.bs b o e).2 (I.ok.nofr e) (I.ok.noex b o e), I.base.free b o (I.ok.bs b o e).1 (I.ok.bs b o e).2 (I.ok.noex b o e)⟩
theorem Inv.bk (I : Inv X pins σ H s) : ∀ b o, X.base.get? b = some o → s.heap.get? b = some o := fun b o e => (I.bs b o e).1
theorem Inv.mod (I : Inv X pins σ H s) : Mod X.K X.mg X.base := I.ok.mod
theorem Inv.kIn (I : Inv X pins σ H s) : X.K.In s.heap := I.ok.mod.kin.keeps I.bk
theorem Inv.lt (I : Inv X pins σ H s) : X.env.locals < s.heap.objs.size := let ⟨_, hn, _⟩ := I.loc; hn.lt
theorem Inv.sz (I : Inv X pins σ H s) : X.s₀.heap.objs.size ≤ s.heap.objs.size := Nat.le_trans I.ok.above (Nat.le_of_lt I.lt)
theorem Inv.nofs (I : Inv X pins σ H s) {a : Addr} (h : s.heap.objs.size ≤ a) : a ∉ X.fs := fun hb => by
  obtain ⟨_, o, ho, _⟩ := I.ok.funs.mem hb
  exact absurd (Nat.lt_of_lt_of_le (Heap.lt_size ho) (Nat.le_trans I.sz h)) (Nat.lt_irrefl _)
theorem Inv.cne (I : Inv X pins σ H s) : ∀ x c, X.env.cells.lookup x = some c → c ≠ X.env.locals := fun x c e z => by
  obtain ⟨v, o, ho, hd⟩ := I.cell x c e
  obtain ⟨m, ⟨o', es, ep, ho', hd', _⟩, _⟩ := I.loc
  rw [z, ho'] at ho; cases ho; rw [hd'] at hd; cases hd
theorem Inv.funs (I : Inv X pins σ H s) : s.heap.FunFrames X.base X.outer := by
  have all : ∀ (l : List Env), (∀ b ∈ frs l, b ∈ X.fs) → X.s₀.heap.FunFrames X.base l → s.heap.FunFrames X.base l := by
    intro l
    induction l with
    | nil => intro _ _; trivial
    | cons env r ih =>
      intro hs hl
      obtain ⟨hk, ⟨L, o, hf, hn, ho, hd⟩, hr⟩ := hl
      have hL : L ∈ X.fs := hs L (by unfold frs; rw [List.filterMap_cons, hf]; exact List.mem_cons_self)
      obtain ⟨sl, e⟩ := I.base.slot L o ho (I.ok.frf L hL) hL fun z => I.ok.exfs L z hL
      exact ⟨hk, ⟨L, _, hf, hn, e, hd⟩, ih (fun b hb => hs b (by unfold frs; rw [List.filterMap_cons, hf]; exact List.mem_cons_of_mem _ hb)) hr⟩
  exact all X.outer (fun _ hb => hb) I.ok.funs

/-- the frames that run, for a call -/
theorem Inv.stack (I : Inv X pins σ H s) : s.heap.FunFrames X.base X.stack := by
  rcases I.ok.stk with e | ⟨e, hf⟩
  · rw [e]; exact I.funs
  · rw [e]
    obtain ⟨m, hn, _⟩ := I.loc
    refine .cons (by rw [I.ok.kind]; decide) hf hn ?_ I.funs
    exact Heap.get?_none_of_le (Nat.le_trans I.ok.bsz I.ok.above)
theorem Inv.stkSub (I : Inv X pins σ H s) : ∀ b ∈ frs X.stack, b ∈ X.env.locals :: X.fs := fun b hb => by
  rcases I.ok.stk with e | ⟨e, hf⟩
  · rw [e] at hb; exact List.mem_cons_of_mem _ hb
  · rw [e] at hb
    unfold frs at hb
    rw [List.filterMap_cons, hf] at hb
    exact hb
theorem Inv.stkFree (I : Inv X pins σ H s) : ∀ b ∈ frs X.stack, H b = none := fun b hb => by
  rcases List.mem_cons.mp (I.stkSub b hb) with e | hb
  · rw [e]; exact I.free
  · obtain ⟨_, o, ho, _⟩ := I.ok.funs.mem hb
    exact I.base.free b o ho (I.ok.frf b hb) fun z => I.ok.exfs b z hb

/-- THE STEP: the untracked objects but the frame and the records at ch are kept (the callers' frames up to slots), the frame's map is kept, the new abstract heap is held -/
theorem Inv.step {g' : Array GenState} {t' : Nat} {d' : Drawn} {ch : List Addr} (I : Inv X pins σ H s)
    (hch : ∀ b ∈ ch, (b ∈ X.ex ∨ X.s₀.heap.objs.size ≤ b) ∧ b ≠ X.env.locals ∧ (∀ x c, X.env.cells.lookup x = some c → c ≠ b) ∧ ∀ p ∈ X.pn ++ pins, p.1 ≠ b)
    (keep : ∀ b o, b ≠ X.env.locals → b ∉ X.fs → b ∉ ch → s.heap.get? b = some o → H b = none → h'.get? b = some o)
    (slot : ∀ b o, b ≠ X.env.locals → b ∈ X.fs → b ∉ ch → s.heap.get? b = some o → H b = none → ∃ sl, h'.get? b = some { o with slots := sl }) (free : ∀ b o, b ∉ ch → s.heap.get? b = some o → H b = none → H' b = none)
    (there : ∀ b o, b ∉ ch → s.heap.get? b = some o → ∃ o', h'.get? b = some o')
    (tups : ∀ b xs, H b = some (.tup xs) → H' b = some (.tup xs)) (frzs : ∀ b o u, H b = some (.frz o u) → H' b = some (.frz o u)) (tbls : ∀ b ps, H b = some (.tbl ps) → ∃ more, H' b = some (.tbl (ps ++ more)))
    (ns : ∀ m, s.heap.Ns X.env.locals m → h'.Ns X.env.locals m) (hok : HOk X.prog X.w H' h') (hg : AllBare g') :
    Inv X pins σ H' { s with heap := h', gens := g', drawn := d', toks := t' } := by
  have neL : ∀ b o, X.s₀.heap.get? b = some o → b ≠ X.env.locals := fun b o e => Nat.ne_of_lt (Nat.lt_of_lt_of_le (Heap.lt_size e) I.ok.above)
  have neC : ∀ b o, X.s₀.heap.get? b = some o → b ∉ X.ex → b ∉ ch := fun b o e hx hb => by
    rcases (hch b hb).1 with z | z
    · exact hx z
    · exact absurd (Nat.lt_of_lt_of_le (Heap.lt_size e) z) (Nat.lt_irrefl _)
  have cellK : ∀ x c, X.env.cells.lookup x = some c → ∀ v, s.heap.IsCell c v → h'.IsCell c v := fun x c e v ⟨o, ho, hd⟩ => by
    have nch : c ∉ ch := fun z => (hch c z).2.2.1 x c e rfl
    by_cases hc : c ∈ X.fs
    · obtain ⟨sl, q⟩ := slot c o (I.cne x c e) hc nch ho (I.freeC x c e)
      exact ⟨_, q, hd⟩
    · exact ⟨o, keep c o (I.cne x c e) hc nch ho (I.freeC x c e), hd⟩
  refine ⟨I.ok, I.os, hg, ⟨fun b o e n hb hx => ?_, fun b o e n hb hx => ?_, fun b o e n hx => ?_, fun b o e hx => ?_, fun b xs e => tups b xs (I.base.tups b xs e), fun b o xs e => frzs b o xs (I.base.frzs b o xs e), fun b ps e => ?_⟩, ?_, fun x c e => ?_, ?_, fun x c e => ?_, fun p hp => ?_, hok, I.len⟩
  · exact keep b o (neL b o e) hb (neC b o e hx) (I.base.keep b o e n hb hx) (I.base.free b o e n hx)
  · obtain ⟨sl, e1⟩ := I.base.slot b o e n hb hx
    obtain ⟨sl', e2⟩ := slot b _ (neL b o e) hb (neC b o e hx) e1 (I.base.free b o e n hx)
    exact ⟨sl', e2⟩
  · obtain ⟨o', e1⟩ := I.base.there b o e hx
    exact free b o' (neC b o e hx) e1 (I.base.free b o e n hx)
  · obtain ⟨o', e1⟩ := I.base.there b o e hx
    exact there b o' (neC b o e hx) e1
  · obtain ⟨m1, e1⟩ := I.base.tbls b ps e
    obtain ⟨m2, e2⟩ := tbls b _ e1
    exact ⟨m1 ++ m2, by rw [e2, Array.append_assoc]⟩
  · obtain ⟨m, hn, hl⟩ := I.loc
    refine ⟨m, ns m hn, fun i x v e1 e2 e3 => ?_⟩
    obtain ⟨u, r, l⟩ := hl i x v e1 e2 e3
    refine ⟨u, r, ?_⟩
    rcases l with l | ⟨k, c, e, z⟩
    · exact .inl l
    · exact .inr ⟨k, c, e, cellK x c e _ z⟩
  · obtain ⟨v, z⟩ := I.cell x c e
    exact ⟨v, cellK x c e v z⟩
  · obtain ⟨m, ⟨o, _, _, ho, _⟩, _⟩ := I.loc
    exact free _ o (fun z => (hch _ z).2.1 rfl) ho I.free
  · obtain ⟨v, o, ho, hd⟩ := I.cell x c e
    exact free c o (fun z => (hch c z).2.2.1 x c e rfl) ho (I.freeC x c e)
  · obtain ⟨e, n, ne, nf, d⟩ := I.pin p hp
    have nch : p.1 ∉ ch := fun z => (hch p.1 z).2.2.2 p hp rfl
    exact ⟨keep p.1 p.2 ne nf nch e n, free p.1 p.2 nch e n, ne, nf, d⟩
/-- .. where the frame's own object is kept too -/
theorem Inv.un {t' : Nat} (I : Inv X pins σ H s) (u : Un X.fs [] H H' s.heap h') (hok : HOk X.prog X.w H' h') : Inv X pins σ H' { s with heap := h', toks := t' } := by
  obtain ⟨m, ⟨o, es, ep, ho, r⟩, _⟩ := id I.loc
  obtain ⟨sl, hL⟩ := u.any ho I.free (by simp)
  exact I.step (g' := s.gens) (d' := s.drawn) (ch := []) (fun _ z => nomatch z) (fun b o _ hb _ e n => u.keep b o e n hb (by simp)) (fun b o _ hb _ e n => u.slot b o e n hb (by simp)) (fun b o _ e n => u.free b o e n (by simp)) (fun b o _ e => u.there b o e (by simp)) u.tups u.frzs u.tbls (fun m' hm => by
    obtain ⟨o', es', ep', ho', r'⟩ := hm
    rw [ho] at ho'; cases ho'
    exact ⟨_, es', ep', hL, r'⟩) hok I.bare
/-- behind a call (or a comprehension's block): the slots of this frame may have changed too, the records at ch may have turned -/
theorem Inv.call {g' : Array GenState} {t' : Nat} {d' : Drawn} {ch : List Addr} (I : Inv X pins σ H s) (u : Un (frs X.stack) ch H H' s.heap h') (hok : HOk X.prog X.w H' h') (hg : AllBare g')
    (hch : ∀ b ∈ ch, (b ∈ X.ex ∨ X.s₀.heap.objs.size ≤ b) ∧ b ≠ X.env.locals ∧ (∀ x c, X.env.cells.lookup x = some c → c ≠ b) ∧ ∀ p ∈ X.pn ++ pins, p.1 ≠ b) :
    Inv X pins σ H' { s with heap := h', gens := g', drawn := d', toks := t' } := by
  obtain ⟨m, ⟨o, es, ep, ho, r⟩, _⟩ := id I.loc
  obtain ⟨sl, hL⟩ := u.any ho I.free fun z => (hch _ z).2.1 rfl
  exact I.step (ch := ch) hch (fun b o hL hb hc e n => u.keep b o e n (fun z => (List.mem_cons.mp (I.stkSub b z)).elim hL hb) hc) (fun b o _ _ hc e n => u.any e n hc) (fun b o hc e n => u.free b o e n hc) (fun b o hc e => u.there b o e hc) u.tups u.frzs u.tbls (fun m' hm => by
    obtain ⟨o', es', ep', ho', r'⟩ := hm
    rw [ho] at ho'; cases ho'
    exact ⟨_, es', ep', hL, r'⟩) hok hg
/-- an untracked record of ours (an iterator) has turned -/
theorem Inv.turned {t' : Nat} {it : Addr} (I : Inv X pins σ H s) (k : ∀ b o, b ≠ it → s.heap.get? b = some o → h'.get? b = some o) (hn : H it = none) (hL : it ≠ X.env.locals)
    (h1 : it ∈ X.ex ∨ X.s₀.heap.objs.size ≤ it) (h2 : ∀ x c, X.env.cells.lookup x = some c → c ≠ it) (h3 : ∀ p ∈ X.pn ++ pins, p.1 ≠ it) : Inv X pins σ H { s with heap := h', toks := t' } := by
  have nit : ∀ b u, H b = some u → b ≠ it := fun b u e z => by rw [z, hn] at e; cases e
  refine I.step (g' := s.gens) (d' := s.drawn) (ch := [it]) (fun b hb => ?_) (fun b o _ _ hc e _ => k b o (fun z => hc (by simp [z])) e) (fun b o _ _ hc e _ => ⟨o.slots, k b o (fun z => hc (by simp [z])) e⟩) (fun _ _ _ _ n => n)
    (fun b o hc e => ⟨o, k b o (fun z => hc (by simp [z])) e⟩) (fun _ _ e => e) (fun _ _ _ e => e) (fun b ps e => ⟨#[], by rw [e]; simp⟩) (fun m hm => ?_) (fun b u e => ?_) I.bare
  · have e : b = it := by simpa using hb
    subst e
    exact ⟨h1, hL, h2, h3⟩
  · obtain ⟨o, es, ep, ho, r⟩ := hm
    exact ⟨o, es, ep, k _ o (Ne.symm hL) ho, r⟩
  · refine (I.hok b u e).stay (fun c v hc q => k c v ?_ q) (fun _ q => q) fun _ _ q => q
    rcases hc with z | z
    · rw [z]; exact nit b u e
    · exact nit c _ z
theorem Inv.tok (I : Inv X pins σ H s) (t : Nat) : Inv X pins σ H { s with toks := t } := I.un (h' := s.heap) (t' := t) Un.refl I.hok
/-- all objects kept -/
theorem Inv.kept {t' : Nat} (I : Inv X pins σ H s) (k : ∀ b u, s.heap.get? b = some u → h'.get? b = some u) : Inv X pins σ H { s with heap := h', toks := t' } := I.un (Un.kept k) (I.hok.kept k)
/-- a new object laid and tracked -/
theorem Inv.laid {a : Addr} {o : HO} {t' : Nat} (I : Inv X pins σ H s) (k : ∀ b u, s.heap.get? b = some u → h'.get? b = some u) (hp : s.heap.objs.size ≤ a) (new : ObjOk X.prog X.w (upd H a o) h' a o) :
    Inv X pins σ (upd H a o) { s with heap := h', toks := t' } := I.un (Un.laid k hp (I.hok.fresh hp)) (I.hok.laid k hp new)
/-- an object written -/
theorem Inv.write {x e : Addr} {o : HO} {t' : Nat} (I : Inv X pins σ H s) (mu : Mut (H x)) (he : e = x ∨ H e = some (.own x)) (k : ∀ b u, b ≠ e → s.heap.get? b = some u → h'.get? b = some u) (heo : ∃ u, h'.get? e = some u)
    (new : ObjOk X.prog X.w (upd H x o) h' x o) : Inv X pins σ (upd H x o) { s with heap := h', toks := t' } := I.un (Un.write mu he k heo) (I.hok.write mu he k heo new)
/-- forgetting slots, pins -/
theorem Inv.weak {σ' : List (Option V)} (I : Inv X pins σ H s) (hl : σ'.length = σ.length) (w : ∀ (i : Nat) v, σ'[i]? = some (some v) → σ[i]? = some (some v)) : Inv X pins σ' H s :=
  ⟨I.ok, I.os, I.bare, I.base, let ⟨m, hn, hl'⟩ := I.loc; ⟨m, hn, fun i x v e1 e2 e3 => hl' i x v e1 (w i v e2) e3⟩, I.cell, I.free, I.freeC, I.pin, I.hok, hl.trans I.len⟩
theorem Inv.pins_of {pins' : List (Addr × Obj)} (I : Inv X pins σ H s) (h : ∀ p ∈ pins', s.heap.get? p.1 = some p.2 ∧ H p.1 = none ∧ p.1 ≠ X.env.locals ∧ p.1 ∉ X.fs ∧ ∀ v, p.2.data ≠ .cell v) : Inv X pins' σ H s :=
  ⟨I.ok, I.os, I.bare, I.base, I.loc, I.cell, I.free, I.freeC, fun p hp => (List.mem_append.mp hp).elim (fun z => I.pin p (List.mem_append_left _ z)) (h p), I.hok, I.len⟩

theorem nodup_ix {N : List Str} (hN : N.Nodup) {i j : Nat} {x : Str} (a : N[i]? = some x) (b : N[j]? = some x) : i = j := by
  obtain ⟨h1, e1⟩ := List.getElem?_eq_some_iff.mp a
  obtain ⟨h2, e2⟩ := List.getElem?_eq_some_iff.mp b
  exact (List.getElem_inj hN).mp (e1.trans e2.symm)

/-- a name is stored; what changed -/
theorem store_ok2 {M : Model} {A : Around} {E : Value → Shared → Prop} {i : Nat} {x : Str} {v : V} {u : Value} {Q : Unit → Shared → Prop} (I : Inv X pins σ H s) (hN : X.N.Nodup) (hi : X.N[i]? = some x) (hx : Loc X.env.scope x) (r : RelV v u)
    (h : ∀ s', Inv X pins (σ.set i (some v)) H s' → (∃ a, Heap.SameBut a s.heap s'.heap ∧ (a = X.env.locals ∨ X.env.cells.lookup x = some a)) → Q () s') (hf : X.fn x = true ∨ X.env.scope.names.lookup x = some .local := by first | exact .inl rfl | exact .inr rfl | assumption) : wpAny M A (storeName X.env x u) Q E s := by
  obtain ⟨m, hn, hl⟩ := id I.loc
  have hcls : (X.env.scope.kind == .class || (X.env.scope.kind == .module && X.env.locals != X.env.globals)) = false := by rw [I.ok.kind]; rfl
  have hiσ : i < σ.length := by rw [I.len]; exact (List.getElem?_eq_some_iff.mp hi).1
  have cne := I.cne
  have tracked : ∀ {a : Addr} {h' : Heap}, (∃ o, s.heap.get? a = some o ∧ H a = none) → Heap.SameBut a s.heap h' → HOk X.prog X.w H h' := fun {a h'} ha hs b ob e => by
    obtain ⟨_, _, hfree⟩ := ha
    refine (I.hok b ob e).stay (fun c w' hc q => (hs.2 c ?_).trans q) (fun _ q => q) fun _ _ q => q
    rintro rfl
    rcases hc with rfl | hc
    · rw [hfree] at e; cases e
    · rw [hfree] at hc; cases hc
  rcases hx with hk | hk
  · refine wpAny_storeName_local hk hn (fun h' hn' hs => ?_) hcls
    obtain ⟨oL, _, _, hoL, _⟩ := id hn
    refine h _ ⟨I.ok, I.os, I.bare, ⟨fun b o e n hb hx => ?_, fun b o e n hb hx => ?_, I.base.free, fun b o e hx => ?_, I.base.tups, I.base.frzs, I.base.tbls⟩, ⟨_, hn', fun j y v' e1 e2 e3 => ?_⟩, fun y c e => ?_, I.free, I.freeC, fun p hp => ?_, tracked ⟨oL, hoL, I.free⟩ hs, by simpa using I.len⟩ ⟨_, hs, .inl rfl⟩
    · exact (hs.2 b (Nat.ne_of_lt (Nat.lt_of_lt_of_le (Heap.lt_size e) I.ok.above))).trans (I.base.keep b o e n hb hx)
    · obtain ⟨sl, e1⟩ := I.base.slot b o e n hb hx
      exact ⟨sl, (hs.2 b (Nat.ne_of_lt (Nat.lt_of_lt_of_le (Heap.lt_size e) I.ok.above))).trans e1⟩
    · obtain ⟨o', e1⟩ := I.base.there b o e hx
      exact ⟨o', (hs.2 b (Nat.ne_of_lt (Nat.lt_of_lt_of_le (Heap.lt_size e) I.ok.above))).trans e1⟩
    · by_cases hj : j = i
      · subst hj
        rw [hi] at e1; cases e1
        rw [List.getElem?_set_self hiσ] at e2
        cases e2
        exact ⟨u, r, .inl ⟨hk, by simp⟩⟩
      · rw [List.getElem?_set_ne (Ne.symm hj)] at e2
        obtain ⟨u', r', q⟩ := hl j y v' e1 e2 e3
        refine ⟨u', r', ?_⟩
        rcases q with ⟨k, e⟩ | ⟨k, c, e, z⟩
        · refine .inl ⟨k, ?_⟩
          have : y ≠ x := fun e => hj (nodup_ix hN e1 (e ▸ hi))
          simp [this, e]
        · exact .inr ⟨k, c, e, z.sameBut hs (cne y c e)⟩
    · obtain ⟨w', z⟩ := I.cell y c e
      exact ⟨w', z.sameBut hs (cne y c e)⟩
    · obtain ⟨e, n, ne, nf, d⟩ := I.pin p hp
      exact ⟨(hs.2 p.1 ne).trans e, n, ne, nf, d⟩
  · have hfn : X.fn x = true := by
      rcases hf with z | z
      · exact z
      · rw [z] at hk; cases hk
    obtain ⟨c, hc⟩ := I.ok.has x (.inl hk)
    obtain ⟨w', z⟩ := I.cell x c hc
    refine wpAny_storeName_cell I.ok.kind hk hc z (fun h' hc' hs => ?_)
    obtain ⟨oc, hoc, hocd⟩ := id z
    refine h { s with heap := h' } ⟨I.ok, I.os, I.bare, ⟨fun b o e n hb hx => ?_, fun b o e n hb hx => ?_, I.base.free, fun b o e hx => ?_, I.base.tups, I.base.frzs, I.base.tbls⟩, ⟨m, hn.sameBut hs (Ne.symm (cne x c hc)), fun j y v' e1 e2 e3 => ?_⟩, fun y c' e => ?_, I.free, I.freeC, fun p hp => ?_, tracked ⟨oc, hoc, I.freeC x c hc⟩ hs, by simpa using I.len⟩ ⟨c, hs, .inr hc⟩
    · exact (hs.2 b (Nat.ne_of_lt (Nat.lt_of_lt_of_le (Heap.lt_size e) (I.ok.cab x c hfn hc)))).trans (I.base.keep b o e n hb hx)
    · obtain ⟨sl, e1⟩ := I.base.slot b o e n hb hx
      exact ⟨sl, (hs.2 b (Nat.ne_of_lt (Nat.lt_of_lt_of_le (Heap.lt_size e) (I.ok.cab x c hfn hc)))).trans e1⟩
    · obtain ⟨o', e1⟩ := I.base.there b o e hx
      exact ⟨o', (hs.2 b (Nat.ne_of_lt (Nat.lt_of_lt_of_le (Heap.lt_size e) (I.ok.cab x c hfn hc)))).trans e1⟩
    · by_cases hj : j = i
      · subst hj
        rw [hi] at e1; cases e1
        rw [List.getElem?_set_self hiσ] at e2
        cases e2
        exact ⟨u, r, .inr ⟨.inl hk, c, hc, hc'⟩⟩
      · rw [List.getElem?_set_ne (Ne.symm hj)] at e2
        obtain ⟨u', r', q⟩ := hl j y v' e1 e2 e3
        refine ⟨u', r', ?_⟩
        rcases q with q | ⟨k, c', e, z'⟩
        · exact .inl q
        · refine .inr ⟨k, c', e, z'.sameBut hs ?_⟩
          rintro rfl
          exact hj (nodup_ix hN e1 (I.ok.inj _ _ _ e hc ▸ hi))
    · by_cases hcc : c' = c
      · subst hcc; exact ⟨_, hc'⟩
      · obtain ⟨w2, z2⟩ := I.cell y c' e
        exact ⟨w2, z2.sameBut hs hcc⟩
    · obtain ⟨e, n, ne, nf, d⟩ := I.pin p hp
      refine ⟨(hs.2 p.1 ?_).trans e, n, ne, nf, d⟩
      intro q
      rw [q, hoc] at e
      have q' : oc = p.2 := Option.some.inj e
      exact d w' (by rw [← q']; exact hocd)
theorem store_ok {M : Model} {A : Around} {E : Value → Shared → Prop} {i : Nat} {x : Str} {v : V} {u : Value} {Q : Unit → Shared → Prop} (I : Inv X pins σ H s) (hN : X.N.Nodup) (hi : X.N[i]? = some x) (hx : Loc X.env.scope x) (r : RelV v u)
    (h : ∀ s', Inv X pins (σ.set i (some v)) H s' → Q () s') (hf : X.fn x = true ∨ X.env.scope.names.lookup x = some .local := by first | exact .inl rfl | exact .inr rfl | assumption) : wpAny M A (storeName X.env x u) Q E s :=
  store_ok2 I hN hi hx r (fun s' I' _ => h s' I') hf
/-- behind a call or a block, the state as it is -/
theorem Inv.call' {s' : Shared} {ch : List Addr} (I : Inv X pins σ H s) (ho : s'.os = s.os) (u : Un (frs X.stack) ch H H' s.heap s'.heap) (hok : HOk X.prog X.w H' s'.heap) (hg : AllBare s'.gens)
    (hch : ∀ b ∈ ch, (b ∈ X.ex ∨ X.s₀.heap.objs.size ≤ b) ∧ b ≠ X.env.locals ∧ (∀ x c, X.env.cells.lookup x = some c → c ≠ b) ∧ ∀ p ∈ X.pn ++ pins, p.1 ≠ b) : Inv X pins σ H' s' := by
  obtain ⟨h', g', d', t', o'⟩ := s'
  have e : o' = s.os := ho
  subst e
  exact I.call (g' := g') (t' := t') (d' := d') u hok hg hch
end

/-! ### the judgements -/
/-- an exception: its class, its own dict's address (where it has one), the abstract heap behind it -/
abbrev XK := Value → Option Addr → Hp → Prop
abbrev St := List (Option V)
abbrev VK := V → Hp → Prop
/-- an expression's reading; a test's; an argument list's -/
abbrev TE := St → Hp → VK → Prop
abbrev TT := St → Hp → (Bool → Hp → Prop) → Prop
abbrev TA := St → Hp → (List V → Hp → Prop) → Prop
/-- what is wanted behind a statement -/
structure Ends where
  nx : St → Hp → Prop
  rt : VK
  bk : St → Hp → Prop := fun _ _ => False
  ct : St → Hp → Prop := fun _ _ => False
abbrev TS := Ends → St → Hp → Prop

def EP (X : Cx) (pins : List (Addr × Obj)) (σ : St) (Q : VK) (u : Value) (s' : Shared) : Prop := ∃ v H', Inv X pins σ H' s' ∧ RelV v u ∧ Q v H'
def TP (X : Cx) (pins : List (Addr × Obj)) (σ : St) (Q : Bool → Hp → Prop) (b : Bool) (s' : Shared) : Prop := ∃ H', Inv X pins σ H' s' ∧ Q b H'
def AP (X : Cx) (pins : List (Addr × Obj)) (σ : St) (Q : List V → Hp → Prop) (us : List Value) (s' : Shared) : Prop := ∃ vs H', Inv X pins σ H' s' ∧ Vals vs us ∧ Q vs H'
def SP (X : Cx) (pins : List (Addr × Obj)) (D : Ends) (f : Flow) (s' : Shared) : Prop :=
  match f with
  | .next => ∃ σ' H', Inv X pins σ' H' s' ∧ D.nx σ' H'
  | .brk => ∃ σ' H', Inv X pins σ' H' s' ∧ D.bk σ' H'
  | .cont => ∃ σ' H', Inv X pins σ' H' s' ∧ D.ct σ' H'
  | .ret u => ∃ v σ' H', Inv X pins σ' H' s' ∧ RelV v u ∧ D.rt v H'

def PE (X : Cx) (e : Expr) (t : TE) : Prop :=
  ∀ (pins : List (Addr × Obj)) (s : Shared) (σ : St) (H : Hp) (Q : VK), Inv X pins σ H s → t σ H Q → wpAny (model X.prog X.w) X.A (eval e X.env) (EP X pins σ Q) X.xe s
def PT (X : Cx) (e : Expr) (t : TT) : Prop :=
  ∀ (pins : List (Addr × Obj)) (s : Shared) (σ : St) (H : Hp) (Q : Bool → Hp → Prop), Inv X pins σ H s → t σ H Q → wpAny (model X.prog X.w) X.A (isTrue e X.env (eval e X.env)) (TP X pins σ Q) X.xe s
/-- a test whatever its 'whole' is (and, or) -/
def PW (X : Cx) (e : Expr) (t : TT) : Prop :=
  ∀ (whole : Sem Value) (pins : List (Addr × Obj)) (s : Shared) (σ : St) (H : Hp) (Q : Bool → Hp → Prop), Inv X pins σ H s → t σ H Q → wpAny (model X.prog X.w) X.A (isTrue e X.env whole) (TP X pins σ Q) X.xe s
theorem PW.pt {X : Cx} {e : Expr} {t : TT} (h : PW X e t) : PT X e t := h _
/-- an argument list (no star), from the left -/
def PA (X : Cx) (es : List Expr) (t : TA) : Prop :=
  ∀ (pos : Pos) (pins : List (Addr × Obj)) (s : Shared) (σ : St) (H : Hp) (Q : List V → Hp → Prop), Inv X pins σ H s → t σ H Q → wpAny (model X.prog X.w) X.A (spliced (backTo pos (starEach es X.env))) (AP X pins σ Q) X.xe s
def PS (X : Cx) (st : Stmt) (t : TS) : Prop :=
  ∀ (pins : List (Addr × Obj)) (s : Shared) (σ : St) (H : Hp) (D : Ends), Inv X pins σ H s → t D σ H → wpAny (model X.prog X.w) X.A (exec st X.env) (SP X pins D) X.xe s
def PSs (X : Cx) (st : List Stmt) (t : TS) : Prop :=
  ∀ (pins : List (Addr × Obj)) (s : Shared) (σ : St) (H : Hp) (D : Ends), Inv X pins σ H s → t D σ H → wpAny (model X.prog X.w) X.A (execs st X.env) (SP X pins D) X.xe s
/-- weaken the end -/
theorem thn {α : Type} {t : Sem α} {Q Q' : α → Shared → Prop} {M : Model} {A : Around} {E : Value → Shared → Prop} {s : Shared} (h : wpAny M A t Q E s) (hQ : ∀ a s, Q a s → Q' a s) : wpAny M A t Q' E s := wpAny_mono h hQ fun _ _ x => x
end L2

namespace L2
open PySem PySem.Spec PyProof.Rows
section
variable {X : Cx}


/-! ### names and constants -/
def tVar (i : Nat) : TE := fun σ H Q => ∃ v, σ[i]? = some (some v) ∧ Q v H
def tC (v : V) : TE := fun _ H Q => Q v H
theorem pe_var {i : Nat} {x : Str} {pos : Pos} (hN : X.N[i]? = some x) (hv : Vis X.env.scope x) (hd : (x == ("__debug__" : Str)) = false := by decide) (hcd : (x == ("__classdict__" : Str)) = false := by decide) : PE X (.Name x pos) (tVar i) := by
  intro pins s σ H Q I h
  obtain ⟨v, e, h⟩ := h
  obtain ⟨m, hn, hl⟩ := I.loc
  obtain ⟨u, r, l⟩ := hl i x v hN e hv
  have fin : EP X pins σ Q u s := ⟨v, H, I, r, h⟩
  rcases l with ⟨hk, hm⟩ | ⟨hk, c, hc, hcell⟩
  · exact wpAny_Name (wpAny_loadName_local I.ok.kind hk hn hm fin) hd
  · rcases hk with hk | hk
    · exact wpAny_Name (wpAny_loadName_cell I.ok.kind hk hc hcell fin) hd
    · exact wpAny_Name (wpAny_loadName_free I.ok.kind hk hc hcell fin hcd) hd
theorem pe_int {i j pos} : PE X (.Constant (.int i) j pos) (tC (.int i)) := fun _ _ _ H _ I h => wpAny_Constant_int ⟨.int i, H, I.tok _, ⟨_, rfl⟩, h⟩
theorem pe_bl {b j pos} : PE X (.Constant (.bool b) j pos) (tC (.bl b)) := fun _ _ _ H _ I h => Constant_bool ⟨.bl b, H, I, rfl, h⟩
theorem pe_non {j pos} : PE X (.Constant .none j pos) (tC .non) := fun _ _ _ H _ I h => Constant_none ⟨.non, H, I, rfl, h⟩
theorem pe_str {x j pos} : PE X (.Constant (.str x) j pos) (tC (.str x)) := fun _ _ _ H _ I h => Calls.Constant_str ⟨.str x, H, I.tok _, ⟨_, rfl⟩, h⟩

/-- a global name of the def -/
def Gl (X : Cx) (x : Str) : Prop := X.env.kindOf x = some .globalImplicit
theorem ld_glob {E : Value → Shared → Prop} {pins : List (Addr × Obj)} {s : Shared} {σ : St} {H : Hp} {x : Str} {u : Value} {pos : Pos} {Q : Value → Shared → Prop} (I : Inv X pins σ H s) (hg : Gl X x) (hm : X.mg x = some u) (h : Q u s)
    (hd : (x == ("__debug__" : Str)) = false := by decide) : wpAny (model X.prog X.w) X.A (eval (.Name x pos) X.env) Q E s :=
  Calls.Name_function_global I.ok.kind hg (Calls.loadGlobal_global (by rw [I.ok.glob]; exact I.mod.glob.keeps I.bk) hm h) hd
theorem ld_blt {E : Value → Shared → Prop} {pins : List (Addr × Obj)} {s : Shared} {σ : St} {H : Hp} {x : Str} {u : Value} {pos : Pos} {Q : Value → Shared → Prop} (I : Inv X pins σ H s) (hg : Gl X x) (hm : X.mg x = none) (hv : bootBuiltins x = some u) (h : Q u s)
    (hn : x ≠ "__name__" := by decide) (hd : (x == ("__debug__" : Str)) = false := by decide) : wpAny (model X.prog X.w) X.A (eval (.Name x pos) X.env) Q E s := by
  obtain ⟨mb, h1, h2⟩ := I.mod.blt
  exact Calls.Name_function_global I.ok.kind hg (Calls.loadGlobal_builtin (by rw [I.ok.glob]; exact I.mod.glob.keeps I.bk) hm (by rw [I.ok.blt]; exact h1.keeps I.bk) ((h2 x hn).trans hv) h) hd
/-- a module's constant, a class, a function, as a value -/
theorem pe_glob {x : Str} {v : V} {u : Value} {pos : Pos} (hg : Gl X x) (hm : X.mg x = some u) (r : RelV v u) (hd : (x == ("__debug__" : Str)) = false := by decide) : PE X (.Name x pos) (tC v) :=
  fun _ _ _ H _ I h => ld_glob I hg hm ⟨v, H, I, r, h⟩ hd
theorem pe_bltn {x : Str} {v : V} {u : Value} {pos : Pos} (hg : Gl X x) (hm : X.mg x = none) (hv : bootBuiltins x = some u) (r : RelV v u) (hn : x ≠ "__name__" := by decide) (hd : (x == ("__debug__" : Str)) = false := by decide) : PE X (.Name x pos) (tC v) :=
  fun _ _ _ H _ I h => ld_blt I hg hm hv ⟨v, H, I, r, h⟩ hn hd

/-! ### arithmetic -/
/-- two ints -/
def t2I (ta tb : TE) (k : Int → Int → Hp → Prop) : St → Hp → Prop := fun σ H => ta σ H fun x H1 => tb σ H1 fun y H2 => ∃ i j, x = .int i ∧ y = .int j ∧ k i j H2
def tAdd (ta tb : TE) : TE := fun σ H Q => t2I ta tb (fun i j H2 => Q (.int (i + j)) H2) σ H
def tSub (ta tb : TE) : TE := fun σ H Q => t2I ta tb (fun i j H2 => Q (.int (i - j)) H2) σ H
/-- the left factor below 2^64 -/
def tMul (ta tb : TE) : TE := fun σ H Q => t2I ta tb (fun i j H2 => (-(2 ^ 64) < i ∧ i < 2 ^ 64) ∧ Q (.int (i * j)) H2) σ H
variable {a b : Expr} {ta tb : TE} {pos : Pos}

/-! ### comparisons -/
def PC (X : Cx) (op : CmpOp) (a b : Expr) (t : TE) : Prop :=
  ∀ (pins : List (Addr × Obj)) (s : Shared) (σ : St) (H : Hp) (Q : VK), Inv X pins σ H s → t σ H Q →
    wpAny (model X.prog X.w) X.A (eval a X.env) (fun v s₁ => wpAny (model X.prog X.w) X.A (eval b X.env) (fun u s₂ => wpAny (model X.prog X.w) X.A (compareOp op v u) (EP X pins σ Q) X.xe s₂) X.xe s₁) X.xe s
def tCmp (p : Int → Int → Bool) (ta tb : TE) : TE := fun σ H Q => t2I ta tb (fun i j H2 => Q (.bl (p i j)) H2) σ H
abbrev tLt : TE → TE → TE := tCmp fun i j => decide (i < j)
abbrev tLe : TE → TE → TE := tCmp fun i j => decide (i ≤ j)
abbrev tGt : TE → TE → TE := tCmp fun i j => decide (j < i)
abbrev tGe : TE → TE → TE := tCmp fun i j => decide (j ≤ i)
abbrev tEqI : TE → TE → TE := tCmp fun i j => decide (i = j)
abbrev tNeI : TE → TE → TE := tCmp fun i j => !decide (i = j)
/-- is None -/
def tIsN (ta : TE) : TE := fun σ H Q => ta σ H fun x H1 => Q (.bl (decide (x = .non))) H1
def tNotN (ta : TE) : TE := fun σ H Q => ta σ H fun x H1 => Q (.bl (!decide (x = .non))) H1
/-- a comparison as a value, as a test -/
def tB (t : TE) : TT := fun σ H Q => t σ H fun x H1 => ∃ c, x = .bl c ∧ Q c H1
/-- an expression whose value is a bool, as a test -/
theorem pt_val {e : Expr} {t : TE} (h : PE X e t) (he : ∀ whole, isTrue e X.env whole = (do let v ← whole; standAt e.pos; holding [v] (truthy v)) := by intro _; rfl) : PT X e (tB t) := by
  intro pins s σ H Q I hw
  refine isTrue_plain (thn (h pins s σ H _ I hw) fun v s1 ⟨x, H1, I1, r1, q1⟩ => ?_) (he _)
  obtain ⟨d, rfl, q⟩ := q1
  cases r1
  exact wpAny_truthy_bool ⟨H1, I1, q⟩

/-! ### and, or, not -/
variable {tA tB' : TT} {rest : List Expr}
def tAnd (t u : TT) : TT := fun σ H Q => t σ H fun c H1 => if c = true then u σ H1 Q else Q false H1
def tOr (t u : TT) : TT := fun σ H Q => t σ H fun c H1 => if c = true then Q true H1 else u σ H1 Q
def tNot (t : TT) : TT := fun σ H Q => t σ H fun c H1 => Q (!c) H1
theorem pw_and1 (ha : PT X a tA) : PW X (.BoolOp .And [a] pos) tA := by
  intro wh pins s σ H Q I h
  refine isTrue_and (thn (ha pins s σ H Q I h) fun c s1 e => ?_)
  cases c with
  | true => exact isTrue_and_nil e
  | false => exact e
theorem pw_or1 (ha : PT X a tA) : PW X (.BoolOp .Or [a] pos) tA := by
  intro wh pins s σ H Q I h
  refine isTrue_or (thn (ha pins s σ H Q I h) fun c s1 e => ?_)
  cases c with
  | false => exact isTrue_or_nil e
  | true => exact e
theorem pw_and (ha : PT X a tA) (hb : PW X (.BoolOp .And (b :: rest) pos) tB') : PW X (.BoolOp .And (a :: b :: rest) pos) (tAnd tA tB') := by
  intro wh pins s σ H Q I h
  refine isTrue_and (thn (ha pins s σ H _ I h) fun c s1 ⟨H1, I1, q1⟩ => ?_)
  cases c with
  | true => exact hb wh pins s1 σ H1 Q I1 q1
  | false => exact ⟨H1, I1, q1⟩
theorem pw_or (ha : PT X a tA) (hb : PW X (.BoolOp .Or (b :: rest) pos) tB') : PW X (.BoolOp .Or (a :: b :: rest) pos) (tOr tA tB') := by
  intro wh pins s σ H Q I h
  refine isTrue_or (thn (ha pins s σ H _ I h) fun c s1 ⟨H1, I1, q1⟩ => ?_)
  cases c with
  | true => exact ⟨H1, I1, q1⟩
  | false => exact hb wh pins s1 σ H1 Q I1 q1
theorem pt_not (ha : PT X a tA) : PT X (.UnaryOp .Not a pos) (tNot tA) := by
  intro pins s σ H Q I h
  exact isTrue_not (ha pins s σ H (fun c H1 => Q (!c) H1) I h)
/-- .. as values (bools) -/
def tAndV (ta tb : TE) : TE := fun σ H Q => ta σ H fun x H1 => ∃ c, x = .bl c ∧ if c = true then tb σ H1 Q else Q (.bl false) H1
def tOrV (ta tb : TE) : TE := fun σ H Q => ta σ H fun x H1 => ∃ c, x = .bl c ∧ if c = true then Q (.bl true) H1 else tb σ H1 Q
def tNotV (ta : TE) : TE := fun σ H Q => ta σ H fun x H1 => ∃ c, x = .bl c ∧ Q (.bl (!c)) H1
theorem pe_one {op} {t : TE} (h : PE X a t) : PE X (.BoolOp op [a] pos) t := fun pins s σ H Q I hw => BoolOp_one (h pins s σ H Q I hw)
theorem pe_and (ha : PE X a ta) (hb : PE X (.BoolOp .And (b :: rest) pos) tb) : PE X (.BoolOp .And (a :: b :: rest) pos) (tAndV ta tb) := by
  intro pins s σ H Q I h
  refine BoolOp_and (thn (ha pins s σ H _ I h) fun v s1 ⟨x, H1, I1, r1, q1⟩ => ?_)
  obtain ⟨c, rfl, q1⟩ := q1
  cases r1
  refine wpAny_truthy_bool ?_
  cases c with
  | true => exact hb pins s1 σ H1 Q I1 q1
  | false => exact ⟨.bl false, H1, I1, rfl, q1⟩
theorem pe_not (ha : PE X a ta) : PE X (.UnaryOp .Not a pos) (tNotV ta) := by
  intro pins s σ H Q I h
  refine UnaryOp_ (thn (ha pins s σ H _ I h) fun v s1 ⟨x, H1, I1, r1, q1⟩ => ?_)
  obtain ⟨c, rfl, q1⟩ := q1
  cases r1
  exact not_of (wpAny_truthy_bool ⟨.bl (!c), H1, I1, rfl, q1⟩)
/-- a if t else b -/
def tIf (t : TT) (ta tb : TE) : TE := fun σ H Q => t σ H fun c H1 => if c = true then ta σ H1 Q else tb σ H1 Q
theorem pe_ifExp {c : Expr} (hc : PT X c tA) (ha : PE X a ta) (hb : PE X b tb) : PE X (.IfExp c a b pos) (tIf tA ta tb) := by
  intro pins s σ H Q I h
  refine wpAny_IfExp (thn (hc pins s σ H _ I h) fun d s1 ⟨H1, I1, q1⟩ => ?_)
  cases d with
  | true => exact ha pins s1 σ H1 Q I1 q1
  | false => exact hb pins s1 σ H1 Q I1 q1
end
end L2

namespace L2
open PySem PySem.Spec PyProof.Rows

/-! ### a list, a tuple that is read: tracked, frozen, or an object of the module -/
def SqL (K : PySem.W.Frag) (H : Hp) (a : Addr) (xs : List V) : Prop :=
  Rd H a (.lst xs) ∨
    ∃ (o : Obj) (its : Array Value) (n : Nat), K.lookup a = some o ∧ o.cls = .type "list" ∧ o.dict = none ∧ o.data = .seq its n ∧ its.size ≤ sizeLine ∧ Vals xs its.toList
def SqT (K : PySem.W.Frag) (H : Hp) (a : Addr) (xs : List V) : Prop :=
  Rd H a (.tup xs) ∨
    ∃ (o : Obj) (its : Array Value) (n : Nat), K.lookup a = some o ∧ o.cls = .type "tuple" ∧ o.data = .seq its n ∧ its.size ≤ sizeLine ∧ Vals xs its.toList
def absV : Value → Option V
  | .none => some .non
  | .bool b => some (.bl b)
  | .int i _ => some (.int i)
  | .str x _ => some (.str x)
  | .bytes b _ => some (.byt b)
  | .float b _ => some (.flt b)
  | .ref a => some (.ref a)
  | .type n => some (.ty n)
  | _ => none
theorem RelV.abs {x : V} {u : Value} (r : RelV x u) : absV u = some x := by
  cases x with
  | non => cases r; rfl
  | bl _ => cases r; rfl
  | int _ => obtain ⟨t, rfl⟩ := r; rfl
  | str _ => obtain ⟨t, rfl⟩ := r; rfl
  | byt _ => obtain ⟨t, rfl⟩ := r; rfl
  | flt _ => obtain ⟨t, rfl⟩ := r; rfl
  | ref _ => cases r; rfl
  | ty _ => cases r; rfl
theorem RelV.inj {x y : V} {u : Value} (r : RelV x u) (q : RelV y u) : x = y := Option.some.inj (r.abs.symm.trans q.abs)
theorem Vals.inj : ∀ {xs ys : List V} {us : List Value}, Vals xs us → Vals ys us → xs = ys
  | _, _, _, .nil, .nil => rfl
  | _, _, _, .cons r t, .cons r' t' => by rw [r.inj r', Vals.inj t t']
section
variable {X : Cx} {pins : List (Addr × Obj)} {σ : St} {H : Hp} {s : Shared} {a : Addr} {xs ys : List V}
theorem SqL.of {K : PySem.W.Frag} (h : H a = some (.lst xs)) : SqL K H a xs := .inl (.inl h)
theorem SqT.of {K : PySem.W.Frag} (h : H a = some (.tup xs)) : SqT K H a xs := .inl (.inl h)
theorem Inv.list (I : Inv X pins σ H s) (h : SqL X.K H a xs) : ∃ its : List Value, Vals xs its ∧ PlainL s.heap a its.toArray ∧ xs.length ≤ sizeLine := by
  rcases h with h | ⟨o, its, n, hk, hc, hd, hs, hz, r⟩
  · obtain ⟨z, its, n, r, e⟩ := h.ok I.hok
    exact ⟨its, r, ⟨_, n, e, rfl, rfl, rfl⟩, z⟩
  · refine ⟨its.toList, r, ⟨o, n, I.kIn a o hk, hc, hd, by simpa using hs⟩, ?_⟩
    have e := r.length
    simp only [Array.length_toList] at e
    omega
theorem Inv.tuple (I : Inv X pins σ H s) (h : SqT X.K H a xs) : ∃ its : List Value, Vals xs its ∧ IsTup s.heap a its.toArray ∧ xs.length ≤ sizeLine := by
  rcases h with h | ⟨o, its, n, hk, hc, hs, hz, r⟩
  · obtain ⟨z, its, r, p⟩ := h.ok I.hok
    exact ⟨its, r, p.is, z⟩
  · refine ⟨its.toList, r, ⟨o, I.kIn a o hk, hc, n, by simpa using hs⟩, ?_⟩
    have e := r.length
    simp only [Array.length_toList] at e
    omega
theorem Inv.list_inj (I : Inv X pins σ H s) (h : SqL X.K H a xs) (h' : SqL X.K H a ys) : xs = ys := by
  obtain ⟨its, r, ⟨o, n, e, _, _, d⟩, _⟩ := I.list h
  obtain ⟨its', r', ⟨o', n', e', _, _, d'⟩, _⟩ := I.list h'
  rw [e] at e'; cases e'
  rw [d] at d'
  injection d' with d1 _
  have : its = its' := by simpa using congrArg Array.toList d1
  subst this
  exact r.inj r'
theorem Inv.tuple_inj (I : Inv X pins σ H s) (h : SqT X.K H a xs) (h' : SqT X.K H a ys) : xs = ys := by
  obtain ⟨its, r, ⟨o, e, _, n, d⟩, _⟩ := I.tuple h
  obtain ⟨its', r', ⟨o', e', _, n', d'⟩, _⟩ := I.tuple h'
  rw [e] at e'; cases e'
  rw [d] at d'
  injection d' with d1 _
  have : its = its' := by simpa using congrArg Array.toList d1
  subst this
  exact r.inj r'
end

/-! ### another wish about exceptions -/
abbrev Cx.wish (X : Cx) (E : Value → Shared → Prop) : Cx := { X with xe := E }
/-- no exception leaves -/
abbrev Cx.nox (X : Cx) : Cx := X.wish fun _ _ => False
theorem Cx.Ok.wish {X : Cx} (ok : X.Ok) (E : Value → Shared → Prop) : (X.wish E).Ok :=
  ⟨ok.mod, ok.kind, ok.glob, ok.blt, ok.above, ok.inj, ok.has, ok.cab, ok.hd, ok.frames, ok.stk, ok.exf, ok.bs, ok.bsz, ok.noex, ok.exfs, ok.funs, ok.frf⟩
theorem Cx.Ok.unwish {X : Cx} {E : Value → Shared → Prop} (ok : (X.wish E).Ok) : X.Ok :=
  ⟨ok.mod, ok.kind, ok.glob, ok.blt, ok.above, ok.inj, ok.has, ok.cab, ok.hd, ok.frames, ok.stk, ok.exf, ok.bs, ok.bsz, ok.noex, ok.exfs, ok.funs, ok.frf⟩
section
variable {X : Cx} {pins : List (Addr × Obj)} {σ : St} {H : Hp} {s : Shared} {E : Value → Shared → Prop}
theorem Inv.wish (I : Inv X pins σ H s) (E : Value → Shared → Prop) : Inv (X.wish E) pins σ H s := ⟨I.ok.wish E, I.os, I.bare, I.base, I.loc, I.cell, I.free, I.freeC, I.pin, I.hok, I.len⟩
theorem Inv.unwish (I : Inv (X.wish E) pins σ H s) : Inv X pins σ H s := ⟨I.ok.unwish, I.os, I.bare, I.base, I.loc, I.cell, I.free, I.freeC, I.pin, I.hok, I.len⟩
theorem SP.unwish {D : Ends} {f : Flow} {s' : Shared} (h : SP (X.wish E) pins D f s') : SP X pins D f s' := by
  cases f with
  | next => obtain ⟨σ', H', I, q⟩ := h; exact ⟨σ', H', I.unwish, q⟩
  | brk => obtain ⟨σ', H', I, q⟩ := h; exact ⟨σ', H', I.unwish, q⟩
  | cont => obtain ⟨σ', H', I, q⟩ := h; exact ⟨σ', H', I.unwish, q⟩
  | ret u => obtain ⟨v, σ', H', I, r, q⟩ := h; exact ⟨v, σ', H', I.unwish, r, q⟩
theorem PSs.nox {st : List Stmt} {t : TS} (h : PSs X.nox st t) : PSs X st t := fun pins s σ H D I hw =>
  wpAny_mono (h pins s σ H D (I.wish _) hw) (fun _ _ q => q.unwish) fun _ _ z => False.elim z
end

/-! ### blocks and small statements -/
section
variable {X : Cx} {st : Stmt} {rest : List Stmt} {t u : TS} {e : Expr} {te : TE} {pos : Pos}
def tNext : TS := fun D σ H => D.nx σ H
def tSeq (t u : TS) : TS := fun D σ H => t { D with nx := u D } σ H
theorem pss_nil : PSs X [] tNext := fun _ _ σ H _ I h => wpAny_execs_nil ⟨σ, H, I, h⟩
theorem pss_cons (h1 : PS X st t) (h2 : PSs X rest u) : PSs X (st :: rest) (tSeq t u) := by
  intro pins s σ H D I h
  refine wpAny_execs_cons (thn (h1 pins s σ H { D with nx := u D } I h) fun f s1 q => ?_)
  cases f with
  | next =>
    obtain ⟨σ', H', I', q⟩ := q
    exact h2 pins s1 σ' H' D I' q
  | ret v => exact q
  | brk => exact q
  | cont => exact q
theorem pss_one (h1 : PS X st t) : PSs X [st] t := by
  intro pins s σ H D I h
  refine wpAny_execs_cons (thn (h1 pins s σ H D I h) fun f s1 q => ?_)
  cases f with
  | next => exact wpAny_execs_nil q
  | ret v => exact q
  | brk => exact q
  | cont => exact q
def tBreak : TS := fun D σ H => D.bk σ H
def tCont : TS := fun D σ H => D.ct σ H
/-- in a def's body nothing is shown -/
theorem Inv.quiet {pins : List (Addr × Obj)} {σ : St} {H : Hp} {s : Shared} (I : Inv X pins σ H s) : interactive X.env = false := by simp [interactive, I.ok.kind]
/-- an expression whose value is dropped -/
def tDrop (te : TE) : TS := fun D σ H => te σ H fun _ H1 => D.nx σ H1
theorem ps_expr (he : PE X e te) (hs : swapsWith e none pos.line X.env = pure false := by rfl) : PS X (.Expr e pos) (tDrop te) := by
  intro pins s σ H D I h
  exact wpAny_Expr_any (thn (he pins s σ H _ I h) fun v s1 ⟨x, H1, I1, r1, q1⟩ => ⟨σ, H1, I1, q1⟩) I.quiet hs
def tRet (te : TE) : TS := fun D σ H => te σ H D.rt
theorem ps_ret (he : PE X e te) : PS X (.Return (some e) pos) (tRet te) := by
  intro pins s σ H D I h
  exact wpAny_Return_some (thn (he pins s σ H _ I h) fun v s1 ⟨x, H1, I1, r1, q1⟩ => ⟨x, σ, H1, I1, r1, q1⟩)
def tRetN : TS := fun D _ H => D.rt .non H
def tIfS (c : TT) (t u : TS) : TS := fun D σ H => c σ H fun b H1 => if b = true then t D σ H1 else u D σ H1
theorem ps_if {c : Expr} {a b : List Stmt} {tc : TT} (hc : PT X c tc) (ha : PSs X a t) (hb : PSs X b u) : PS X (.If c a b pos) (tIfS tc t u) := by
  intro pins s σ H D I h
  refine wpAny_If (thn (hc pins s σ H _ I h) fun d s1 ⟨H1, I1, q1⟩ => ?_)
  cases d with
  | true => exact ha pins s1 σ H1 D I1 q1
  | false => exact hb pins s1 σ H1 D I1 q1
/-- code that the proof never comes to -/
def tNever : TS := fun _ _ _ => False
end

/-! ### targets -/
abbrev TG := V → St → Hp → (St → Hp → Prop) → Prop
abbrev TGs := List V → St → Hp → (St → Hp → Prop) → Prop
def PG (X : Cx) (target : Expr) (t : TG) : Prop :=
  ∀ (pins : List (Addr × Obj)) (s : Shared) (σ : St) (H : Hp) (v : V) (u : Value) (Q : St → Hp → Prop), Inv X pins σ H s → RelV v u → t v σ H Q →
    wpAny (model X.prog X.w) X.A (assign target X.env u) (fun _ s' => ∃ σ' H', Inv X pins σ' H' s' ∧ Q σ' H') X.xe s
/-- several targets, one after another -/
def PGs (X : Cx) (ts : List Expr) (t : TGs) : Prop :=
  ∀ (pins : List (Addr × Obj)) (s : Shared) (σ : St) (H : Hp) (vs : List V) (us : List Value) (Q : St → Hp → Prop), Inv X pins σ H s → Vals vs us → t vs σ H Q →
    wpAny (model X.prog X.w) X.A (assignInOrder ((assignEach ts X.env).map (·.2)) us) (fun _ s' => ∃ σ' H', Inv X pins σ' H' s' ∧ Q σ' H') X.xe s
/-- o[i] = v, by values -/
abbrev TSet := V → V → V → Hp → (Hp → Prop) → Prop
def PSet (X : Cx) (t : TSet) : Prop :=
  ∀ (pins : List (Addr × Obj)) (s : Shared) (σ : St) (H : Hp) (o i v : V) (ov iv u : Value) (Q : Hp → Prop), Inv X pins σ H s → RelV o ov → RelV i iv → RelV v u → t o i v H Q →
    wpAny (model X.prog X.w) X.A (setItem ov iv u) (fun _ s' => ∃ H', Inv X pins σ H' s' ∧ Q H') X.xe s
/-- a op= b, by values -/
abbrev TIp := V → V → Hp → VK → Prop
def PIp (X : Cx) (op : Operator) (t : TIp) : Prop :=
  ∀ (pins : List (Addr × Obj)) (s : Shared) (σ : St) (H : Hp) (x y : V) (v u : Value) (Q : VK), Inv X pins σ H s → RelV x v → RelV y u → t x y H Q →
    wpAny (model X.prog X.w) X.A (inplaceOp op v u) (EP X pins σ Q) X.xe s
section
variable {X : Cx} {pos : Pos}
def gName (i : Nat) : TG := fun v σ H Q => Q (σ.set i (some v)) H
theorem pg_name {i : Nat} {x : Str} (hN : X.N.Nodup) (hi : X.N[i]? = some x) (hx : Loc X.env.scope x) (hf : X.fn x = true ∨ X.env.scope.names.lookup x = some .local := by first | exact .inl rfl | exact .inr rfl | assumption) : PG X (.Name x pos) (gName i) := by
  intro pins s σ H v u Q I r h
  exact wpAny_assign_Name (store_ok I hN hi hx r (fun s' I' => ⟨_, H, I', h⟩) hf)
def gNil : TGs := fun vs σ H Q => vs = [] ∧ Q σ H
def gCons (t : TG) (u : TGs) : TGs := fun vs σ H Q => ∃ v r, vs = v :: r ∧ t v σ H fun σ' H' => u r σ' H' Q
theorem pgs_nil : PGs X [] gNil := by
  intro pins s σ H vs us Q I r h
  obtain ⟨e, h⟩ := h
  subst e
  cases r
  exact assignInOrder_nil ⟨σ, H, I, h⟩
theorem pgs_cons {e : Expr} {es : List Expr} {t : TG} {u : TGs} (h1 : PG X e t) (h2 : PGs X es u)
    (hs : (assignEach (e :: es) X.env).map (·.2) = assign e X.env :: (assignEach es X.env).map (·.2) := by rfl) : PGs X (e :: es) (gCons t u) := by
  intro pins s σ H vs us Q I r h
  obtain ⟨v, vr, e1, h⟩ := h
  subst e1
  cases r with
  | cons r rr =>
    rw [hs]
    refine assignInOrder_cons (thn (h1 pins s σ H _ _ _ I r h) fun _ s1 ⟨σ1, H1, I1, q1⟩ => ?_)
    exact h2 pins s1 σ1 H1 _ _ Q I1 rr q1
/-- (a, b, ..) = a tuple of that length -/
def gTup (K : PySem.W.Frag) (n : Nat) (t : TGs) : TG := fun v σ H Q => ∃ a xs, v = .ref a ∧ SqT K H a xs ∧ xs.length = n ∧ t xs σ H Q
theorem pg_tup {es : List Expr} {k : Nat} {t : TGs} {n : Nat} (hc : X.calm = true) (h : PGs X es t)
    (hn : (assignEach es X.env).length = n := by rfl) (hst : (assignEach es X.env).findIdx? (·.1) = none := by rfl) : PG X (.Tuple es k pos) (gTup X.K n t) := by
  intro pins s σ H v u Q I r hw
  obtain ⟨a, xs, e1, hq, hl, hw⟩ := hw
  subst e1
  cases r
  obtain ⟨its, rv, ht, hz⟩ := I.tuple hq
  refine assign_Tuple_tuple (I.ok.hd hc) ht (by simp [hn, ← hl, rv.length]) hst fun h' hx => ?_
  have I1 : Inv X pins σ H { s with heap := h' } := I.kept (t' := s.toks) fun b o e => hx b o (Nat.ne_of_lt (Heap.lt_size e)) e
  exact h pins _ σ H xs _ Q I1 (by simpa using rv) hw
/-- o[i] = .. -/
def gSub (to ti : TE) (t : TSet) : TG := fun v σ H Q => to σ H fun o H1 => ti σ H1 fun i H2 => t o i v H2 fun H3 => Q σ H3
theorem pg_sub {o i : Expr} {to ti : TE} {t : TSet} (ho : PE X o to) (hi : PE X i ti) (hs : PSet X t)
    (ha : ∀ v, assign (.Subscript o i pos) X.env v = (do
      let ov ← holding [v] (eval o X.env)
      let iv ← holding [v, ov] (eval i X.env)
      standAt pos
      holding [v, ov, iv] (setItem ov iv v)
      release [v, ov, iv] []) := by intro _; rfl) : PG X (.Subscript o i pos) (gSub to ti t) := by
  intro pins s σ H v u Q I r h
  rw [ha]
  refine wpAny_bind (wpAny_holding (thn (ho pins s σ H _ I h) fun ov s1 ⟨x, H1, I1, r1, q1⟩ => ?_))
  refine wpAny_bind (wpAny_holding (thn (hi pins s1 σ H1 _ I1 q1) fun iv s2 ⟨y, H2, I2, r2, q2⟩ => ?_))
  refine wpAny_bind (wpAny_standAt (wpAny_bind (wpAny_holding (thn (hs pins s2 σ H2 x y v ov iv u _ I2 r1 r2 r q2) fun _ s3 ⟨H3, I3, q3⟩ => ?_))))
  exact wpAny_release ⟨σ, H3, I3, q3⟩
/-- target = value -/
def tAsg (te : TE) (g : TG) : TS := fun D σ H => te σ H fun x H1 => g x σ H1 D.nx
theorem ps_asg {tg e : Expr} {te : TE} {g : TG} (he : PE X e te) (hg : PG X tg g) (hs : swapsWithSole [tg] e pos.line X.env = pure false := by rfl) (hw : swappedStores [tg] e X.env = pure none := by rfl)
    (h1 : (assignEach [tg] X.env).map (·.2) = [assign tg X.env] := by rfl) : PS X (.Assign [tg] e pos) (tAsg te g) := by
  intro pins s σ H D I h
  refine wpAny_Assign_stores (thn (he pins s σ H _ I h) fun v s1 ⟨x, H1, I1, r1, q1⟩ => ?_) hs hw
  rw [h1]
  exact thn (hg pins s1 σ H1 x v _ I1 r1 q1) fun _ s2 q => q
/-- name = value -/
theorem ps_set {i : Nat} {x : Str} {e : Expr} {te : TE} {pos' : Pos} (hN : X.N.Nodup) (hi : X.N[i]? = some x) (hx : Loc X.env.scope x) (he : PE X e te) (hs : swapsWith e (some (.Name x pos')) pos.line X.env = pure false := by rfl) (hf : X.fn x = true ∨ X.env.scope.names.lookup x = some .local := by first | exact .inl rfl | exact .inr rfl | assumption) :
    PS X (.Assign [.Name x pos'] e pos) (tAsg te (gName i)) := by
  intro pins s σ H D I h
  refine wpAny_Assign_Name (thn (he pins s σ H _ I h) fun v s1 ⟨y, H1, I1, r1, q1⟩ => ?_) hs
  exact store_ok I1 hN hi hx r1 (fun s2 I2 => ⟨_, H1, I2, q1⟩) hf
/-- a, b = x, y with plain local names: stored from the right; the pair itself is not tracked (the opening rows as in PyProof/Rows/TupAssign.lean:23) -/
def tPar (i j : Nat) (ta : TA) : TS := fun D σ H => ta σ H fun vs H1 => ∃ v w, vs = [v, w] ∧ D.nx ((σ.set i (some v)).set j (some w)) H1
/-- name op= e -/
def tAug (i : Nat) (te : TE) (ti : TIp) : TS := fun D σ H => ∃ x, σ[i]? = some (some x) ∧ te σ H fun y H1 => ti x y H1 fun z H2 => D.nx (σ.set i (some z)) H2
/-- o[i] op= e -/
def tAugS (to ti te : TE) (tget : V → V → Hp → VK → Prop) (tip : TIp) (tset : TSet) : TS := fun D σ H => to σ H fun o H1 => ti σ H1 fun i H2 => tget o i H2 fun x H3 => te σ H3 fun y H4 => tip x y H4 fun z H5 => tset o i z H5 fun H6 => D.nx σ H6
/-- o[i], by values -/
def PGet (X : Cx) (t : V → V → Hp → VK → Prop) : Prop :=
  ∀ (pins : List (Addr × Obj)) (s : Shared) (σ : St) (H : Hp) (o i : V) (ov iv : Value) (Q : VK), Inv X pins σ H s → RelV o ov → RelV i iv → t o i H Q →
    wpAny (model X.prog X.w) X.A (getItem ov iv) (EP X pins σ Q) X.xe s
/-- ints -/
def ipI (f : Int → Int → Int) : TIp := fun x y H Q => ∃ i j, x = .int i ∧ y = .int j ∧ Q (.int (f i j)) H
end

/-! ### while -/
section
variable {X : Cx} {pos : Pos}
/-- the invariant W with its measure -/
def tWhile (c : TT) (tb : TS) : TS := fun D σ H => ∃ W : Nat → St → Hp → Prop, (∃ m, W m σ H) ∧ ∀ m σ H, W m σ H →
  c σ H fun b H1 => if b = true then ∃ N : St → Hp → Prop, (∀ σ' H', N σ' H' → ∃ m', m' < m ∧ W m' σ' H') ∧ tb { D with nx := N, ct := N, bk := D.nx } σ H1 else D.nx σ H1
end

/-! ### what a loop or a comprehension walks -/
/-- at turn i: it yields x (the heap may grow), or it stops -/
structure It where
  go : Nat → Hp → Prop
  yld : Nat → Hp → V → Hp → Prop
  stop : Nat → Hp → Prop
/-- the iterator's own objects may turn: they are not the frame's, not pinned, younger than the entry (or a comprehension's own) -/
def FpOk (X : Cx) (pins : List (Addr × Obj)) (H : Hp) (b : Addr) : Prop :=
  H b = none ∧ b ≠ X.env.locals ∧ b ∉ X.fs ∧ (b ∈ X.ex ∨ X.s₀.heap.objs.size ≤ b) ∧ (∀ x c, X.env.cells.lookup x = some c → c ≠ b) ∧ ∀ p ∈ X.pn ++ pins, p.1 ≠ b
theorem Inv.fpOk {X : Cx} {pins : List (Addr × Obj)} {σ : St} {H H' : Hp} {s : Shared} {b : Addr} (I : Inv X pins σ H s) (hb : s.heap.objs.size ≤ b) (hn : H' b = none) : FpOk X pins H' b := by
  refine ⟨hn, Nat.ne_of_gt (Nat.lt_of_lt_of_le I.lt hb), I.nofs hb, .inr (Nat.le_trans I.sz hb), fun x c e z => ?_, fun p hp z => ?_⟩
  · obtain ⟨v, q⟩ := I.cell x c e
    exact absurd (Nat.lt_of_lt_of_le q.lt (by rw [z]; exact hb)) (Nat.lt_irrefl _)
  · exact absurd (Nat.lt_of_lt_of_le (Heap.lt_size (I.pin p hp).1) (by rw [z]; exact hb)) (Nat.lt_irrefl _)
structure Turn (P : Program) (w : World) (K : PySem.W.Frag) (tg : Expr) (J : It) (fp : List Addr) (it : Addr) (tn : Nat → Heap → Prop) : Prop where
  mem : it ∈ fp
  obj : ∀ i h, tn i h → ∀ b ∈ fp, ∃ o, h.get? b = some o ∧ ∀ v, o.data ≠ .cell v
  keep : ∀ i h h', tn i h → (∀ b ∈ fp, ∀ o, h.get? b = some o → h'.get? b = some o) → tn i h'
  item : ∀ (X : Cx), X.prog = P → X.w = w → X.K = K → X.calm = true → ∀ (i : Nat) (pins : List (Addr × Obj)) (s : Shared) (σ : St) (H : Hp) (E : Value → Shared → Prop), Inv X pins σ H s → (∀ b ∈ fp, FpOk X pins H b) → tn i s.heap → J.go i H →
    wpAny (model P w) X.A (pyNext (.ref it)) (fun r s1 => ∃ u, r = some u ∧
      wpAny (model P w) X.A (letOwnedTupleGo tg (.ref it) u) (fun _ s2 => ∃ x H', Inv X pins σ H' s2 ∧ RelV x u ∧ J.yld i H x H' ∧ tn (i + 1) s2.heap ∧ ∀ b ∈ fp, H' b = none) E s1) E s
  done : ∀ (X : Cx), X.prog = P → X.w = w → X.K = K → X.calm = true → ∀ (i : Nat) (pins : List (Addr × Obj)) (s : Shared) (σ : St) (H : Hp) (E : Value → Shared → Prop), Inv X pins σ H s → (∀ b ∈ fp, FpOk X pins H b) → tn i s.heap → J.stop i H →
    wpAny (model P w) X.A (pyNext (.ref it)) (fun r s1 => r = none ∧ Inv X pins σ H s1) E s
  self : ∀ (A : Around) (i : Nat) (s : Shared) (Q : Value → Shared → Prop) (E : Value → Shared → Prop), tn i s.heap → Q (.ref it) s → wpAny (model P w) A (pyIter (.ref it)) Q E s
abbrev TI := St → Hp → (It → Hp → Prop) → Prop
/-- an iterator has come -/
def PIE (X : Cx) (pins : List (Addr × Obj)) (σ : St) (tg : Expr) (R : It → Hp → Prop) (itv : Value) (s2 : Shared) : Prop :=
  ∃ (it : Addr) (fp : List Addr) (tn : Nat → Heap → Prop) (J : It) (H' : Hp), itv = .ref it ∧ Inv X pins σ H' s2 ∧ Turn X.prog X.w X.K tg J fp it tn ∧ tn 0 s2.heap ∧ (∀ b ∈ fp, FpOk X pins H' b) ∧ R J H'
def PI (X : Cx) (tg iter : Expr) (wi : TI) : Prop :=
  ∀ (pins : List (Addr × Obj)) (s : Shared) (σ : St) (H : Hp) (R : It → Hp → Prop), Inv X pins σ H s → wi σ H R →
    wpAny (model X.prog X.w) X.A (eval iter X.env) (fun v s1 => wpAny (model X.prog X.w) X.A (pyIter v) (PIE X pins σ tg R) X.xe s1) X.xe s

/-- the step ahead of the store is nothing for an iterator that keeps no tuple -/
theorem go_of {M : Model} {A : Around} {E : Value → Shared → Prop} {s : Shared} {tg : Expr} {it : Addr} {u : Value} {o : Obj} {n : String} {vs : Array Value} {Q : Unit → Shared → Prop} (ho : s.heap.get? it = some o) (hc : o.cls = .type n) (hd : o.data = .fields vs)
    (hn : ["enumerate", "zip", "dict_itemiterator", "dict_reverseitemiterator", "odict_iterator", "itertools.zip_longest", "itertools.pairwise"].contains n = false) (hQ : Q () s) : wpAny M A (letOwnedTupleGo tg (.ref it) u) Q E s := by
  unfold letOwnedTupleGo
  cases tg <;> first
    | exact wpAny_pure hQ
    | (cases u <;> first
        | exact wpAny_pure hQ
        | (refine wpAny_bind (wpAny_load ho ?_)
           rw [hc, hd]
           show wpAny M A (if (["enumerate", "zip", "dict_itemiterator", "dict_reverseitemiterator", "odict_iterator", "itertools.zip_longest", "itertools.pairwise"].contains n && vs[0]? == some (rawInt _)) = true then _ else _) Q E s
           rw [if_neg (by intro h; rw [hn, Bool.false_and] at h; cases h)]
           exact wpAny_pure hQ))

/-- the list at a, as it stands at each turn (a loop may append to it) -/
def Itl (K : PySem.W.Frag) (a : Addr) : It :=
  ⟨fun i H => ∃ xs x, SqL K H a xs ∧ xs[i]? = some x, fun i H x H' => H' = H ∧ ∀ xs, SqL K H a xs → xs[i]? = some x, fun i H => ∃ xs, SqL K H a xs ∧ xs.length ≤ i⟩
def Itt (K : PySem.W.Frag) (a : Addr) : It :=
  ⟨fun i H => ∃ xs x, SqT K H a xs ∧ xs[i]? = some x, fun i H x H' => H' = H ∧ ∀ xs, SqT K H a xs → xs[i]? = some x, fun i H => ∃ xs, SqT K H a xs ∧ xs.length ≤ i⟩
/-- lo, lo + 1, .. (n of them) -/
def Itr (lo : Int) (n : Nat) : It := ⟨fun i _ => i < n, fun i H x H' => H' = H ∧ x = .int (lo + i), fun i _ => n ≤ i⟩
theorem turn_tuple {P : Program} {w : World} {K : PySem.W.Frag} {tg : Expr} (a it : Addr) : Turn P w K tg (Itt K a) [it] it (fun i h => h.IsTupleIter it a i) where
  mem := by simp
  obj := fun i h st b hb => by
    have e : b = it := by simpa using hb
    subst e
    obtain ⟨o, e, c, d⟩ := st
    exact ⟨o, e, fun v z => by rw [d] at z; cases z⟩
  keep := fun i h h' st k => st.at fun o e => k it (by simp) o e
  item := by
    intro X hP hw hK hc i pins s σ H E I hf st hg
    subst hP hw hK
    obtain ⟨xs, x, hq, hx⟩ := hg
    obtain ⟨its, rv, p, hz⟩ := I.tuple hq
    obtain ⟨u, hu, ru⟩ := rv.get hx
    obtain ⟨f0, f1, f2, f3, f4, f5⟩ := hf it (by simp)
    refine wpAny_pyNext_tuple_item st (show s.heap.IsTuple a its.toArray from p) (x := u) (by simpa using hu) fun h' st' sb => ?_
    have I1 : Inv X pins σ H { s with heap := h' } := I.turned (t' := s.toks) (fun b o hb e => (sb.2 b hb).trans e) f0 f1 f3 f4 f5
    obtain ⟨o, e, c, d⟩ := id st'
    exact ⟨u, rfl, go_of (s := { s with heap := h' }) e c d (by decide) ⟨x, H, I1, ru, ⟨rfl, fun ys hy => by rw [I.tuple_inj hy hq]; exact hx⟩, st', fun b hb => (hf b hb).1⟩⟩
  done := by
    intro X hP hw hK hc i pins s σ H E I hf st hg
    subst hP hw hK
    obtain ⟨xs, hq, hx⟩ := hg
    obtain ⟨its, rv, p, hz⟩ := I.tuple hq
    obtain ⟨f0, f1, f2, f3, f4, f5⟩ := hf it (by simp)
    have hl := rv.length
    exact wpAny_pyNext_tuple_end (I.ok.hd hc) st (show s.heap.IsTuple a its.toArray from p) (by simp; omega) fun h' eb => ⟨rfl, I.turned (t' := s.toks) (fun b o hb e => eb b o hb e) f0 f1 f3 f4 f5⟩
  self := fun _ _ _ _ _ st h => wpAny_pyIter_tupleiter st h
theorem turn_range {P : Program} {w : World} {K : PySem.W.Frag} {tg : Expr} (it : Addr) (lo : Int) (n : Nat) : Turn P w K tg (Itr lo n) [it] it (fun i h => IsRangeIter h it (lo + (i : Nat) * 1) ((n : Int) - (i : Nat)) 1) where
  mem := by simp
  obj := fun i h st b hb => by
    have e : b = it := by simpa using hb
    subst e
    exact ⟨_, st, fun v z => by
      have z' : Data.fields _ = Data.cell v := z
      cases z'⟩
  keep := fun i h h' st k => k it (by simp) _ st
  item := by
    intro X hP hw hK hc i pins s σ H E I hf st hg
    subst hP hw hK
    obtain ⟨f0, f1, f2, f3, f4, f5⟩ := hf it (by simp)
    have W := Walks.range (prog := X.prog) (w := X.w) (I.ok.hd hc) it lo 1 n
    refine W.item i s _ _ hg st fun v h' tk hv st' kk => ?_
    obtain ⟨t, rfl⟩ := hv
    have I1 : Inv X pins σ H { s with heap := h', toks := tk } := I.turned (fun b o hb e => kk b o (by simpa using hb) e) f0 f1 f3 f4 f5
    refine ⟨_, rfl, go_of (s := { s with heap := h', toks := tk }) (n := "range_iterator") st' rfl rfl (by decide) ⟨.int (lo + i), H, I1, ⟨t, ?_⟩, ⟨rfl, rfl⟩, st', fun b hb => (hf b hb).1⟩⟩
    rw [Int.mul_one]
  done := by
    intro X hP hw hK hc i pins s σ H E I hf st hg
    subst hP hw hK
    obtain ⟨f0, f1, f2, f3, f4, f5⟩ := hf it (by simp)
    exact wpAny_pyNext_range_end (I.ok.hd hc) st (by have : n ≤ i := hg; omega) fun h' eb => ⟨rfl, I.turned (t' := s.toks) (fun b o hb e => eb b o hb e) f0 f1 f3 f4 f5⟩
  self := fun _ _ _ _ _ st h => wpAny_pyIter_rangeiter st h
end L2

namespace L2
open PySem PySem.Spec PyProof.Rows
section
variable {X : Cx} {tg : Expr}
def iList (K : PySem.W.Frag) (tl : TE) : TI := fun σ H R => tl σ H fun x H1 => ∃ a, x = .ref a ∧ (∃ xs, SqL K H1 a xs) ∧ R (Itl K a) H1
def iTup (K : PySem.W.Frag) (tl : TE) : TI := fun σ H R => tl σ H fun x H1 => ∃ a, x = .ref a ∧ (∃ xs, SqT K H1 a xs) ∧ R (Itt K a) H1
theorem pi_tup {l : Expr} {tl : TE} (hl : PE X l tl) : PI X tg l (iTup X.K tl) := by
  intro pins s σ H R I h
  refine thn (hl pins s σ H _ I h) fun v s1 ⟨x, H1, I1, r1, q1⟩ => ?_
  obtain ⟨a, e, ⟨xs, hq⟩, q⟩ := q1
  subst e
  cases r1
  obtain ⟨its, rv, p, hz⟩ := I1.tuple hq
  refine wpAny_pyIter_tuple (show s1.heap.IsTuple a its.toArray from p) ?_
  refine ⟨s1.heap.objs.size, [s1.heap.objs.size], _, _, H1, rfl, I1.kept (t' := s1.toks) fun b o e => Heap.get?_push_of_some _ e, turn_tuple a _, ⟨_, Heap.get?_push_size _ rfl, rfl, rfl⟩, fun b hb => ?_, q⟩
  have e : b = s1.heap.objs.size := by simpa using hb
  subst e
  exact I1.fpOk (Nat.le_refl _) (I1.hok.fresh (Nat.le_refl _))
/-- a range object just made, walked -/
theorem range_it {pins : List (Addr × Obj)} {σ : St} {H : Hp} {s : Shared} {R : It → Hp → Prop} {E : Value → Shared → Prop} {lo hi : Int} {t u v : Tok} {tk : Nat} (I : Inv X pins σ H s) (h1 : -(2 ^ 62) ≤ lo) (h2 : lo < 2 ^ 62) (h3 : -(2 ^ 62) ≤ hi) (h4 : hi < 2 ^ 62)
    (q : R (Itr lo (hi - lo).toNat) H) : wpAny (model X.prog X.w) X.A (pyIter (.ref s.heap.objs.size)) (PIE X pins σ tg R) E { s with heap := s.heap.push { cls := .type "range", data := .fields #[.int lo t, .int hi u, .int 1 v] }, toks := tk } := by
  refine wpAny_pyIter_range (IsRange.new ..) (small_one h1 h2 h3 h4) ?_
  have I1 : Inv X pins σ H { s with heap := s.heap.push { cls := .type "range", data := .fields #[.int lo t, .int hi u, .int 1 v] }, toks := tk } := I.kept fun b o e => Heap.get?_push_of_some _ e
  refine ⟨(s.heap.push { cls := .type "range", data := .fields #[.int lo t, .int hi u, .int 1 v] }).objs.size, [(s.heap.push { cls := .type "range", data := .fields #[.int lo t, .int hi u, .int 1 v] }).objs.size], _, _, H, rfl,
    I1.kept (t' := tk) fun b o e => Heap.get?_push_of_some _ e, turn_range _ lo (hi - lo).toNat, ?_, fun b hb => ?_, q⟩
  · have e1 : lo + ((0 : Nat) : Int) * 1 = lo := by simp
    have e2 : (((hi - lo).toNat : Nat) : Int) - ((0 : Nat) : Int) = Builtin.Range.rangeSize lo hi 1 := by rw [rangeSize_one]; split <;> omega
    show IsRangeIter _ _ (lo + ((0 : Nat) : Int) * 1) ((((hi - lo).toNat : Nat) : Int) - ((0 : Nat) : Int)) 1
    rw [e1, e2]
    exact Heap.get?_push_size _ rfl
  · have e : b = (s.heap.push { cls := .type "range", data := .fields #[.int lo t, .int hi u, .int 1 v] }).objs.size := by simpa using hb
    subst e
    exact I1.fpOk (Nat.le_refl _) (I1.hok.fresh (Nat.le_refl _))
def iRng1 (ta : TA) : TI := fun σ H R => ta σ H fun vs H1 => ∃ j : Int, vs = [.int j] ∧ -(2 ^ 62) ≤ j ∧ j < 2 ^ 62 ∧ R (Itr 0 j.toNat) H1
def iRng2 (ta : TA) : TI := fun σ H R => ta σ H fun vs H1 => ∃ i j : Int, vs = [.int i, .int j] ∧ (-(2 ^ 62) ≤ i ∧ i < 2 ^ 62 ∧ -(2 ^ 62) ≤ j ∧ j < 2 ^ 62) ∧ R (Itr i (j - i).toNat) H1
theorem pi_range1 {a : Expr} {ta : TA} {p pos : Pos} (hg : Gl X "range") (hm : X.mg "range" = none) (ha : PA X [a] ta) (hs : starEach [a] X.env = [(false, eval a X.env)] := by rfl) : PI X tg (.Call (.Name "range" p) [a] [] pos) (iRng1 ta) := by
  intro pins s σ H R I h
  refine Call_ (ld_blt I hg hm boot_range (PyProof.Rows.callWith_type1 (thn (ha pos pins s σ H _ I h) fun us s1 ⟨vs, H1, I1, r1, q1⟩ => ?_) hs rfl))
  obtain ⟨j, e, q1, q2, q⟩ := q1
  subst e
  cases r1 with
  | cons r rr =>
    cases rr
    obtain ⟨t, rfl⟩ := r
    exact call_range_1 (range_it I1 (by omega) (by omega) q1 q2 (by simpa using q))

/-! ### for -/
/-- W: the invariant by the turn and a measure; N: what the body is to reach -/
def tFor (wi : TI) (g : TG) (tb : TS) : TS := fun D σ H => wi σ H fun J H1 => ∃ W : Nat → Nat → St → Hp → Prop, (∃ m, W 0 m σ H1) ∧ ∀ i m σ H, W i m σ H →
  (J.stop i H ∧ D.nx σ H) ∨ (J.go i H ∧ ∃ N : St → Hp → Prop, (∀ σ' H', N σ' H' → ∃ m', m' < m ∧ W (i + 1) m' σ' H') ∧ ∀ x H', J.yld i H x H' → g x σ H' fun σ2 H2 => tb { D with nx := N, ct := N, bk := D.nx } σ2 H2)
/-- the records at fp as they stand -/
def pinsAt (fp : List Addr) (h : Heap) : List (Addr × Obj) := fp.filterMap fun b => (h.get? b).map fun o => (b, o)
theorem mem_pinsAt {fp : List Addr} {h : Heap} {b : Addr} {o : Obj} (hb : b ∈ fp) (e : h.get? b = some o) : (b, o) ∈ pinsAt fp h := List.mem_filterMap.mpr ⟨b, hb, by rw [e]; rfl⟩
theorem of_pinsAt {fp : List Addr} {h : Heap} {p : Addr × Obj} (hp : p ∈ pinsAt fp h) : p.1 ∈ fp ∧ h.get? p.1 = some p.2 := by
  obtain ⟨b, hb, e⟩ := List.mem_filterMap.mp hp
  cases q : h.get? b with
  | none => rw [q] at e; cases e
  | some o =>
    rw [q] at e
    have e' : (b, o) = p := Option.some.inj e
    subst e'
    exact ⟨hb, q⟩
theorem Inv.pinned {pins : List (Addr × Obj)} {σ : St} {H : Hp} {s : Shared} {fp : List Addr} (I : Inv X pins σ H s) (hf : ∀ b ∈ fp, FpOk X pins H b) (ho : ∀ b ∈ fp, ∃ o, s.heap.get? b = some o ∧ ∀ v, o.data ≠ .cell v) : Inv X (pins ++ pinsAt fp s.heap) σ H s :=
  I.pins_of fun p hp => (List.mem_append.mp hp).elim (fun z => I.pin p (List.mem_append_right _ z)) fun z => by
    obtain ⟨hb, e⟩ := of_pinsAt z
    obtain ⟨f0, f1, f2, _⟩ := hf p.1 hb
    obtain ⟨o, e', d⟩ := ho p.1 hb
    rw [e] at e'; cases e'
    exact ⟨e, f0, f1, f2, d⟩
theorem Inv.unpinned {pins pl : List (Addr × Obj)} {σ : St} {H : Hp} {s : Shared} (I : Inv X (pins ++ pl) σ H s) : Inv X pins σ H s := I.pins_of fun p hp => I.pin p (List.mem_append_right _ (List.mem_append_left _ hp))
theorem ps_for {iter : Expr} {body : List Stmt} {wi : TI} {g : TG} {tb : TS} {pos : Pos} (hp : PassesOwn (model X.prog X.w) X.A X.env X.xe) (hc : X.calm = true) (hi : PI X tg iter wi) (hg : PG X tg g) (hb : PSs X body tb)
    (hs : ∀ x, foldedSetIterable iter X.env x = pure x := by intro _; rfl) : PS X (.For tg iter body [] pos) (tFor wi g tb) := by
  intro pins s σ H D I h
  refine wpAny_For (thn (hi pins s σ H _ I h) fun v s1 h1 => thn h1 fun itv s2 h2 => ?_) hs
  obtain ⟨it, fp, tn, J, H2, e, I2, T, st2, f2, W, ⟨m0, w0⟩, turn⟩ := h2
  subst e
  -- what stays true of the iterator's objects through the loop
  have stat : ∀ {H' : Hp}, (∀ b ∈ fp, H' b = none) → ∀ b ∈ fp, FpOk X pins H' b := fun hn b hb => ⟨hn b hb, (f2 b hb).2⟩
  refine codeAny_forLoop_any (fun n s' => ∃ i σ' H', Inv X pins σ' H' s' ∧ tn i s'.heap ∧ (∀ b ∈ fp, H' b = none) ∧ W i n σ' H') ?_ m0 ⟨0, σ, H2, I2, st2, fun b hb => (f2 b hb).1, w0⟩
  rintro n s3 ⟨i, σ3, H3, I3, st3, fr3, w3⟩
  rcases turn i n σ3 H3 w3 with ⟨stop, qn⟩ | ⟨go, N, hN, step⟩
  · refine wpAny_passesOwn hp (thn (T.done X rfl rfl rfl hc i pins s3 σ3 H3 X.xe I3 (stat fr3) st3 stop) fun r s4 ⟨hr, I4⟩ => ?_)
    subst hr
    exact wpAny_execs_nil ⟨σ3, H3, I4, qn⟩
  · refine wpAny_passesOwn hp (thn (T.item X rfl rfl rfl hc i pins s3 σ3 H3 X.xe I3 (stat fr3) st3 go) fun r s4 ⟨u, hr, h4⟩ => ?_)
    subst hr
    refine wpAny_passesOwn hp (thn h4 fun _ s5 ⟨x, H5, I5, r5, y5, st5, fr5⟩ => ?_)
    have I5' := I5.pinned (stat fr5) (T.obj _ _ st5)
    refine wpAny_passesOwn hp (thn (hg _ s5 σ3 H5 x u _ I5' r5 (step x H5 y5)) fun _ s6 ⟨σ6, H6, I6, q6⟩ => ?_)
    refine wpAny_passesOwn hp (thn (hb _ s6 σ6 H6 _ I6 q6) fun f s7 q7 => ?_)
    have again : ∀ {σ7 : St} {H7 : Hp}, Inv X (pins ++ pinsAt fp s5.heap) σ7 H7 s7 → N σ7 H7 → ∃ m, m < n ∧ ∃ i σ' H', Inv X pins σ' H' s7 ∧ tn i s7.heap ∧ (∀ b ∈ fp, H' b = none) ∧ W i m σ' H' := fun {σ7 H7} I7 n7 => by
      obtain ⟨m', hm, w7⟩ := hN σ7 H7 n7
      refine ⟨m', hm, i + 1, σ7, H7, I7.unpinned, T.keep _ _ _ st5 fun b hb o e => (I7.pin (b, o) (List.mem_append_right _ (List.mem_append_right _ (mem_pinsAt hb e)))).1, fun b hb => ?_, w7⟩
      obtain ⟨o, e, d⟩ := T.obj _ _ st5 b hb
      exact (I7.pin (b, o) (List.mem_append_right _ (List.mem_append_right _ (mem_pinsAt hb e)))).2.1
    cases f with
    | next => obtain ⟨σ7, H7, I7, n7⟩ := q7; exact again I7 n7
    | cont => obtain ⟨σ7, H7, I7, n7⟩ := q7; exact again I7 n7
    | brk => obtain ⟨σ7, H7, I7, q7⟩ := q7; exact ⟨σ7, H7, I7.unpinned, q7⟩
    | ret v => obtain ⟨x7, σ7, H7, I7, r7, q7⟩ := q7; exact ⟨x7, σ7, H7, I7.unpinned, r7, q7⟩
end

/-! ### the forms one uses -/
theorem for_tup {K : PySem.W.Frag} {a : Addr} {xs : List V} {g : TG} {tb : TS} {D : Ends} {σ : St} {H : Hp} (Pv : Nat → St → Hp → Prop) (h0 : Pv 0 σ H) (hl : ∀ i σ H, i ≤ xs.length → Pv i σ H → SqT K H a xs)
    (hs : ∀ i x σ H, xs[i]? = some x → Pv i σ H → g x σ H fun σ2 H2 => tb { D with nx := Pv (i + 1), ct := Pv (i + 1), bk := D.nx } σ2 H2) (hd : ∀ σ H, Pv xs.length σ H → D.nx σ H) :
    ∃ W : Nat → Nat → St → Hp → Prop, (∃ m, W 0 m σ H) ∧ ∀ i m σ H, W i m σ H →
      ((Itt K a).stop i H ∧ D.nx σ H) ∨ ((Itt K a).go i H ∧ ∃ N : St → Hp → Prop, (∀ σ' H', N σ' H' → ∃ m', m' < m ∧ W (i + 1) m' σ' H') ∧ ∀ x H', (Itt K a).yld i H x H' → g x σ H' fun σ2 H2 => tb { D with nx := N, ct := N, bk := D.nx } σ2 H2) := by
  refine ⟨fun i m σ H => m = xs.length - i ∧ i ≤ xs.length ∧ Pv i σ H, ⟨xs.length, by simp, Nat.zero_le _, h0⟩, ?_⟩
  rintro i m σ H ⟨rfl, hi, p⟩
  have q := hl i σ H hi p
  by_cases hlt : i < xs.length
  · refine .inr ⟨⟨xs, xs[i], q, by simp [hlt]⟩, Pv (i + 1), fun σ' H' p' => ⟨xs.length - (i + 1), by omega, rfl, hlt, p'⟩, fun x H' y => ?_⟩
    obtain ⟨e, y⟩ := y
    subst e
    exact hs i x σ _ (y xs q) p
  · have e : i = xs.length := by omega
    subst e
    exact .inl ⟨⟨xs, q, Nat.le_refl _⟩, hd σ H p⟩
theorem for_range {lo : Int} {n : Nat} {g : TG} {tb : TS} {D : Ends} {σ : St} {H : Hp} (Pv : Nat → St → Hp → Prop) (h0 : Pv 0 σ H)
    (hs : ∀ i σ H, i < n → Pv i σ H → g (.int (lo + i)) σ H fun σ2 H2 => tb { D with nx := Pv (i + 1), ct := Pv (i + 1), bk := D.nx } σ2 H2) (hd : ∀ σ H, Pv n σ H → D.nx σ H) :
    ∃ W : Nat → Nat → St → Hp → Prop, (∃ m, W 0 m σ H) ∧ ∀ i m σ H, W i m σ H →
      ((Itr lo n).stop i H ∧ D.nx σ H) ∨ ((Itr lo n).go i H ∧ ∃ N : St → Hp → Prop, (∀ σ' H', N σ' H' → ∃ m', m' < m ∧ W (i + 1) m' σ' H') ∧ ∀ x H', (Itr lo n).yld i H x H' → g x σ H' fun σ2 H2 => tb { D with nx := N, ct := N, bk := D.nx } σ2 H2) := by
  refine ⟨fun i m σ H => m = n - i ∧ i ≤ n ∧ Pv i σ H, ⟨n, by simp, Nat.zero_le _, h0⟩, ?_⟩
  rintro i m σ H ⟨rfl, hi, p⟩
  by_cases hlt : i < n
  · refine .inr ⟨hlt, Pv (i + 1), fun σ' H' p' => ⟨n - (i + 1), by omega, rfl, hlt, p'⟩, fun x H' y => ?_⟩
    obtain ⟨e, y⟩ := y
    subst e y
    exact hs i σ _ hlt p
  · have e : i = n := by omega
    subst e
    exact .inl ⟨Nat.le_refl _, hd σ H p⟩
end L2

namespace L2
open PySem PySem.Spec PyProof.Rows

abbrev R2 := V → V → Hp → VK → Prop
/-- a two-place operation on values: f is binaryOp op, inplaceOp op or compareOp op -/
def OpR (X : Cx) (f : Value → Value → Sem Value) (r : R2) : Prop :=
  ∀ (pins : List (Addr × Obj)) (s : Shared) (σ : St) (H : Hp) (x y : V) (v u : Value) (Q : VK), Inv X pins σ H s → RelV x v → RelV y u → r x y H Q →
    wpAny (model X.prog X.w) X.A (f v u) (EP X pins σ Q) X.xe s
/-- a one-place operation -/
def UnR (X : Cx) (f : Value → Sem Value) (r : V → Hp → VK → Prop) : Prop :=
  ∀ (pins : List (Addr × Obj)) (s : Shared) (σ : St) (H : Hp) (x : V) (v : Value) (Q : VK), Inv X pins σ H s → RelV x v → r x H Q →
    wpAny (model X.prog X.w) X.A (f v) (EP X pins σ Q) X.xe s
/-- a call of a value that is known (a builtin, a type) with values -/
def CallR (X : Cx) (f : Value) (r : List V → Hp → VK → Prop) : Prop :=
  ∀ (pins : List (Addr × Obj)) (s : Shared) (σ : St) (H : Hp) (xs : List V) (us : List Value) (Q : VK), Inv X pins σ H s → Vals xs us → r xs H Q →
    wpAny (model X.prog X.w) X.A (call f us) (EP X pins σ Q) X.xe s
/-- a value's truth -/
def TruR (X : Cx) (r : V → Hp → (Bool → Hp → Prop) → Prop) : Prop :=
  ∀ (pins : List (Addr × Obj)) (s : Shared) (σ : St) (H : Hp) (x : V) (v : Value) (Q : Bool → Hp → Prop), Inv X pins σ H s → RelV x v → r x H Q →
    wpAny (model X.prog X.w) X.A (truthy v) (TP X pins σ Q) X.xe s

def tOp (r : R2) (ta tb : TE) : TE := fun σ H Q => ta σ H fun x H1 => tb σ H1 fun y H2 => r x y H2 Q
def tUn (r : V → Hp → VK → Prop) (ta : TE) : TE := fun σ H Q => ta σ H fun x H1 => r x H1 Q
/-- ints in, under C, and a value out -/
def rI (C : Int → Int → Prop) (g : Int → Int → V) : R2 := fun x y H Q => ∃ i j, x = .int i ∧ y = .int j ∧ C i j ∧ Q (g i j) H
def rI0 (g : Int → Int → V) : R2 := fun x y H Q => ∃ i j, x = .int i ∧ y = .int j ∧ Q (g i j) H
def rU (g : Int → V) : V → Hp → VK → Prop := fun x H Q => ∃ i, x = .int i ∧ Q (g i) H

section
variable {X : Cx} {a b c : Expr} {ta tb tc : TE} {pos : Pos}

theorem binT (ha : PE X a ta) (hb : PE X b tb) {pins : List (Addr × Obj)} {s : Shared} {σ : St} {H : Hp} {R : V → V → Hp → Prop} (I : Inv X pins σ H s)
    (h : ta σ H fun x H1 => tb σ H1 fun y H2 => R x y H2) {Q : Value → Shared → Prop} {f : Value → Value → Sem Value}
    (hf : ∀ v u s2 x y H2, Inv X pins σ H2 s2 → RelV x v → RelV y u → R x y H2 → wpAny (model X.prog X.w) X.A (f v u) Q X.xe s2) :
    wpAny (model X.prog X.w) X.A (eval a X.env) (fun v s₁ => wpAny (model X.prog X.w) X.A (eval b X.env) (fun u s₂ => wpAny (model X.prog X.w) X.A (f v u) Q X.xe s₂) X.xe s₁) X.xe s := by
  refine thn (ha pins s σ H _ I h) fun v s1 ⟨x, H1, I1, r1, q1⟩ => ?_
  refine thn (hb pins s1 σ H1 _ I1 q1) fun u s2 ⟨y, H2, I2, r2, q2⟩ => ?_
  exact hf v u s2 x y H2 I2 r1 r2 q2

theorem pe_op {op : Operator} {r : R2} (ho : OpR X (binaryOp op) r) (ha : PE X a ta) (hb : PE X b tb) : PE X (.BinOp a op b pos) (tOp r ta tb) := by
  intro pins s σ H Q I h
  exact wpAny_BinOp (binT ha hb I h fun v u s2 x y H2 I2 rx ry q => ho pins s2 σ H2 x y v u Q I2 rx ry q)
theorem pe_un {op : UnaryOp} {r : V → Hp → VK → Prop} (ho : UnR X (unaryOp op) r) (ha : PE X a ta) : PE X (.UnaryOp op a pos) (tUn r ta) := by
  intro pins s σ H Q I h
  exact UnaryOp_ (thn (ha pins s σ H _ I h) fun v s1 ⟨x, H1, I1, r1, q1⟩ => ho pins s1 σ H1 x v Q I1 r1 q1)

/-! ### ints -/
theorem opI {f : Value → Value → Sem Value} {C : Int → Int → Prop} {g : Int → Int → Int}
    (rule : ∀ (i j : Int) (t u : Tok) (s : Shared) (Q : Value → Shared → Prop) (E : Value → Shared → Prop), C i j → Q (.int (g i j) s.toks) { s with toks := s.toks + 1 } → wpAny (model X.prog X.w) X.A (f (.int i t) (.int j u)) Q E s) :
    OpR X f (rI C fun i j => .int (g i j)) := by
  intro pins s σ H x y v u Q I rx ry h
  obtain ⟨i, j, rfl, rfl, hc, q⟩ := h
  obtain ⟨t, rfl⟩ := rx
  obtain ⟨t', rfl⟩ := ry
  exact rule i j t t' s _ _ hc ⟨.int (g i j), H, I.tok _, ⟨_, rfl⟩, q⟩
theorem opI0 {f : Value → Value → Sem Value} {g : Int → Int → Int}
    (rule : ∀ (i j : Int) (t u : Tok) (s : Shared) (Q : Value → Shared → Prop) (E : Value → Shared → Prop), Q (.int (g i j) s.toks) { s with toks := s.toks + 1 } → wpAny (model X.prog X.w) X.A (f (.int i t) (.int j u)) Q E s) :
    OpR X f (rI0 fun i j => .int (g i j)) := by
  intro pins s σ H x y v u Q I rx ry h
  obtain ⟨i, j, rfl, rfl, q⟩ := h
  obtain ⟨t, rfl⟩ := rx
  obtain ⟨t', rfl⟩ := ry
  exact rule i j t t' s _ _ ⟨.int (g i j), H, I.tok _, ⟨_, rfl⟩, q⟩
theorem opB0 {f : Value → Value → Sem Value} {g : Int → Int → Bool}
    (rule : ∀ (i j : Int) (t u : Tok) (s : Shared) (Q : Value → Shared → Prop) (E : Value → Shared → Prop), Q (.bool (g i j)) s → wpAny (model X.prog X.w) X.A (f (.int i t) (.int j u)) Q E s) :
    OpR X f (rI0 fun i j => .bl (g i j)) := by
  intro pins s σ H x y v u Q I rx ry h
  obtain ⟨i, j, rfl, rfl, q⟩ := h
  obtain ⟨t, rfl⟩ := rx
  obtain ⟨t', rfl⟩ := ry
  exact rule i j t t' s _ _ ⟨.bl (g i j), H, I, rfl, q⟩

def CDiv (i j : Int) : Prop := 0 < j ∧ j < 1073741824
def CDivN (i j : Int) : Prop := j ≠ 0 ∧ j.natAbs < 1073741824
def CPow (i j : Int) : Prop := 0 ≤ j ∧ j ≤ 1000000 ∧ i.natAbs < 2 ^ 64
def CMul (i j : Int) : Prop := (-(2 ^ 64) < i ∧ i < 2 ^ 64) ∨ (-(2 ^ 64) < j ∧ j < 2 ^ 64)
theorem CMul.ok {i j : Int} (h : CMul i j) : IntMulOk i j := by
  rcases h with ⟨h1, h2⟩ | ⟨h1, h2⟩
  · exact .of_left (intBits_le_64 h1 h2)
  · exact .of_right (intBits_le_64 h1 h2)

theorem op_add : OpR X (binaryOp .Add) (rI0 fun i j => .int (i + j)) := opI0 fun _ _ _ _ _ _ _ q => add_int q
theorem op_sub : OpR X (binaryOp .Sub) (rI0 fun i j => .int (i - j)) := opI0 fun _ _ _ _ _ _ _ q => sub_int q
theorem op_mul : OpR X (binaryOp .Mult) (rI CMul fun i j => .int (i * j)) := opI fun _ _ _ _ _ _ _ hc q => mul_int q hc.ok
/-- // by a positive divisor -/
theorem op_fdiv : OpR X (binaryOp .FloorDiv) (rI CDiv fun i j => .int (i / j)) := opI fun i j _ _ _ _ _ hc q => by
  have h1 : (0 : Int) < j := hc.1
  have h2 : j < 1073741824 := hc.2
  exact floordiv_int (by omega) (by rw [Int.fdiv_eq_ediv_of_nonneg i (by omega)]; exact q) (.inl (PyProof.noPylong_small (by omega)))
/-- % by a positive divisor of any size -/
theorem op_mod : OpR X (binaryOp .Mod) (rI (fun _ j => 0 < j) fun i j => .int (i % j)) := opI fun i j _ _ _ _ _ hc q => by
  have h1 : (0 : Int) < j := hc
  exact mod_int' (by omega) (by rw [Int.fmod_eq_emod_of_nonneg i (by omega)]; exact q)
theorem op_pow : OpR X (binaryOp .Pow) (rI CPow fun i j => .int (i ^ j.toNat)) := opI fun _ _ _ _ _ _ _ hc q => pow_int_small hc.1 hc.2.1 hc.2.2 q


theorem unI {f : Value → Sem Value} {g : Int → Int}
    (rule : ∀ (i : Int) (t : Tok) (s : Shared) (Q : Value → Shared → Prop) (E : Value → Shared → Prop), Q (.int (g i) s.toks) { s with toks := s.toks + 1 } → wpAny (model X.prog X.w) X.A (f (.int i t)) Q E s) :
    UnR X f (rU fun i => .int (g i)) := by
  intro pins s σ H x v Q I rx h
  obtain ⟨i, rfl, q⟩ := h
  obtain ⟨t, rfl⟩ := rx
  exact rule i t s _ _ ⟨.int (g i), H, I.tok _, ⟨_, rfl⟩, q⟩
theorem un_neg : UnR X (unaryOp .USub) (rU fun i => .int (-i)) := unI fun _ _ _ _ _ q => neg_int q

/-! ### bools among ints: n += (a < b) -/
end

/-! ### comparisons -/
/-- the scalars that == tells apart as data does -/
def scal : V → V → Bool
  | .non, .non => true | .non, .int _ => true | .int _, .non => true | .non, .bl _ => true | .bl _, .non => true | .non, .str _ => true | .str _, .non => true
  | .int _, .int _ => true | .bl _, .bl _ => true | .str _, .str _ => true | .byt _, .byt _ => true
  | .int _, .str _ => true | .str _, .int _ => true | .bl _, .str _ => true | .str _, .bl _ => true
  | _, _ => false
def rEq : R2 := fun x y H Q => scal x y = true ∧ Q (.bl (decide (x = y))) H
def rNe : R2 := fun x y H Q => scal x y = true ∧ Q (.bl (!decide (x = y))) H

theorem dec_int {i j : Int} : decide (V.int i = V.int j) = (i == j) := by
  rw [Bool.eq_iff_iff]
  simp
theorem dec_bl {i j : Bool} : decide (V.bl i = V.bl j) = (i == j) := by
  rw [Bool.eq_iff_iff]
  simp
theorem dec_str {i j : Str} : decide (V.str i = V.str j) = (i == j) := by
  rw [Bool.eq_iff_iff]
  simp
theorem dec_byt {i j : Array UInt8} : decide (V.byt i = V.byt j) = (i.toList == j.toList) := by
  rw [Bool.eq_iff_iff]
  cases i
  cases j
  simp

section
variable {X : Cx} {a b c : Expr} {ta tb tc : TE} {pos : Pos}
theorem fin_bl {pins : List (Addr × Obj)} {σ : St} {H : Hp} {s : Shared} {Q : VK} {k k' : Bool} (I : Inv X pins σ H s) (q : Q (.bl k) H) (e : k = k') : EP X pins σ Q (.bool k') s := by
  subst e
  exact ⟨.bl k, H, I, rfl, q⟩
theorem op_eq : OpR X (compareOp .Eq) rEq := by
  intro pins s σ H x y v u Q I rx ry h
  obtain ⟨hs, q⟩ := h
  cases x with
  | non =>
    cases rx
    cases y with
    | non => cases ry; exact PySem.EqNone.eq_none_none (fin_bl I q (by simp))
    | bl j => cases ry; exact PySem.EqNone.eq_none_bool (fin_bl I q (by simp))
    | int j => obtain ⟨t', rfl⟩ := ry; exact PySem.EqNone.eq_none_int (fin_bl I q (by simp))
    | str j => obtain ⟨t', rfl⟩ := ry; exact PySem.EqNone.eq_none_str (fin_bl I q (by simp))
    | _ => exact absurd (show false = true from hs) Bool.false_ne_true
  | bl i =>
    cases rx
    cases y with
    | non => cases ry; exact PySem.EqNone.eq_bool_none (fin_bl I q (by simp))
    | bl j => cases ry; exact eq_bool (fin_bl I q dec_bl)
    | str j => obtain ⟨t', rfl⟩ := ry; exact PySem.EqMixed.eq_bool_str (fin_bl I q (by simp))
    | _ => exact absurd (show false = true from hs) Bool.false_ne_true
  | int i =>
    obtain ⟨t, rfl⟩ := rx
    cases y with
    | non => cases ry; exact PySem.EqNone.eq_int_none (fin_bl I q (by simp))
    | int j => obtain ⟨t', rfl⟩ := ry; exact eq_int (fin_bl I q dec_int)
    | str j => obtain ⟨t', rfl⟩ := ry; exact PySem.EqMixed.eq_int_str (fin_bl I q (by simp))
    | _ => exact absurd (show false = true from hs) Bool.false_ne_true
  | str i =>
    obtain ⟨t, rfl⟩ := rx
    cases y with
    | non => cases ry; exact PySem.EqNone.eq_str_none (fin_bl I q (by simp))
    | bl j => cases ry; exact PySem.EqMixed.eq_str_bool (fin_bl I q (by simp))
    | int j => obtain ⟨t', rfl⟩ := ry; exact PySem.EqMixed.eq_str_int (fin_bl I q (by simp))
    | str j => obtain ⟨t', rfl⟩ := ry; exact eq_str (fin_bl I q dec_str)
    | _ => exact absurd (show false = true from hs) Bool.false_ne_true
  | byt i =>
    obtain ⟨t, rfl⟩ := rx
    cases y with
    | byt j => obtain ⟨t', rfl⟩ := ry; exact PySem.W.eq_bytes (fin_bl I q dec_byt)
    | _ => exact absurd (show false = true from hs) Bool.false_ne_true
  | _ => cases y <;> exact absurd (show false = true from hs) Bool.false_ne_true
theorem op_ne : OpR X (compareOp .NotEq) rNe := by
  intro pins s σ H x y v u Q I rx ry h
  obtain ⟨hs, q⟩ := h
  cases x with
  | non =>
    cases rx
    cases y with
    | non => cases ry; exact PySem.EqNone.ne_none_none (fin_bl I q (by simp))
    | bl j => cases ry; exact PySem.EqNone.ne_none_bool (fin_bl I q (by simp))
    | int j => obtain ⟨t', rfl⟩ := ry; exact PySem.EqNone.ne_none_int (fin_bl I q (by simp))
    | str j => obtain ⟨t', rfl⟩ := ry; exact PySem.EqNone.ne_none_str (fin_bl I q (by simp))
    | _ => exact absurd (show false = true from hs) Bool.false_ne_true
  | bl i =>
    cases rx
    cases y with
    | non => cases ry; exact PySem.EqNone.ne_bool_none (fin_bl I q (by simp))
    | bl j => cases ry; exact ne_bool (fin_bl I q (congrArg not dec_bl))
    | str j => obtain ⟨t', rfl⟩ := ry; exact PySem.EqMixed.ne_bool_str (fin_bl I q (by simp))
    | _ => exact absurd (show false = true from hs) Bool.false_ne_true
  | int i =>
    obtain ⟨t, rfl⟩ := rx
    cases y with
    | non => cases ry; exact PySem.EqNone.ne_int_none (fin_bl I q (by simp))
    | int j => obtain ⟨t', rfl⟩ := ry; exact ne_int (fin_bl I q (congrArg not dec_int))
    | str j => obtain ⟨t', rfl⟩ := ry; exact PySem.EqMixed.ne_int_str (fin_bl I q (by simp))
    | _ => exact absurd (show false = true from hs) Bool.false_ne_true
  | str i =>
    obtain ⟨t, rfl⟩ := rx
    cases y with
    | non => cases ry; exact PySem.EqNone.ne_str_none (fin_bl I q (by simp))
    | bl j => cases ry; exact PySem.EqMixed.ne_str_bool (fin_bl I q (by simp))
    | int j => obtain ⟨t', rfl⟩ := ry; exact PySem.EqMixed.ne_str_int (fin_bl I q (by simp))
    | str j => obtain ⟨t', rfl⟩ := ry; exact ne_str (fin_bl I q (congrArg not dec_str))
    | _ => exact absurd (show false = true from hs) Bool.false_ne_true
  | byt i =>
    obtain ⟨t, rfl⟩ := rx
    cases y with
    | byt j => obtain ⟨t', rfl⟩ := ry; exact PySem.W.ne_bytes (fin_bl I q (congrArg not dec_byt))
    | _ => exact absurd (show false = true from hs) Bool.false_ne_true
  | _ => cases y <;> exact absurd (show false = true from hs) Bool.false_ne_true

theorem op_lt : OpR X (compareOp .Lt) (rI0 fun i j => .bl (decide (i < j))) := opB0 fun _ _ _ _ _ _ _ q => lt_int q
theorem op_le : OpR X (compareOp .LtE) (rI0 fun i j => .bl (decide (i ≤ j))) := opB0 fun _ _ _ _ _ _ _ q => le_int q
theorem op_gt : OpR X (compareOp .Gt) (rI0 fun i j => .bl (decide (j < i))) := opB0 fun _ _ _ _ _ _ _ q => gt_int q
theorem op_ge : OpR X (compareOp .GtE) (rI0 fun i j => .bl (decide (j ≤ i))) := opB0 fun _ _ _ _ _ _ _ q => ge_int q


/-- is, is not of two objects that are tracked lists or instances -/
def isObj : HO → Bool
  | .lst _ => true
  | .ins _ _ _ => true
  | _ => false


theorem nomark (b : Expr) {op : CmpOp} (h : op ≠ .In := by decide) (h2 : op ≠ .NotIn := by decide) : behindInMarks op b = false := by
  have e1 : (op == CmpOp.In) = false := by cases op <;> first | rfl | exact absurd rfl h
  have e2 : (op == CmpOp.NotIn) = false := by cases op <;> first | rfl | exact absurd rfl h2
  cases b <;> simp [behindInMarks, e1, e2]
/-- a comparison as a value; hm: nomark b, or (for in, not in) by with_unfolding_all rfl -/
theorem pe_cmpR {op : CmpOp} {r : R2} (ho : OpR X (compareOp op) r) (ha : PE X a ta) (hb : PE X b tb) (hm : behindInMarks op b = false) : PE X (.Compare a [op] [b] pos) (tOp r ta tb) := by
  intro pins s σ H Q I h
  exact wpAny_Compare1 (binT ha hb I h fun v u s2 x y H2 I2 rx ry q => ho pins s2 σ H2 x y v u Q I2 rx ry q) hm
/-- a reading of a value as a test -/
def tTest (t : TE) : TT := fun σ H Q => t σ H fun x H' => ∃ k, x = .bl k ∧ Q k H'
theorem pt_cmpR {op : CmpOp} {r : R2} (ho : OpR X (compareOp op) r) (ha : PE X a ta) (hb : PE X b tb) (hm : behindInMarks op b = false) : PT X (.Compare a [op] [b] pos) (tTest (tOp r ta tb)) := by
  intro pins s σ H Q I h
  refine wpAny_isTrue_Compare1 (thn (ha pins s σ H _ I h) fun v s1 ⟨x, H1, I1, r1, q1⟩ => thn (hb pins s1 σ H1 _ I1 q1) fun u s2 ⟨y, H2, I2, r2, q2⟩ =>
    thn (ho pins s2 σ H2 x y v u _ I2 r1 r2 q2) fun c s3 ⟨z, H3, I3, r3, k, e, q3⟩ => ?_) hm
  subst e
  cases r3
  exact wpAny_truthy_bool ⟨H3, I3, q3⟩
/-- a op1 b op2 c -/
def tChain (r r' : R2) (ta tb tc : TE) : TE := fun σ H Q => ta σ H fun x H1 => tb σ H1 fun y H2 => r x y H2 fun z H3 => ∃ k, z = .bl k ∧
  (if k = true then tc σ H3 fun w' H4 => r' y w' H4 Q else Q (.bl false) H3)
theorem pe_chain {op op' : CmpOp} {r r' : R2} (ho : OpR X (compareOp op) r) (ho' : OpR X (compareOp op') r') (ha : PE X a ta) (hb : PE X b tb) (hc : PE X c tc)
    (hm : lastMarks [op, op'] [b, c] = false := by with_unfolding_all rfl) : PE X (.Compare a [op, op'] [b, c] pos) (tChain r r' ta tb tc) := by
  intro pins s σ H Q I h
  refine Compare_chain (thn (ha pins s σ H _ I h) fun v s1 ⟨x, H1, I1, r1, q1⟩ => chain_link (thn (hb pins s1 σ H1 _ I1 q1) fun u s2 ⟨y, H2, I2, r2, q2⟩ =>
    thn (ho pins s2 σ H2 x y v u _ I2 r1 r2 q2) fun d s3 ⟨z, H3, I3, r3, k, e, q3⟩ => ?_)) hm
  subst e
  cases r3
  refine wpAny_truthy_bool ?_
  cases k with
  | false => exact ite_ff ⟨.bl false, H3, I3, rfl, q3⟩
  | true => exact ite_tt (chain_last (thn (hc pins s3 σ H3 _ I3 q3) fun w' s4 ⟨z', H4, I4, r4, q4⟩ => ho' pins s4 σ H4 y z' u w' Q I4 r2 r4 q4))
theorem pt_chain {op op' : CmpOp} {r r' : R2} (ho : OpR X (compareOp op) r) (ho' : OpR X (compareOp op') r') (ha : PE X a ta) (hb : PE X b tb) (hc : PE X c tc)
    (hm : lastMarks [op, op'] [b, c] = false := by with_unfolding_all rfl) : PT X (.Compare a [op, op'] [b, c] pos) (tTest (tChain r r' ta tb tc)) := by
  intro pins s σ H Q I h
  refine isTrue_chain (thn (ha pins s σ H _ I h) fun v s1 ⟨x, H1, I1, r1, q1⟩ => test_link (thn (hb pins s1 σ H1 _ I1 q1) fun u s2 ⟨y, H2, I2, r2, q2⟩ =>
    thn (ho pins s2 σ H2 x y v u _ I2 r1 r2 q2) fun d s3 ⟨z, H3, I3, r3, k, e, q3⟩ => ?_)) hm
  subst e
  cases r3
  refine wpAny_truthy_bool ?_
  cases k with
  | false =>
    obtain ⟨k', e', q'⟩ := q3
    cases e'
    exact ite_ff ⟨H3, I3, q'⟩
  | true =>
    refine ite_tt (test_last (thn (hc pins s3 σ H3 _ I3 q3) fun w' s4 ⟨z', H4, I4, r4, q4⟩ => thn (ho' pins s4 σ H4 y z' u w' _ I4 r2 r4 q4) fun d' s5 ⟨z2, H5, I5, r5, k2, e2, q5⟩ => ?_))
    subst e2
    cases r5
    exact wpAny_truthy_bool ⟨H5, I5, q5⟩

/-! ### truth -/
/-- a value's truth by the abstract heap -/
def TruV (K : PySem.W.Frag) (x : V) (H : Hp) (k : Bool) : Prop :=
  match x with
  | .non => k = false
  | .bl b => k = b
  | .int i => k = (i != 0)
  | .str y => y.length ≤ sizeLine ∧ k = ((y.length : Int) != 0)
  | .byt y => y.size ≤ sizeLine ∧ k = ((y.size : Int) != 0)
  | .ref p => (∃ xs, SqL K H p xs ∧ k = !xs.isEmpty) ∨ (∃ xs, SqT K H p xs ∧ k = !xs.isEmpty) ∨ ∃ kvs, H p = some (.dK kvs) ∧ k = !kvs.isEmpty
  | _ => False
theorem line63 : (sizeLine : Nat) < 2 ^ 63 := by rw [sizeLine_eq]; decide

/-! ### strs and bytes -/

def PlainIxT (b : Expr) : Prop := ∀ o i, subscripted b false o i = operate [o, i] (getItem o i)

/-! ### scalar builtins, by CallR -/
theorem vals1 {x : V} {us : List Value} (r : Vals [x] us) : ∃ u, us = [u] ∧ RelV x u := by
  cases r with
  | cons r1 r2 => cases r2; exact ⟨_, rfl, r1⟩
theorem vals2 {x y : V} {us : List Value} (r : Vals [x, y] us) : ∃ u w', us = [u, w'] ∧ RelV x u ∧ RelV y w' := by
  cases r with
  | cons r1 r2 =>
    cases r2 with
    | cons r3 r4 => cases r4; exact ⟨_, _, rfl, r1, r3⟩
theorem call_max2 (hc : X.calm = true) : CallR X (.builtin "max") (fun xs H Q => ∃ i j, xs = [.int i, .int j] ∧ Q (.int (if j > i then j else i)) H) := by
  intro pins s σ H xs us Q I r h
  obtain ⟨i, j, rfl, q⟩ := h
  obtain ⟨u, w', rfl, ⟨t, rfl⟩, ⟨t', rfl⟩⟩ := vals2 r
  refine max_two_ints (I.ok.hd hc) fun h' tk k => ⟨_, H, I.kept k, ?_, q⟩
  by_cases hj : j > i
  · rw [if_pos hj, if_pos hj]; exact ⟨_, rfl⟩
  · rw [if_neg hj, if_neg hj]; exact ⟨_, rfl⟩
/-- len of a str, a bytes, a list, a tuple -/
def LenV (K : PySem.W.Frag) (x : V) (H : Hp) (n : Nat) : Prop :=
  match x with
  | .str y => y.length ≤ sizeLine ∧ n = y.length
  | .byt y => y.size ≤ sizeLine ∧ n = y.size
  | .ref p => (∃ xs, SqL K H p xs ∧ n = xs.length) ∨ ∃ xs, SqT K H p xs ∧ n = xs.length
  | _ => False
end
end L2

namespace L2
open PySem PySem.Spec PyProof.Rows

/-! ### an instance, its attributes a map -/
structure ObjM (h : Heap) (x dx C : Addr) (mA : Str → Option Value) : Prop where
  obj : h.get? x = some (PySem.W.instObj C dx)
  ns : h.Ns1 dx mA
  ne : dx ≠ x

theorem lookIn_ns {h : Heap} {dx : Addr} {mA : Str → Option Value} (n : h.Ns1 dx mA) : ∃ od, h.get? dx = some od ∧ ∀ name, PySem.W.lookIn name od = some (mA name) := by
  obtain ⟨o, es, ep, ho, hd, hk, _, hm⟩ := n
  refine ⟨o, ho, fun name => ?_⟩
  have e := hm name
  unfold nsFind findBy at e
  rw [← Array.find?_toList] at e
  unfold PySem.W.lookIn
  rw [hd]
  dsimp only
  split
  · rename_i y q
    rw [q] at e
    exact congrArg some e
  · rename_i q
    rw [q] at e
    have a : es.toList.any (·.refKey) = false := by
      rw [List.any_eq_false]
      intro y hy
      obtain ⟨z, t, hkey⟩ := hk y (Array.mem_toList_iff.mp hy)
      simp [DictEntry.refKey, hkey]
    have a' : ¬ es.toList.any (·.refKey) = true := by rw [a]; exact Bool.false_ne_true
    rw [if_neg a']
    exact congrArg some e

theorem ObjM.look {h : Heap} {x dx C : Addr} {mA : Str → Option Value} (I : ObjM h x dx C mA) : ∃ od, PySem.W.InstAt h x (PySem.W.instObj C dx) C (some od) ∧ ∀ name, PySem.W.lookIn name od = some (mA name) :=
  let ⟨od, ho, hl⟩ := lookIn_ns I.ns
  ⟨od, ⟨I.obj, rfl, rfl, ho⟩, hl⟩

section
variable {prog : Program} {w : World} {A : Around} {E : Value → Shared → Prop} {s : Shared} {K : PySem.W.Frag} {x dx C f : Addr} {mA : Str → Option Value} {name : Str} {v : Value}





end

/-! ### the attributes as a list of pairs -/
def putF (f : Str) (v : V) : List (Str × V) → List (Str × V)
  | [] => [(f, v)]
  | (g, x) :: r => if g = f then (g, v) :: r else (g, x) :: putF f v r


section
variable {P : Program} {w : World} {H H' : Hp} {h h' : Heap} {a C dx : Addr} {fs fs' : List (Str × V)}
theorem ins_get (hok : HOk P w H h) (e : H a = some (.ins C dx fs)) : ∃ mA, ObjM h a dx C mA ∧ (∀ f, RelO (fs.lookup f) (mA f)) ∧ PySem.Within mA (fs.map (·.1)) ∧ fs.length ≤ 1000 ∧ H dx = some (.own a) := by
  obtain ⟨d, z, ne, ob, mA, n, r, q⟩ := (show ObjOk P w H h a (.ins C dx fs) from hok a _ e)
  exact ⟨mA, ⟨ob, n, ne⟩, r, q, z, d⟩
end

/-! ### what of the text a class must have -/
structure Cls (K : PySem.W.Frag) (C : Addr) : Prop where
  pg : PySem.W.plainGet K C Str.empty = true
  hd : PySem.W.hasDictIn K C = true
  po : PySem.W.plainOver K C = true
  sa : PySem.W.findIn K (.ref C) "__setattr__" = some (some (.builtin "object.__setattr__"))
theorem Cls.get {K : PySem.W.Frag} {C : Addr} (c : Cls K C) (f : Str) : PySem.W.plainGet K C f = true := c.pg
/-- no class of it has the name -/
def NoAttr (K : PySem.W.Frag) (C : Addr) (f : Str) : Prop := PySem.W.findIn K (.ref C) f = some none
/-- a constant of the class -/
structure Con (K : PySem.W.Frag) (C : Addr) (f : Str) (v : V) (u : Value) : Prop where
  at_ : PySem.W.findIn K (.ref C) f = some (some u)
  rel : RelV v u
  get : PySem.W.specialIn K u "__get__" = some none
  cp : PySem.W.copiedNames.contains f = false
/-- a method: a plain def of the class or of one above it -/
structure Meth (K : PySem.W.Frag) (C : Addr) (m : Str) (f : Addr) : Prop where
  at_ : PySem.W.findIn K (.ref C) m = some (some (.ref f))
  fn : PySem.W.isFn K (.ref f) = true
  kp : PySem.W.keepIn K (.ref f) = true

section
variable {X : Cx} {pins : List (Addr × Obj)} {σ : St} {H : Hp} {s : Shared} {a C dx : Addr} {fs : List (Str × V)} {f : Str} {v : V} {A : Around} {E : Value → Shared → Prop}






end

/-! ### readings and rules -/
/-- e.f, an attribute of the instance -/
def tFld (K : PySem.W.Frag) (ta : TE) (f : Str) : TE := fun σ H Q => ta σ H fun x H1 => ∃ a C dx fs v, x = .ref a ∧ H1 a = some (.ins C dx fs) ∧ Cls K C ∧ NoAttr K C f ∧ fs.lookup f = some v ∧ Q v H1
/-- e.f, a constant of the class -/
def tCon (K : PySem.W.Frag) (ta : TE) (f : Str) : TE := fun σ H Q => ta σ H fun x H1 => ∃ a C dx fs v u, x = .ref a ∧ H1 a = some (.ins C dx fs) ∧ Cls K C ∧ Con K C f v u ∧ fs.lookup f = none ∧ Q v H1
/-- e.f = value -/
def sFld (K : PySem.W.Frag) (ta tv : TE) (f : Str) : TS := fun D σ H => tv σ H fun y H1 => ta σ H1 fun x H2 => ∃ a C dx fs, x = .ref a ∧ H2 a = some (.ins C dx fs) ∧ Cls K C ∧ NoAttr K C f ∧ fs.length < 1000 ∧
  D.nx σ (upd H2 a (.ins C dx (putF f y fs)))
/-- an augmented operator on two values -/
def InOp (X : Cx) (op : Operator) (rd : V → V → Hp → VK → Prop) : Prop :=
  ∀ (pins : List (Addr × Obj)) (s : Shared) (σ : St) (H : Hp) (x y : V) (u v : Value) (Q : VK), Inv X pins σ H s → RelV x u → RelV y v → rd x y H Q → wpAny (model X.prog X.w) X.A (inplaceOp op u v) (EP X pins σ Q) X.xe s
/-- e.f op= value -/
def sFldAug (K : PySem.W.Frag) (ta tv : TE) (rd : V → V → Hp → VK → Prop) (f : Str) : TS := fun D σ H => ta σ H fun x H1 => ∃ a C dx fs v, x = .ref a ∧ H1 a = some (.ins C dx fs) ∧ Cls K C ∧ NoAttr K C f ∧ fs.lookup f = some v ∧
  tv σ H1 fun y H2 => rd v y H2 fun z H3 => ∃ dx' fs', H3 a = some (.ins C dx' fs') ∧ fs'.length < 1000 ∧ D.nx σ (upd H3 a (.ins C dx' (putF f z fs')))

section
variable {X : Cx} {o e value : Expr} {f : Str} {pos pos' tpos : Pos} {ta tv : TE}
def rAdd : V → V → Hp → VK → Prop := fun x y H Q => ∃ i j, x = .int i ∧ y = .int j ∧ Q (.int (i + j)) H
def rSub : V → V → Hp → VK → Prop := fun x y H Q => ∃ i j, x = .int i ∧ y = .int j ∧ Q (.int (i - j)) H

end

/-! ### isinstance -/
section
variable {X : Cx} {pins : List (Addr × Obj)} {σ : St} {H : Hp} {s : Shared} {A : Around} {E : Value → Shared → Prop} {Q : Value → Shared → Prop} {c : Value} {b : Bool}
/-- the type of a value, as the fragment's deciders take it; for an instance its class -/
inductive TyOf (K : PySem.W.Frag) (H : Hp) : V → Value → Prop where
  | non : TyOf K H .non (.type "NoneType")
  | bl (x : Bool) : TyOf K H (.bl x) (.type "bool")
  | int (i : Int) : TyOf K H (.int i) (.type "int")
  | str (x : Str) : TyOf K H (.str x) (.type "str")
  | flt (x : UInt64) : TyOf K H (.flt x) (.type "float")
  | lst {a : Addr} {xs : List V} (e : H a = some (.lst xs)) : TyOf K H (.ref a) (.type "list")
  | frz {a : Addr} {o : Obj} {xs : List V} (e : H a = some (.frz o (.lst xs))) : TyOf K H (.ref a) (.type "list")
  | tup {a : Addr} {xs : List V} (e : H a = some (.tup xs)) : TyOf K H (.ref a) (.type "tuple")
  | dK {a : Addr} {kvs : List (Key × V)} (e : H a = some (.dK kvs)) : TyOf K H (.ref a) (.type "dict")
  | dT {a : Addr} {kvs : List (List Key × V)} (e : H a = some (.dT kvs)) : TyOf K H (.ref a) (.type "dict")
  | ins {a C dx : Addr} {fs : List (Str × V)} (e : H a = some (.ins C dx fs)) (cl : Cls K C) (ha : PySem.W.findIn K (.ref C) "__class__" = some (some (.builtin "object.__class__")))
      (hn : PySem.W.specialIn K (.builtin "object.__class__") "__get__" = some (some (.builtin "getset_descriptor.__get__"))) (htk : PySem.W.takesIn K (.builtin "object.__class__") = some true)
      (hm : PySem.W.mroIn K C (.type "object") = some true) : TyOf K H (.ref a) (.ref C)
/-- isinstance(x, c) for one class c, a built-in or an own one: kitOne's answer -/
theorem isinst_ok {x : V} {u t : Value} (I : Inv X pins σ H s) (rx : RelV x u) (ty : TyOf X.K H x t) (e : PySem.W.kitOne X.K t c = some b) (h : ∀ tk, Q (.bool b) { s with toks := tk }) :
    wpAny (model X.prog X.w) A (call (.builtin "isinstance") [u, c]) Q E s := by
  cases ty with
  | non => cases (show u = Value.none from rx); exact PySem.W.kia_one PySem.W.kitx_none I.kIn True.intro e (fun z => nomatch z) h
  | bl y => cases (show u = Value.bool y from rx); exact PySem.W.kia_one PySem.W.kitx_bool I.kIn True.intro e (fun z => nomatch z) h
  | int i => obtain ⟨t, q⟩ := (show ∃ t, u = Value.int i t from rx); cases q; exact PySem.W.kia_one PySem.W.kitx_int I.kIn True.intro e (fun z => nomatch z) h
  | str y => obtain ⟨t, q⟩ := (show ∃ t, u = Value.str y t from rx); cases q; exact PySem.W.kia_one PySem.W.kitx_str I.kIn True.intro e (fun z => nomatch z) h
  | flt y => obtain ⟨t, q⟩ := (show ∃ t, u = Value.float y t from rx); cases q; exact PySem.W.kia_one PySem.W.kitx_float I.kIn True.intro e (fun z => nomatch z) h
  | @lst a xs ea =>
    cases (show u = Value.ref a from rx)
    obtain ⟨_, _, n, _, h1⟩ := (show ObjOk X.prog X.w H s.heap a (.lst xs) from I.hok a _ ea)
    exact PySem.W.kia_one PySem.W.kitx_list I.kIn ⟨_, h1, rfl⟩ e (fun z => nomatch z) h
  | @frz a ob xs ea =>
    cases (show u = Value.ref a from rx)
    obtain ⟨_, _, _, n, _, h1⟩ := (show ObjOk X.prog X.w H s.heap a (.frz ob (.lst xs)) from I.hok a _ ea)
    exact PySem.W.kia_one PySem.W.kitx_list I.kIn ⟨_, h1, rfl⟩ e (fun z => nomatch z) h
  | @tup a xs ea =>
    cases (show u = Value.ref a from rx)
    obtain ⟨_, _, _, p⟩ := (show ObjOk X.prog X.w H s.heap a (.tup xs) from I.hok a _ ea)
    obtain ⟨o, h1, h2, _⟩ := p.is
    exact PySem.W.kia_one PySem.W.kitx_tuple I.kIn ⟨o, h1, h2⟩ e (fun z => nomatch z) h
  | @dK a kvs ea =>
    cases (show u = Value.ref a from rx)
    obtain ⟨_, _, vs, _, p⟩ := (show ObjOk X.prog X.w H s.heap a (.dK kvs) from I.hok a _ ea)
    obtain ⟨o, es, ep, h1, h2, _⟩ := p
    exact PySem.W.kia_one PySem.W.kitx_dict I.kIn ⟨o, h1, h2.1⟩ e (fun z => nomatch z) h
  | @dT a kvs ea =>
    cases (show u = Value.ref a from rx)
    obtain ⟨_, _, xs, _, o, es, ep, h1, h2, _⟩ := (show ObjOk X.prog X.w H s.heap a (.dT kvs) from I.hok a _ ea)
    exact PySem.W.kia_one PySem.W.kitx_dict I.kIn ⟨o, h1, h2.1⟩ e (fun z => nomatch z) h
  | @ins a C dx fs ea cl ha hn htk hm =>
    cases (show u = Value.ref a from rx)
    obtain ⟨mA, O, _⟩ := ins_get I.hok ea
    obtain ⟨od, J, _⟩ := O.look
    exact PySem.W.kia_one (PySem.W.kitx_own (cl.get _) cl.hd ha hn htk hm) I.kIn J e (fun z => nomatch z) h
end
end L2

namespace L2
open PySem PySem.Spec PyProof.Rows

/-! ### room -/
structure Room (k : Nat) (A : Around) : Prop where
  hd : A.handled = none
  dp : A.depth + 3 * k + 5 < recursionLimit
  un : A.units + 16 * k + 200 < cLine
theorem Room.mono {j k : Nat} {A : Around} (r : Room k A) (h : j ≤ k) : Room j A := ⟨r.hd, by have := r.dp; omega, by have := r.un; omega⟩
theorem Room.deeper {k : Nat} {A : Around} (r : Room (k + 1) A) (env : Env) : Room k (A.deeper env) :=
  ⟨r.hd, by have := r.dp; show A.depth + 1 + 3 * k + 5 < _; omega, by have := r.un; show A.units + 3 + 16 * k + 200 < _; omega⟩
theorem Room.depth {k : Nat} {A : Around} (r : Room k A) : A.depth < recursionLimit := by have := r.dp; omega
theorem Room.units {k : Nat} {A : Around} (r : Room k A) : A.units + 64 < cLine := by have := r.un; omega

/-! ### argument lists and displays -/
def tNil : TA := fun _ H Q => Q [] H
def tCons (ta : TE) (tr : TA) : TA := fun σ H Q => ta σ H fun x H1 => tr σ H1 fun xs H2 => Q (x :: xs) H2
section
variable {X : Cx} {e : Expr} {es : List Expr} {te : TE} {t : TA} {pos : Pos}
theorem pa_nil : PA X [] tNil := fun _ _ _ _ H Q I h => Calls.spliced_nil ⟨[], H, I, .nil, h⟩
theorem pa_cons (ha : PE X e te) (hr : PA X es t) (hs : starEach (e :: es) X.env = (false, eval e X.env) :: starEach es X.env := by rfl) : PA X (e :: es) (tCons te t) := by
  intro pos pins s σ H Q I h
  rw [hs]
  show wpAny _ _ (spliced ((false, eval e X.env) :: backTo pos (starEach es X.env))) _ _ s
  refine Calls.spliced_cons (thn (ha pins s σ H _ I h) fun u s1 ⟨x, H1, I1, r1, q1⟩ => ?_)
  exact thn (hr pos pins s1 σ H1 _ I1 q1) fun us s2 ⟨xs, H2, I2, r2, q2⟩ => ⟨x :: xs, H2, I2, .cons r1 r2, q2⟩

/-- a tuple, a list of written items -/
def tTup (t : TA) : TE := fun σ H Q => t σ H fun xs H1 => xs.length ≤ sizeLine ∧ ∀ p, H1 p = none → Q (.ref p) (upd H1 p (.tup xs))
def tLst (t : TA) : TE := fun σ H Q => t σ H fun xs H1 => xs.length ≤ sizeLine ∧ ∀ p, H1 p = none → Q (.ref p) (upd H1 p (.lst xs))
theorem pe_tup {x1} (h : PA X es t) : PE X (.Tuple es x1 pos) (tTup t) := by
  intro pins s σ H Q I hq
  refine wpAny_Tuple_spliced (thn (h pos pins s σ H _ I hq) fun us s1 ⟨xs, H1, I1, r, z, q⟩ => ⟨by rw [← r.length]; exact z, ?_⟩)
  have hf : H1 s1.heap.objs.size = none := I1.hok.fresh (Nat.le_refl _)
  refine ⟨.ref s1.heap.objs.size, upd H1 s1.heap.objs.size (.tup xs), I1.laid (t' := s1.toks) (fun b u e => Heap.get?_push_of_some _ e) (Nat.le_refl _) ?_, rfl, q _ hf⟩
  exact ⟨z, us, r, ⟨_, Heap.get?_push_size _ rfl, _, rfl⟩⟩
theorem pe_lst (h : PA X es t) : PE X (.List es pos) (tLst t) := by
  intro pins s σ H Q I hq
  refine wpAny_List_spliced (thn (h pos pins s σ H _ I hq) fun us s1 ⟨xs, H1, I1, r, z, q⟩ => ⟨by rw [← r.length]; exact z, ?_⟩)
  have hf : H1 s1.heap.objs.size = none := I1.hok.fresh (Nat.le_refl _)
  refine ⟨.ref s1.heap.objs.size, upd H1 s1.heap.objs.size (.lst xs), I1.laid (t' := s1.toks) (fun b u e => Heap.get?_push_of_some _ e) (Nat.le_refl _) ?_, rfl, q _ hf⟩
  exact ⟨z, us, 0, r, Heap.get?_push_size _ rfl⟩
end

/-! ### what a def promises -/
/-- a def's promise: the bound arguments in the parameters' order, the heap, the wanted end, the wanted exception -/
abbrev Sp := List V → Hp → VK → XK → Prop
/-- how an exception lies behind a call (file 08 gives it): the callers' frames, abstract heap and state ahead of the call, the wish, the exception, the state -/
abbrev CXT := List Env → Hp → Shared → XK → Value → Shared → Prop

/-- the state at a call -/
structure Env0 (P : Program) (w : World) (K : PySem.W.Frag) (mg : Str → Option Value) (base : Heap) (A : Around) (outer : List Env) (s : Shared) (H : Hp) : Prop where
  frames : A.frames = some outer
  mod : Mod K mg base
  bs : ∀ b o, base.get? b = some o → s.heap.get? b = some o ∧ H b = none
  bsz : base.objs.size ≤ s.heap.objs.size
  funs : s.heap.FunFrames base outer
  frf : ∀ b ∈ frs outer, H b = none
  hok : HOk P w H s.heap
  bare : AllBare s.gens
/-- a call's end -/
def CE (outer : List Env) (P : Program) (w : World) (H : Hp) (s : Shared) (Q : VK) (u : Value) (s' : Shared) : Prop :=
  ∃ v H', s'.os = s.os ∧ AllBare s'.gens ∧ Un (frs outer) [] H H' s.heap s'.heap ∧ HOk P w H' s'.heap ∧ RelV v u ∧ Q v H'
def CR (CX : CXT) (outer : List Env) (P : Program) (w : World) (H : Hp) (s : Shared) (Q : VK) (E : XK) (r : Result) (s' : Shared) : Prop :=
  match r with
  | .ok (.ret u) => CE outer P w H s Q u s'
  | .ok _ => False
  | .error e => CX outer H s E e s'
structure FnOk (P : Program) (w : World) (K : PySem.W.Frag) (mg : Str → Option Value) (base : Heap) (CX : CXT) (k : Nat) (f : Addr) (fd : FuncData) (ps : List Str) (sp : Sp) : Prop where
  len : ∀ vs H Q E, sp vs H Q E → vs.length = ps.length
  run : ∀ (A : Around) (outer : List Env) (s : Shared) (H : Hp) (args : Args) (us : List Value) (vs : List V) (Q : VK) (E : XK), Room k A → Env0 P w K mg base A outer s H → BindsTo s fd args (ps.zip us) → Vals vs us → sp vs H Q E →
    codeAny (model P w) A (.call (.ref f) args) (CR CX outer P w H s Q E) s
theorem FnOk.mono {P : Program} {w : World} {K : PySem.W.Frag} {mg : Str → Option Value} {base : Heap} {CX : CXT} {j k : Nat} {f : Addr} {fd : FuncData} {ps : List Str} {sp : Sp} (F : FnOk P w K mg base CX j f fd ps sp) (h : j ≤ k) :
    FnOk P w K mg base CX k f fd ps sp := ⟨F.len, fun A outer s H args us vs Q E hr => F.run A outer s H args us vs Q E (hr.mono h)⟩


section
variable {X : Cx} {pins : List (Addr × Obj)} {σ : St} {H : Hp} {s s' : Shared}
/-- from a body: what a callee wants -/
theorem Inv.env0 (I : Inv X pins σ H s) : Env0 X.prog X.w X.K X.mg X.base X.A X.stack s H :=
  ⟨I.ok.frames, I.ok.mod, I.bs, Nat.le_trans I.ok.bsz I.sz, I.stack, I.stkFree, I.hok, I.bare⟩
/-- behind a call -/
theorem Inv.after {Q : VK} {u : Value} (I : Inv X pins σ H s) (h : CE X.stack X.prog X.w H s Q u s') : EP X pins σ Q u s' := by
  obtain ⟨v, H', os, bare, un, hok, r, q⟩ := h
  obtain ⟨hh, g, d, t, os'⟩ := s'
  obtain rfl : os' = s.os := os
  exact ⟨v, H', I.call (h' := hh) (g' := g) (d' := d) (t' := t) (ch := []) un hok bare (fun b z => absurd z (by simp)), r, q⟩
end

/-! ### calls -/
/-- f(..): the written arguments, then the defaults dvs; E: what is wanted of an exception -/
def tCall (sp : Sp) (dvs : List V) (E : XK) (t : TA) : TE := fun σ H Q => t σ H fun vs H1 => sp (vs ++ dvs) H1 Q E
/-- o.m(..) of an instance of the class at C -/
def tMeth (C : Addr) (m : Str) (sp : Sp) (dvs : List V) (E : XK) (ta : TE) (t : TA) : TE := fun σ H Q => ta σ H fun x H1 => ∃ a dx fs, x = .ref a ∧ H1 a = some (.ins C dx fs) ∧ fs.lookup m = none ∧
  t σ H1 fun vs H2 => sp (x :: (vs ++ dvs)) H2 Q E
/-- C(..): a new instance and its dict, then __init__ -/
def tMake (C : Addr) (sp : Sp) (dvs : List V) (E : XK) (t : TA) : TE := fun σ H Q => t σ H fun vs H1 => ∀ x dx, H1 x = none → H1 dx = none → dx ≠ x →
  sp (.ref x :: (vs ++ dvs)) (upd (upd H1 dx (.own x)) x (.ins C dx [])) (fun v H2 => v = .non ∧ Q (.ref x) H2) E

/-- how the parameters are bound: us the positional arguments, kw the keywords' values by name, ds the defaults that fill up -/
def Binds (K : PySem.W.Frag) (fd : FuncData) (ps : List Str) (ds : List Value) : Prop :=
  ∀ (s : Shared) (us : List Value), K.In s.heap → (us ++ ds).length = ps.length → BindsTo s fd ⟨us, []⟩ (ps.zip (us ++ ds))
/-- every parameter is given -/
theorem Binds.all {K : PySem.W.Frag} {fd : FuncData} {ps : List Str} (h : ∀ us : List Value, us.length = ps.length → bindArgs fd ⟨us, []⟩ = pure (ps.zip us)) : Binds K fd ps [] := fun s us _ hl => by
  rw [List.append_nil] at hl ⊢
  exact .of_eq (h us hl)

/-- an exception of a callee reaches what this body wants of exceptions -/
def Passes (CX : CXT) (X : Cx) (E : XK) : Prop := ∀ (pins : List (Addr × Obj)) (σ : St) (H : Hp) (s : Shared) (e : Value) (s' : Shared), Inv X pins σ H s → CX X.stack H s E e s' → X.xe e s'

section
variable {X : Cx} {CX : CXT} {k : Nat} {f C : Addr} {fd : FuncData} {ps : List Str} {sp : Sp} {dvs : List V} {ds : List Value} {E : XK} {x m : Str} {p pos apos : Pos} {e o : Expr} {es : List Expr} {ta : TE} {t : TA}

/-- the callee runs -/
theorem run_fn {pins : List (Addr × Obj)} {σ : St} {H : Hp} {s : Shared} {Q : VK} {us : List Value} {vs : List V} (F : FnOk X.prog X.w X.K X.mg X.base CX k f fd ps sp) (hr : Room k X.A) (hb : Binds X.K fd ps ds) (hd : Vals dvs ds) (hx : Passes CX X E)
    (I : Inv X pins σ H s) (r : Vals vs us) (h : sp (vs ++ dvs) H Q E) : wpAny (model X.prog X.w) X.A (call (.ref f) us) (EP X pins σ Q) X.xe s := by
  have r2 : Vals (vs ++ dvs) (us ++ ds) := r.append hd
  have hl : (us ++ ds).length = ps.length := by rw [← r2.length]; exact F.len _ _ _ _ h
  refine wpAny_call (codeAny_mono (F.run X.A X.stack s H ⟨us, []⟩ (us ++ ds) (vs ++ dvs) Q E hr I.env0 (hb s us I.kIn hl) r2 h) fun r s' hq => ?_)
  cases r with
  | error e => exact hx pins σ H s e s' I hq
  | ok fl =>
    cases fl with
    | ret u => exact I.after hq
    | next => exact False.elim hq
    | brk => exact False.elim hq
    | cont => exact False.elim hq

theorem pe_call (F : FnOk X.prog X.w X.K X.mg X.base CX k f fd ps sp) (hr : Room k X.A) (hg : Gl X x) (hm : X.mg x = some (.ref f)) (hk : PySem.W.keepIn X.K (.ref f) = true) (hb : Binds X.K fd ps ds) (hd : Vals dvs ds) (hx : Passes CX X E)
    (ha : PA X (e :: es) t) (hdb : (x == ("__debug__" : Str)) = false := by decide) (he : starEach (e :: es) X.env = (false, eval e X.env) :: starEach es X.env := by rfl) (hpl : (backTo pos (starEach es X.env)).any (·.1) = false := by rfl) :
    PE X (.Call (.Name x p) (e :: es) [] pos) (tCall sp dvs E t) := by
  intro pins s σ H Q I h
  refine wpAny_Call_Name_kw (ld_glob I hg hm ?_ hdb)
  refine PySem.W.callWith_K (h₀ := X.base) I.ok.mod.kin hk (thn (ha pos pins s σ H _ I h) fun us s1 ⟨vs, H1, I1, r, q⟩ => ⟨I1.kIn, ?_⟩) he hpl
  exact run_fn F hr hb hd hx I1 r q


/-- what a class must have to be made -/
structure Mk (K : PySem.W.Frag) (C f : Addr) : Prop where
  makes : PySem.W.makesIn K C = true
  init : PySem.W.findIn K (.ref C) "__init__" = some (some (.ref f))
  fn : PySem.W.isFn K (.ref f) = true
  kp : PySem.W.keepIn K (.ref C) = true

end

/-! ### keywords -/
/-- the values of the keywords, from the left -/
def PK (X : Cx) (kws : List Keyword) (t : TA) : Prop :=
  ∀ (pos : Pos) (pins : List (Addr × Obj)) (s : Shared) (σ : St) (H : Hp) (Q : List V → Hp → Prop), Inv X pins σ H s → t σ H Q → wpAny (model X.prog X.w) X.A (evalAll ((backToKw pos (keywordEach kws X.env)).map (·.2))) (AP X pins σ Q) X.xe s
section
variable {X : Cx} {CX : CXT} {k : Nat} {f C : Addr} {fd : FuncData} {ps ks : List Str} {sp : Sp} {E : XK} {x m : Str} {p pos apos kpos : Pos} {e o : Expr} {es : List Expr} {kws : List Keyword} {te ta : TE} {t tk : TA} {nm : Option Str}

/-- how a call with keywords binds: g puts the positional values us and the keywords' values ws (names ks) in the parameters' order, defaults among them -/
structure KBinds (K : PySem.W.Frag) (fd : FuncData) (ps ks : List Str) (g : List Value → List Value → List Value) (gV : List V → List V → List V) : Prop where
  to : ∀ (s : Shared) (us ws : List Value), K.In s.heap → (g us ws).length = ps.length → BindsTo s fd ⟨us, ks.zip ws⟩ (ps.zip (g us ws))
  rel : ∀ {vs : List V} {us : List Value} {zs : List V} {ws : List Value}, Vals vs us → Vals zs ws → Vals (gV vs zs) (g us ws)
def tCallK (sp : Sp) (gV : List V → List V → List V) (E : XK) (t tk : TA) : TE := fun σ H Q => t σ H fun vs H1 => tk σ H1 fun zs H2 => sp (gV vs zs) H2 Q E
variable {g : List Value → List Value → List Value} {gV : List V → List V → List V}
end

/-! ### a def's body keeps its promise -/
/-- names: the parameters first -/
structure FnScope (N P : List Str) (sc : Scope) : Prop where
  kind : sc.kind = .function
  co : sc.isCoroutine = false
  gen : sc.isGenerator = false
  nd : N.Nodup
  pre : N.take P.length = P
  par : ∀ x ∈ P, sc.names.lookup x = some .local ∨ sc.names.lookup x = some .cell
  nofree : ∀ y ∈ sc.names, y.2 ≠ .free

theorem bindL_out {kindOf : Str → Option NameKind} {x : Str} : ∀ {binds : List (Str × Value)} {m : Str → Option Value}, (∀ v, (x, v) ∉ binds) → bindL kindOf binds m x = m x
  | [], _, _ => rfl
  | (n, v) :: r, m, h => by
    unfold bindL
    rw [bindL_out fun w hw => h w (List.mem_cons_of_mem _ hw)]
    split
    · have : x ≠ n := by rintro rfl; exact h v List.mem_cons_self
      simp [this]
    · rfl
theorem bindC_out {kindOf : Str → Option NameKind} {x : Str} : ∀ {binds : List (Str × Value)} {m : Str → Option Value}, (∀ v, (x, v) ∉ binds) → bindC kindOf binds m x = m x
  | [], _, _ => rfl
  | (n, v) :: r, m, h => by
    unfold bindC
    rw [bindC_out fun w hw => h w (List.mem_cons_of_mem _ hw)]
    split
    · rfl
    · have : x ≠ n := by rintro rfl; exact h v List.mem_cons_self
      simp [this]
theorem bindL_get {kindOf : Str → Option NameKind} {x : Str} {v : Value} : ∀ {P : List Str} {vs : List Value} {i : Nat} {m : Str → Option Value}, P.Nodup → P[i]? = some x → vs[i]? = some v → kindOf x = some .local →
    bindL kindOf (P.zip vs) m x = some v
  | [], _, _, _, _, h, _, _ => by simp at h
  | _ :: _, [], _, _, _, _, h, _ => by simp at h
  | p :: P, w :: vs, 0, m, nd, h1, h2, hk => by
    simp at h1 h2; subst h1; subst h2
    show bindL kindOf ((p, w) :: P.zip vs) m p = _
    unfold bindL
    rw [bindL_out fun v hv => (List.nodup_cons.mp nd).1 (List.of_mem_zip hv).1, if_pos hk]
    simp
  | p :: P, w :: vs, i + 1, m, nd, h1, h2, hk => by
    show bindL kindOf ((p, w) :: P.zip vs) m x = _
    unfold bindL
    exact bindL_get (i := i) (List.nodup_cons.mp nd).2 (by simpa using h1) (by simpa using h2) hk
theorem bindC_get {kindOf : Str → Option NameKind} {x : Str} {v : Value} : ∀ {P : List Str} {vs : List Value} {i : Nat} {m : Str → Option Value}, P.Nodup → P[i]? = some x → vs[i]? = some v → kindOf x ≠ some .local →
    bindC kindOf (P.zip vs) m x = some v
  | [], _, _, _, _, h, _, _ => by simp at h
  | _ :: _, [], _, _, _, _, h, _ => by simp at h
  | p :: P, w :: vs, 0, m, nd, h1, h2, hk => by
    simp at h1 h2; subst h1; subst h2
    show bindC kindOf ((p, w) :: P.zip vs) m p = _
    unfold bindC
    rw [bindC_out fun v hv => (List.nodup_cons.mp nd).1 (List.of_mem_zip hv).1, if_neg hk]
    simp
  | p :: P, w :: vs, i + 1, m, nd, h1, h2, hk => by
    show bindC kindOf ((p, w) :: P.zip vs) m x = _
    unfold bindC
    exact bindC_get (i := i) (List.nodup_cons.mp nd).2 (by simpa using h1) (by simpa using h2) hk

/-- the names' values at the entry -/
def start (N : List Str) (vs : List V) : St := vs.map some ++ List.replicate (N.length - vs.length) none

/-- the context of a def's body, at its entry; an exception leaves the frame, then lies as CX says -/
def cxOf (CX : CXT) (P : Program) (w : World) (K : PySem.W.Frag) (mg : Str → Option Value) (base : Heap) (N : List Str) (qual : Str) (scope : Scope) (f : Addr) (cd : Value) (A : Around) (outer : List Env) (s : Shared) (H : Hp) (E : XK) : Cx where
  prog := P
  w := w
  K := K
  mg := mg
  base := base
  A := A.deeper (envOfC qual scope s.heap.objs.size f cd)
  N := N
  s₀ := s
  H₀ := H
  env := envOfC qual scope s.heap.objs.size f cd
  outer := outer
  stack := envOfC qual scope s.heap.objs.size f cd :: outer
  ex := []
  calm := true
  fn := fun _ => true
  pn := []
  xe := fun e s' => wpAny (model P w) (A.deeper (envOfC qual scope s.heap.objs.size f cd)) (leaving (envOfC qual scope s.heap.objs.size f cd) e) (fun _ s'' => CX outer H s E e s'') (fun e' s'' => CX outer H s E e' s'') s'

theorem cell_has {sc : Scope} {n : Nat} {x : Str} (h : sc.names.lookup x = some .cell) : ∃ c, (cellsFrom n sc.names []).lookup x = some c := by
  have q := PySem.W.cellsFrom_some sc.names n [] (.inl h)
  exact Option.isSome_iff_exists.mp q

theorem inv_start {CX : CXT} {P : Program} {w : World} {K : PySem.W.Frag} {mg : Str → Option Value} {base : Heap} {N ps : List Str} {qual : Str} {scope : Scope} {f : Addr} {cd : Value} {A : Around} {outer : List Env} {s s1 : Shared} {H : Hp} {E : XK} {us : List Value} {vs : List V}
    (S : FnScope N ps scope) (hd : A.handled = none) (e0 : Env0 P w K mg base A outer s H) (hl : vs.length = ps.length) (r : Vals vs us)
    (x : InCallC s s.heap.objs.size (bindL (envOfC qual scope s.heap.objs.size f cd).kindOf (ps.zip us) fun _ => none) (cellsFrom (s.heap.objs.size + 1) scope.names []) (bindC (envOfC qual scope s.heap.objs.size f cd).kindOf (ps.zip us) fun _ => none) s1) :
    Inv (cxOf CX P w K mg base N qual scope f cd A outer s H E) [] (start N vs) H s1 := by
  have hpl : ps.length ≤ N.length := by have := congrArg List.length S.pre; rw [List.length_take] at this; omega
  obtain ⟨h1, tk, rfl, hk⟩ := x.done
  have noA : ∀ b : Addr, b ∉ (cxOf CX P w K mg base N qual scope f cd A outer s H E).ex := fun b z => absurd (show b ∈ ([] : List Addr) from z) (by simp)
  refine ⟨⟨e0.mod, S.kind, rfl, rfl, Nat.le_refl _, fun y z c h1 h2 => ?_, fun y hy => ?_, fun y c _ h => ?_, fun _ => hd, Around.frames_deeper e0.frames, .inr ⟨rfl, rfl⟩, fun b z => absurd z (noA b), e0.bs, e0.bsz, fun b _ _ => noA b, fun b z => absurd z (noA b), e0.funs, e0.frf⟩,
    rfl, e0.bare, Un.kept hk, ⟨_, x.toInCall.ns, fun i y v h1 h2 h3 => ?_⟩, fun y c h => ⟨_, x.cell y c h⟩, e0.hok.fresh (Nat.le_refl _), fun y c h => ?_, fun p hp => absurd (show p ∈ ([] : List (Addr × Obj)) from hp) (by simp), e0.hok.kept hk, ?_⟩
  · exact name_of_addr x.apart (PySem.mem_of_lookup h1) (PySem.mem_of_lookup h2)
  · have hy : scope.names.lookup y = some .cell ∨ scope.names.lookup y = some .free := hy
    rcases hy with hy | hy
    · exact cell_has hy
    · exact absurd rfl (S.nofree _ (PySem.mem_of_lookup hy))
  · exact Nat.le_of_lt (x.above y c (PySem.mem_of_lookup h))
  · have hi : i < vs.length := by
      unfold start at h2
      by_cases hi : i < vs.length
      · exact hi
      · rw [List.getElem?_append_right (by simpa using hi)] at h2
        rw [List.getElem?_replicate] at h2
        split at h2 <;> cases h2
    have ha : vs[i]? = some v := by
      unfold start at h2
      rw [List.getElem?_append_left (by simpa using hi), List.getElem?_map] at h2
      cases e : vs[i]? with
      | none => rw [e] at h2; cases h2
      | some a => rw [e] at h2; cases h2; rfl
    obtain ⟨u, hu, rv⟩ := r.get ha
    have hp : ps[i]? = some y := by
      rw [← S.pre, List.getElem?_take_of_lt (by omega)]; exact h1
    have ndP : ps.Nodup := by rw [← S.pre]; exact S.nd.sublist (List.take_sublist _ _)
    refine ⟨u, rv, ?_⟩
    rcases S.par y (List.mem_of_getElem? hp) with k | k
    · exact .inl ⟨k, bindL_get ndP hp hu k⟩
    · obtain ⟨c, e⟩ := cell_has (n := s.heap.objs.size + 1) k
      refine .inr ⟨.inl k, c, e, ?_⟩
      have q := x.cell y c e
      rw [bindC_get ndP hp hu (by show scope.names.lookup y ≠ _; rw [k]; decide)] at q
      exact q
  · exact e0.hok.fresh (Nat.le_of_lt (x.above y c (PySem.mem_of_lookup h)))
  · unfold start
    show _ = N.length
    rw [List.length_append, List.length_map, List.length_replicate]
    omega

/-- THE RULE: a def (or a method) of the text, by its body. The body's reading t is chosen for each entry; it is run at the parameters' values -/
theorem fn_of {CX : CXT} {P : Program} {w : World} {K : PySem.W.Frag} {mg : Str → Option Value} {base : Heap} {k : Nat} {f : Addr} {name qual : Str} {params : Arguments} {body : List Stmt} {scope : Scope} {dV kV doc pm cdv ct oc : Value} {an od : Option Addr}
    {osl : Array (Option Value)} {N ps : List Str} {sp : Sp} (lk : K.lookup f = some ⟨oc, od, .func (PySem.W.fnOf name qual params body scope dV kV doc pm an cdv ct), osl⟩) (hcd : PySem.W.codeIn K cdv qual = true) (S : FnScope N ps scope)
    (len : ∀ vs H Q E, sp vs H Q E → vs.length = ps.length)
    (hbody : ∀ (A : Around) (outer : List Env) (s : Shared) (H : Hp) (vs : List V) (Q : VK) (E : XK), Room k (A.deeper (envOfC qual scope s.heap.objs.size f cdv)) → sp vs H Q E →
      ∃ t, PSs (cxOf CX P w K mg base N qual scope f cdv A outer s H E) body t ∧ t { nx := fun _ H' => Q .non H', rt := Q } (start N vs) H) :
    FnOk P w K mg base CX (k + 1) f (PySem.W.fnOf name qual params body scope dV kV doc pm an cdv ct) ps sp := by
  refine ⟨len, fun A outer s H args us vs Q E hr e0 hb r hsp => ?_⟩
  have hl := len _ _ _ _ hsp
  have KX : K.In s.heap := e0.mod.kin.keeps fun b o e => (e0.bs b o e).1
  have lim : s.heap.NoLimit := e0.mod.nolimit.keeps fun b o e => (e0.bs b o e).1
  have hkind : ∀ y ∈ ps.zip us, scope.names.lookup y.1 = some .local ∨ (scope.names.lookup y.1 = some .cell ∧ ((cellsFrom (s.heap.objs.size + 1) scope.names []).lookup y.1).isSome = true) := fun ⟨n, v⟩ hy => by
    rcases S.par n (List.of_mem_zip hy).1 with q | q
    · exact .inl q
    · exact .inr ⟨q, PySem.W.cellsFrom_some _ _ _ (.inl q)⟩
  refine codeAny_call_function hr.depth (KX _ _ lk) rfl S.co S.gen rfl (PySem.W.codeRec_of KX hcd) (hb _ _ _ _ ?_)
  refine wpAny_newFunctionEnv_cells S.kind hkind fun env he s1 x => ?_
  subst he
  refine ⟨lim.keeps x.toInCall.keep, codeAny_func ?_⟩
  obtain ⟨t, ht, hq⟩ := hbody A outer s H vs Q E (hr.deeper _) hsp
  have I : Inv (cxOf CX P w K mg base N qual scope f cdv A outer s H E) [] (start N vs) H s1 := inv_start S hr.hd e0 hl r x
  refine wpAny_mono (ht [] s1 (start N vs) H _ I hq) (fun fl s' hs => ?_) fun e s' hs => hs
  have fin : ∀ {σ' : St} {H' : Hp} {v : V} {u : Value}, Inv (cxOf CX P w K mg base N qual scope f cdv A outer s H E) [] σ' H' s' → RelV v u → Q v H' → CE outer P w H s Q u s' :=
    fun {σ' H' v u} J rv q => ⟨v, H', J.os, J.bare, J.base, J.hok, rv, q⟩
  cases fl with
  | ret u =>
    obtain ⟨v, σ', H', J, rv, q⟩ := hs
    exact fin J rv q
  | next =>
    obtain ⟨σ', H', J, q⟩ := hs
    exact fin (v := V.non) (u := Value.none) J rfl q
  | brk =>
    obtain ⟨_, _, _, q⟩ := hs
    exact False.elim q
  | cont =>
    obtain ⟨_, _, _, q⟩ := hs
    exact False.elim q
end L2

namespace L2
open PySem PySem.Spec PyProof.Rows
section
variable {X : Cx} {x : Str} {p pos : Pos} {e : Expr} {es : List Expr} {t : TA} {id T : String} {r : List V → Hp → VK → Prop}

def tCB (r : List V → Hp → VK → Prop) (t : TA) : TE := fun σ H Q => t σ H fun vs H1 => r vs H1 Q
/-- f(e, ..), f a built-in function -/
theorem pe_callB (hc : CallR X (.builtin id) r) (hg : Gl X x) (hm : X.mg x = none) (hv : bootBuiltins x = some (.builtin id)) (ha : PA X (e :: es) t) (hn : x ≠ "__name__" := by decide) (hdb : (x == ("__debug__" : Str)) = false := by decide)
    (he : starEach (e :: es) X.env = (false, eval e X.env) :: starEach es X.env := by rfl) (hpl : (backTo pos (starEach es X.env)).any (·.1) = false := by rfl) : PE X (.Call (.Name x p) (e :: es) [] pos) (tCB r t) := by
  intro pins s σ H Q I h
  refine wpAny_Call_Name_kw (ld_blt I hg hm hv ?_ hn hdb)
  exact PyProof.Rows.callWith_builtin1 (thn (ha pos pins s σ H _ I h) fun us s1 ⟨vs, H1, I1, r1, q1⟩ => hc pins s1 σ H1 vs us Q I1 r1 q1) he hpl
/-- T(e, ..), T a built-in type -/
theorem pe_callTy (hc : CallR X (.type T) r) (hg : Gl X x) (hm : X.mg x = none) (hv : bootBuiltins x = some (.type T)) (ha : PA X (e :: es) t) (hn : x ≠ "__name__" := by decide) (hdb : (x == ("__debug__" : Str)) = false := by decide)
    (he : starEach (e :: es) X.env = (false, eval e X.env) :: starEach es X.env := by rfl) (hpl : (backTo pos (starEach es X.env)).any (·.1) = false := by rfl) : PE X (.Call (.Name x p) (e :: es) [] pos) (tCB r t) := by
  intro pins s σ H Q I h
  refine wpAny_Call_Name_kw (ld_blt I hg hm hv ?_ hn hdb)
  exact PyProof.Rows.callWith_type1 (thn (ha pos pins s σ H _ I h) fun us s1 ⟨vs, H1, I1, r1, q1⟩ => hc pins s1 σ H1 vs us Q I1 r1 q1) he hpl
end
end L2

namespace HT
open PySem PyProof.Rows

/-- t < u of tuples of ints -/
def lexLt : List Int → List Int → Bool
  | [], [] => false
  | [], _ :: _ => true
  | _ :: _, [] => false
  | x :: xs, y :: ys => if x = y then lexLt xs ys else decide (x < y)


section
open PySem.SeqAt
open PySem.AutoSeq1 (wpAny_loadPart')
open PySem.MeetsSeq PySem.MeetsSeq2 PySem.MeetsSeq3

end

section
variable {prog : Program} {w : World} {A : Around} {E : Value → Shared → Prop} {s : Shared}


/-- t + u, t not empty -/
theorem cat_tup {t b : Addr} {vs ws : List Value} {Q : Value → Shared → Prop} (ht : IsTup s.heap t vs.toArray) (hb : IsTup s.heap b ws.toArray) (hv : vs ≠ [])
    (h1 : ws = [] → Q (.ref t) s) (h2 : ws ≠ [] → Q (.ref s.heap.objs.size) { s with heap := s.heap.push { cls := .type "tuple", data := .seq (vs ++ ws).toArray } })
    (hsz : vs.length + ws.length ≤ sizeLine) : wpAny (model prog w) A (binaryOp .Add (.ref t) (.ref b)) Q E s := by
  obtain ⟨⟨cls, dd, data, sl⟩, ho, hc, n, hd⟩ := id ht
  obtain ⟨⟨cls2, dd2, data2, sl2⟩, ho2, hc2, n2, hd2⟩ := id hb
  simp only at hc hd hc2 hd2
  subst hc hd hc2 hd2
  have e : vs.toArray ++ ws.toArray = (vs ++ ws).toArray := by simp
  by_cases hw : ws = []
  · exact concat_meets ⟨_, ho, rfl⟩ ⟨_, ho2, rfl⟩ noFill_tuple_add seq_tuple_add PySem.F.slot_tuple_add PySem.F.entry_tuple_add (PySem.F.args_tuple_add_2 _ _)
      (tuple_addW1 t b vs.toArray ws.toArray n n2 dd dd2 sl sl2 (by simpa using hv) (by simp [hw])) ⟨ho, ho2, h1 hw⟩
  · refine concat_meets ⟨_, ho, rfl⟩ ⟨_, ho2, rfl⟩ noFill_tuple_add seq_tuple_add PySem.F.slot_tuple_add PySem.F.entry_tuple_add (PySem.F.args_tuple_add_2 _ _)
      (tuple_addW2 t b vs.toArray ws.toArray n n2 dd dd2 sl sl2 (by simpa using hv) (by simpa using hw) (by rw [List.size_toArray, List.size_toArray]; exact hsz)) ⟨ho, ho2, ?_⟩
    rw [e]
    exact h2 hw

/-! ### t[a:b], not the whole -/
/-- a slice's bound as a place among n (d where it is left out) -/
def sIx (n d : Nat) : Option Int → Nat
  | none => d
  | some v => if v < 0 then (v + (n : Int)).toNat else min v.toNat n
theorem sIx_none (n d : Nat) : sIx n d none = d := rfl
theorem sIx_nat (n d k : Nat) : sIx n d (some (k : Int)) = min k n := by
  show (if (k : Int) < 0 then ((k : Int) + (n : Int)).toNat else min (k : Int).toNat n) = min k n
  rw [if_neg (by omega), Int.toNat_natCast]
theorem sIx_le (n d : Nat) (hd : d ≤ n) (o : Option Int) : sIx n d o ≤ n := by
  cases o with
  | none => exact hd
  | some v =>
    show (if v < 0 then (v + (n : Int)).toNat else min v.toNat n) ≤ n
    by_cases hv : v < 0
    · rw [if_pos hv]; omega
    · rw [if_neg hv]; exact Nat.min_le_right _ _
theorem clip_eq (v : Int) (n d : Nat) : (if v < 0 then max (v + (n : Int)) 0 else min v (n : Int)) = ((sIx n d (some v) : Nat) : Int) := by
  show (if v < 0 then max (v + (n : Int)) 0 else min v (n : Int)) = (((if v < 0 then (v + (n : Int)).toNat else min v.toNat n) : Nat) : Int)
  by_cases hv : v < 0
  · simp only [if_pos hv]; omega
  · simp only [if_neg hv]; omega
theorem adjust_gen (lo hi : Option Int) (n : Nat) : Builtin.Slice.sliceAdjust lo hi 1 (n : Int) = (((sIx n 0 lo : Nat) : Int), ((sIx n n hi : Nat) : Int)) := by
  have h1 : ¬ ((1 : Int) < 0) := by omega
  unfold Builtin.Slice.sliceAdjust
  simp only [h1, if_false]
  refine Prod.ext ?_ ?_
  · cases lo with
    | none => rfl
    | some v => exact clip_eq v n 0
  · cases hi with
    | none => rfl
    | some v => exact clip_eq v n n
theorem places_gen (i j : Nat) : Builtin.Slice.slicePlaces (i : Int) (j : Int) 1 = j - i := by
  unfold Builtin.Slice.slicePlaces
  have h1 : (1 : Int) > 0 := by omega
  simp only [h1, if_true, Int.ediv_one]
  split <;> omega
theorem slicePart_ {v : Value} {o : Option Int} {Q : Option Int → Shared → Prop} (p : IsPart v o) (h : Q o s) : wpAny (model prog w) A (Builtin.Slice.slicePartIndex v) Q E s := by
  cases p with
  | none => exact slicePart_none h
  | int i t => exact slicePart_int h
theorem sliceApplied_gen {sl : Addr} {vl vu : Value} {lo hi : Option Int} {n : Nat} {Q : Int × Int × Nat → Shared → Prop} (hs : s.heap.IsSliceOf sl vl vu .none) (pl : IsPart vl lo) (pu : IsPart vu hi)
    (h : Q (((sIx n 0 lo : Nat) : Int), 1, sIx n n hi - sIx n 0 lo) s) : wpAny (model prog w) A (Builtin.Slice.sliceApplied (.ref sl) (pure (n : Int))) Q E s := by
  obtain ⟨os, hos, hcs, hds⟩ := id hs
  unfold Builtin.Slice.sliceApplied Builtin.Slice.sliceFields
  refine wpAny_bind (wpAny_bind (wpAny_field hos hds (x := vl) rfl (wpAny_bind (wpAny_field hos hds (x := vu) rfl (wpAny_bind (wpAny_field hos hds (x := .none) rfl (wpAny_pure ?_)))))))
  refine wpAny_bind (slicePart_none ?_)
  show wpAny _ _ (if ((1 : Int) == 0) = true then _ else _) _ _ s
  rw [if_neg (by decide)]
  refine wpAny_bind (slicePart_ pl (wpAny_bind (slicePart_ pu (wpAny_bind (wpAny_pure ?_)))))
  show wpAny _ _ (match Builtin.Slice.sliceAdjust lo hi 1 (n : Int) with | (lo, hi) => pure (lo, (1 : Int), Builtin.Slice.slicePlaces lo hi 1)) _ _ s
  rw [adjust_gen lo hi n]
  show wpAny _ _ (pure (((sIx n 0 lo : Nat) : Int), (1 : Int), Builtin.Slice.slicePlaces ((sIx n 0 lo : Nat) : Int) ((sIx n n hi : Nat) : Int) 1)) _ _ s
  rw [places_gen]
  exact wpAny_pure h
theorem pick_gen (xs : Array Value) (i k : Nat) : ((List.range k).filterMap fun (m : Nat) => xs[((i : Int) + (m : Int) * 1).toNat]?).toArray = ((xs.toList.drop i).take k).toArray := by
  have e : (fun (m : Nat) => xs[((i : Int) + (m : Int) * 1).toNat]?) = fun m => xs[i + m]? := by
    funext m
    have : ((i : Int) + (m : Int) * 1).toNat = i + m := by omega
    rw [this]
  rw [e]
  have := pick_run xs i k
  rw [List.filterMap_map] at this
  have e2 : ((fun x => xs[x]?) ∘ fun x => i + x) = fun m => xs[i + m]? := rfl
  rw [e2] at this
  rw [this]

theorem getItem_tuple_cut {t sl : Addr} {items : Array Value} {vl vu : Value} {lo hi : Option Int} {Q : Value → Shared → Prop} (ht : IsTup s.heap t items) (hs : s.heap.IsSliceOf sl vl vu .none) (pl : IsPart vl lo) (pu : IsPart vu hi)
    (hw : ¬ (sIx items.size 0 lo = 0 ∧ sIx items.size items.size hi = items.size))
    (h : Q (.ref s.heap.objs.size) { s with heap := s.heap.push { cls := .type "tuple", data := .seq ((items.toList.drop (sIx items.size 0 lo)).take (sIx items.size items.size hi - sIx items.size 0 lo)).toArray } })
    (hsz : items.size ≤ sizeLine) : wpAny (model prog w) A (getItem (.ref t) (.ref sl)) Q E s := by
  have htake : sizeOk (.seq ((items.toList.drop (sIx items.size 0 lo)).take (sIx items.size items.size hi - sIx items.size 0 lo)).toArray) := by
    show ((items.toList.drop (sIx items.size 0 lo)).take (sIx items.size items.size hi - sIx items.size 0 lo)).toArray.size ≤ sizeLine
    rw [List.size_toArray, List.length_take, List.length_drop, Array.length_toList]
    omega
  have hj : sIx items.size items.size hi ≤ items.size := sIx_le _ _ (Nat.le_refl _) hi
  obtain ⟨os, hos, hcs, hds⟩ := id hs
  have hTs : s.TypeIs (.ref sl) "slice" := ⟨os, hos, hcs⟩
  unfold getItem
  try with_reducible refine wpAny_holding ?_
  first | refine wpAny_bind (wpAny_pure ?_) | skip
  refine wpAny_bind (wpAny_sequenceKey ht.typeIs (by decide) ?_)
  refine wpAny_bind (wpAny_callSpecial?_slot (name := Str.ofString "__getitem__") ht.typeIs PyProof.Rows.slot_tuple_getitem
    (wpAny_call_entry PyProof.Rows.slot_tuple_getitem ht.typeIs entry_tuple_getitem ?_ (args_tuple_getitem _ _)))
  show wpAny _ _ (Builtin.Tuple.tupleItemsOf (.ref t) >>= _) _ _ s
  refine wpAny_bind (tupleItemsOf_ ht ?_)
  refine wpAny_bind (wpAny_typeOf hTs ?_)
  rw [if_pos (by decide)]
  refine wpAny_bind (sliceApplied_gen hs pl pu ?_)
  have hno : ¬ ((((sIx items.size 0 lo : Nat) : Int) == 0 && (1 : Int) == 1 && (sIx items.size items.size hi - sIx items.size 0 lo) == items.size) = true) := by
    intro q
    rw [Bool.and_eq_true, Bool.and_eq_true] at q
    have q1 : ((sIx items.size 0 lo : Nat) : Int) = 0 := eq_of_beq q.1.1
    have q2 : sIx items.size items.size hi - sIx items.size 0 lo = items.size := eq_of_beq q.2
    exact hw ⟨by omega, by omega⟩
  show wpAny _ _ (if (((sIx items.size 0 lo : Nat) : Int) == 0 && (1 : Int) == 1 && (sIx items.size items.size hi - sIx items.size 0 lo) == items.size) = true then _ else _) _ _ s
  rw [if_neg hno, pick_gen]
  first
    | exact wpAny_bind (m := Builtin.Tuple.tupleExact _) (wpAny_newObj_type (wpAny_pure ⟨_, rfl, wpAny_pure h⟩) htake)
    | exact wpAny_bind (m := Builtin.Tuple.tupleExact _) (wpAny_newObj_type (wpAny_bind (wpAny_pure (wpAny_pure ⟨_, rfl, wpAny_pure h⟩))) htake)
    | exact wpAny_bind (wpAny_bind (m := Builtin.Tuple.tupleExact _) (wpAny_newObj_type (wpAny_pure (wpAny_pure ⟨_, rfl, wpAny_pure h⟩)) htake))
    | exact wpAny_bind (wpAny_bind (m := Builtin.Tuple.tupleExact _) (wpAny_newObj_type (wpAny_pure ⟨_, rfl, wpAny_pure h⟩) htake))
end
end HT

namespace L2
open PySem PySem.Spec PyProof.Rows

/-! ### the parts of a slice -/
abbrev TO := St → Hp → (Option Int → Hp → Prop) → Prop
/-- a slice's part (left out, or an int) -/
def PO (X : Cx) (e : Option Expr) (t : TO) : Prop :=
  ∀ (pins : List (Addr × Obj)) (s : Shared) (σ : St) (H : Hp) (Q : Option Int → Hp → Prop), Inv X pins σ H s → t σ H Q →
    wpAny (model X.prog X.w) X.A (evalPart e X.env) (fun u s' => ∃ o H', Inv X pins σ H' s' ∧ IsPart u o ∧ Q o H') X.xe s
def tNoPart : TO := fun _ H Q => Q none H
def tPart (t : TE) : TO := fun σ H Q => t σ H fun x H1 => ∃ i, x = .int i ∧ Q (some i) H1


section
variable {X : Cx} {e : Expr} {te : TE} {lo hi : Option Expr} {tl th : TO} {pos p2 : Pos}

theorem po_none : PO X none tNoPart := by
  intro pins s σ H Q I h
  rw [evalPart_none]
  exact wpAny_pure ⟨none, H, I, .none, h⟩
theorem po_some (h : PE X e te) : PO X (some e) (tPart te) := by
  intro pins s σ H Q I hw
  rw [evalPart_some]
  refine thn (h pins s σ H _ I hw) fun u s1 ⟨x, H1, I1, r1, q1⟩ => ?_
  obtain ⟨i, rfl, q⟩ := q1
  obtain ⟨t, rfl⟩ := r1
  exact ⟨some i, H1, I1, .int i t, q⟩

/-- what a slice of a value is, by values: the slice object stands at sl -/
def SlR (X : Cx) (r : V → Option Int → Option Int → Hp → VK → Prop) : Prop :=
  ∀ (pins : List (Addr × Obj)) (s : Shared) (σ : St) (H : Hp) (x : V) (v vl vu : Value) (lo hi : Option Int) (sl : Addr) (Q : VK), Inv X pins σ H s → RelV x v → s.heap.IsSliceOf sl vl vu .none → IsPart vl lo → IsPart vu hi → r x lo hi H Q →
    ∃ T id, typeLookup (.type T) "__getitem__" = pure (some (.builtin id)) ∧ s.TypeIs v T ∧ wpAny (model X.prog X.w) X.A (getItem v (.ref sl)) (EP X pins σ Q) X.xe s
def tSl (r : V → Option Int → Option Int → Hp → VK → Prop) (te : TE) (tl th : TO) : TE := fun σ H Q => te σ H fun x H1 => tl σ H1 fun l H2 => th σ H2 fun u H3 => r x l u H3 Q
/-- a[lo:hi], any a -/
theorem pe_slice {r : V → Option Int → Option Int → Hp → VK → Prop} (hr : SlR X r) (he : PE X e te) (hl : PO X lo tl) (hu : PO X hi th) : PE X (.Subscript e (.Slice lo hi none p2) pos) (tSl r te tl th) := by
  intro pins s σ H Q I h
  refine Subscript_ (thn (he pins s σ H _ I h) fun v s1 ⟨x, H1, I1, r1, q1⟩ => ?_)
  refine wpAny_Slice (thn (hl pins s1 σ H1 _ I1 q1) fun vl s2 ⟨l, H2, I2, pl, q2⟩ => thn (hu pins s2 σ H2 _ I2 q2) fun vu s3 ⟨u, H3, I3, pu, q3⟩ => ?_)
  rw [evalPart_none]
  refine wpAny_pure ?_
  have I4 : Inv X pins σ H3 { s3 with heap := s3.heap.push { cls := .type "slice", data := .fields #[vl, vu, .none] } } := I3.kept (t' := s3.toks) fun b ob q => Heap.get?_push_of_some _ q
  obtain ⟨T, id, hT, ht, hg⟩ := hr pins { s3 with heap := s3.heap.push { cls := .type "slice", data := .fields #[vl, vu, .none] } } σ H3 x v vl vu l u s3.heap.objs.size Q I4 r1 (Heap.IsSliceOf.new ..) pl pu q3
  show wpAny (model X.prog X.w) X.A (subscriptTail e (.Slice lo hi none p2) v (.ref s3.heap.objs.size)) (EP X pins σ Q) X.xe { s3 with heap := s3.heap.push { cls := .type "slice", data := .fields #[vl, vu, .none] } }
  exact tail_any (ops := [.ref s3.heap.objs.size, v]) ht hT hg (by with_unfolding_all rfl)

/-- the items of xs[lo:hi] -/
def cutV (xs : List V) (lo hi : Option Int) : List V := (xs.drop (HT.sIx xs.length 0 lo)).take (HT.sIx xs.length xs.length hi - HT.sIx xs.length 0 lo)
theorem cutV_length (xs : List V) (lo hi : Option Int) : (cutV xs lo hi).length ≤ xs.length := by
  unfold cutV
  rw [List.length_take, List.length_drop]
  omega
/-- t[lo:hi], not the whole of it (the whole would be t itself) -/
def rSlT (K : PySem.W.Frag) : V → Option Int → Option Int → Hp → VK → Prop := fun x lo hi H Q => ∃ a xs, x = .ref a ∧ SqT K H a xs ∧
  ¬ (HT.sIx xs.length 0 lo = 0 ∧ HT.sIx xs.length xs.length hi = xs.length) ∧ ∀ p, H p = none → Q (.ref p) (upd H p (.tup (cutV xs lo hi)))
theorem sl_tup : SlR X (rSlT X.K) := by
  intro pins s σ H x v vl vu lo hi sl Q I rx hs pl pu h
  obtain ⟨a, xs, rfl, hx, hw, q⟩ := h
  cases rx
  obtain ⟨its, r, ht, hz⟩ := I.tuple hx
  have hlen : its.toArray.size = xs.length := by rw [List.size_toArray]; exact r.length.symm
  refine ⟨"tuple", _, PyProof.Rows.slot_tuple_getitem.lookup, ht.typeIs, ?_⟩
  refine HT.getItem_tuple_cut ht hs pl pu (by rw [hlen]; exact hw) ?_ (by rw [hlen]; exact hz)
  rw [hlen]
  refine ⟨.ref s.heap.objs.size, _, I.laid (t' := s.toks) (o := .tup (cutV xs lo hi)) (fun b ob q => Heap.get?_push_of_some _ q) (Nat.le_refl _) ?_, rfl, q _ (I.hok.fresh (Nat.le_refl _))⟩
  exact ⟨Nat.le_trans (cutV_length xs lo hi) hz, _, (r.drop (HT.sIx xs.length 0 lo)).take (HT.sIx xs.length xs.length hi - HT.sIx xs.length 0 lo), IsTp.new _ _⟩

/-! ### t < u, t + u -/
def rLtT (K : PySem.W.Frag) : R2 := fun x y H Q => ∃ a b ns ms, x = .ref a ∧ y = .ref b ∧ SqT K H a (ns.map V.int) ∧ SqT K H b (ms.map V.int) ∧ Q (.bl (HT.lexLt ns ms)) H
/-- t + u, t not empty: u empty gives t itself -/
def rCatT (K : PySem.W.Frag) : R2 := fun x y H Q => ∃ a b xs ys, x = .ref a ∧ y = .ref b ∧ SqT K H a xs ∧ SqT K H b ys ∧ xs ≠ [] ∧ xs.length + ys.length ≤ sizeLine ∧
  (ys = [] → Q (.ref a) H) ∧ (ys ≠ [] → ∀ p, H p = none → Q (.ref p) (upd H p (.tup (xs ++ ys))))
theorem Vals.nil_iff {xs : List V} {us : List Value} (r : Vals xs us) : us = [] ↔ xs = [] := by
  cases r with
  | nil => simp
  | cons _ _ => simp
theorem op_catT : OpR X (binaryOp .Add) (rCatT X.K) := by
  intro pins s σ H x y v u Q I rx ry h
  obtain ⟨a, b, xs, ys, rfl, rfl, ha, hb, hx, hz, q1, q2⟩ := h
  cases rx
  cases ry
  obtain ⟨its, r1, p1, _⟩ := I.tuple ha
  obtain ⟨its2, r2, p2, _⟩ := I.tuple hb
  refine HT.cat_tup p1 p2 (fun z => hx (r1.nil_iff.mp z)) (fun z => ⟨.ref a, H, I, rfl, q1 (r2.nil_iff.mp z)⟩) (fun z => ?_) (by rw [← r1.length, ← r2.length]; exact hz)
  refine ⟨.ref s.heap.objs.size, _, I.laid (t' := s.toks) (o := .tup (xs ++ ys)) (fun b ob q => Heap.get?_push_of_some _ q) (Nat.le_refl _) ?_, rfl, q2 (fun w => z (r2.nil_iff.mpr w)) _ (I.hok.fresh (Nat.le_refl _))⟩
  exact ⟨by rw [List.length_append]; exact hz, _, r1.append r2, IsTp.new _ _⟩
end
end L2

namespace L2
open PySem PySem.Spec PyProof.Rows

/-! ### places -/
/-- the place that an index of any sign means -/
def ixN (n : Nat) (i : Int) : Option Nat := if 0 ≤ i then (if i < n then some i.toNat else none) else if -(n : Int) ≤ i then some (i + n).toNat else none
def atI {α : Type} (xs : List α) (i : Int) : Option α := (ixN xs.length i).bind fun j => xs[j]?
theorem ixN_seq {n : Nat} {i : Int} {j : Nat} (h : ixN n i = some j) : seqIndex? i n = some j ∧ j < n ∧ -(n : Int) ≤ i ∧ i < n := by
  unfold ixN at h
  by_cases h0 : 0 ≤ i
  · rw [if_pos h0] at h
    by_cases h1 : i < n
    · rw [if_pos h1] at h
      have e : i.toNat = j := Option.some.inj h
      exact ⟨by rw [seqIndex_of h0 h1, e], by omega, by omega, h1⟩
    · rw [if_neg h1] at h; cases h
  · rw [if_neg h0] at h
    by_cases h1 : -(n : Int) ≤ i
    · rw [if_pos h1] at h
      have e : (i + n).toNat = j := Option.some.inj h
      exact ⟨by rw [seqIndex_neg (by omega) h1, e], by omega, h1, by omega⟩
    · rw [if_neg h1] at h; cases h
theorem atI_get {α : Type} {xs : List α} {i : Int} {v : α} (h : atI xs i = some v) : ∃ j, seqIndex? i xs.length = some j ∧ xs[j]? = some v ∧ j < xs.length ∧ -(xs.length : Int) ≤ i ∧ i < xs.length := by
  unfold atI at h
  cases e : ixN xs.length i with
  | none => rw [e] at h; cases h
  | some j =>
    rw [e] at h
    obtain ⟨h1, h2, h3, h4⟩ := ixN_seq e
    exact ⟨j, h1, h, h2, h3, h4⟩
theorem atI_nat {α : Type} {xs : List α} {j : Nat} {v : α} (h : xs[j]? = some v) : atI xs (j : Int) = some v := by
  have hj : j < xs.length := (List.getElem?_eq_some_iff.mp h).1
  have e : ixN xs.length (j : Int) = some j := by
    unfold ixN
    rw [if_pos (by omega), if_pos (by omega)]; simp
  unfold atI; rw [e]; exact h

/-! ### what may be subscripted -/
/-- what stands as an index of a plain subscript -/
def PlainIx (b : Expr) : Prop := ∀ o i, subscripted b false o i = operate [o, i] (getItem o i)
/-- a subscript by values -/
def IxR (X : Cx) (r : R2) : Prop :=
  ∀ (value slice : Expr) (pins : List (Addr × Obj)) (s : Shared) (σ : St) (H : Hp) (x y : V) (v u : Value) (Q : VK), Inv X pins σ H s → RelV x v → RelV y u → r x y H Q →
    subscripted slice false v u = operate [v, u] (getItem v u) → wpAny (model X.prog X.w) X.A (subscriptTail value slice v u) (EP X pins σ Q) X.xe s
/-- a call of a builtin's method by values: the receiver, the arguments -/
def MtR (X : Cx) (id : String) (r : V → List V → Hp → VK → Prop) : Prop :=
  ∀ (pins : List (Addr × Obj)) (s : Shared) (σ : St) (H : Hp) (x : V) (xs : List V) (v : Value) (us : List Value) (Q : VK), Inv X pins σ H s → RelV x v → Vals xs us → r x xs H Q →
    wpAny (model X.prog X.w) X.A (call (.builtin id) (v :: us)) (EP X pins σ Q) X.xe s
section
variable {X : Cx} {a b : Expr} {ta tb : TE} {pos : Pos}
/-- a[b] -/
theorem pe_ix {r : R2} (hr : IxR X r) (ha : PE X a ta) (hb : PE X b tb) (hs : PlainIx b) : PE X (.Subscript a b pos) (tOp r ta tb) := by
  intro pins s σ H Q I h
  exact Subscript_ (binT ha hb I h fun v u s2 x y H2 I2 rx ry q => hr a b pins s2 σ H2 x y v u Q I2 rx ry q (hs _ _))

def rIxL (K : PySem.W.Frag) : R2 := fun x y H Q => ∃ p xs i v, x = .ref p ∧ y = .int i ∧ SqL K H p xs ∧ atI xs i = some v ∧ Q v H
def rIxT (K : PySem.W.Frag) : R2 := fun x y H Q => ∃ p xs i v, x = .ref p ∧ y = .int i ∧ SqT K H p xs ∧ atI xs i = some v ∧ Q v H
def rIxS : R2 := fun x y H Q => ∃ z i c, x = .str z ∧ y = .int i ∧ z.length ≤ sizeLine ∧ atI z.cps.toList i = some c ∧ Q (.str ⟨#[c]⟩) H
theorem ix_list : IxR X (rIxL X.K) := by
  intro value slice pins s σ H x y v u Q I rx ry h hs
  obtain ⟨p, xs, i, z, rfl, rfl, hq, he, q⟩ := h
  cases rx
  obtain ⟨t, rfl⟩ := ry
  obtain ⟨its, r, pl, hz⟩ := I.list hq
  obtain ⟨j, h1, h2, h3, h4, h5⟩ := atI_get he
  obtain ⟨w, ew, rw'⟩ := r.get h2
  have hl := r.length
  have hn := line63
  have fin : EP X pins σ Q w s := ⟨z, H, I, rw', q⟩
  by_cases h0 : 0 ≤ i
  · have hj : i.toNat = j := by
      rw [seqIndex_of h0 h5] at h1
      exact Option.some.inj h1
    exact item_listR pl.isList h0 (by omega) (by rw [hj]; simpa using ew) fin hs
  · have hj : (i + (its.toArray.size : Int)).toNat = j := by
      rw [seqIndex_neg (by omega) h4] at h1
      rw [List.size_toArray, ← hl]
      exact Option.some.inj h1
    exact subscriptTail_builtinR (x := w) pl.isList.typeIs slot_list_getitem.lookup
      (wpAny_getItem_list_neg (Q := fun r s' => r = w ∧ EP X pins σ Q r s') pl.isList (by omega) (by rw [List.size_toArray] <;> omega) (by omega) (by rw [hj]; simpa using ew) ⟨rfl, fin⟩) hs
theorem ix_tup : IxR X (rIxT X.K) := by
  intro value slice pins s σ H x y v u Q I rx ry h hs
  obtain ⟨p, xs, i, z, rfl, rfl, hq, he, q⟩ := h
  cases rx
  obtain ⟨t, rfl⟩ := ry
  obtain ⟨its, r, pl, hz⟩ := I.tuple hq
  obtain ⟨j, h1, h2, h3, h4, h5⟩ := atI_get he
  obtain ⟨w, ew, rw'⟩ := r.get h2
  have hl := r.length
  have hn := line63
  have fin : EP X pins σ Q w s := ⟨z, H, I, rw', q⟩
  exact subscriptTail_builtinR (x := w) pl.typeIs slot_tuple_getitem.lookup
    (getItem_tuple (j := j) (Q := fun r s' => r = w ∧ EP X pins σ Q r s') pl (by omega) (by omega) (by rw [List.size_toArray, ← hl]; exact h1) (by simpa using ew) ⟨rfl, fin⟩) hs
/-- list, tuple or str -/
def rIx (K : PySem.W.Frag) : R2 := fun x y H Q => rIxL K x y H Q ∨ rIxT K x y H Q ∨ rIxS x y H Q

/-! ### xs[i] = v, any sign -/
/-- the list's object behind a store -/
theorem mapSeq_set (its : List Value) (n j : Nat) (u : Value) : Obj.mapSeq (·.setIfInBounds j u) { cls := .type "list", data := .seq its.toArray n } = { cls := .type "list", data := .seq (its.set j u).toArray n } := by
  simp [Obj.mapSeq]
theorem Inv.lst {pins : List (Addr × Obj)} {σ : St} {H : Hp} {s : Shared} {p : Addr} {xs : List V} (I : Inv X pins σ H s) (h : H p = some (.lst xs)) :
    ∃ (its : List Value) (n : Nat), Vals xs its ∧ s.heap.get? p = some { cls := .type "list", data := .seq its.toArray n } ∧ xs.length ≤ sizeLine := by
  obtain ⟨z, its, n, r, e⟩ := I.hok p _ h
  exact ⟨its, n, r, e, z⟩
/-- the list at p is written by an update of its object -/
theorem Inv.lstUpd {pins : List (Addr × Obj)} {σ : St} {H : Hp} {s : Shared} {p : Addr} {xs ys : List V} {its its' : List Value} {n n' : Nat} {f : Obj → Obj} (I : Inv X pins σ H s) (h : H p = some (.lst xs))
    (ho : s.heap.get? p = some { cls := .type "list", data := .seq its.toArray n }) (hf : f { cls := .type "list", data := .seq its.toArray n } = { cls := .type "list", data := .seq its'.toArray n' }) (r : Vals ys its') (hz : ys.length ≤ sizeLine) (t : Nat) :
    Inv X pins σ (upd H p (.lst ys)) { s with heap := s.heap.update p f, toks := t } := by
  have e : (s.heap.update p f).get? p = some { cls := .type "list", data := .seq its'.toArray n' } := by
    rw [Heap.get?_update_self f ho (by rw [hf] <;> rfl), hf]
  refine I.write (x := p) (e := p) (by rw [h]; trivial) (.inl rfl) (fun b u hb q => (Heap.get?_update_other _ _ (Ne.symm hb)).trans q) ⟨_, e⟩ ?_
  exact ⟨hz, its', n', r, e⟩
def rSetL : V → V → V → Hp → (Hp → Prop) → Prop := fun o i v H Q => ∃ p xs k j, o = .ref p ∧ i = .int k ∧ H p = some (.lst xs) ∧ ixN xs.length k = some j ∧ Q (upd H p (.lst (xs.set j v)))
theorem set_list : PSet X rSetL := by
  intro pins s σ H o i v ov iv u Q I ro ri rv h
  obtain ⟨p, xs, k, j, rfl, rfl, hp, hj, q⟩ := h
  cases ro
  obtain ⟨t, rfl⟩ := ri
  obtain ⟨its, n, r, ho, hz⟩ := I.lst hp
  obtain ⟨h1, h2, h3, h4⟩ := ixN_seq hj
  have hl := r.length
  have hn := line63
  have I' : Inv X pins σ (upd H p (.lst (xs.set j v))) { s with heap := s.heap.update p (Obj.mapSeq (·.setIfInBounds j u)) } :=
    I.lstUpd hp ho (mapSeq_set its n j u) (r.set rv j) (by rw [List.length_set]; exact hz) s.toks
  by_cases h0 : 0 ≤ k
  · have hk : k.toNat = j := by
      rw [seqIndex_of h0 h4] at h1
      exact Option.some.inj h1
    exact PySem.W.ki_setAt ho h0 (by omega) (by rw [List.size_toArray, ← hl]; exact h4) (by rw [hk]; exact ⟨_, I', q⟩)
  · have hk : (k + (its.toArray.size : Int)).toNat = j := by
      rw [seqIndex_neg (by omega) h3] at h1
      rw [List.size_toArray, ← hl]
      exact Option.some.inj h1
    exact PySem.W.ki_setBack ho (by omega) (by rw [List.size_toArray, ← hl]; exact h3) (by omega) (by rw [hk]; exact ⟨_, I', q⟩)

/-! ### slices -/
/-- xs[lo:hi] of a list: a new list -/
def rSlL (K : PySem.W.Frag) : V → Option Int → Option Int → Hp → VK → Prop := fun x lo hi H Q => ∃ a xs, x = .ref a ∧ SqL K H a xs ∧ ∀ p, H p = none → Q (.ref p) (upd H p (.lst (cutV xs lo hi)))

/-! ### in, not in: flat items -/
def flatV : V → Bool
  | .non => true
  | .bl _ => true
  | .int _ => true
  | .str _ => true
  | _ => false
/-- == of flat values -/
def eqV : V → V → Bool
  | .non, .non => true
  | .bl a, .bl b => a == b
  | .bl a, .int b => (if a then 1 else 0) == b
  | .int a, .bl b => a == (if b then 1 else 0)
  | .int a, .int b => a == b
  | .str a, .str b => a == b
  | _, _ => false
/-- the items' answers, read off the values (a value's own answer does not lean on its token) -/
def eqU (x : V) (u : Value) : Bool := match u with
  | .none => eqV .non x
  | .bool b => eqV (.bl b) x
  | .int i _ => eqV (.int i) x
  | .str z _ => eqV (.str z) x
  | _ => false
def inV (x : V) (xs : List V) : Bool := xs.any fun y => eqV y x
/-- x in a list or tuple of flat items -/
def rIn (K : PySem.W.Frag) (neg : Bool) : R2 := fun x y H Q => ∃ p xs, y = .ref p ∧ (SqL K H p xs ∨ SqT K H p xs) ∧ flatV x = true ∧ xs.all flatV = true ∧ Q (.bl (if neg then !inV x xs else inV x xs)) H

/-! ### len, list(x), tuple(x) of any list or tuple that is read -/
theorem call_len_seq : CallR X (.builtin "len") (fun xs H Q => ∃ p ys, xs = [.ref p] ∧ (SqL X.K H p ys ∨ SqT X.K H p ys) ∧ Q (.int ys.length) H) := by
  intro pins s σ H xs us Q I r h
  obtain ⟨p, ys, rfl, hq, q⟩ := h
  obtain ⟨u, rfl, rx⟩ := vals1 r
  cases rx
  have hn := line63
  rcases hq with hq | hq
  · obtain ⟨its, r', pl, hz⟩ := I.list hq
    have hlen := r'.length
    exact Calls.call_len_list pl.isList (by simp only [List.size_toArray] <;> omega) ⟨.int ys.length, H, I.tok _, ⟨s.toks + 1, by rw [List.size_toArray, hlen]⟩, q⟩
  · obtain ⟨its, r', pl, hz⟩ := I.tuple hq
    have hlen := r'.length
    exact len_tuple pl (by simp only [List.size_toArray] <;> omega) ⟨.int ys.length, H, I.tok _, ⟨s.toks + 1, by rw [List.size_toArray, hlen]⟩, q⟩
theorem call_list_of : CallR X (.type "list") (fun xs H Q => ∃ p ys, xs = [.ref p] ∧ (SqL X.K H p ys ∨ SqT X.K H p ys) ∧ ∀ l, H l = none → Q (.ref l) (upd H l (.lst ys))) := by
  intro pins s σ H xs us Q I r h
  obtain ⟨p, ys, rfl, hq, q⟩ := h
  obtain ⟨u, rfl, rx⟩ := vals1 r
  cases rx
  have fin : ∀ (its : List Value), Vals ys its → ys.length ≤ sizeLine → ∀ (h' : Heap) (c' : Nat), (∀ b o', s.heap.get? b = some o' → h'.get? b = some o') →
      h'.get? s.heap.objs.size = some { cls := .type "list", dict := none, data := .seq its.toArray c', slots := #[] } → EP X pins σ Q (.ref s.heap.objs.size) { s with heap := h' } := fun its r' hz h' c' kp e =>
    ⟨.ref s.heap.objs.size, _, I.laid (t' := s.toks) kp (Nat.le_refl _) (show ObjOk X.prog X.w _ h' _ (.lst ys) from ⟨hz, its, c', r', e⟩), rfl, q _ (I.hok.fresh (Nat.le_refl _))⟩
  rcases hq with hq | hq
  · obtain ⟨its, r', pl, hz⟩ := I.list hq
    have hlen := r'.length
    obtain ⟨o, ho, hc, n, hd⟩ := pl.isList
    exact call_list_seq p (.inl rfl) ho hc hd (fun h' c' kp e => fin its r' hz h' c' kp e) (by simp only [List.size_toArray] <;> omega)
  · obtain ⟨its, r', pl, hz⟩ := I.tuple hq
    have hlen := r'.length
    obtain ⟨o, ho, hc, n, hd⟩ := pl
    exact call_list_seq p (.inr rfl) ho hc hd (fun h' c' kp e => fin its r' hz h' c' kp e) (by simp only [List.size_toArray] <;> omega)
theorem call_tuple_of : CallR X (.type "tuple") (fun xs H Q => ∃ p ys, xs = [.ref p] ∧ ((SqL X.K H p ys ∧ ∀ l, H l = none → Q (.ref l) (upd H l (.tup ys))) ∨ (SqT X.K H p ys ∧ Q (.ref p) H))) := by
  intro pins s σ H xs us Q I r h
  obtain ⟨p, ys, rfl, h⟩ := h
  obtain ⟨u, rfl, rx⟩ := vals1 r
  cases rx
  rcases h with ⟨hq, q⟩ | ⟨hq, q⟩
  · obtain ⟨its, r', pl, hz⟩ := I.list hq
    have hlen := r'.length
    refine call_tuple_list pl.isList (fun h' kp => ?_) (by simp only [List.size_toArray] <;> omega)
    have I1 : Inv X pins σ H { s with heap := h' } := I.kept (t' := s.toks) kp
    have I2 : Inv X pins σ (upd H h'.objs.size (.tup ys)) { s with heap := h'.push { cls := .type "tuple", data := .seq its.toArray } } :=
      I1.laid (t' := s.toks) (fun b o e => Heap.get?_push_of_some _ e) (Nat.le_refl _) (show ObjOk X.prog X.w _ _ _ (.tup ys) from ⟨hz, its, r', IsTp.new _ _⟩)
    exact ⟨.ref h'.objs.size, _, I2, rfl, q _ (I1.hok.fresh (Nat.le_refl _))⟩
  · obtain ⟨its, r', pl, hz⟩ := I.tuple hq
    exact call_tuple_same pl ⟨.ref p, H, I, rfl, q⟩

/-! ### the call of a builtin's method: o.m(..) -/
/-- the value is of that builtin type -/
def tyV (K : PySem.W.Frag) (T : String) (x : V) (H : Hp) : Prop := match x with
  | .str _ => T = "str"
  | .int _ => T = "int"
  | .ref p => (T = "list" ∧ ∃ xs, SqL K H p xs) ∨ (T = "tuple" ∧ ∃ o, K.lookup p = some o ∧ o.cls = .type "tuple" ∧ o.dict = none) ∨
      (T = "dict" ∧ ((∃ kvs, H p = some (.dK kvs)) ∨ ∃ kvs, H p = some (.dT kvs))) ∨ (T = "set" ∧ ∃ S n, H p = some (.set S n))
  | _ => False
theorem tyV_is {pins : List (Addr × Obj)} {σ : St} {H : Hp} {s : Shared} {T : String} {x : V} {v : Value} (I : Inv X pins σ H s) (r : RelV x v) (ty : tyV X.K T x H) :
    s.TypeIs v T ∧ ∀ a, v = .ref a → ∃ ob, s.heap.get? a = some ob ∧ ob.dict = none := by
  cases x with
  | str z =>
    obtain ⟨t, rfl⟩ := r
    cases (show T = "str" from ty)
    exact ⟨typeIs_str s z t, fun _ e => nomatch e⟩
  | int i =>
    obtain ⟨t, rfl⟩ := r
    cases (show T = "int" from ty)
    exact ⟨typeIs_int s i t, fun _ e => nomatch e⟩
  | ref p =>
    cases r
    rcases ty with ⟨rfl, xs, hq⟩ | ⟨rfl, o, hk, hc, hd⟩ | ⟨rfl, hk⟩ | ⟨rfl, S, n, hk⟩
    · obtain ⟨its, _, pl, _⟩ := I.list hq
      refine ⟨pl.isList.typeIs, fun a e => ?_⟩
      cases e
      obtain ⟨o, n, e, c, hd, _⟩ := pl
      exact ⟨o, e, hd⟩
    · refine ⟨⟨o, I.kIn p o hk, hc⟩, fun a e => ?_⟩
      cases e
      exact ⟨o, I.kIn _ o hk, hd⟩
    · have z : ∃ o, s.heap.get? p = some o ∧ o.ExactDict := by
        rcases hk with ⟨kvs, hk⟩ | ⟨kvs, hk⟩
        · obtain ⟨_, _, _, _, o, _, _, e, ex, _⟩ := I.hok p _ hk
          exact ⟨o, e, ex⟩
        · obtain ⟨_, _, _, _, o, _, _, e, ex, _⟩ := I.hok p _ hk
          exact ⟨o, e, ex⟩
      obtain ⟨o, e, ex⟩ := z
      refine ⟨⟨o, e, ex.1⟩, fun a e2 => ?_⟩
      cases e2
      exact ⟨o, e, ex.2.1⟩
    · obtain ⟨o, _, _, _, e, ex, _⟩ := I.hok p _ hk
      refine ⟨⟨o, e, ex.1⟩, fun a e2 => ?_⟩
      cases e2
      exact ⟨o, e, ex.2.1⟩
  | _ => exact False.elim ty
def tBM0 (K : PySem.W.Frag) (T : String) (r : V → List V → Hp → VK → Prop) (to : TE) : TE := fun σ H Q => to σ H fun x H1 => tyV K T x H1 ∧ r x [] H1 Q
def tBM (K : PySem.W.Frag) (T : String) (r : V → List V → Hp → VK → Prop) (to : TE) (t : TA) : TE := fun σ H Q => to σ H fun x H1 => tyV K T x H1 ∧ t σ H1 fun xs H2 => r x xs H2 Q
variable {o e : Expr} {es : List Expr} {to : TE} {t : TA} {name : Str} {apos cpos : Pos} {T id : String} {r : V → List V → Hp → VK → Prop}
theorem pe_bm (pa : PlainAttrs T) (slot : Slot T name id) (hty : typeOf (.builtin id) = pure (.type "method_descriptor")) (hm : MtR X id r) (ho : PE X o to) (ha : PA X (e :: es) t)
    (hbase : attributeBase o name X.env (eval o X.env) = eval o X.env := by rfl)
    (hfew : ((backTo cpos (starEach (e :: es) X.env)).all (fun x => !x.1) && (backToKw cpos (keywordEach [] X.env)).all (fun x => x.1.isSome)
      && decide ((e :: es).length + ([] : List Keyword).length + (if ([] : List Keyword).isEmpty then 0 else 1) < 30)) = true := by rfl)
    (hline : (apos.endLine == cpos.line) = true := by rfl) (hs : starEach (e :: es) X.env = (false, eval e X.env) :: starEach es X.env := by rfl) (hplain : (backTo cpos (starEach es X.env)).any (·.1) = false := by rfl) :
    PE X (.Call (.Attribute o name apos) (e :: es) [] cpos) (tBM X.K T r to t) := by
  intro pins s σ H Q I h
  refine wpAny_Call_method_late hbase hfew hline rfl (thn (ho pins s σ H _ I h) fun v s1 ⟨x, H1, I1, r1, ty, q1⟩ => ?_)
  obtain ⟨h1, h2⟩ := tyV_is I1 r1 ty
  refine ⟨T, id, pa, slot, hty, h1, h2, ?_⟩
  have hA := ha cpos pins s1 σ H1 _ I1 q1
  rw [hs] at hA ⊢
  refine Calls.callWith_builtin (by show (false || (backTo cpos (starEach es X.env)).any (·.1)) = false; rw [hplain] <;> rfl) (Calls.evalArgs_plain ?_)
  exact thn hA fun us s2 ⟨vs, H2, I2, r2, q2⟩ => hm pins s2 σ H2 x vs v us Q I2 r1 r2 q2
/- xs.append(e), list.index on a module's tuple .. are MtR facts of 06m -/
end
end L2

namespace L2
open PySem PySem.Spec PyProof.Rows

def MtM (X : Cx) (id : String) (r : V → List V → Hp → VK → Prop) : Prop :=
  ∀ (pins : List (Addr × Obj)) (s : Shared) (σ : St) (H : Hp) (x : V) (xs : List V) (v : Value) (us : List Value) (Q : VK), Inv X pins σ H s → RelV x v → Vals xs us → r x xs H Q →
    wpAny (model X.prog X.w) X.A (call (.builtin id) (v :: us)) (EP X pins σ Q) X.xe s

/-! ### lists of values -/
theorem Vals.one : ∀ {x : V} {us : List Value}, Vals [x] us → ∃ u, us = [u] ∧ RelV x u
  | _, _, .cons r .nil => ⟨_, rfl, r⟩
theorem Vals.two : ∀ {x y : V} {us : List Value}, Vals [x, y] us → ∃ u v, us = [u, v] ∧ RelV x u ∧ RelV y v
  | _, _, _, .cons r (.cons q .nil) => ⟨_, _, rfl, r, q⟩
theorem Vals.eraseIdx : ∀ {xs : List V} {us : List Value} (i : Nat), Vals xs us → Vals (xs.eraseIdx i) (us.eraseIdx i)
  | _, _, _, .nil => .nil
  | _, _, 0, .cons _ t => t
  | _, _, i + 1, .cons r t => .cons r (Vals.eraseIdx i t)
theorem Vals.rep {xs : List V} {us : List Value} (h : Vals xs us) : ∀ k : Nat, Vals (List.replicate k xs).flatten (List.replicate k us).flatten
  | 0 => .nil
  | k + 1 => by
    rw [List.replicate_succ, List.replicate_succ, List.flatten_cons, List.flatten_cons]
    exact Vals.append h (Vals.rep h k)
theorem len_erase {α : Type} : ∀ (l : List α) (i : Nat), (l.eraseIdx i).length ≤ l.length
  | [], _ => Nat.le_refl _
  | _ :: _, 0 => Nat.le_succ _
  | _ :: r, i + 1 => Nat.succ_le_succ (len_erase r i)
theorem foldl_rep (its : List Value) : ∀ (k : Nat) (acc : List Value),
    List.foldl (fun x1 x2 => x1 ++ x2) acc.toArray (List.replicate k its.toArray) = (acc ++ (List.replicate k its).flatten).toArray
  | 0, acc => by simp
  | k + 1, acc => by
    have e : acc.toArray ++ its.toArray = (acc ++ its).toArray := by simp
    have e2 : (acc ++ its) ++ (List.replicate k its).flatten = acc ++ (List.replicate (k + 1) its).flatten := by
      rw [List.replicate_succ, List.flatten_cons, List.append_assoc]
    rw [← e2, ← foldl_rep its k (acc ++ its), ← e, List.replicate_succ, List.foldl_cons]

section
variable {X : Cx} {pins : List (Addr × Obj)} {σ : St} {H : Hp} {s : Shared} {l b : Addr} {xs ys zs : List V}

/-! ### the two steps: a tracked list is rewritten, a new list is laid -/
theorem Inv.lset {its its' : List Value} {n : Nat} {f : Array Value → Array Value} {t' : Nat} (I : Inv X pins σ H s) (hH : H l = some (.lst xs))
    (e : s.heap.get? l = some { cls := .type "list", data := .seq its.toArray n }) (hf : f its.toArray = its'.toArray) (hv : Vals ys its') (hz : ys.length ≤ sizeLine) :
    Inv X pins σ (upd H l (.lst ys)) { s with heap := s.heap.update l (Obj.mapSeq f), toks := t' } := by
  have q := PySem.IsL.update e f
  rw [hf] at q
  refine I.write (x := l) (e := l) (by rw [hH]; exact trivial) (.inl rfl) (fun b' u hb hu => (Heap.get?_update_other s.heap (Obj.mapSeq f) (Ne.symm hb)).trans hu) ⟨_, q⟩ ?_
  exact ⟨hz, its', _, hv, q⟩
theorem Inv.lnew {its : List Value} {t' : Nat} (I : Inv X pins σ H s) (hv : Vals ys its) (hz : ys.length ≤ sizeLine) :
    Inv X pins σ (upd H s.heap.objs.size (.lst ys)) { s with heap := s.heap.push { cls := .type "list", data := .seq its.toArray }, toks := t' } :=
  I.laid (fun _ _ q => Heap.get?_push_of_some _ q) (Nat.le_refl _) ⟨hz, its, 0, hv, Heap.get?_push_size _ rfl⟩
theorem Inv.fresh (I : Inv X pins σ H s) : H s.heap.objs.size = none := I.hok.fresh (Nat.le_refl _)
theorem Inv.lstM (I : Inv X pins σ H s) (hH : H l = some (.lst xs)) : xs.length ≤ sizeLine ∧ ∃ (its : List Value) (n : Nat), Vals xs its ∧ xs.length = its.length ∧ s.heap.get? l = some { cls := .type "list", data := .seq its.toArray n } := by
  obtain ⟨z, its, n, r, e⟩ := I.hok l _ hH
  exact ⟨z, its, n, r, r.length, e⟩

theorem notLongL {n : Nat} (h : n ≤ sizeLine) : Builtin.List.listTooLong n = false := by
  unfold Builtin.List.listTooLong
  exact decide_eq_false (by omega)
end

section
variable {X : Cx}

/-! ### methods -/
def rAppend : V → List V → Hp → VK → Prop := fun x vs H Q => ∃ l xs y, x = .ref l ∧ vs = [y] ∧ H l = some (.lst xs) ∧ xs.length < sizeLine ∧ Q .non (upd H l (.lst (xs ++ [y])))
theorem mt_append : MtM X "list.append" rAppend := by
  intro pins s σ H x vs v us Q I rx rv h
  obtain ⟨l, xs, y, rfl, rfl, hH, hz, q⟩ := h
  cases rx
  obtain ⟨u, rfl, ru⟩ := rv.one
  obtain ⟨z, its, n, r, hl, e⟩ := I.lstM hH
  refine call_meets F.slot_list_append ⟨_, e, rfl⟩ F.entry_list_append (F.args_list_append_2 _ _) (PySem.list_append l its.toArray n u (by rw [List.size_toArray]; omega)) ⟨e, ?_⟩
  refine ⟨.non, _, I.lset (its' := its ++ [u]) hH e (by simp) (r.append (.cons ru .nil)) ?_, rfl, q⟩
  rw [List.length_append, List.length_singleton]
  omega

def rExtend : V → List V → Hp → VK → Prop := fun x vs H Q => ∃ l b xs zs, x = .ref l ∧ vs = [.ref b] ∧ H l = some (.lst xs) ∧ H b = some (.lst zs) ∧ xs.length + zs.length ≤ sizeLine ∧ Q .non (upd H l (.lst (xs ++ zs)))

def rPop : V → List V → Hp → VK → Prop := fun x vs H Q => ∃ l xs y, x = .ref l ∧ vs = [] ∧ H l = some (.lst xs) ∧ xs[xs.length - 1]? = some y ∧ Q y (upd H l (.lst xs.dropLast))

def rPopAt : V → List V → Hp → VK → Prop := fun x vs H Q => ∃ l xs i k y, x = .ref l ∧ vs = [.int i] ∧ H l = some (.lst xs) ∧ -(2 ^ 63) ≤ i ∧ i < 2 ^ 63 ∧ seqIndex? i xs.length = some k ∧ xs[k]? = some y ∧ Q y (upd H l (.lst (xs.eraseIdx k)))
theorem mt_popAt : MtM X "list.pop" rPopAt := by
  intro pins s σ H x vs v us Q I rx rv h
  obtain ⟨l, xs, i, k, y, rfl, rfl, hH, h1, h2, hk, hy, q⟩ := h
  cases rx
  obtain ⟨u, rfl, ru⟩ := rv.one
  obtain ⟨t, rfl⟩ := ru
  obtain ⟨z, its, n, r, hl, e⟩ := I.lstM hH
  obtain ⟨w, hw, rw'⟩ := r.get hy
  refine call_meets F.slot_list_pop ⟨_, e, rfl⟩ F.entry_list_pop (F.args_list_pop_2 _ _)
    (MeetsSeq.list_pop_at l its.toArray n i t k w (fitsIndex_both h1 h2) (by rw [List.size_toArray, ← hl]; exact hk) (by rw [← Array.getElem?_toList]; exact hw) (by rw [List.size_toArray]; omega)) ⟨e, ?_⟩
  refine ⟨y, _, I.lset (its' := its.eraseIdx k) hH e ?_ (r.eraseIdx k) ?_, rw', q⟩
  · show its.toArray.eraseIdxIfInBounds k = (its.eraseIdx k).toArray
    rw [List.eraseIdxIfInBounds_toArray]
  · have := len_erase xs k
    omega

def rReverse : V → List V → Hp → VK → Prop := fun x vs H Q => ∃ l xs, x = .ref l ∧ vs = [] ∧ H l = some (.lst xs) ∧ Q .non (upd H l (.lst xs.reverse))

def rClear : V → List V → Hp → VK → Prop := fun x vs H Q => ∃ l xs, x = .ref l ∧ vs = [] ∧ H l = some (.lst xs) ∧ Q .non (upd H l (.lst []))

/-! ### list + list, list += list, list * int -/
def rCat : R2 := fun x y H Q => ∃ l b xs zs, x = .ref l ∧ y = .ref b ∧ H l = some (.lst xs) ∧ H b = some (.lst zs) ∧ xs.length + zs.length ≤ sizeLine ∧ ∀ p, H p = none → Q (.ref p) (upd H p (.lst (xs ++ zs)))
/-- a list times an int (a negative one is nothing) -/
def rRep : R2 := fun x y H Q => ∃ l k xs, x = .ref l ∧ y = .int k ∧ H l = some (.lst xs) ∧ -(2 ^ 63) ≤ k ∧ k < 2 ^ 63 ∧ xs.length * k.toNat ≤ sizeLine ∧
  ∀ p, H p = none → Q (.ref p) (upd H p (.lst (List.replicate k.toNat xs).flatten))
theorem len_rep {α : Type} (xs : List α) (k : Nat) : (List.replicate k xs).flatten.length = k * xs.length := by
  induction k with
  | zero => simp
  | succ k ih => rw [List.replicate_succ, List.flatten_cons, List.length_append, ih, Nat.succ_mul, Nat.add_comm]
theorem op_rep : OpR X (binaryOp .Mult) rRep := by
  intro pins s σ H x y v u Q I rx ry h
  obtain ⟨l, k, xs, rfl, rfl, hH, h1, h2, hz, q⟩ := h
  cases rx
  obtain ⟨t, rfl⟩ := ry
  obtain ⟨z, its, n, r, hl, e⟩ := I.lstM hH
  have hlen : its.toArray.size * k.toNat ≤ sizeLine := by rw [List.size_toArray, ← hl]; exact hz
  have hcap : ¬ its.toArray.size * k.toNat > (2 ^ 63 - 1) / 8 := by
    have : (sizeLine : Nat) ≤ (2 ^ 63 - 1) / 8 := by decide
    omega
  have hfit : ¬ (!Builtin.List.listFitsIndex k) = true := by
    rw [fitsIndex_both h1 h2]
    exact Bool.false_ne_true
  have hlong : ¬ Builtin.List.listTooLong (its.toArray.size * k.toNat) = true := by
    rw [notLongL hlen]
    exact Bool.false_ne_true
  have hnew : List.foldl (fun x1 x2 => x1 ++ x2) #[] (List.replicate (if its.toArray.isEmpty = true then 0 else k.toNat) its.toArray) = (List.replicate k.toNat its).flatten.toArray := by
    have f0 : ∀ m : Nat, List.foldl (fun x1 x2 => x1 ++ x2) #[] (List.replicate m its.toArray) = (List.replicate m its).flatten.toArray := fun m => by
      have := foldl_rep its m []
      rw [List.nil_append] at this
      exact this
    rw [f0]
    cases its with
    | nil => simp
    | cons a r' => rw [if_neg (by simp)]
  refine wpAny_binaryOp_repeat_ref (T := "list") (U := "int") (by decide) ⟨_, e, rfl⟩ (fun s' => typeIs_int s' k t) noFill_list_mul F.fills_int_mul F.slot_int_rmul repeat_list F.slot_int_index.lookup
    (call_meets F.slot_int_rmul (typeIs_int s k t) F.entry_int_rmul (F.args_int_rmul_2 _ _) (int___rmul___int_list k t l its.toArray n)
      ⟨e, rfl, ⟨_, e, rfl⟩, call_meets F.slot_list_mul ⟨_, e, rfl⟩ F.entry_list_mul (F.args_list_mul_2 _ _) (AutoListH.list___mul___list_int_3 l its.toArray n k t hfit hcap hlong) ⟨e, ?_⟩⟩)
  rw [hnew]
  exact ⟨.ref _, _, I.lnew (t' := s.toks) (r.rep k.toNat) (by rw [len_rep, Nat.mul_comm]; exact hz), rfl, q _ I.fresh⟩

/-! ### del xs[i] -/
end

/-! ### xs[a:b] = ys -/
section
variable {prog : Program} {w : World} {A : Around} {E : Value → Shared → Prop} {s : Shared}
end

section
variable {X : Cx}
end
end L2

namespace Att
open PySem PySem.W PySem.Calls PyProof.Rows

/-! ### the script -/
theorem ints_of_wellAll {P : Params} {h : Heap} : ∀ (ns : List Int) (vs : List Value), WellAll P h vs (ns.map WData.int) → IntsAre vs ns := by
  intro ns
  induction ns with
  | nil =>
    intro vs w
    rw [List.map_nil] at w
    cases w
    exact .nil
  | cons n ns ih =>
    intro vs w
    rw [List.map_cons] at w
    cases w with
    | cons a b =>
      cases a
      exact .cons _ _ (ih _ b)

theorem script_of {l : OpenLaw} {n : Nat} (hn : l.most = some n) {P : Params} {h : Heap} {args : List WData} {vals : List Value}
    (hpre : l.row.toRowW.claim.pre args = true) (hwl : WellAll P h vals args) :
    ∃ a vs ns, vals = [Value.ref a] ∧ args = [WData.list (ns.map WData.int)] ∧ h.get? a = some { cls := .type "list", data := .seq vs.toArray } ∧ IntsAre vs ns ∧ ns.length ≤ n := by
  have hsh : WShape.hasAll [] args [.list .int] = true := (pre_splitW hpre).1
  have hc : l.pre.holds [] { args := args } = true := (pre_splitW hpre).2
  obtain ⟨d, r, rfl, h1, h2⟩ := hasAllW_cons hsh
  obtain rfl := hasAllW_nil h2
  obtain ⟨xs, rfl, h3⟩ := hasW_list h1
  obtain ⟨ns, rfl⟩ := items_int h3
  have hlen : ns.length ≤ n := by
    unfold OpenLaw.pre at hc
    have h4 : (WTm.not (.lt (.lit (.int (n : Int))) (.len (.arg 0)))).holds [] { args := [.list (ns.map .int)] } = true := by
      have h4 := (holds_andW hc).1
      rw [hn] at h4
      exact h4
    have h5 := condW_of h4 (w_not (w_lt w_lit (w_len_list (w_arg rfl))))
    rw [List.length_map] at h5
    refine Nat.le_of_not_lt fun q => ?_
    have q' : (n : Int) < ((ns.length : Nat) : Int) := by omega
    first
      | (rw [decide_eq_true q'] at h5; exact absurd h5 (by decide))
      | (simp at h5; omega)
  cases hwl with
  | cons w1 w2 =>
    cases w2
    cases w1 with
    | list ho hall => exact ⟨_, _, ns, rfl, rfl, ho, ints_of_wellAll ns _ hall, hlen⟩

theorem post_true (l : OpenLaw) (args : List WData) : l.row.toRowW.claim.post args (.bool true) args = true :=
  postW_of (r := l.row.toRowW) (X := (true == true))
    (show WShape.has [] (.bool true) .bool = true by first | rfl | decide | simp [WShape.has, WShape.arms, WShape.armsAll])
    (show (WTm.eq .res (.lit (.bool true))).value [] { args := args, res := some (.bool true), after := args } = some (.bool (true == true)) from w_eq_bool (w_res rfl) w_lit) rfl

/-! ### the attachment: holds_open's last premise (the goal 'hc' behind k_head) from a wpAny of the law's body -/

/-- the same from a codeAny of the CALL (for a layer whose function contracts speak of calls) -/
theorem attach_call {l : OpenLaw} {n : Nat} {q : Program} {loose : List Str} {XP : (Str → Option Value) → Heap → Prop} {YP : World → Heap → Prop} {d : DefRec}
    (hn : l.most = some n) (hdf : d.params.defaults = [])
    (call : ∀ (w : World) (s₀ s₁ : Shared) (mg mb : Str → Option Value) (fa : Addr) (o : Obj) (pm cd doc : Value) (a : Addr) (vs : List Value) (ns : List Int),
      Ground q loose [] XP w s₀ mg mb s₁.heap → YP w s₁.heap →
      s₁.heap.get? fa = some o → o.data = .func (docDef d.name d.params d.body d.scope pm cd doc) → s₁.heap.CodeRec cd d.name → mg d.name = some (.ref fa) →
      s₁.heap.get? a = some { cls := .type "list", data := .seq vs.toArray } → IntsAre vs ns → ns.length ≤ n → s₁.gens = #[] →
      codeAny (model l.prog w) callerA (.call (.ref fa) ⟨[.ref a], []⟩) (fun r s' => r = .ok (.ret (.bool true)) ∧ OldK s₁.heap s'.heap ∧ s'.os = s₁.os ∧ AllBare s'.gens) s₁) :
    WalkO q loose XP YP l.row.toRowW d [] (fun f vs => PySem.call f vs) := by
  intro w s₀ s₁ mg mb G Y fa o pm cd doc dV kV ho hd hcd hD hmg hg args vals as hpre hlay hrd hwl hlo
  obtain rfl : dV = .none := Dflts.none hD hdf
  obtain rfl : kV = .none := Dflts.noKw hD
  obtain ⟨a, vs, ns, rfl, rfl, hobj, hints, hlen⟩ := script_of hn hpre hwl
  refine enter_call (codeAny_mono (call w s₀ s₁ mg mb fa o pm cd doc a vs ns G Y ho (fd_plain hd) hcd hmg hobj hints hlen hg) fun r s' hq => ?_)
  obtain ⟨rfl, h2, h3, h4⟩ := hq
  exact ⟨.inl ⟨.bool true, .bool true, [], rfl, fun _ => rfl, .bool true, post_true l _, fun _ => ⟨List.Pairwise.nil, fun _ hm => (nomatch hm)⟩⟩, h2, h3, h4⟩


/-! ### rules over ANY heap (no ledger) from facts about the written part K: the library's own take a ledger (News) for what they write -/
section
variable {prog : Program} {w : World} {A : Around} {E : Value → Shared → Prop} {s : Shared} {K : Frag}





/-! the whole heap as the ledger: makes every rule that writes through a ledger a rule over any heap -/
def noObjs (h : Heap) : Heap := { h with objs := #[] }
def ledger (h : Heap) (L d : Addr) : List (Addr × Obj) := (List.range h.objs.size).filterMap fun a => if a = L ∨ a = d then none else (h.get? a).map fun o => (a, o)

end
end Att

namespace L2
open PySem PySem.Spec PyProof.Rows

theorem vals_ints : ∀ {vs : List Value} {ns : List Int}, IntsAre vs ns → Vals (ns.map V.int) vs
  | _, _, .nil => .nil
  | _, _, .cons n t h => .cons ⟨t, rfl⟩ (vals_ints h)

/-- nothing is tracked but the script, known to the object (or it is an object of the module) -/
def Only (H : Hp) : Prop := ∀ b, H b = none ∨ ∃ o xs, H b = some (.frz o (.lst xs))

/-- THE HEAD: the law's promise, at the heap behind the top. F, the promise of the law's def, may use that base is part of the heap (so K.In base, base.Ns mainGlobals mg stand in Mod) -/
theorem law_call {P : Program} {w : World} {K : PySem.W.Frag} {mg mb : Str → Option Value} {CX : CXT} {k : Nat} {fa a : Addr} {fd : FuncData} {x : Str} {sp : Sp} {s₁ : Shared} {vs : List Value} {ns : List Int}
    (KX : K.In s₁.heap) (hns : s₁.heap.Ns mainGlobals mg) (hb : s₁.heap.Ns builtinsNs mb) (hbb : ∀ x : Str, x ≠ "__name__" → mb x = bootBuiltins x) (hlim : s₁.heap.NoLimit) (hg : s₁.gens = #[])
    (ha : s₁.heap.get? a = some { cls := .type "list", data := .seq vs.toArray }) (hi : IntsAre vs ns) (hl : ns.length ≤ sizeLine) (hr : Room k callerA)
    (F : ∀ base : Heap, K.In base → base.Ns mainGlobals mg → FnOk P w K mg base CX k fa fd [x] sp) (hbind : ∀ (s : Shared) (u : Value), BindsTo s fd ⟨[u], []⟩ [(x, u)])
    (hsp : ∀ H : Hp, Only H → SqL K H a (ns.map V.int) → sp [.ref a] H (fun v _ => v = .bl true) fun _ _ _ => False)
    (hCX : ∀ H e s', CX [] H s₁ (fun _ _ _ => False) e s' → False) :
    codeAny (model P w) callerA (.call (.ref fa) ⟨[.ref a], []⟩) (fun r s' => r = .ok (.ret (.bool true)) ∧ OldK s₁.heap s'.heap ∧ s'.os = s₁.os ∧ AllBare s'.gens) s₁ := by
  have rv := vals_ints hi
  have lenV := hi.length
  -- from an abstract heap in which nothing but the script may be tracked
  have core : ∀ H : Hp, Only H → SqL K H a (ns.map V.int) → HOk P w H s₁.heap → (∀ b, H b ≠ none → b = a) → (H a ≠ none → K.lookup a = none) →
      codeAny (model P w) callerA (.call (.ref fa) ⟨[.ref a], []⟩) (fun r s' => r = .ok (.ret (.bool true)) ∧ OldK s₁.heap s'.heap ∧ s'.os = s₁.os ∧ AllBare s'.gens) s₁ := by
    intro H hO hS hok hA hK
    have base_of : ∀ {b : Addr} {o : Obj}, s₁.heap.get? b = some o → H b = none → (hidT s₁.heap H).get? b = some o := fun e n => hidT_get e n
    have noA : ∀ {b : Addr} {o : Obj} {es : Array DictEntry} {ep : Nat}, s₁.heap.get? b = some o → o.data = .dict es ep → H b = none := fun {b o es ep} e d => by
      cases q : H b with
      | none => rfl
      | some u =>
        have e' : b = a := hA b (by rw [q]; simp)
        subst e'
        rw [ha] at e; cases e
        have d' : Data.seq vs.toArray _ = Data.dict es ep := d
        cases d'
    have nsK : ∀ {b : Addr} {m : Str → Option Value}, s₁.heap.Ns b m → (hidT s₁.heap H).Ns b m := fun {b m} ⟨o, es, ep, e, d, r⟩ => ⟨o, es, ep, base_of e (noA e d), d, r⟩
    have hKb : K.In (hidT s₁.heap H) := fun b o e => base_of (KX b o e) (by
      cases q : H b with
      | none => rfl
      | some u =>
        have e' : b = a := hA b (by rw [q]; simp)
        subst e'
        rw [hK (by rw [q]; simp)] at e; cases e)
    have hM : Mod K mg (hidT s₁.heap H) := ⟨hKb, nsK hns, ⟨mb, nsK hb, hbb⟩, let ⟨mc, h1, h2⟩ := hlim; ⟨mc, nsK h1, h2⟩⟩
    have e0 : Env0 P w K mg (hidT s₁.heap H) callerA [] s₁ H := ⟨rfl, hM, fun b o e => of_hidT e, Nat.le_of_eq (hidT_size _ _), trivial, fun b hb => absurd (show b ∈ ([] : List Addr) from hb) (by simp), hok, .of_eq hg⟩
    refine codeAny_mono ((F _ hKb (nsK hns)).run callerA [] s₁ H ⟨[.ref a], []⟩ [.ref a] [.ref a] _ _ hr e0 (hbind s₁ (.ref a)) (.cons rfl .nil) (hsp H hO hS)) fun r s' h => ?_
    cases r with
    | error e => exact (hCX H e s' h).elim
    | ok fl =>
      cases fl with
      | next => exact False.elim h
      | brk => exact False.elim h
      | cont => exact False.elim h
      | ret u =>
        obtain ⟨v, H', os, bare, un, hok', r', q⟩ := h
        have q' : v = .bl true := q
        subst q'
        obtain rfl : u = Value.bool true := r'
        refine ⟨rfl, OldK.of_keep fun b o e => ?_, os, bare⟩
        cases q : H b with
        | none => exact un.keep b o e q (by intro z; exact absurd (show b ∈ ([] : List Addr) from z) (by simp)) (by simp)
        | some u =>
          rcases hO b with z | ⟨ob, xs, z⟩
          · rw [q] at z; cases z
          · have z2 := un.frzs b ob _ z
            obtain ⟨e1, _⟩ := hok b _ z
            obtain ⟨e2, _⟩ := hok' b _ z2
            rw [e] at e1; cases e1
            exact e2
  cases hk : K.lookup a with
  | some o =>
    -- the script is one of the module's own objects
    have e := KX a o hk
    rw [ha] at e
    cases e
    refine core (fun _ => none) (fun _ => .inl rfl) (.inr ⟨_, vs.toArray, _, hk, rfl, rfl, rfl, by rw [List.size_toArray, lenV]; exact hl, by simpa using rv⟩) (fun b u z => by have z' : (none : Option HO) = some u := z; cases z') (fun b z => absurd rfl z) fun z => absurd rfl z
  | none =>
    refine core (fun b => if b = a then some (.frz { cls := .type "list", data := .seq vs.toArray } (.lst (ns.map V.int))) else none) (fun b => ?_) (.inl (.inr ⟨{ cls := .type "list", data := .seq vs.toArray }, if_pos rfl⟩)) (fun b u z => ?_) (fun b z => ?_) fun _ => hk
    · by_cases hb : b = a
      · exact .inr ⟨_, _, if_pos hb⟩
      · exact .inl (if_neg hb)
    · by_cases hb : b = a
      · have z' := (if_pos hb).symm.trans z
        cases z'
        subst hb
        exact ⟨ha, by rw [List.length_map]; exact hl, vs, _, rv, ha⟩
      · have z' := (if_neg hb).symm.trans z
        cases z'
    · by_cases hb : b = a
      · exact hb
      · exact absurd (if_neg hb) z
end L2

namespace L2
open PySem PySem.Spec PyProof.Rows

abbrev KOf {K : PySem.W.Frag} {h : Heap} (_ : K.In h) : PySem.W.Frag := K

/-- the goal that k_head leaves (case hc), from the law's promise. F gives the function object fd (K's own) once, then the promise over every base -/
theorem walk_of {l : PySem.W.OpenLaw} {n k : Nat} {q : Program} {loose : List Str} {XP : (Str → Option Value) → Heap → Prop} {YP : World → Heap → Prop} {d : DefRec} {K : Params → PySem.W.Frag} {CX : World → CXT} {sp : World → Sp} {x : Str}
    (hn : l.most = some n) (hn2 : n ≤ sizeLine) (hdf : d.params.defaults = []) (hr : Room k callerA)
    (hY : ∀ (w : World) (h : Heap), YP w h → (K w.params).In h)
    (F : ∀ (w : World) (mg : Str → Option Value) (fa : Addr) (h : Heap), (K w.params).In h → h.Ns mainGlobals mg → mg d.name = some (.ref fa) →
      ∃ fd : FuncData, (∀ (s : Shared) (u : Value), BindsTo s fd ⟨[u], []⟩ [(x, u)]) ∧
        ∀ base : Heap, (K w.params).In base → base.Ns mainGlobals mg → FnOk l.prog w (K w.params) mg base (CX w) k fa fd [x] (sp w))
    (hsp : ∀ (w : World) (H : Hp) (a : Addr) (ns : List Int), ns.length ≤ n → Only H → SqL (K w.params) H a (ns.map V.int) → sp w [.ref a] H (fun v _ => v = .bl true) fun _ _ _ => False)
    (hCX : ∀ (w : World) (H : Hp) (s : Shared) (e : Value) (s' : Shared), CX w [] H s (fun _ _ _ => False) e s' → False) :
    PySem.W.WalkO q loose XP YP l.row.toRowW d [] (fun f vs => PySem.call f vs) := by
  refine Att.attach_call hn hdf fun w s₀ s₁ mg mb fa o pm cd doc a vs ns G Y ho hd hcd hmg hobj hints hlen hg => ?_
  have KX := hY w _ Y
  obtain ⟨fd, hb, hF⟩ := F w mg fa _ KX G.T.g hmg
  exact law_call KX G.T.g G.T.b G.T.builtins G.T.nolimit hg hobj hints (Nat.le_trans hlen hn2) hr hF hb (fun H hO hS => hsp w H a ns hlen hO hS) fun H e s' => hCX w H s₁ e s'
end L2

/- THE LAST THEOREM (shape; LID, My.* are yours):
   My.Adr: a structure of the addresses that your layer names (classes, functions); My.Txt K t: a structure (Prop) of the equations over K;
   My.txt_mk : {K} {implicit addresses ..} (e1 : nsIn K mainGlobals "law" = some (some (.ref f))) (e2 : K.lookup f = some ⟨oc, od, .func (fnOf "law" "law" params body scope dV kV doc pm an cdv ct), sl⟩) (e3 : codeIn K cdv "law" = true) .. : ∃ t, My.Txt K t

set_option maxRecDepth 100000 in
set_option maxHeartbeats 0 in
theorem PySem.Challenge.cw_LID_holds : PySem.Challenge.rw_LID.Holds := by
  w_on; o_law; k_head; (case hw => w_witness2)
  k_fill
  refine L2.walk_of (l := PySem.Challenge.rw_LID) (n := 63) (k := 40) (x := "script") (CX := fun w => ..) (sp := fun _ => My.sp_law) rfl (by decide) rfl ⟨rfl, by decide, by decide⟩ (fun w h Y => PySem.W.kIn_of Y) ?F ?S ?C
  case F =>
    intro w mg fa h KX G hmg
    have T : ∃ t, My.Txt (L2.KOf KX) t := by
      dsimp only [L2.KOf]                          -- K must stand as «<heap const> w.params» for k_is
      refine' My.txt_mk ?e1 ?e2 ?e3 ..
      (case e1 => PySem.W.k_is)                    -- in the order: a name -> its address -> its object -> its parts
      (case e2 => PySem.W.k_is)
      ..
    obtain ⟨t, T⟩ := T
    have e0 := hmg.symm.trans (PySem.W.mg_of KX G T.law)
    cases e0                                       -- fa is the law's own address
    exact ⟨_, fun s u => .of_eq rfl, fun base kb nb => My.law_fn T kb nb⟩     -- if «.of_eq rfl» comes too early: refine' ⟨_, ?b, fun base kb nb => My.law_fn T kb nb⟩; exact fun s u => .of_eq rfl
  case S => exact fun w H a ns hl hO hS => ..
  case C => exact ..
(the tactic k_is has no namespace: write k_is) -/

/-! SHORT WORDS over the layer: a def of the text, its body, what a loop and a test want. -/
namespace L2
open PySem PySem.Spec PyProof.Rows

/-! ### the text by places -/
/-- the j-th statement of a class's body -/
def inClass (s : Stmt) (j : Nat) : Stmt := match s with
  | .ClassDef _ _ _ body _ _ _ _ _ _ _ => body.getD j (.Pass ⟨0, 0, 0, 0⟩)
  | _ => .Pass ⟨0, 0, 0, 0⟩
def defArgs (s : Stmt) : Arguments := match s with
  | .FunctionDef _ a _ _ _ _ _ _ _ _ => a
  | _ => { posonlyargs := [], args := [], vararg := none, kwonlyargs := [], kw_defaults := [], kwarg := none, defaults := [] }
def defBody (s : Stmt) : List Stmt := match s with
  | .FunctionDef _ _ b _ _ _ _ _ _ _ => b
  | _ => []
def defScope (s : Stmt) : Scope := match s with
  | .FunctionDef _ _ _ _ _ _ sc _ _ _ => sc
  | _ => { kind := .function, names := [], isGenerator := false, isCoroutine := false }

/-! ### no exception leaves a def -/
abbrev CX0 : CXT := fun _ _ _ _ _ _ => False
abbrev E0 : XK := fun _ _ _ => False
theorem pass0 {X : Cx} : Passes CX0 X E0 := fun _ _ _ _ _ _ _ h => h.elim

/-! ### a def (or method) of the text as it stands behind the top -/
structure Fun (K : PySem.W.Frag) (x qual : Str) (st : Stmt) (f : Addr) (fd : FuncData) : Prop where
  ex : ∃ (oc : Value) (od : Option Addr) (kV doc pm : Value) (an : Option Addr) (cdv ct : Value) (osl : Array (Option Value)),
    fd = PySem.W.fnOf x qual (defArgs st) (defBody st) (defScope st) .none kV doc pm an cdv ct ∧ K.lookup f = some ⟨oc, od, .func fd, osl⟩ ∧ PySem.W.codeIn K cdv qual = true
  kp : PySem.W.keepIn K (.ref f) = true
section
variable {P : Program} {w : World} {K : PySem.W.Frag} {mg : Str → Option Value} {base : Heap}
/-- THE RULE for a def: its body as a term of rules, and the reading of that term -/
theorem Fun.ok {x qual : Str} {st : Stmt} {f : Addr} {fd : FuncData} {N ps : List Str} {k : Nat} {sp : Sp} (F : Fun K x qual st f fd) (S : FnScope N ps (defScope st)) (len : ∀ vs H Q E, sp vs H Q E → vs.length = ps.length)
    (hbody : ∀ (cdv : Value) (A : Around) (outer : List Env) (s : Shared) (H : Hp) (vs : List V) (Q : VK) (E : XK), Room k (A.deeper (envOfC qual (defScope st) s.heap.objs.size f cdv)) → sp vs H Q E →
      ∃ t, PSs (cxOf CX0 P w K mg base N qual (defScope st) f cdv A outer s H E).nox (defBody st) t ∧ t { nx := fun _ H' => Q .non H', rt := Q } (start N vs) H) : FnOk P w K mg base CX0 (k + 1) f fd ps sp := by
  obtain ⟨oc, od, kV, doc, pm, an, cdv, ct, osl, rfl, lk, hcd⟩ := F.ex
  refine fn_of lk hcd S len fun A outer s H vs Q E hr hsp => ?_
  obtain ⟨t, h, q⟩ := hbody cdv A outer s H vs Q E hr hsp
  exact ⟨t, h.nox, q⟩
/-- how its arguments bind (no defaults): h is «fun _ _ _ _ _ _ us hl => match us, hl with | [_, _], _ => rfl», one _ a parameter -/
theorem Fun.binds {x qual : Str} {st : Stmt} {f : Addr} {fd : FuncData} {ps : List Str} (F : Fun K x qual st f fd)
    (h : ∀ (kV doc pm : Value) (an : Option Addr) (cdv ct : Value) (us : List Value), us.length = ps.length → bindArgs (PySem.W.fnOf x qual (defArgs st) (defBody st) (defScope st) .none kV doc pm an cdv ct) ⟨us, []⟩ = pure (ps.zip us)) : Binds K fd ps [] := by
  obtain ⟨oc, od, kV, doc, pm, an, cdv, ct, osl, rfl, lk, hcd⟩ := F.ex
  exact .all (h kV doc pm an cdv ct)
theorem fun_mk {x qual : Str} {st : Stmt} {f : Addr} {oc : Value} {od an : Option Addr} {osl : Array (Option Value)} {kV doc pm cdv ct : Value} (l : K.lookup f = some ⟨oc, od, .func (PySem.W.fnOf x qual (defArgs st) (defBody st) (defScope st) .none kV doc pm an cdv ct), osl⟩)
    (c : PySem.W.codeIn K cdv qual = true) (k : PySem.W.keepIn K (.ref f) = true) : Fun K x qual st f (PySem.W.fnOf x qual (defArgs st) (defBody st) (defScope st) .none kV doc pm an cdv ct) := ⟨⟨oc, od, kV, doc, pm, an, cdv, ct, osl, rfl, l, c⟩, k⟩
end
theorem small1000 {n : Nat} (h : n ≤ 1000) : n < sizeLine := Nat.lt_of_le_of_lt h (by decide)

/-! ### expressions in short: the name that stands in the i-th slot -/
section
variable {X : Cx}
theorem pv (i : Nat) {x : Str} {pos : Pos} (hN : X.N[i]? = some x := by rfl) (hv : Vis X.env.scope x := by first | exact Or.inl rfl | exact Or.inr (Or.inl rfl) | exact Or.inr (Or.inr rfl)) (hd : (x == ("__debug__" : Str)) = false := by decide)
    (hcd : (x == ("__classdict__" : Str)) = false := by decide) : PE X (.Name x pos) (tVar i) := pe_var hN hv hd hcd
end

/-! ### tests -/
theorem iteF {A B : Prop} (h : B) : if false = true then A else B := by
  rw [if_neg Bool.false_ne_true]
  exact h
theorem iteT {A B : Prop} (h : A) : if true = true then A else B := by
  rw [if_pos rfl]
  exact h
theorem ite2 {c A B : Prop} [Decidable c] (h1 : c → A) (h2 : ¬ c → B) : if c then A else B := by
  by_cases h : c
  · rw [if_pos h]
    exact h1 h
  · rw [if_neg h]
    exact h2 h

/-! ### heaps -/
/-- all that was tracked is as it was -/
def Same (H H' : Hp) : Prop := ∀ b o, H b = some o → H' b = some o
theorem Same.refl (H : Hp) : Same H H := fun _ _ h => h
theorem Same.trans {H H1 H2 : Hp} (a : Same H H1) (b : Same H1 H2) : Same H H2 := fun c o h => b c o (a c o h)
theorem Same.seq {K : PySem.W.Frag} {H H' : Hp} {a : Addr} {xs : List V} (e : Same H H') (h : SqL K H a xs) : SqL K H' a xs := by
  rcases h with (h | ⟨o, h⟩) | h
  · exact .inl (.inl (e _ _ h))
  · exact .inl (.inr ⟨o, e _ _ h⟩)
  · exact .inr h

end L2
set_option Elab.async false
set_option linter.all false
set_option maxRecDepth 100000
namespace L2
open PySem PySem.Spec PyProof.Rows

/-! A list comprehension with one clause: the loop that fills the list. -/
section
variable {prog : Program} {w : World} {A : Around} {R : Result → Shared → Prop} {s : Shared}
abbrev testsOf (cs : List Expr) (en : Env) : Sem Bool :=
  forIn cs true fun c r => if r = true then do let ok ← isTrue c en (eval c en); pure (ForInStep.yield ok) else pure (ForInStep.yield r)
theorem comp_turns {elt tg iter : Expr} {cs : List Expr} {scope : Scope} {pos : Pos} {it acc : Value} {en : Env} {EE : Value → Shared → Prop} (hE : EE = notedBy (model prog w) A en fun e s' => R (.error e) s') (J : Nat → Shared → Prop)
    (turn : ∀ n s, J n s → wpAny (model prog w) A (pyNext it) (fun r s1 => match r with
      | none => R (.ok .next) s1
      | some v => wpAny (model prog w) A (letOwnedTupleGo tg it v) (fun _ sg => wpAny (model prog w) A (assign tg en v) (fun _ s2 => wpAny (model prog w) A (testsOf cs en) (fun ok s3 =>
          if ok = true then wpAny (model prog w) A (eval elt en) (fun y s4 => wpAny (model prog w) A (call (.builtin "list.append") [acc, y]) (fun _ s5 => ∃ m, m < n ∧ J m s5) EE s4) EE s3
          else ∃ m, m < n ∧ J m s3) EE s2) EE sg) EE s1) EE s)
    (n : Nat) (h : J n s) : codeAny (model prog w) A (.compLoop (.ListComp elt [⟨tg, iter, cs, 0⟩] scope pos) 0 it acc en) R s := by
  subst hE
  refine codeAny_loop rfl J (fun n s hJ => ?_) n h
  show wpAny _ A (Sem.onRaise (compTurn (.ListComp elt [⟨tg, iter, cs, 0⟩] scope pos) 0 it acc en) (fun x => do noteFrame x en; theTreesLotGoes x)) _ _ s
  refine wpAny_noted ?_
  rw [compTurn_list]
  refine wpAny_bind (wpAny_standAt (wpAny_bind (thn (turn n s hJ) fun r s1 q1 => ?_)))
  cases r with
  | none => exact wpAny_pure q1
  | some v =>
    refine wpAny_bind (thn q1 fun _ sg qg => wpAny_bind (thn qg fun _ s2 q2 => wpAny_bind (thn q2 fun ok s3 q3 => ?_)))
    cases ok with
    | false => exact wpAny_pure ⟨rfl, q3⟩
    | true => exact wpAny_bind (wpAny_bind (thn q3 fun y s4 q4 => wpAny_bind (thn q4 fun _ s5 q5 => wpAny_pure (wpAny_pure ⟨rfl, q5⟩))))
end

/-! the tests of the clause: none or one -/
def PTs (X : Cx) (cs : List Expr) (t : TT) : Prop :=
  ∀ (pins : List (Addr × Obj)) (s : Shared) (σ : St) (H : Hp) (Q : Bool → Hp → Prop), Inv X pins σ H s → t σ H Q → wpAny (model X.prog X.w) X.A (testsOf cs X.env) (TP X pins σ Q) X.xe s
def tTrue : TT := fun _ H Q => Q true H
theorem pts_nil {X : Cx} : PTs X [] tTrue := fun _ _ _ H _ I h => wpAny_tests_nil ⟨H, I, h⟩
theorem pts_one {X : Cx} {c : Expr} {t : TT} (h : PT X c t) : PTs X [c] t := fun pins s σ H Q I q => wpAny_tests_one (h pins s σ H Q I q)

/-! the cells that the block takes over -/
theorem closure_list {en : Env} : ∀ (names : List (Str × NameKind)) (acc : List (Str × Addr)), (∀ y, (y, NameKind.free) ∈ names → ∃ c, en.cells.lookup y = some c) →
    (∀ y c, acc.lookup y = some c → en.cells.lookup y = some c) →
    ∃ cl, (forIn (m := Sem) names acc fun p cs => if (p.2 == .free) = true then (do let a ← cellOf en p.1; pure (ForInStep.yield ((p.1, a) :: cs))) else pure (ForInStep.yield cs)) = pure cl ∧
      (∀ y c, cl.lookup y = some c → en.cells.lookup y = some c) ∧ (∀ y, ((y, NameKind.free) ∈ names ∨ ∃ c, acc.lookup y = some c) → ∃ c, cl.lookup y = some c)
  | [], acc, _, h2 => ⟨acc, rfl, h2, fun y h => h.elim (fun z => by simp at z) id⟩
  | (n, k) :: r, acc, h1, h2 => by
    by_cases hk : k = .free
    · subst hk
      obtain ⟨c, hc⟩ := h1 n (by simp)
      obtain ⟨cl, e, a, b⟩ := closure_list r ((n, c) :: acc) (fun y hy => h1 y (List.mem_cons_of_mem _ hy)) (fun y d hd => by
        rw [List.lookup_cons] at hd
        by_cases hy : y = n
        · subst hy; simp at hd; subst hd; exact hc
        · have : (y == n) = false := by simpa using hy
          rw [this] at hd; exact h2 y d hd)
      refine ⟨cl, ?_, a, fun y hy => b y ?_⟩
      · rw [List.forIn_cons]
        have e1 : cellOf en n = pure c := by unfold cellOf; rw [hc]
        simp only [beq_self_eq_true, if_true, e1, pure_bind]
        exact e
      · rcases hy with hy | ⟨d, hd⟩
        · rcases List.mem_cons.mp hy with z | z
          · cases z; exact .inr ⟨c, by simp⟩
          · exact .inl z
        · by_cases hy : y = n
          · subst hy; exact .inr ⟨c, by simp⟩
          · have : (y == n) = false := by simpa using hy
            exact .inr ⟨d, by rw [List.lookup_cons, this]; exact hd⟩
    · have hb : (k == NameKind.free) = false := by simpa using hk
      obtain ⟨cl, e, a, b⟩ := closure_list r acc (fun y hy => h1 y (List.mem_cons_of_mem _ hy)) h2
      refine ⟨cl, ?_, a, fun y hy => b y ?_⟩
      · rw [List.forIn_cons]
        simp only [hb, Bool.false_eq_true, if_false, pure_bind]
        exact e
      · rcases hy with hy | hy
        · rcases List.mem_cons.mp hy with z | z
          · cases z; exact absurd rfl hk
          · exact .inl z
        · exact .inr hy
theorem closure_of {scope : Scope} {en : Env} (h1 : ∀ y, (y, NameKind.free) ∈ scope.names → ∃ c, en.cells.lookup y = some c) :
    ∃ cl, closureFor scope en = pure cl ∧ (∀ y c, cl.lookup y = some c → en.cells.lookup y = some c) ∧ (∀ y, (y, NameKind.free) ∈ scope.names → ∃ c, cl.lookup y = some c) := by
  obtain ⟨cl, e, a, b⟩ := closure_list (en := en) scope.names [] h1 (fun y c h => by simp at h)
  refine ⟨cl, ?_, a, fun y hy => b y (.inl hy)⟩
  have q := congrArg (fun t : Sem (List (Str × Addr)) => t >>= fun c => pure c) e
  exact q
end L2
set_option Elab.async false
set_option linter.all false
set_option maxRecDepth 100000
namespace L2
open PySem PySem.Spec PyProof.Rows

/-! the context of a comprehension's block: C its names, s0 and H0 the state with the list laid, fp the iterator's objects -/
def xeC (X : Cx) (en : Env) (C : Addr) : Value → Shared → Prop :=
  notedBy (model X.prog X.w) X.A en fun e s' => compPost (model X.prog X.w) X.A X.xe none (fun _ _ => False) Value.none C (.error e) s'
def cxC (X : Cx) (scope : Scope) (cl : List (Str × Addr)) (C : Addr) (s0 : Shared) (H0 : Hp) (fp : List Addr) (N : List Str) : Cx where
  prog := X.prog
  w := X.w
  K := X.K
  mg := X.mg
  base := X.base
  A := X.A
  N := N
  s₀ := s0
  H₀ := H0
  env := compEnvC scope cl C X.env
  outer := X.stack
  stack := X.stack
  ex := fp
  fn := fun _ => false
  calm := X.calm
  pn := []
  xe := xeC X (compEnvC scope cl C X.env) C

/-! what the block's scope must be: no cells of its own; each free name a cell of the def's; M: the def's names as the block sees them, place by place -/
structure CompScope (scope : Scope) (en : Env) (N M : List Str) : Prop where
  kind : scope.kind = .function
  nocell : ∀ y ∈ scope.names, y.2 ≠ .cell
  locs : ∀ y ∈ scope.names, y.2 = .local → scope.names.lookup y.1 = some .local
  free : ∀ y, (y, NameKind.free) ∈ scope.names → en.kindOf y = some .cell ∨ en.kindOf y = some .free
  len : M.length = N.length
  same : ∀ (j : Nat) (y : Str), M[j]? = some y → Vis (relabel scope en) y → N[j]? = some y ∧ (y, NameKind.free) ∈ scope.names ∧ (relabel scope en).names.lookup y ≠ some .local
  relab : ∀ y, ((relabel scope en).names.lookup y = some .cell ∨ (relabel scope en).names.lookup y = some .free) → (y, NameKind.free) ∈ scope.names

/-! k names of its own -/
def tComp (k : Nat) (wi : TI) (g : TG) (tc : TT) (te : TE) : TE := fun σ H Q => wi σ H fun J H1 => ∀ d, H1 d = none → ∃ W : Nat → Nat → Hp → Prop, (∃ m, W 0 m (upd H1 d (.lst []))) ∧ ∀ i m H, W i m H →
  (J.stop i H ∧ Q (.ref d) H) ∨ (J.go i H ∧ ∃ N : Hp → Prop, (∀ H', N H' → ∃ m', m' < m ∧ W (i + 1) m' H') ∧ ∀ x H', J.yld i H x H' → g x (List.replicate k none ++ σ) H' fun σ2 H2 =>
    tc σ2 H2 fun b H3 => if b = true then te σ2 H3 fun y H4 => ∃ ys, H4 d = some (.lst ys) ∧ ys.length < sizeLine ∧ N (upd H4 d (.lst (ys ++ [y]))) else N H3)

/-! what is wanted at the end of the block: the names' dict at C goes -/
structure Gone (X : Cx) (pins : List (Addr × Obj)) (H : Hp) (C : Addr) : Prop where
  no : H C = none
  ne : C ≠ X.env.locals
  yg : X.s₀.heap.objs.size ≤ C
  cl : ∀ x c, X.env.cells.lookup x = some c → c ≠ C
  pn : ∀ p ∈ X.pn ++ pins, p.1 ≠ C
theorem Inv.gone {X : Cx} {pins : List (Addr × Obj)} {σ : St} {H : Hp} {s : Shared} {C : Addr} {h' : Heap} (I : Inv X pins σ H s) (g : Gone X pins H C) (hs : Heap.SameBut C s.heap h') : Inv X pins σ H { s with heap := h' } :=
  I.turned (t' := s.toks) (it := C) (fun b o hb e => hs.extBut b o hb e) g.no g.ne (.inr g.yg) g.cl g.pn

/-! from the block's state back to the def's -/
structure Back (X Y : Cx) (pins : List (Addr × Obj)) (σ : St) (fp : List Addr) (C : Addr) (s3 : Shared) (H3 : Hp) : Prop where
  i0 : Inv X pins σ H3 s3
  fp : ∀ b ∈ fp, (b ∈ X.ex ∨ X.s₀.heap.objs.size ≤ b) ∧ b ≠ X.env.locals ∧ (∀ x c, X.env.cells.lookup x = some c → c ≠ b) ∧ ∀ p ∈ X.pn ++ pins, p.1 ≠ b
  inv : ∀ (pins' : List (Addr × Obj)) (σ' : St) (H' : Hp) (s' : Shared), Inv Y pins' σ' H' s' → Inv X pins σ H' s' ∧ Gone X pins H' C
theorem comp_run {X : Cx} {elt tg iter : Expr} {cs : List Expr} {scope : Scope} {pos : Pos} {wi : TI} {g : TG} {tc : TT} {te : TE} {xs M : List Str} {use : Option (Value → Sem Unit)} {RR : Value → Shared → Prop} (hc : X.calm = true) (S : CompScope scope X.env X.N M) (hi : PI X tg iter wi)
    (hin : ∀ (cl : List (Str × Addr)) (C : Addr) (s0 : Shared) (H0 : Hp) (fp : List Addr) (pins : List (Addr × Obj)) (σ : St), Back X (cxC X scope cl C s0 H0 fp (xs ++ M)) pins σ fp C s0 H0 → PG (cxC X scope cl C s0 H0 fp (xs ++ M)) tg g ∧ PTs (cxC X scope cl C s0 H0 fp (xs ++ M)) cs tc ∧ PE (cxC X scope cl C s0 H0 fp (xs ++ M)) elt te)
    (hg : ∀ v σ H Q, g v (List.replicate xs.length none ++ σ) H Q → g v (List.replicate xs.length none ++ σ) H fun σ2 H2 => (∃ l : St, l.length = xs.length ∧ σ2 = l ++ σ) ∧ Q σ2 H2)
    (hs : ∀ x, foldedSetIterable iter X.env x = pure x) (pins : List (Addr × Obj)) (s : Shared) (σ : St) (H : Hp) (Q : VK) (I : Inv X pins σ H s) (h : tComp xs.length wi g tc te σ H Q)
    (fin : ∀ (d C : Addr) (s6 : Shared) (H6 : Hp) (m : Str → Option Value), Q (.ref d) H6 → Inv X pins σ H6 s6 → s6.heap.Ns C m → Gone X pins H6 C → compPost (model X.prog X.w) X.A X.xe use RR (.ref d) C (.ok .next) s6) :
    wpAny (model X.prog X.w) X.A (comprehension (.ListComp elt [⟨tg, iter, cs, 0⟩] scope pos) scope X.env (firstIterPos [⟨tg, iter, cs, 0⟩] pos) (newList []) false (eval iter X.env) use) RR X.xe s := by
  obtain ⟨cl, hcl, cl1, cl2⟩ := closure_of (scope := scope) (en := X.env) fun y hy => I.ok.has y (S.free y hy)
  refine wpAny_comprehension_free (use := use) rfl hs hcl S.kind S.locs (thn (hi pins s σ H _ I h) fun v s1 h1 => thn h1 fun itv s2 h2 => ?_)
  obtain ⟨it, fp, tn, J, H2, e, I2, T, st2, f2, h3⟩ := h2
  subst e
  have hf : H2 s2.heap.objs.size = none := I2.fresh
  obtain ⟨W, ⟨m0, w0⟩, turn⟩ := h3 _ hf
  refine wpAny_newObj_type (wpAny_newFunctionEnv S.nocell (by intro y hy; simp at hy) (fun h4 hns hsb => ?_) S.kind)
  have I3 : Inv X pins σ (upd H2 s2.heap.objs.size (.lst [])) { s2 with heap := s2.heap.push { cls := .type "list", data := .seq ([] : List Value).toArray } } := I2.lnew (ys := []) (its := []) (t' := s2.toks) .nil (Nat.zero_le _)
  generalize hs3 : ({ s2 with heap := s2.heap.push { cls := .type "list", data := .seq ([] : List Value).toArray } } : Shared) = s3 at I3
  generalize hH3 : upd H2 s2.heap.objs.size (.lst []) = H3 at I3 w0
  have e3 : s2.heap.push { cls := .type "list", dict := none, data := .seq ([] : List Value).toArray } = s3.heap := by rw [← hs3]
  dsimp only at hns hsb ⊢
  rw [e3] at hns hsb
  have old : ∀ b o, s3.heap.get? b = some o → h4.get? b = some o := fun b o e => hsb.extBut b o (Nat.ne_of_lt (Heap.lt_size e)) (Heap.get?_push_of_some _ e)
  have keep2 : ∀ b o, s2.heap.get? b = some o → s3.heap.get? b = some o := fun b o e => by rw [← e3]; exact Heap.get?_push_of_some _ e
  have lt3 : ∀ b ∈ fp, b < s3.heap.objs.size := fun b hb => by
    obtain ⟨o, e, _⟩ := T.obj _ _ st2 b hb
    exact Heap.lt_size (keep2 b o e)
  have n3 : ∀ b ∈ fp, H3 b = none := fun b hb => by
    obtain ⟨o, e, _⟩ := T.obj _ _ st2 b hb
    rw [← hH3, upd_ne (Nat.ne_of_lt (Heap.lt_size e))]
    exact (f2 b hb).1
  have st4 : tn 0 h4 := T.keep _ _ _ st2 fun b _ o e => old b o (keep2 b o e)
  let Y : Cx := cxC X scope cl s3.heap.objs.size s3 H3 fp (xs ++ M)
  have relab : ∀ y, ((relabel scope X.env).names.lookup y = some .cell ∨ (relabel scope X.env).names.lookup y = some .free) → ∃ c, cl.lookup y = some c := fun y hy => cl2 y (S.relab y hy)
  have Yok : Y.Ok := by
    refine ⟨I3.ok.mod, S.kind, I3.ok.glob, I3.ok.blt, Nat.le_refl _, fun y z c h1 h2 => I3.ok.inj y z c (cl1 y c h1) (cl1 z c h2), fun y hy => relab y hy, fun _ _ h _ => absurd (show false = true from h) (by decide), I3.ok.hd, I3.ok.frames, .inl rfl,
      fun b hb => ⟨Nat.ne_of_lt (lt3 b hb), fun y c e => (f2 b hb).2.2.2.2.1 y c (cl1 y c e)⟩, I3.bs, Nat.le_trans I3.ok.bsz I3.sz, fun b o e hb => ?_, fun b hb z => ?_, I3.stack, I3.stkFree⟩
    · rcases (f2 b hb).2.2.2.1 with z | z
      · exact I3.ok.noex b o e z
      · exact absurd (Nat.lt_of_lt_of_le (Heap.lt_size e) (Nat.le_trans I3.ok.bsz z)) (Nat.lt_irrefl _)
    · rcases List.mem_cons.mp (I3.stkSub b z) with z | z
      · exact (f2 b hb).2.1 z
      · exact (f2 b hb).2.2.1 z
  have cells4 : ∀ y c, cl.lookup y = some c → ∀ v, s3.heap.IsCell c v → h4.IsCell c v := fun y c _ v ⟨o, ho, hd⟩ => ⟨o, old c o ho, hd⟩
  have IY : ∀ t', Inv Y [] (List.replicate xs.length none ++ σ) H3 { s3 with heap := h4, toks := t' } := fun t' => by
    refine ⟨Yok, rfl, I3.bare, Un.kept old, ⟨_, hns, fun i y v e1 e2 e3 => ?_⟩, fun y c e => ?_, I3.hok.fresh (Nat.le_refl _), fun y c e => I3.freeC y c (cl1 y c e), fun p hp => absurd (show p ∈ ([] : List (Addr × Obj)) from hp) (by simp), I3.hok.kept old, ?_⟩
    · by_cases hi : i < xs.length
      · rw [List.getElem?_append_left (by simpa using hi), List.getElem?_replicate] at e2
        split at e2 <;> cases e2
      · obtain ⟨j, rfl⟩ : ∃ j, i = xs.length + j := ⟨i - xs.length, by omega⟩
        have e1' : M[j]? = some y := by
          have q : (xs ++ M)[xs.length + j]? = some y := e1
          rw [List.getElem?_append_right (Nat.le_add_right _ _)] at q
          simpa using q
        have e2' : σ[j]? = some (some v) := by
          rw [List.getElem?_append_right (by simp)] at e2
          simpa using e2
        obtain ⟨a1, a2, a3⟩ := S.same j y e1' e3
        have vis : Vis X.env.scope y := by
          rcases S.free y a2 with z | z
          · exact .inr (.inl z)
          · exact .inr (.inr z)
        obtain ⟨m, _, hl⟩ := I3.loc
        obtain ⟨u, r, l⟩ := hl j y v a1 e2' vis
        refine ⟨u, r, ?_⟩
        have kk : Y.env.kindOf y = some .cell ∨ Y.env.kindOf y = some .free := by
          rcases e3 with z | z | z
          · exact absurd z a3
          · exact .inl z
          · exact .inr z
        rcases l with ⟨k1, _⟩ | ⟨_, c, ec, ic⟩
        · rcases S.free y a2 with z | z
          · rw [z] at k1; cases k1
          · rw [z] at k1; cases k1
        · obtain ⟨c', ec'⟩ := cl2 y a2
          have := cl1 y c' ec'
          rw [ec] at this
          cases this
          exact .inr ⟨kk, c, ec', cells4 y c ec' _ ic⟩
    · obtain ⟨v, z⟩ := I3.cell y c (cl1 y c e)
      exact ⟨v, cells4 y c e v z⟩
    · show (List.replicate xs.length none ++ σ).length = (xs ++ M).length
      rw [List.length_append, List.length_append, List.length_replicate, S.len, I3.len]
  have stat : ∀ {pl : List (Addr × Obj)} {H' : Hp}, (∀ p ∈ pl, p.1 ∉ fp) → (∀ b ∈ fp, H' b = none) → ∀ b ∈ fp, FpOk Y pl H' b := fun hp hn b hb =>
    ⟨hn b hb, Nat.ne_of_lt (lt3 b hb), Yok.exfs b hb, .inl hb, fun y c e => (f2 b hb).2.2.2.2.1 y c (cl1 y c e), fun p hp' z => hp p (by simpa [Y, cxC] using hp') (z ▸ hb)⟩
  have bk : Back X Y pins σ fp s3.heap.objs.size s3 H3 := by
    refine ⟨I3, fun b hb => ⟨(f2 b hb).2.2.2.1, (f2 b hb).2.1, (f2 b hb).2.2.2.2.1, (f2 b hb).2.2.2.2.2⟩, fun pins' σ' H' s' J => ⟨?_, ?_⟩⟩
    · exact I3.call' (ch := fp) J.os J.base J.hok J.bare fun b hb => ⟨(f2 b hb).2.2.2.1, (f2 b hb).2.1, (f2 b hb).2.2.2.2.1, (f2 b hb).2.2.2.2.2⟩
    · refine ⟨J.free, Nat.ne_of_gt I3.lt, I3.sz, fun y c e z => ?_, fun p hp z => ?_⟩
      · obtain ⟨v, q⟩ := I3.cell y c e
        have := q.lt
        rw [z] at this
        exact Nat.lt_irrefl _ this
      · have := Heap.lt_size (I3.pin p hp).1
        rw [z] at this
        exact Nat.lt_irrefl _ this
  obtain ⟨hG, hT, hE⟩ := hin cl s3.heap.objs.size s3 H3 fp pins σ bk
  have loop : ∀ t', codeAny (model X.prog X.w) X.A (.compLoop (.ListComp elt [⟨tg, iter, cs, 0⟩] scope pos) 0 (.ref it) (.ref s2.heap.objs.size) Y.env) (compPost (model X.prog X.w) X.A X.xe use RR (.ref s2.heap.objs.size) s3.heap.objs.size) { s3 with heap := h4, toks := t' } := by
    intro t'
    refine comp_turns (EE := Y.xe) (by cases use <;> rfl) (fun n s' => ∃ i H', Inv Y [] (List.replicate xs.length none ++ σ) H' s' ∧ tn i s'.heap ∧ (∀ b ∈ fp, H' b = none) ∧ W i n H') ?_ m0 ⟨0, H3, IY t', st4, n3, w0⟩
    rintro n s5 ⟨i, H5, I5, st5, fr5, w5⟩
    rcases turn i n H5 w5 with ⟨stop, qn⟩ | ⟨go, N, hN, step⟩
    · refine thn (T.done Y rfl rfl rfl hc i [] s5 (List.replicate xs.length none ++ σ) H5 _ I5 (stat (by simp) fr5) st5 stop) fun r s6 ⟨hr, I6⟩ => ?_
      subst hr
      obtain ⟨m6, hn6, _⟩ := I6.loc
      have I8 : Inv X pins σ H5 s6 := I3.call' (ch := fp) I6.os I6.base I6.hok I6.bare fun b hb => ⟨(f2 b hb).2.2.2.1, (f2 b hb).2.1, (f2 b hb).2.2.2.2.1, (f2 b hb).2.2.2.2.2⟩
      have lt8 : X.env.locals < s3.heap.objs.size := I3.lt
      refine fin _ _ s6 H5 m6 qn I8 hn6 ⟨I6.free, Nat.ne_of_gt lt8, I3.sz, fun y c e z => ?_, fun p hp z => ?_⟩
      · obtain ⟨v, q⟩ := I3.cell y c e
        have := q.lt
        rw [z] at this
        exact Nat.lt_irrefl _ this
      · have := Heap.lt_size (I3.pin p hp).1
        rw [z] at this
        exact Nat.lt_irrefl _ this
    · refine thn (T.item Y rfl rfl rfl hc i [] s5 (List.replicate xs.length none ++ σ) H5 _ I5 (stat (by simp) fr5) st5 go) fun r s6 ⟨u, hr, h6⟩ => ?_
      subst hr
      refine thn h6 fun _ s7 ⟨x7, H7, I7, r7, y7, st7, fr7⟩ => ?_
      have I7' := I7.pinned (stat (by simp) fr7) (T.obj _ _ st7)
      have again : ∀ {σ8 : St} {H8 : Hp} {s8 : Shared}, (∃ l : St, l.length = xs.length ∧ σ8 = l ++ σ) → Inv Y ([] ++ pinsAt fp s7.heap) σ8 H8 s8 → N H8 → ∃ m, m < n ∧ ∃ i H', Inv Y [] (List.replicate xs.length none ++ σ) H' s8 ∧ tn i s8.heap ∧ (∀ b ∈ fp, H' b = none) ∧ W i m H' := fun {σ8 H8 s8} l8 I8 n8 => by
        obtain ⟨m', hm, w8⟩ := hN H8 n8
        obtain ⟨l, ll, rfl⟩ := l8
        have pin8 : ∀ b ∈ fp, ∀ o, s7.heap.get? b = some o → s8.heap.get? b = some o ∧ H8 b = none := fun b hb o e => by
          have z := I8.pin (b, o) (List.mem_append_right _ (List.mem_append_right _ (mem_pinsAt hb e)))
          exact ⟨z.1, z.2.1⟩
        refine ⟨m', hm, i + 1, H8, I8.unpinned.weak (by simp [ll]) (fun j v e => ?_), T.keep _ _ _ st7 fun b hb o e => (pin8 b hb o e).1, fun b hb => ?_, w8⟩
        · by_cases hj : j < xs.length
          · rw [List.getElem?_append_left (by simpa using hj), List.getElem?_replicate] at e
            split at e <;> cases e
          · rw [List.getElem?_append_right (by simpa using hj)] at e
            rw [List.getElem?_append_right (by omega), ll]
            simpa using e
        · obtain ⟨o, e, _⟩ := T.obj _ _ st7 b hb
          exact (pin8 b hb o e).2
      refine thn (hG _ s7 (List.replicate xs.length none ++ σ) H7 x7 u _ I7' r7 (hg _ _ _ _ (step x7 H7 y7))) fun _ s8 ⟨σ8, H8, I8, l8, q8⟩ => ?_
      refine thn (hT _ s8 σ8 H8 _ I8 q8) fun ok s9 ⟨H9, I9, q9⟩ => ?_
      cases ok with
      | false => exact again l8 I9 q9
      | true =>
        refine thn (hE _ s9 σ8 H9 _ I9 q9) fun y s10 ⟨y10, H10, I10, r10, ys, hd, hl, n10⟩ => ?_
        refine thn (mt_append _ s10 σ8 H10 (.ref s2.heap.objs.size) [y10] (.ref s2.heap.objs.size) [y] (fun _ H' => N H') I10 rfl (.cons r10 .nil) ⟨_, ys, y10, rfl, rfl, hd, hl, n10⟩) fun _ s11 ⟨_, H11, I11, _, n11⟩ => ?_
        exact again l8 I11 n11
  refine codeAny_compStart_list (loop _) (T.self _ 0 _ _ _ st4 (loop _))

theorem pe_comp {X : Cx} {elt tg iter : Expr} {cs : List Expr} {scope : Scope} {pos : Pos} {wi : TI} {g : TG} {tc : TT} {te : TE} {xs M : List Str} (hc : X.calm = true) (S : CompScope scope X.env X.N M) (hi : PI X tg iter wi)
    (hin : ∀ (cl : List (Str × Addr)) (C : Addr) (s0 : Shared) (H0 : Hp) (fp : List Addr), PG (cxC X scope cl C s0 H0 fp (xs ++ M)) tg g ∧ PTs (cxC X scope cl C s0 H0 fp (xs ++ M)) cs tc ∧ PE (cxC X scope cl C s0 H0 fp (xs ++ M)) elt te)
    (hg : ∀ v σ H Q, g v (List.replicate xs.length none ++ σ) H Q → g v (List.replicate xs.length none ++ σ) H fun σ2 H2 => (∃ l : St, l.length = xs.length ∧ σ2 = l ++ σ) ∧ Q σ2 H2)
    (hs : ∀ x, foldedSetIterable iter X.env x = pure x := by intro _; rfl) : PE X (.ListComp elt [⟨tg, iter, cs, 0⟩] scope pos) (tComp xs.length wi g tc te) := by
  intro pins s σ H Q I h
  rw [eval_ListComp]
  exact comp_run (use := none) hc S hi (fun cl C s0 H0 fp _ _ _ => hin cl C s0 H0 fp) hg hs pins s σ H Q I h fun d C s6 H6 m q I6 hn gn => ⟨m, hn, fun h' hs' => ⟨.ref d, H6, I6.gone gn hs', rfl, q⟩⟩
/-! name = [..], on one row: the name is stored ahead of the block's end -/
theorem ps_comp {X : Cx} {elt tg iter : Expr} {cs : List Expr} {scope : Scope} {pos pos' spos : Pos} {wi : TI} {g : TG} {tc : TT} {te : TE} {xs M : List Str} {i : Nat} {x : Str} (hc : X.calm = true) (S : CompScope scope X.env X.N M) (hi : PI X tg iter wi)
    (hin : ∀ (cl : List (Str × Addr)) (C : Addr) (s0 : Shared) (H0 : Hp) (fp : List Addr), PG (cxC X scope cl C s0 H0 fp (xs ++ M)) tg g ∧ PTs (cxC X scope cl C s0 H0 fp (xs ++ M)) cs tc ∧ PE (cxC X scope cl C s0 H0 fp (xs ++ M)) elt te)
    (hg : ∀ v σ H Q, g v (List.replicate xs.length none ++ σ) H Q → g v (List.replicate xs.length none ++ σ) H fun σ2 H2 => (∃ l : St, l.length = xs.length ∧ σ2 = l ++ σ) ∧ Q σ2 H2)
    (hN : X.N.Nodup) (hix : X.N[i]? = some x) (hx : X.env.scope.names.lookup x = some .local) (hw : swapsWith (.ListComp elt [⟨tg, iter, cs, 0⟩] scope pos) (some (.Name x pos')) spos.line X.env = pure true)
    (hs : ∀ x, foldedSetIterable iter X.env x = pure x := by intro _; rfl) : PS X (.Assign [.Name x pos'] (.ListComp elt [⟨tg, iter, cs, 0⟩] scope pos) spos) (tAsg (tComp xs.length wi g tc te) (gName i)) := by
  intro pins s σ H D I h
  rw [exec_Assign_Name_used _ _ _ _ hw]
  refine wpAny_bind (wpAny_standAt (wpAny_bind ?_))
  show wpAny _ X.A (comprehension (.ListComp elt [⟨tg, iter, cs, 0⟩] scope pos) scope X.env _ (newList []) false (eval iter X.env) (some (assign (.Name x pos') X.env)) >>= fun _ => pure ()) _ _ s
  refine wpAny_bind (thn (comp_run (use := some (assign (.Name x pos') X.env)) (RR := fun _ s' => SP X pins D .next s') hc S hi (fun cl C s0 H0 fp _ _ _ => hin cl C s0 H0 fp) hg hs pins s σ H _ I h fun d C s6 H6 m q I6 hn gn => ?_) fun _ s' hq => wpAny_pure (wpAny_pure hq))
  show wpAny _ X.A (assign (.Name x pos') X.env (.ref d)) _ _ s6
  refine wpAny_assign_Name (store_ok2 I6 hN hix (.inl hx) (v := .ref d) rfl (fun s7 I7 ch => ?_) (.inr hx))
  obtain ⟨a, hsb, ha⟩ := ch
  have ne : C ≠ a := by
    rcases ha with z | z
    · rw [z]; exact gn.ne
    · exact fun z' => gn.cl x a z z'.symm
  exact ⟨m, hn.sameBut hsb ne, fun h' hs' => ⟨_, H6, I7.gone gn hs', q⟩⟩
/-! the same, with the way back -/
theorem pe_compB {X : Cx} {elt tg iter : Expr} {cs : List Expr} {scope : Scope} {pos : Pos} {wi : TI} {g : TG} {tc : TT} {te : TE} {xs M : List Str} (hc : X.calm = true) (S : CompScope scope X.env X.N M) (hi : PI X tg iter wi)
    (hin : ∀ (cl : List (Str × Addr)) (C : Addr) (s0 : Shared) (H0 : Hp) (fp : List Addr) (pins : List (Addr × Obj)) (σ : St), Back X (cxC X scope cl C s0 H0 fp (xs ++ M)) pins σ fp C s0 H0 → PG (cxC X scope cl C s0 H0 fp (xs ++ M)) tg g ∧ PTs (cxC X scope cl C s0 H0 fp (xs ++ M)) cs tc ∧ PE (cxC X scope cl C s0 H0 fp (xs ++ M)) elt te)
    (hg : ∀ v σ H Q, g v (List.replicate xs.length none ++ σ) H Q → g v (List.replicate xs.length none ++ σ) H fun σ2 H2 => (∃ l : St, l.length = xs.length ∧ σ2 = l ++ σ) ∧ Q σ2 H2)
    (hs : ∀ x, foldedSetIterable iter X.env x = pure x := by intro _; rfl) : PE X (.ListComp elt [⟨tg, iter, cs, 0⟩] scope pos) (tComp xs.length wi g tc te) := by
  intro pins s σ H Q I h
  rw [eval_ListComp]
  exact comp_run (use := none) hc S hi hin hg hs pins s σ H Q I h fun d C s6 H6 m q I6 hn gn => ⟨m, hn, fun h' hs' => ⟨.ref d, H6, I6.gone gn hs', rfl, q⟩⟩
end L2
set_option Elab.async false
set_option linter.all false
set_option maxRecDepth 100000
namespace L2
open PySem PySem.Spec PyProof.Rows

/-! ### data that == compares: R x d says that the value x bears the datum d -/
structure EqK {α : Type} [DecidableEq α] (H : Hp) (s : Shared) (n : Nat) (R : V → α → Prop) : Prop where
  inj : ∀ x a b, R x a → R x b → a = b
  eq : ∀ (A : Around) (x y : V) (a b : α) (u v : Value), A.units + n < cLine → R x a → R y b → RelV x u → RelV y v → SeqAt.EqAt A s u v (decide (a = b))

def RInt (x : V) (i : Int) : Prop := x = .int i
def RBl (x : V) (b : Bool) : Prop := x = .bl b
def RTup {α : Type} (H : Hp) (R : V → α → Prop) (x : V) (ds : List α) : Prop := ∃ a xs, x = .ref a ∧ H a = some (.tup xs) ∧ Paired R xs ds
def RLst {α : Type} (H : Hp) (R : V → α → Prop) (x : V) (ds : List α) : Prop := ∃ a xs, x = .ref a ∧ H a = some (.lst xs) ∧ Paired R xs ds
def ROpt {α : Type} (R : V → α → Prop) (x : V) : Option α → Prop
  | none => x = .non
  | some d => R x d ∧ ∃ a, x = .ref a

theorem all_eq {α : Type} [DecidableEq α] : ∀ (as bs : List α) (e : Nat → Bool), (∀ j x y, as[j]? = some x → bs[j]? = some y → e j = decide (x = y)) →
    ((List.range (min as.length bs.length)).all e && as.length == bs.length) = decide (as = bs) := by
  intro as bs e h
  rw [Bool.eq_iff_iff]
  simp only [Bool.and_eq_true, List.all_eq_true, List.mem_range, beq_iff_eq, decide_eq_true_eq]
  constructor
  · rintro ⟨h1, h2⟩
    refine List.ext_getElem? fun j => ?_
    by_cases hj : j < as.length
    · have e1 : as[j]? = some as[j] := List.getElem?_eq_getElem hj
      have e2 : bs[j]? = some (bs[j]'(by omega)) := List.getElem?_eq_getElem (by omega)
      have q := h1 j (by omega)
      rw [h j _ _ e1 e2] at q
      rw [e1, e2, of_decide_eq_true q]
    · rw [List.getElem?_eq_none (by omega), List.getElem?_eq_none (by omega)]
  · rintro rfl
    refine ⟨fun j hj => ?_, rfl⟩
    have hj : j < as.length := by omega
    have e1 : as[j]? = some as[j] := List.getElem?_eq_getElem hj
    rw [h j _ _ e1 e1]
    simp
theorem Paired.right_of {α β : Type} {R : α → β → Prop} : ∀ {xs : List α} {ds : List β}, Paired R xs ds → ∀ (j : Nat) (x : α), xs[j]? = some x → ∃ d, ds[j]? = some d ∧ R x d
  | _, _, .nil, j, x, e => by simp at e
  | _, _, .cons r t, 0, x, e => by simp at e; subst e; exact ⟨_, rfl, r⟩
  | _, _, .cons r t, j + 1, x, e => by
    obtain ⟨d, e1, e2⟩ := Paired.right_of t j x (by simpa using e)
    exact ⟨d, by simpa using e1, e2⟩
theorem Paired.ints : ∀ ns : List Int, Paired RInt (ns.map V.int) ns
  | [] => .nil
  | n :: ns => .cons rfl (Paired.ints ns)
theorem Paired.ofInts : ∀ {xs : List V} {ns : List Int}, Paired RInt xs ns → xs = ns.map V.int
  | _, _, .nil => rfl
  | _, _, .cons r t => by rw [show _ = _ from r, Paired.ofInts t]; rfl
theorem Paired.bls : ∀ ns : List Bool, Paired RBl (ns.map V.bl) ns
  | [] => .nil
  | n :: ns => .cons rfl (Paired.bls ns)
theorem rtup_ints {H : Hp} {a : Addr} {ns : List Int} (h : H a = some (.tup (ns.map V.int))) : RTup H RInt (.ref a) ns := ⟨a, _, rfl, h, Paired.ints ns⟩

section
variable {α : Type} [DecidableEq α] {P : Program} {w : World} {H : Hp} {s : Shared} {n : Nat} {R : V → α → Prop} {A : Around}
theorem EqK.bl : EqK H s n RBl := ⟨fun x a b h1 h2 => by unfold RBl at *; rw [h1] at h2; cases h2; rfl, fun A x y a b u v _ h1 h2 r1 r2 => by
  unfold RBl at *
  subst h1 h2
  cases r1
  cases r2
  have q := SeqAt.EqAt.bool_bool (A := A) (s := s) a b
  rw [Bool.beq_eq_decide_eq] at q
  exact q⟩
/-! the items of two sequences -/
theorem items_eq (K : EqK H s n R) {xs ys : List V} {ds es : List α} {its its2 : List Value} (p1 : Paired R xs ds) (p2 : Paired R ys es) (v1 : Vals xs its) (v2 : Vals ys its2) (hA : A.units + n < cLine) :
    ∃ e : Nat → Bool, (∀ j (h1 : j < its.toArray.size) (h2 : j < its2.toArray.size), SeqAt.EqAt A s its.toArray[j] its2.toArray[j] (e j)) ∧ ((List.range (min its.toArray.size its2.toArray.size)).all e && its.toArray.size == its2.toArray.size) = decide (ds = es) := by
  have l1 : its.toArray.size = ds.length := by rw [List.size_toArray, ← v1.length]; exact p1.length
  have l2 : its2.toArray.size = es.length := by rw [List.size_toArray, ← v2.length]; exact p2.length
  refine ⟨fun j => match ds[j]?, es[j]? with | some d, some e => decide (d = e) | _, _ => true, fun j h1 h2 => ?_, ?_⟩
  · have hx : xs[j]? = some (xs[j]'(by rw [v1.length]; simpa using h1)) := List.getElem?_eq_getElem _
    have hy : ys[j]? = some (ys[j]'(by rw [v2.length]; simpa using h2)) := List.getElem?_eq_getElem _
    obtain ⟨d, e1, r1⟩ := Paired.right_of p1 j _ hx
    obtain ⟨e, e2, r2⟩ := Paired.right_of p2 j _ hy
    obtain ⟨u, e3, r3⟩ := v1.get hx
    obtain ⟨v, e4, r4⟩ := v2.get hy
    have q3 : its.toArray[j] = u := by
      have := (List.getElem?_eq_some_iff.mp e3).2
      simpa using this
    have q4 : its2.toArray[j] = v := by
      have := (List.getElem?_eq_some_iff.mp e4).2
      simpa using this
    simp only [e1, e2, q3, q4]
    exact K.eq A _ _ d e u v hA r1 r2 r3 r4
  · rw [l1, l2]
    exact all_eq ds es _ fun j x y h1 h2 => by simp only [h1, h2]
theorem isL_of {h : Heap} {a : Addr} {its : List Value} {k : Nat} (e : h.get? a = some { cls := .type "list", data := .seq its.toArray k }) : h.IsList a its.toArray := ⟨_, e, rfl, _, rfl⟩
theorem rc_lsts (K : EqK H s n R) (ok : HOk P w H s.heap) {a b : Addr} {xs ys : List V} {ds es : List α} (ha : H a = some (.lst xs)) (hb : H b = some (.lst ys)) (p1 : Paired R xs ds) (p2 : Paired R ys es) (hA : A.units + (n + 1) < cLine) :
    SeqAt.RcAt A s (.ref a) (.ref b) (decide (ds = es)) := by
  obtain ⟨_, its, k1, v1, t1⟩ := ok a _ ha
  obtain ⟨_, its2, k2, v2, t2⟩ := ok b _ hb
  obtain ⟨e, h1, h2⟩ := items_eq (A := A.in1) K p1 p2 v1 v2 (by show A.units + 1 + n < cLine; omega)
  by_cases hz : its.toArray.size = its2.toArray.size
  · have q := SeqAt.RcAt.lists (isL_of t1) (isL_of t2) hz (show A.units < cLine by omega) h1
    have z : (List.range its.toArray.size).all e = decide (ds = es) := by
      rw [← h2, ← hz]
      simp
    rw [z] at q
    exact q
  · have q := SeqAt.RcAt.lists_lengths (A := A) (isL_of t1) (isL_of t2) (by simpa using hz) (show A.units < cLine by omega)
    have z : false = decide (ds = es) := by
      rw [← h2]
      have : (its.toArray.size == its2.toArray.size) = false := by simpa using hz
      rw [this, Bool.and_false]
    rw [z] at q
    exact q
end

/-! ### the operators ==, != on two tuples, two lists -/
section
variable {X : Cx} {α : Type} [DecidableEq α]
def rEqTI : R2 := fun x y H Q => ∃ ns ms, RTup H RInt x ns ∧ RTup H RInt y ms ∧ Q (.bl (decide (ns = ms))) H
def rNeTI : R2 := fun x y H Q => ∃ ns ms, RTup H RInt x ns ∧ RTup H RInt y ms ∧ Q (.bl (!decide (ns = ms))) H
end

/-! ### isinstance(x, T), T a built-in type -/
def rIsi (K : PySem.W.Frag) : List V → Hp → VK → Prop := fun xs H Q => ∃ x t T b, xs = [x, .ty T] ∧ TyOf K H x t ∧ PySem.W.kitOne K t (.type T) = some b ∧ Q (.bl b) H
theorem call_isi {X : Cx} : CallR X (.builtin "isinstance") (rIsi X.K) := by
  intro pins s σ H xs us Q I r h
  obtain ⟨x, t, T, b, rfl, ty, e, q⟩ := h
  obtain ⟨u, v, rfl, r1, r2⟩ := r.two
  cases r2
  exact isinst_ok I r1 ty e fun tk => ⟨.bl b, H, I.tok tk, rfl, q⟩

/-! ### slices and sums of tuples, whatever they are: some tuple with these items -/
def rSlG : V → Option Int → Option Int → Hp → VK → Prop := fun x lo hi H Q => ∃ a xs, x = .ref a ∧ H a = some (.tup xs) ∧ ∀ p H', Same H H' → H' p = some (.tup (cutV xs lo hi)) → Q (.ref p) H'
theorem sixAll {n : Nat} {α : Type} (xs : List α) (lo hi : Option Int) (h1 : HT.sIx xs.length 0 lo = 0) (h2 : HT.sIx xs.length xs.length hi = xs.length) : (xs.drop (HT.sIx xs.length 0 lo)).take (HT.sIx xs.length xs.length hi - HT.sIx xs.length 0 lo) = xs := by
  rw [h1, h2]; simp
theorem same_newO {H : Hp} {p : Addr} (h : H p = none) (o : HO) : Same H (upd H p o) := fun b u q => by rw [upd_ne (ne_of_none q h)]; exact q
theorem whole_tuple {prog : Program} {w : World} {A : Around} {E : Value → Shared → Prop} {s : Shared} {t sl : Addr} {items : Array Value} {vl vu : Value} {lo hi : Option Int} {Q : Value → Shared → Prop} (ht : IsTup s.heap t items) (hs : s.heap.IsSliceOf sl vl vu .none) (pl : IsPart vl lo) (pu : IsPart vu hi)
    (h1 : HT.sIx items.size 0 lo = 0) (h2 : HT.sIx items.size items.size hi = items.size) (h : Q (.ref t) s) : wpAny (model prog w) A (getItem (.ref t) (.ref sl)) Q E s := by
  obtain ⟨os, hos, hcs, hds⟩ := id hs
  have hTs : s.TypeIs (.ref sl) "slice" := ⟨os, hos, hcs⟩
  unfold getItem
  try with_reducible refine wpAny_holding ?_
  first | refine wpAny_bind (wpAny_pure ?_) | skip
  refine wpAny_bind (wpAny_sequenceKey ht.typeIs (by decide) ?_)
  refine wpAny_bind (wpAny_callSpecial?_slot (name := Str.ofString "__getitem__") ht.typeIs PyProof.Rows.slot_tuple_getitem
    (wpAny_call_entry PyProof.Rows.slot_tuple_getitem ht.typeIs entry_tuple_getitem ?_ (args_tuple_getitem _ _)))
  show wpAny _ _ (Builtin.Tuple.tupleItemsOf (.ref t) >>= _) _ _ s
  refine wpAny_bind (tupleItemsOf_ ht ?_)
  refine wpAny_bind (wpAny_typeOf hTs ?_)
  rw [if_pos (by decide)]
  refine wpAny_bind (HT.sliceApplied_gen hs pl pu ?_)
  rw [h1, h2]
  show wpAny _ _ (if (((0 : Nat) : Int) == 0 && (1 : Int) == 1 && (items.size - 0) == items.size) = true then _ else _) _ _ s
  rw [if_pos (by simp)]
  unfold Builtin.Tuple.tupleIsExact
  refine wpAny_bind (wpAny_bind (wpAny_typeOf ht.typeIs (wpAny_pure ?_)))
  rw [if_pos (by decide)]
  first
    | exact wpAny_bind (wpAny_rule (wpAny_bind (wpAny_pure (wpAny_pure ⟨_, rfl, wpAny_pure h⟩))))
    | exact wpAny_bind (wpAny_rule (wpAny_pure ⟨_, rfl, wpAny_pure h⟩))
    | exact wpAny_bind (wpAny_bind (wpAny_rule (wpAny_pure ⟨_, rfl, wpAny_pure h⟩)))
theorem sl_tupG {X : Cx} : SlR X rSlG := by
  intro pins s σ H x v vl vu lo hi sl Q I rx hs pl pu h
  obtain ⟨a, xs, rfl, hx, q⟩ := h
  by_cases hw : HT.sIx xs.length 0 lo = 0 ∧ HT.sIx xs.length xs.length hi = xs.length
  · cases rx
    obtain ⟨hz, its, r, ht⟩ := I.hok a _ hx
    have hlen : its.toArray.size = xs.length := by rw [List.size_toArray]; exact r.length.symm
    refine ⟨"tuple", _, PyProof.Rows.slot_tuple_getitem.lookup, (IsTp.is ht).typeIs, ?_⟩
    refine whole_tuple (IsTp.is ht) hs pl pu (by rw [hlen]; exact hw.1) (by rw [hlen]; exact hw.2) ⟨.ref a, H, I, rfl, q a H (Same.refl H) ?_⟩
    unfold cutV
    rw [sixAll (n := 0) xs lo hi hw.1 hw.2]
    exact hx
  · exact sl_tup pins s σ H (.ref a) v vl vu lo hi sl Q I rx hs pl pu ⟨a, xs, rfl, .inl (.inl hx), hw, fun p hp => q p _ (same_newO hp _) upd_same⟩
def rCatG : R2 := fun x y H Q => ∃ a b xs ys, x = .ref a ∧ y = .ref b ∧ H a = some (.tup xs) ∧ H b = some (.tup ys) ∧ xs.length + ys.length ≤ sizeLine ∧ ∀ p H', Same H H' → H' p = some (.tup (xs ++ ys)) → Q (.ref p) H'
theorem op_catG {X : Cx} : OpR X (binaryOp .Add) rCatG := by
  intro pins s σ H x y v u Q I rx ry h
  obtain ⟨a, b, xs, ys, rfl, rfl, ha, hb, hz, q⟩ := h
  by_cases hx : xs = []
  · subst hx
    cases rx; cases ry
    obtain ⟨_, its, r1, p1⟩ := I.hok a _ ha
    obtain ⟨_, its2, r2, p2⟩ := I.hok b _ hb
    have e0 : its = [] := r1.nil_iff.mpr rfl
    subst e0
    obtain ⟨⟨cls, dd, data, sl⟩, ho, hc, n, hd⟩ := id (IsTp.is p1)
    obtain ⟨⟨cls2, dd2, data2, sl2⟩, ho2, hc2, n2, hd2⟩ := id (IsTp.is p2)
    simp only at hc hd hc2 hd2
    subst hc hd hc2 hd2
    exact concat_meets ⟨_, ho, rfl⟩ ⟨_, ho2, rfl⟩ noFill_tuple_add seq_tuple_add PySem.F.slot_tuple_add PySem.F.entry_tuple_add (PySem.F.args_tuple_add_2 _ _)
      (tuple_addW0 a b ([] : List Value).toArray its2.toArray n n2 dd dd2 sl sl2 (by simp)) ⟨ho, ho2, ⟨.ref b, H, I, rfl, q b H (Same.refl H) (by simpa using hb)⟩⟩
  · exact op_catT pins s σ H (.ref a) (.ref b) v u Q I rx ry ⟨a, b, xs, ys, rfl, rfl, .inl (.inl ha), .inl (.inl hb), hx, hz, fun z => q a H (Same.refl H) (by rw [z, List.append_nil]; exact ha), fun _ p hp => q p _ (same_newO hp _) upd_same⟩

/-! ### all(list of bools) -/
def rAll : List V → Hp → VK → Prop := fun xs H Q => ∃ (a : Addr) (bs : List Bool), xs = [.ref a] ∧ H a = some (.lst (bs.map V.bl)) ∧ Q (.bl (bs.all id)) H
theorem vals_bls : ∀ {bs : List Bool} {us : List Value}, Vals (bs.map V.bl) us → us = bs.map Value.bool := by
  intro bs
  induction bs with
  | nil => intro us r; rw [List.map_nil] at r; cases r; rfl
  | cons b bs ih =>
    intro us r
    rw [List.map_cons] at r
    cases r with
    | cons r1 r2 => rw [ih r2, show _ = Value.bool b from r1]; rfl
theorem all_range (bs : List Bool) : (List.range bs.length).all (fun i => bs.getD i true) = bs.all id := by
  rw [Bool.eq_iff_iff]
  simp only [List.all_eq_true, List.mem_range, id]
  constructor
  · intro h b hb
    obtain ⟨i, hi, rfl⟩ := List.mem_iff_getElem.mp hb
    have q := h i hi
    rwa [List.getD_eq_getElem?_getD, List.getElem?_eq_getElem hi] at q
  · intro h i hi
    rw [List.getD_eq_getElem?_getD, List.getElem?_eq_getElem hi]
    exact h _ (List.getElem_mem hi)
theorem call_all {X : Cx} (hc : X.calm = true) : CallR X (.builtin "all") rAll := by
  intro pins s σ H xs us Q I r h
  obtain ⟨a, bs, rfl, ha, q⟩ := h
  obtain ⟨u, rfl, ru⟩ := vals1 r
  cases ru
  obtain ⟨hz, its, n, v, e⟩ := I.hok a _ ha
  have ei := vals_bls v
  subst ei
  refine call_all_walk (wpAny_pyIter_list (isL_of e) ?_)
  have hlt := Heap.lt_size e
  refine ⟨s.heap.objs.size, _, _, _, _, _, fun i => bs.getD i true, rfl, Walks.list (A := X.A.in1) (by show X.A.handled = none; exact I.ok.hd hc) s.heap.objs.size a (Nat.ne_of_lt hlt) (bs.map Value.bool).toArray, ⟨⟨_, Heap.get?_push_size _ rfl, rfl, rfl⟩, isL_of (Heap.get?_push_of_some _ e)⟩, ?_, fun h' tk hk => ?_⟩
  · intro i v s' Q' E' hv hq
    simp only [List.getElem?_toArray, List.getElem?_map] at hv
    cases hb : bs[i]? with
    | none => rw [hb] at hv; cases hv
    | some b =>
      rw [hb] at hv; cases hv
      have hq' : Q' (bs.getD i true) s' := hq
      rw [List.getD_eq_getElem?_getD, hb] at hq'
      exact wpAny_truthy_bool hq'
  · have e1 : (bs.map Value.bool).toArray.size = bs.length := by simp
    rw [e1, all_range]
    exact ⟨.bl _, H, I.kept (h' := h') (t' := tk) (fun b o eo => hk b o (by simp; exact Nat.ne_of_lt (Heap.lt_size eo)) (Heap.get?_push_of_some _ eo)), rfl, q⟩

/-! ### sum(list of ints) -/
def rSum : List V → Hp → VK → Prop := fun xs H Q => ∃ (a : Addr) (ns : List Int), xs = [.ref a] ∧ H a = some (.lst (ns.map V.int)) ∧ Q (.int ns.sum) H
theorem vals_intAt : ∀ {ns : List Int} {us : List Value}, Vals (ns.map V.int) us → ∀ (i : Nat) (v : Value), us[i]? = some v → ∃ t, v = .int (ns.getD i 0) t := by
  intro ns
  induction ns with
  | nil => intro us r i v e; rw [List.map_nil] at r; cases r; simp at e
  | cons n ns ih =>
    intro us r i v e
    rw [List.map_cons] at r
    cases r with
    | cons r1 r2 =>
      cases i with
      | zero =>
        simp at e; subst e
        obtain ⟨t, z⟩ := r1
        exact ⟨t, by rw [z]; simp⟩
      | succ i =>
        obtain ⟨t, z⟩ := ih r2 i v (by simpa using e)
        exact ⟨t, by rw [z]; simp⟩
theorem call_sum {X : Cx} (hc : X.calm = true) : CallR X (.builtin "sum") rSum := by
  intro pins s σ H xs us Q I r h
  obtain ⟨a, ns, rfl, ha, q⟩ := h
  obtain ⟨u, rfl, ru⟩ := vals1 r
  cases ru
  obtain ⟨hz, its, n, v, e⟩ := I.hok a _ ha
  refine call_sum_walkAnyS (wpAny_pyIter_list (isL_of e) ?_)
  have hlt := Heap.lt_size e
  refine ⟨s.heap.objs.size, _, _, _, _, _, _, fun i => ns.getD i 0, rfl, (Walks.list (A := X.A.in1) (by show X.A.handled = none; exact I.ok.hd hc) s.heap.objs.size a (Nat.ne_of_lt hlt) its.toArray).toS, ⟨⟨_, Heap.get?_push_size _ rfl, rfl, rfl⟩, isL_of (Heap.get?_push_of_some _ e)⟩, ?_, ?_, fun s' t' mv => ?_⟩
  · intro b hb
    have hp : (s.heap.push { cls := .type "list_iterator", data := .fields #[.ref a, rawInt 0] }).objs.size = s.heap.objs.size + 1 := Heap.size_push _ _
    rcases List.mem_cons.mp hb with z | z
    · subst z
      exact Heap.lt_size (Heap.get?_push_size _ rfl)
    · have z' : b = a := by simpa using z
      subst z'
      exact Heap.lt_size (Heap.get?_push_of_some _ e)
  · intro i v' hv
    exact vals_intAt v i v' (by simpa using hv)
  · have e1 : its.toArray.size = ns.length := by
      have := v.length
      rw [List.length_map] at this
      simpa using this.symm
    rw [e1, preSum_getD]
    have e2 : ns.take ns.length = ns := List.take_length
    rw [e2]
    have k : ∀ b o, s.heap.get? b = some o → s'.heap.get? b = some o := fun b o eo => mv.heap b o (by simp; exact Nat.ne_of_lt (Heap.lt_size eo)) (Heap.get?_push_of_some _ eo)
    obtain ⟨h', g', d', tk', os'⟩ := s'
    have z1 : g' = s.gens := mv.gens
    have z2 : d' = s.drawn := mv.drawn
    have z3 : os' = s.os := mv.os
    subst z1 z2 z3
    exact ⟨.int _, H, I.kept (h' := h') (t' := tk') k, ⟨t', rfl⟩, q⟩
end L2
set_option Elab.async false
set_option linter.all false
set_option maxRecDepth 100000
namespace L2
open PySem PySem.Spec PyProof.Rows

theorem lookup_relabel (scope : Scope) (en : Env) (y : Str) : (relabel scope en).names.lookup y = (scope.names.lookup y).map fun k => if (k == NameKind.free && en.scope.kind == .function && en.kindOf y == some .cell) = true then .cell else k := by
  show List.lookup y (scope.names.map fun (n, k) => if (k == NameKind.free && en.scope.kind == .function && en.kindOf n == some .cell) = true then (n, NameKind.cell) else (n, k)) = _
  generalize scope.names = l
  induction l with
  | nil => rfl
  | cons p r ih =>
    obtain ⟨n, k⟩ := p
    rw [List.map_cons]
    by_cases hy : y = n
    · subst hy
      show List.lookup y ((if (k == NameKind.free && en.scope.kind == .function && en.kindOf y == some .cell) = true then (y, NameKind.cell) else (y, k)) :: _) = _
      by_cases hc : (k == NameKind.free && en.scope.kind == .function && en.kindOf y == some .cell) = true
      · rw [if_pos hc, List.lookup_cons, List.lookup_cons, beq_self_eq_true]
        show some NameKind.cell = some (if _ then _ else _)
        rw [if_pos hc]
      · rw [if_neg hc, List.lookup_cons, List.lookup_cons, beq_self_eq_true]
        show some k = some (if _ then _ else _)
        rw [if_neg hc]
    · have hb : (y == n) = false := by simpa using hy
      show List.lookup y ((if (k == NameKind.free && en.scope.kind == .function && en.kindOf n == some .cell) = true then (n, NameKind.cell) else (n, k)) :: _) = _
      by_cases hc : (k == NameKind.free && en.scope.kind == .function && en.kindOf n == some .cell) = true
      · rw [if_pos hc, List.lookup_cons, List.lookup_cons, hb]; exact ih
      · rw [if_neg hc, List.lookup_cons, List.lookup_cons, hb]; exact ih
/-! what a look at the two scopes decides -/
def okPair (scope : Scope) (p : Str × Str) : Bool := match scope.names.lookup p.1 with
  | none => true
  | some .free => p.1 == p.2
  | some .local => false
  | some .cell => false
  | some _ => true
theorem CompScope.of' {scope : Scope} {en : Env} {N M : List Str} (sc : Scope) (N₀ : List Str) (hsc : en.scope = sc) (hN : N = N₀) (kind : scope.kind = .function) (nocell : ∀ y ∈ scope.names, y.2 ≠ .cell) (locs : ∀ y ∈ scope.names, y.2 = .local → scope.names.lookup y.1 = some .local)
    (free : ∀ y ∈ scope.names, y.2 = .free → sc.names.lookup y.1 = some .cell ∨ sc.names.lookup y.1 = some .free) (len : M.length = N₀.length) (same : ((M.zip N₀).all (okPair scope)) = true) : CompScope scope en N M := by
  subst hsc hN
  refine ⟨kind, nocell, locs, fun y hy => free _ hy rfl, len, fun j y e v => ?_, fun y h => ?_⟩
  · have hj : j < N.length := by rw [← len]; exact (List.getElem?_eq_some_iff.mp e).1
    have e2 : N[j]? = some N[j] := List.getElem?_eq_getElem hj
    have hm : (y, N[j]) ∈ M.zip N := by
      refine List.mem_iff_getElem?.mpr ⟨j, ?_⟩
      rw [List.getElem?_zip_eq_some]
      exact ⟨e, e2⟩
    have q := List.all_eq_true.mp same _ hm
    unfold okPair at q
    unfold Vis at v
    rw [lookup_relabel] at v ⊢
    cases hl : scope.names.lookup y with
    | none => rw [hl] at v; simp at v
    | some k =>
      rw [hl] at v q
      simp only [Option.map_some] at v ⊢
      cases k with
      | free =>
        have z : y = N[j] := by simpa using q
        refine ⟨by rw [e2, ← z], PySem.mem_of_lookup hl, ?_⟩
        split <;> simp
      | «local» => simp at q
      | cell => simp at q
      | _ => simp at v
  · rw [lookup_relabel] at h
    cases hl : scope.names.lookup y with
    | none => rw [hl] at h; simp at h
    | some k =>
      rw [hl] at h
      have hm := PySem.mem_of_lookup hl
      simp only [Option.map_some] at h
      cases k with
      | free => exact hm
      | cell => exact absurd rfl (nocell _ hm)
      | _ => simp at h
theorem CompScope.of {scope : Scope} {en : Env} {N M : List Str} (sc : Scope) (N₀ : List Str) (hsc : en.scope = sc) (hN : N = N₀) (kind : scope.kind = .function) (nocell : ∀ y ∈ scope.names, y.2 ≠ .cell) (locs : ∀ y ∈ scope.names, y.2 = .local → scope.names.lookup y.1 = some .local)
    (free : ∀ y ∈ scope.names, y.2 = .free → sc.names.lookup y.1 = some .cell ∨ sc.names.lookup y.1 = some .free) (len : M.length = N₀.length) (same : ((M.zip N₀).all (okPair scope)) = true) : CompScope scope en N M := CompScope.of' sc N₀ hsc hN kind nocell locs free len same
/-! a comprehension within a comprehension: what it takes from outside, the outer one takes too -/
/-! one name of its own -/
theorem hg_one {v : V} {σ : St} {H : Hp} {Q : St → Hp → Prop} (h : gName 0 v (List.replicate 1 none ++ σ) H Q) : gName 0 v (List.replicate 1 none ++ σ) H fun σ2 H2 => (∃ l : St, l.length = 1 ∧ σ2 = l ++ σ) ∧ Q σ2 H2 :=
  ⟨⟨[some v], rfl, rfl⟩, h⟩

/-! what a comprehension over a range, a list, a tuple wants: Pv i ys H: behind i turns the list at d holds ys -/
theorem comp_range {lo : Int} {n : Nat} {k : Nat} {g : TG} {tc : TT} {te : TE} {σ : St} {H : Hp} {Q : VK} {d : Addr} (Pv : Nat → Hp → Prop) (h0 : Pv 0 (upd H d (.lst [])))
    (hs : ∀ i H, i < n → Pv i H → g (.int (lo + i)) (List.replicate k none ++ σ) H fun σ2 H2 => tc σ2 H2 fun b H3 => if b = true then te σ2 H3 fun y H4 => ∃ ys, H4 d = some (.lst ys) ∧ ys.length < sizeLine ∧ Pv (i + 1) (upd H4 d (.lst (ys ++ [y]))) else Pv (i + 1) H3)
    (hd : ∀ H, Pv n H → Q (.ref d) H) :
    ∃ W : Nat → Nat → Hp → Prop, (∃ m, W 0 m (upd H d (.lst []))) ∧ ∀ i m H, W i m H →
      ((Itr lo n).stop i H ∧ Q (.ref d) H) ∨ ((Itr lo n).go i H ∧ ∃ N : Hp → Prop, (∀ H', N H' → ∃ m', m' < m ∧ W (i + 1) m' H') ∧ ∀ x H', (Itr lo n).yld i H x H' → g x (List.replicate k none ++ σ) H' fun σ2 H2 =>
        tc σ2 H2 fun b H3 => if b = true then te σ2 H3 fun y H4 => ∃ ys, H4 d = some (.lst ys) ∧ ys.length < sizeLine ∧ N (upd H4 d (.lst (ys ++ [y]))) else N H3) := by
  refine ⟨fun i m H => m = n - i ∧ i ≤ n ∧ Pv i H, ⟨n, by simp, Nat.zero_le _, h0⟩, ?_⟩
  rintro i m H ⟨rfl, hi, p⟩
  by_cases hlt : i < n
  · refine .inr ⟨hlt, Pv (i + 1), fun H' p' => ⟨n - (i + 1), by omega, rfl, hlt, p'⟩, fun x H' y => ?_⟩
    obtain ⟨e, y⟩ := y
    subst e y
    exact hs i _ hlt p
  · have e : i = n := by omega
    subst e
    exact .inl ⟨Nat.le_refl _, hd H p⟩
theorem comp_tup {K : PySem.W.Frag} {a : Addr} {xs : List V} {k : Nat} {g : TG} {tc : TT} {te : TE} {σ : St} {H : Hp} {Q : VK} {d : Addr} (Pv : Nat → Hp → Prop) (h0 : Pv 0 (upd H d (.lst []))) (hl : ∀ i H, i ≤ xs.length → Pv i H → SqT K H a xs)
    (hs : ∀ i x H, xs[i]? = some x → Pv i H → g x (List.replicate k none ++ σ) H fun σ2 H2 => tc σ2 H2 fun b H3 => if b = true then te σ2 H3 fun y H4 => ∃ ys, H4 d = some (.lst ys) ∧ ys.length < sizeLine ∧ Pv (i + 1) (upd H4 d (.lst (ys ++ [y]))) else Pv (i + 1) H3)
    (hd : ∀ H, Pv xs.length H → Q (.ref d) H) :
    ∃ W : Nat → Nat → Hp → Prop, (∃ m, W 0 m (upd H d (.lst []))) ∧ ∀ i m H, W i m H →
      ((Itt K a).stop i H ∧ Q (.ref d) H) ∨ ((Itt K a).go i H ∧ ∃ N : Hp → Prop, (∀ H', N H' → ∃ m', m' < m ∧ W (i + 1) m' H') ∧ ∀ x H', (Itt K a).yld i H x H' → g x (List.replicate k none ++ σ) H' fun σ2 H2 =>
        tc σ2 H2 fun b H3 => if b = true then te σ2 H3 fun y H4 => ∃ ys, H4 d = some (.lst ys) ∧ ys.length < sizeLine ∧ N (upd H4 d (.lst (ys ++ [y]))) else N H3) := by
  refine ⟨fun i m H => m = xs.length - i ∧ i ≤ xs.length ∧ Pv i H, ⟨xs.length, by simp, Nat.zero_le _, h0⟩, ?_⟩
  rintro i m H ⟨rfl, hi, p⟩
  have q := hl i H hi p
  by_cases hlt : i < xs.length
  · refine .inr ⟨⟨xs, xs[i], q, by simp [hlt]⟩, Pv (i + 1), fun H' p' => ⟨xs.length - (i + 1), by omega, rfl, hlt, p'⟩, fun x H' y => ?_⟩
    obtain ⟨e, y⟩ := y
    subst e
    exact hs i x _ (y xs q) p
  · have e : i = xs.length := by omega
    subst e
    exact .inl ⟨⟨xs, q, Nat.le_refl _⟩, hd H p⟩
/-! built-in names and types -/
theorem b_isi : bootBuiltins "isinstance" = some (.builtin "isinstance") := by decide +kernel
theorem b_all : bootBuiltins "all" = some (.builtin "all") := by decide +kernel
theorem b_sum : bootBuiltins "sum" = some (.builtin "sum") := by decide +kernel
theorem b_int : bootBuiltins "int" = some (.type "int") := by decide +kernel
theorem b_bool : bootBuiltins "bool" = some (.type "bool") := by decide +kernel
theorem b_list : bootBuiltins "list" = some (.type "list") := by decide +kernel
theorem b_tuple : bootBuiltins "tuple" = some (.type "tuple") := by decide +kernel
theorem kit_int_int (K : PySem.W.Frag) : PySem.W.kitOne K (.type "int") (.type "int") = some true := by rfl
theorem kit_int_bool (K : PySem.W.Frag) : PySem.W.kitOne K (.type "int") (.type "bool") = some false := by rfl

/-! ### readings in short, for one name of its own -/
theorem PE.imp {X : Cx} {e : Expr} {t t' : TE} (h : PE X e t) (hi : ∀ σ H Q, t' σ H Q → t σ H Q) : PE X e t' := fun pins s σ H Q I q => h pins s σ H Q I (hi σ H Q q)
/-! one turn with the item x: Z is what is wanted behind it -/
def turnC (tc : TT) (te : TE) (σ : St) (d : Addr) (x : V) (H : Hp) (Z : Hp → Prop) : Prop :=
  tc (some x :: σ) H fun b H3 => if b = true then te (some x :: σ) H3 fun y H4 => ∃ ys, H4 d = some (.lst ys) ∧ ys.length < sizeLine ∧ Z (upd H4 d (.lst (ys ++ [y]))) else Z H3
def tCompR1 (ta : TA) (tc : TT) (te : TE) : TE := fun σ H Q => ta σ H fun vs H1 => ∃ j : Int, vs = [.int j] ∧ -(2 ^ 62) ≤ j ∧ j < 2 ^ 62 ∧ ∀ d, H1 d = none →
  ∃ Pv : Nat → Hp → Prop, Pv 0 (upd H1 d (.lst [])) ∧ (∀ i H, i < j.toNat → Pv i H → turnC tc te σ d (.int (0 + i)) H (Pv (i + 1))) ∧ ∀ H, Pv j.toNat H → Q (.ref d) H
def tCompR2 (ta : TA) (tc : TT) (te : TE) : TE := fun σ H Q => ta σ H fun vs H1 => ∃ lo hi : Int, vs = [.int lo, .int hi] ∧ (-(2 ^ 62) ≤ lo ∧ lo < 2 ^ 62 ∧ -(2 ^ 62) ≤ hi ∧ hi < 2 ^ 62) ∧ ∀ d, H1 d = none →
  ∃ Pv : Nat → Hp → Prop, Pv 0 (upd H1 d (.lst [])) ∧ (∀ i H, i < (hi - lo).toNat → Pv i H → turnC tc te σ d (.int (lo + i)) H (Pv (i + 1))) ∧ ∀ H, Pv (hi - lo).toNat H → Q (.ref d) H
def tCompL (K : PySem.W.Frag) (tl : TE) (tc : TT) (te : TE) : TE := fun σ H Q => tl σ H fun v H1 => ∃ a xs, v = .ref a ∧ SqL K H1 a xs ∧ ∀ d, H1 d = none →
  ∃ Pv : Nat → Hp → Prop, Pv 0 (upd H1 d (.lst [])) ∧ (∀ i H, i ≤ xs.length → Pv i H → SqL K H a xs) ∧ (∀ i x H, xs[i]? = some x → Pv i H → turnC tc te σ d x H (Pv (i + 1))) ∧ ∀ H, Pv xs.length H → Q (.ref d) H
def tCompT (K : PySem.W.Frag) (tl : TE) (tc : TT) (te : TE) : TE := fun σ H Q => tl σ H fun v H1 => ∃ a xs, v = .ref a ∧ SqT K H1 a xs ∧ ∀ d, H1 d = none →
  ∃ Pv : Nat → Hp → Prop, Pv 0 (upd H1 d (.lst [])) ∧ (∀ i H, i ≤ xs.length → Pv i H → SqT K H a xs) ∧ (∀ i x H, xs[i]? = some x → Pv i H → turnC tc te σ d x H (Pv (i + 1))) ∧ ∀ H, Pv xs.length H → Q (.ref d) H
/-! the list, the tuple at hand: what the reading of an expression gives may be any; mono: a reading asks no more of a weaker end -/
def MonoE (t : TE) : Prop := ∀ σ H (Q Q' : VK), (∀ v H1, Q v H1 → Q' v H1) → t σ H Q → t σ H Q'
def MonoA (t : TA) : Prop := ∀ σ H (Q Q' : List V → Hp → Prop), (∀ v H1, Q v H1 → Q' v H1) → t σ H Q → t σ H Q'
section
variable {X : Cx} {elt iter : Expr} {tg : Str} {tp : Pos} {cs : List Expr} {scope : Scope} {pos : Pos} {tc : TT} {te : TE} {M : List Str}
abbrev Inner (X : Cx) (scope : Scope) (tg : Str) (M : List Str) (cs : List Expr) (elt : Expr) (tc : TT) (te : TE) : Prop :=
  ∀ (cl : List (Str × Addr)) (C : Addr) (s0 : Shared) (H0 : Hp) (fp : List Addr), PTs (cxC X scope cl C s0 H0 fp (tg :: M)) cs tc ∧ PE (cxC X scope cl C s0 H0 fp (tg :: M)) elt te
theorem pe_compG {wi : TI} {t : TE} (hc : X.calm = true) (S : CompScope scope X.env X.N M) (nd : (tg :: M).Nodup) (hl : scope.names.lookup tg = some .local) (hi : PI X (.Name tg tp) iter wi) (hin : Inner X scope tg M cs elt tc te)
    (ht : ∀ σ H Q, t σ H Q → tComp 1 wi (gName 0) tc te σ H Q) (hs : ∀ x, foldedSetIterable iter X.env x = pure x) : PE X (.ListComp elt [⟨.Name tg tp, iter, cs, 0⟩] scope pos) t := by
  have hx : (relabel scope X.env).names.lookup tg = some .local := by
    rw [lookup_relabel, hl]
    rfl
  exact PE.imp (pe_comp (xs := [tg]) (M := M) hc S hi (fun cl C s0 H0 fp => ⟨pg_name (i := 0) nd rfl (Or.inl hx) (Or.inr hx), hin cl C s0 H0 fp⟩) (fun v σ H Q h => hg_one h) hs) ht
theorem pe_compT {tl : TE} (hc : X.calm = true) (S : CompScope scope X.env X.N M) (nd : (tg :: M).Nodup) (hl : scope.names.lookup tg = some .local) (hi : PE X iter tl) (mo : MonoE tl)
    (hin : Inner X scope tg M cs elt tc te) (hf : ∀ x, foldedSetIterable iter X.env x = pure x := by intro _; rfl) : PE X (.ListComp elt [⟨.Name tg tp, iter, cs, 0⟩] scope pos) (tCompT X.K tl tc te) := by
  refine pe_compG hc S nd hl (pi_tup hi) hin (fun σ H Q h => ?_) hf
  refine mo σ H _ _ (fun v H1 q => ?_) h
  obtain ⟨a, xs, e, j1, q⟩ := q
  refine ⟨a, e, ⟨xs, j1⟩, fun d hd => ?_⟩
  obtain ⟨Pv, h0, hl, hs, hd⟩ := q d hd
  exact comp_tup (k := 1) (g := gName 0) Pv h0 hl hs hd

theorem ps_compG {wi : TI} {t : TE} {i : Nat} {x : Str} {pos1 spos : Pos} (hc : X.calm = true) (S : CompScope scope X.env X.N M) (nd : (tg :: M).Nodup) (hl : scope.names.lookup tg = some .local) (hi : PI X (.Name tg tp) iter wi) (hin : Inner X scope tg M cs elt tc te)
    (ht : ∀ σ H Q, t σ H Q → tComp 1 wi (gName 0) tc te σ H Q) (hN : X.N.Nodup) (hix : X.N[i]? = some x) (hx : X.env.scope.names.lookup x = some .local) (hw : swapsWith (.ListComp elt [⟨.Name tg tp, iter, cs, 0⟩] scope pos) (some (.Name x pos1)) spos.line X.env = pure true) (hs : ∀ x, foldedSetIterable iter X.env x = pure x) :
    PS X (.Assign [.Name x pos1] (.ListComp elt [⟨.Name tg tp, iter, cs, 0⟩] scope pos) spos) (tAsg t (gName i)) := by
  have hx' : (relabel scope X.env).names.lookup tg = some .local := by
    rw [lookup_relabel, hl]
    rfl
  intro pins s σ H D I h
  exact ps_comp (xs := [tg]) (M := M) hc S hi (fun cl C s0 H0 fp => ⟨pg_name (i := 0) nd rfl (Or.inl hx') (Or.inr hx'), hin cl C s0 H0 fp⟩) (fun v σ H Q h => hg_one h) hN hix hx hw hs pins s σ H D I (ht _ _ _ h)
theorem ps_compR1 {a : Expr} {ta : TA} {p pos' pos1 spos : Pos} {i : Nat} {x : Str} (hN : X.N.Nodup) (hix : X.N[i]? = some x) (hx : X.env.scope.names.lookup x = some .local) (hc : X.calm = true) (S : CompScope scope X.env X.N M) (nd : (tg :: M).Nodup) (hl : scope.names.lookup tg = some .local) (hg : Gl X "range") (hm : X.mg "range" = none) (ha : PA X [a] ta) (mo : MonoA ta)
    (hin : Inner X scope tg M cs elt tc te) (hw : swapsWith (.ListComp elt [⟨.Name tg tp, .Call (.Name "range" p) [a] [] pos', cs, 0⟩] scope pos) (some (.Name x pos1)) spos.line X.env = pure true := by rfl)
    (hs : starEach [a] X.env = [(false, eval a X.env)] := by rfl) (hf : ∀ x, foldedSetIterable (.Call (.Name "range" p) [a] [] pos') X.env x = pure x := by intro _; rfl) :
    PS X (.Assign [.Name x pos1] (.ListComp elt [⟨.Name tg tp, .Call (.Name "range" p) [a] [] pos', cs, 0⟩] scope pos) spos) (tAsg (tCompR1 ta tc te) (gName i)) := by
  refine ps_compG hc S nd hl (pi_range1 hg hm ha hs) hin (fun σ H Q h => ?_) hN hix hx hw hf
  refine mo σ H _ _ (fun vs H1 q => ?_) h
  obtain ⟨j, e, j1, j2, q⟩ := q
  refine ⟨j, e, j1, j2, fun d hd => ?_⟩
  obtain ⟨Pv, h0, hs, hd⟩ := q d hd
  exact comp_range (k := 1) (g := gName 0) Pv h0 hs hd
end
theorem turn_all {te : TE} {σ : St} {d : Addr} {x : V} {H : Hp} {Z : Hp → Prop} (h : te (some x :: σ) H fun y H4 => ∃ ys, H4 d = some (.lst ys) ∧ ys.length < sizeLine ∧ Z (upd H4 d (.lst (ys ++ [y])))) : turnC tTrue te σ d x H Z := by
  unfold turnC tTrue
  exact iteT h
/-! readings that are monotone -/
theorem mo_var {i : Nat} : MonoE (tVar i) := fun _ _ _ _ h ⟨v, e, q⟩ => ⟨v, e, h _ _ q⟩
theorem mo_nil : MonoA tNil := fun _ _ _ _ h q => h _ _ q
theorem mo_cons {te : TE} {ta : TA} (h1 : MonoE te) (h2 : MonoA ta) : MonoA (tCons te ta) := fun σ H Q Q' h q => h1 σ H _ _ (fun v H1 q1 => h2 σ H1 _ _ (fun vs H2 q2 => h _ _ q2) q1) q
theorem mo_len {K : PySem.W.Frag} {ta : TA} (h1 : MonoA ta) : MonoE (tCB (fun xs H Q => ∃ p ys, xs = [.ref p] ∧ (SqL K H p ys ∨ SqT K H p ys) ∧ Q (.int (ys.length : Nat)) H) ta) := fun σ H Q Q' h q =>
  h1 σ H _ _ (fun vs H1 ⟨p, ys, e, s, q1⟩ => ⟨p, ys, e, s, h _ _ q1⟩) q
end L2
set_option Elab.async false
set_option linter.all false
set_option maxRecDepth 100000
namespace L2
open PySem PySem.Spec PyProof.Rows

/-! ### words and lists of words -/
abbrev TW (H : Hp) (a : Addr) (ns : List Int) : Prop := H a = some (.tup (ns.map V.int))
abbrev Wd (H : Hp) (x : V) (w : List Int) : Prop := RTup H RInt x w
abbrev Ws (H : Hp) (xs : List V) (ws : List (List Int)) : Prop := Paired (RTup H RInt) xs ws
theorem Wd.ti {H : Hp} {x : V} {w : List Int} (h : Wd H x w) : ∃ a, x = .ref a ∧ TW H a w := by
  obtain ⟨a, xs, rfl, e, p⟩ := h
  exact ⟨a, rfl, by show H a = _; rw [e, Paired.ofInts p]⟩
theorem Wd.of {H : Hp} {a : Addr} {w : List Int} (h : TW H a w) : Wd H (.ref a) w := rtup_ints h
theorem Wd.same {H H' : Hp} {x : V} {w : List Int} (sm : Same H H') (h : Wd H x w) : Wd H' x w := by
  obtain ⟨a, xs, rfl, e, p⟩ := h
  exact ⟨a, xs, rfl, sm _ _ e, p⟩
theorem Ws.same {H H' : Hp} {xs : List V} {ws : List (List Int)} (sm : Same H H') (h : Ws H xs ws) : Ws H' xs ws := Paired.mapP h fun _ _ q => Wd.same sm q
section
variable {α β : Type} {R : α → β → Prop}
theorem Paired.takeP : ∀ {xs : List α} {ds : List β} (n : Nat), Paired R xs ds → Paired R (xs.take n) (ds.take n)
  | _, _, 0, _ => by rw [List.take_zero, List.take_zero]; exact .nil
  | _, _, _ + 1, .nil => .nil
  | _, _, n + 1, .cons r t => .cons r (Paired.takeP n t)
theorem Paired.dropP : ∀ {xs : List α} {ds : List β} (n : Nat), Paired R xs ds → Paired R (xs.drop n) (ds.drop n)
  | _, _, 0, r => r
  | _, _, _ + 1, .nil => .nil
  | _, _, n + 1, .cons _ t => Paired.dropP n t
theorem Paired.appendP : ∀ {xs ys : List α} {ds es : List β}, Paired R xs ds → Paired R ys es → Paired R (xs ++ ys) (ds ++ es)
  | _, _, _, _, .nil, s => s
  | _, _, _, _, .cons r t, s => .cons r (Paired.appendP t s)
theorem Paired.eraseP : ∀ {xs : List α} {ds : List β} (n : Nat), Paired R xs ds → Paired R (xs.eraseIdx n) (ds.eraseIdx n)
  | _, _, _, .nil => .nil
  | _, _, 0, .cons _ t => t
  | _, _, n + 1, .cons r t => .cons r (Paired.eraseP n t)
theorem Paired.left_of : ∀ {xs : List α} {ds : List β}, Paired R xs ds → ∀ (j : Nat) (d : β), ds[j]? = some d → ∃ x, xs[j]? = some x ∧ R x d
  | _, _, .nil, j, x, e => by simp at e
  | _, _, .cons r t, 0, x, e => by simp at e; subst e; exact ⟨_, rfl, r⟩
  | _, _, .cons r t, j + 1, x, e => by
    obtain ⟨d, e1, e2⟩ := Paired.left_of t j x (by simpa using e)
    exact ⟨d, by simpa using e1, e2⟩
end
theorem at_int {ns : List Int} {k : Nat} {x : Int} (h : ns[k]? = some x) : atI (ns.map V.int) (k : Int) = some (.int x) := atI_nat (by rw [List.getElem?_map, h]; rfl)
theorem hu4 {A : Around} {k : Nat} (hr : Room k A) : A.units + 4 < cLine := by have := hr.units; omega
theorem small {n : Nat} (h : n ≤ 1000) : n ≤ sizeLine := Nat.le_of_lt (small1000 h)
theorem cut_to (xs : List V) (n : Nat) : cutV xs none (some (n : Int)) = xs.take n := by
  unfold cutV
  rw [HT.sIx_nat, HT.sIx_none]
  simp [List.take_eq_take_iff]
theorem cut_from (xs : List V) (n : Nat) : cutV xs (some (n : Int)) none = xs.drop n := by
  unfold cutV
  rw [HT.sIx_nat, HT.sIx_none]
  by_cases h : n ≤ xs.length
  · rw [Nat.min_eq_left h]
    exact List.take_of_length_le (by rw [List.length_drop]; omega)
  · rw [Nat.min_eq_right (by omega), List.drop_eq_nil_of_le (Nat.le_refl _), List.drop_eq_nil_of_le (by omega)]
    simp
theorem cutLit (xs : List V) (i : Int) (h : 0 ≤ i) : cutV xs none (some i) = xs.take i.toNat := by
  obtain ⟨n, rfl⟩ : ∃ n : Nat, i = n := ⟨i.toNat, by omega⟩
  rw [cut_to]; rfl
theorem cutFrom (xs : List V) (i : Int) (h : 0 ≤ i) : cutV xs (some i) none = xs.drop i.toNat := by
  obtain ⟨n, rfl⟩ : ∃ n : Nat, i = n := ⟨i.toNat, by omega⟩
  rw [cut_from]; rfl
theorem same_upd {H H1 : Hp} {d : Addr} {o : HO} (h : H d = none) (sm : Same H H1) : Same H (upd H1 d o) := fun b u q => by rw [upd_ne (ne_of_none q h)]; exact sm b u q
/-! functions by their promises, with all that a call of them wants -/
structure Fns (P : Program) (w : World) (K : PySem.W.Frag) (mg : Str → Option Value) (base : Heap) (ps : List Str) (name : Str) (sp : Sp) (k : Nat) where
  g : Addr
  gd : FuncData
  ok : FnOk P w K mg base CX0 k g gd ps sp
  b : Binds K gd ps []
  kp : PySem.W.keepIn K (.ref g) = true
  m : mg name = some (.ref g)
def Fns.up {P : Program} {w : World} {K : PySem.W.Frag} {mg : Str → Option Value} {base : Heap} {ps : List Str} {name : Str} {sp : Sp} {j k : Nat} (f : Fns P w K mg base ps name sp j) (h : j ≤ k) : Fns P w K mg base ps name sp k := ⟨f.g, f.gd, f.ok.mono h, f.b, f.kp, f.m⟩

/-! None or a tuple of ints, compared by != : the same on both sides -/
def rNeO : R2 := fun x y H Q => ∃ o : Option (List Int), ROpt (RTup H RInt) x o ∧ ROpt (RTup H RInt) y o ∧ Q (.bl false) H
/-! tuples, lists of words compared -/
def rNeTW : R2 := fun x y H Q => ∃ a b xs ys ws vs, x = .ref a ∧ y = .ref b ∧ H a = some (.tup xs) ∧ H b = some (.tup ys) ∧ Ws H xs ws ∧ Ws H ys vs ∧ Q (.bl (!decide (ws = vs))) H
end L2
set_option Elab.async false
set_option linter.all false
set_option maxRecDepth 100000
namespace L2
open PySem PySem.Spec PyProof.Rows
/-! a word between: what holds behind a statement, whichever way it went -/
def tMid (t : TS) : TS := fun D σ H => ∃ Mid : St → Hp → Prop, t { D with nx := Mid } σ H ∧ ∀ σ' H', Mid σ' H' → D.nx σ' H'
theorem ps_mid {X : Cx} {st : Stmt} {t : TS} (h : PS X st t) : PS X st (tMid t) := by
  intro pins s σ H D I ⟨Mid, h1, h2⟩
  refine thn (h pins s σ H _ I h1) fun fl s' q => ?_
  cases fl with
  | next => obtain ⟨σ', H', I', m⟩ := q; exact ⟨σ', H', I', h2 _ _ m⟩
  | brk => exact q
  | cont => exact q
  | ret u => exact q
def eMid (t : TE) : TE := fun σ H Q => ∃ Mid : V → Hp → Prop, t σ H Mid ∧ ∀ v H', Mid v H' → Q v H'
theorem pe_mid {X : Cx} {e : Expr} {t : TE} (h : PE X e t) : PE X e (eMid t) := by
  intro pins s σ H Q I ⟨Mid, h1, h2⟩
  exact thn (h pins s σ H _ I h1) fun u s' ⟨v, H', I', r, m⟩ => ⟨v, H', I', r, h2 _ _ m⟩
theorem mo_mid {t : TE} : MonoE (eMid t) := fun σ H Q Q' h ⟨Mid, h1, h2⟩ => ⟨Mid, h1, fun v H' m => h _ _ (h2 v H' m)⟩
/-! words of letters below a number, not long -/
structure Wok (b : Int) (m : Nat) (ws : List (List Int)) : Prop where
  len : ∀ w ∈ ws, w.length ≤ m
  let' : ∀ w ∈ ws, ∀ x ∈ w, 0 ≤ x ∧ x < b
/-! the rules with the fragment named: within a comprehension's block the reading may not speak of the block -/
theorem ixT {X : Cx} (K : PySem.W.Frag) (h : X.K = K := by rfl) : IxR X (rIxT K) := by subst h; exact ix_tup
def rLen (K : PySem.W.Frag) : List V → Hp → VK → Prop := fun xs H Q => ∃ p ys, xs = [.ref p] ∧ (SqL K H p ys ∨ SqT K H p ys) ∧ Q (.int ys.length) H
def rTupleOf (K : PySem.W.Frag) : List V → Hp → VK → Prop := fun xs H Q => ∃ p ys, xs = [.ref p] ∧ ((SqL K H p ys ∧ ∀ l, H l = none → Q (.ref l) (upd H l (.tup ys))) ∨ (SqT K H p ys ∧ Q (.ref p) H))
/-! a list that is written leaves the words as they are -/
theorem Wd.upd {H : Hp} {l : Addr} {ls ls' : List V} {x : V} {w : List Int} (hl : H l = some (.lst ls)) (h : Wd H x w) : Wd (upd H l (.lst ls')) x w := by
  obtain ⟨a, xs, rfl, e, p⟩ := h
  exact ⟨a, xs, rfl, by rw [upd_ne (ne_of e hl (by intro z; cases z))]; exact e, p⟩
theorem Ws.upd {H : Hp} {l : Addr} {ls ls' xs : List V} {ws : List (List Int)} (hl : H l = some (.lst ls)) (h : Ws H xs ws) : Ws (upd H l (.lst ls')) xs ws := Paired.mapP h fun _ _ q => Wd.upd hl q
section
variable {X : Cx} {elt iter : Expr} {tg : Str} {tp : Pos} {cs : List Expr} {scope : Scope} {pos : Pos} {tc : TT} {te : TE} {M : List Str}
end
end L2
set_option Elab.async false
set_option linter.all false
set_option maxRecDepth 100000
namespace L2
open PySem PySem.Spec PyProof.Rows

/-! ### exceptions: the object at e (its class, its dict, the head of its traceback), the traceback's entry at T -/
def ExcAt (h : Heap) (e : Addr) (cls : Value) (od : Option Addr) (hd : Value) : Prop := ∃ oe vs, h.get? e = some oe ∧ oe.cls = cls ∧ oe.dict = od ∧ oe.data = .fields vs ∧ vs[1]? = some hd
def TbAt (h : Heap) (T : Addr) (fl : Value) : Prop := ∃ oT ts, h.get? T = some oT ∧ oT.data = .fields ts ∧ ts[3]? = some fl
/-! from h to h' the objects at S may have changed, of those at fs the slots -/
def Mv (S fs : List Addr) (h h' : Heap) : Prop := ∀ b o, h.get? b = some o → b ∉ S → (b ∉ fs → h'.get? b = some o) ∧ ∃ sl, h'.get? b = some { o with slots := sl }
section
variable {S S' fs : List Addr} {h h1 h2 : Heap}
theorem Mv.refl : Mv S fs h h := fun _ o e _ => ⟨fun _ => e, o.slots, e⟩
theorem Mv.trans (a : Mv S fs h h1) (b : Mv S fs h1 h2) : Mv S fs h h2 := fun c o e n => by
  obtain ⟨k, sl, e1⟩ := a c o e n
  obtain ⟨_, sl2, e2⟩ := b c _ e1 n
  exact ⟨fun nf => (b c o (k nf) n).1 nf, sl2, e2⟩
theorem Mv.mono (a : Mv S fs h h1) (hs : ∀ b ∈ S, b ∈ S') : Mv S' fs h h1 := fun b o e n => a b o e fun z => n (hs b z)
theorem Mv.frames (a : Mv S fs h h1) {base : Heap} {l : List Env} (hl : h.FunFrames base l) (hS : ∀ b ∈ S, ∀ o, h.get? b = some o → ∃ vs, o.data = .fields vs) : h1.FunFrames base l :=
  hl.of_keeps fun b o hb hn => by
    obtain ⟨_, sl, e⟩ := a b o hb fun z => by
      obtain ⟨vs, q⟩ := hS b z o hb
      exact hn vs q
    exact ⟨_, e, rfl⟩
end
theorem dict_mapFields (f : Array Value → Array Value) (o : Obj) : (Obj.mapFields f o).dict = o.dict := by
  obtain ⟨c, d, dt, sl⟩ := o
  cases dt <;> rfl
section
variable {M : Model} {A : Around} {E : Value → Shared → Prop} {s : Shared} {env : Env} {outer : List Env} {base : Heap} {L e T : Addr} {cls hd fl head : Value} {od : Option Addr} {S : List Addr} {Q : Unit → Shared → Prop}
theorem entry_add {hadNext : Bool} (hfr : A.frames = some (env :: outer)) (hl : s.heap.FunFrames base (env :: outer)) (hf : env.frame = some L) (x : ExcAt s.heap e cls od hd)
    (h : ∀ h' T, Mv [e] (frs (env :: outer)) s.heap h' → s.heap.objs.size ≤ T → T ≠ e → ExcAt h' e cls od (.ref T) → TbAt h' T (rawInt L) → Q () { s with heap := h' }) :
    wpAny M A (do let a ← frameOf env; let pl ← entryPlaceOf L hadNext; let b ← EntryCells.newEntry head a .none (rawInt L) .none pl; setField (.ref e) 1 b) Q E s := by
  obtain ⟨oe, vs, he, hc, hdd, hd1, h1⟩ := x
  have hsz : 1 < vs.size := (Array.getElem?_eq_some_iff.mp h1).1
  have ne : e ∉ frs (env :: outer) := fun hm => by
    obtain ⟨_, o, ho, hn⟩ := hl.mem hm
    rw [he] at ho
    cases ho
    exact hn vs hd1
  refine wpAny_bind (wpAny_frameOf_fun hfr hl hf fun g so => ?_)
  refine wpAny_bind (wpAny_entryPlaceOf fun pl hp => ?_)
  unfold EntryCells.newEntry newFields
  refine wpAny_bind (wpAny_newObj_type ?_ (hp.sizeOk5 _ _ _ _ _))
  have e1 : g.get? e = some oe := (so.2.1 e ne).trans he
  have hTe : g.objs.size ≠ e := Nat.ne_of_gt (Heap.lt_size e1)
  have t3 : ([head, .ref L, .none, rawInt L, .none] ++ (if pl.isEmpty then List.replicate 6 Value.none else pl)).toArray[3]? = some (rawInt L) := by simp
  generalize ([head, .ref L, .none, rawInt L, .none] ++ (if pl.isEmpty then List.replicate 6 Value.none else pl)).toArray = ts at t3 ⊢
  have e2 := Heap.get?_push_of_some (h := g) { cls := .type "traceback", dict := none, data := .fields ts } e1
  refine wpAny_setField e2 hd1 hsz (h _ g.objs.size (fun b o hb hn => ?_) (by rw [so.1]; exact Nat.le_refl _) hTe ?_ ?_)
  · have hbe : b ≠ e := fun z => hn (by rw [z]; exact List.mem_cons_self)
    have mv : ∀ o', g.get? b = some o' → ((g.push { cls := .type "traceback", dict := none, data := .fields ts }).update e (Obj.mapFields (·.setIfInBounds 1 (Value.ref g.objs.size)))).get? b = some o' := fun o' q => by
      rw [Heap.get?_update_other _ _ (Ne.symm hbe)]
      exact Heap.get?_push_of_some _ q
    obtain ⟨sl, q⟩ := so.2.2 b o hb
    exact ⟨fun nf => mv o ((so.2.1 b nf).trans hb), sl, mv _ q⟩
  · exact ⟨_, _, Heap.get?_update_self _ e2 (Obj.isFreed_of_fields (Obj.data_mapFields hd1 _)), (Obj.cls_mapFields _ _).trans hc, (dict_mapFields _ _).trans hdd, Obj.data_mapFields hd1 _, by simp [hsz]⟩
  · refine ⟨{ cls := .type "traceback", dict := none, data := .fields ts }, ts, ?_, rfl, t3⟩
    rw [Heap.get?_update_other _ _ (Ne.symm hTe)]
    exact Heap.get?_push_size g rfl
/-! not in flight: no traceback yet, or one whose head says so; S: the addresses that may change -/
def Loose (h : Heap) (e : Addr) (cls : Value) (od : Option Addr) (S : List Addr) : Prop :=
  e ∈ S ∧ (∀ b ∈ S, ∀ o, h.get? b = some o → ∃ vs, o.data = .fields vs) ∧ ∃ hd, ExcAt h e cls od hd ∧ (hd = .none ∨ ∃ T, T ∈ S ∧ hd = .ref T ∧ T ≠ e ∧ TbAt h T .none)
theorem tb_set {x : Value} (t : TbAt s.heap T fl) (h : ∀ h', h'.objs.size = s.heap.objs.size → TbAt h' T x → (∀ b, b ≠ T → h'.get? b = s.heap.get? b) → Q () { s with heap := h' }) : wpAny M A (setField (.ref T) 3 x) Q E s := by
  obtain ⟨oT, ts, hT, hdT, h3⟩ := t
  have hsz : 3 < ts.size := (Array.getElem?_eq_some_iff.mp h3).1
  exact wpAny_setField hT hdT hsz (h _ (Heap.size_after_update ..) ⟨_, _, Heap.get?_update_self _ hT (Obj.isFreed_of_fields (Obj.data_mapFields hdT _)), Obj.data_mapFields hdT _, by simp [hsz]⟩ fun b hb => Heap.get?_update_other _ _ (Ne.symm hb))
theorem ExcAt.other {h h' : Heap} (x : ExcAt h e cls od hd) (k : h'.get? e = h.get? e) : ExcAt h' e cls od hd := by
  obtain ⟨oe, vs, he, r⟩ := x
  exact ⟨oe, vs, k.trans he, r⟩
theorem note_ex (hfr : A.frames = some (env :: outer)) (hl : s.heap.FunFrames base (env :: outer)) (hf : env.frame = some L) (lo : Loose s.heap e cls od S)
    (h : ∀ h' T, Mv S (frs (env :: outer)) s.heap h' → s.heap.objs.size ≤ T → T ≠ e → ExcAt h' e cls od (.ref T) → TbAt h' T (rawInt L) → Q () { s with heap := h' }) : wpAny M A (noteFrame (.ref e) env) Q E s := by
  obtain ⟨heS, hSf, hd, x, hh⟩ := lo
  unfold noteFrame
  simp only [hf]
  obtain ⟨oe, vs, he, hc, hdd, hd1, h1⟩ := id x
  refine wpAny_bind (wpAny_field he hd1 h1 ?_)
  rcases hh with rfl | ⟨T, hTS, rfl, hTe, tb⟩
  · rw [if_neg (by decide)]
    exact entry_add hfr hl hf x fun h' T m hs hT x' t' => h h' T (m.mono fun b hb => by rw [List.mem_singleton.mp hb]; exact heS) hs hT x' t'
  · rw [if_pos (show (Value.ref T != Value.none) = true from by simp)]
    obtain ⟨oT, ts, hT, hdT, h3⟩ := id tb
    refine wpAny_bind (wpAny_field hT hdT h3 ?_)
    rw [if_neg (show ¬ ((Value.none == rawInt L) = true) from by simp [rawInt])]
    refine wpAny_bind (tb_set tb fun g m1 t1 k1 => ?_)
    have m2 : Mv S (frs (env :: outer)) s.heap g := fun b o hb hn => by
      have hbT : b ≠ T := fun z => hn (by rw [z]; exact hTS)
      have q := (k1 b hbT).trans hb
      exact ⟨fun _ => q, o.slots, q⟩
    refine entry_add (s := { s with heap := g }) hfr (m2.frames hl hSf) hf (x.other (k1 e (Ne.symm hTe))) fun h' T' m hs hT' x' t' => ?_
    exact h h' T' (m2.trans (m.mono fun b hb => by rw [List.mem_singleton.mp hb]; exact heS)) (by rw [← m1]; exact hs) hT' x' t'
theorem flight_ex (x : ExcAt s.heap e cls od (.ref T)) (t : TbAt s.heap T fl) (hTe : T ≠ e) (h : ∀ h', h'.objs.size = s.heap.objs.size → ExcAt h' e cls od (.ref T) → TbAt h' T .none → (∀ b, b ≠ T → h'.get? b = s.heap.get? b) → Q () { s with heap := h' }) :
    wpAny M A (setFlight (.ref e) none) Q E s := by
  obtain ⟨oe, vs, he, hc, hdd, hd1, h1⟩ := id x
  unfold setFlight
  refine wpAny_bind (wpAny_field he hd1 h1 ?_)
  rw [if_pos (show (Value.ref T != Value.none) = true from by simp)]
  exact tb_set t fun g m1 t1 k1 => h g m1 (x.other (k1 e (Ne.symm hTe))) t1 k1
/-! noted in this frame and landed (what a def's end does, what a try does): the head at T is new -/
theorem loose_of {h : Heap} (x : ExcAt h e cls od (.ref T)) (t : TbAt h T .none) (hT : T ≠ e) : Loose h e cls od [T, e] := by
  refine ⟨List.mem_cons_of_mem _ List.mem_cons_self, fun b hb o ho => ?_, .ref T, x, .inr ⟨T, List.mem_cons_self, rfl, hT, t⟩⟩
  rcases List.mem_cons.mp hb with hb | hb
  · obtain ⟨oT, ts, q, hd, _⟩ := t
    rw [hb, q] at ho
    cases ho
    exact ⟨ts, hd⟩
  · obtain ⟨oe, vs, q, _, _, hd, _⟩ := x
    rw [List.mem_singleton.mp hb, q] at ho
    cases ho
    exact ⟨vs, hd⟩
theorem land_ex (hfr : A.frames = some (env :: outer)) (hl : s.heap.FunFrames base (env :: outer)) (hf : env.frame = some L) (lo : Loose s.heap e cls od S)
    (h : ∀ h' T, Mv S (frs (env :: outer)) s.heap h' → s.heap.objs.size ≤ T → T ≠ e → ExcAt h' e cls od (.ref T) → TbAt h' T .none → Q () { s with heap := h' }) :
    wpAny M A (noteFrame (.ref e) env) (fun _ s1 => wpAny M A (setFlight (.ref e) none) Q E s1) E s := by
  refine note_ex hfr hl hf lo fun g T m hs hT x t => ?_
  refine flight_ex (s := { s with heap := g }) x t hT fun h' m1 x' t' k1 => ?_
  have mm : Mv S (frs (env :: outer)) s.heap h' := fun b o hb hn => by
    have hbT : b ≠ T := Nat.ne_of_lt (Nat.lt_of_lt_of_le (Heap.lt_size hb) hs)
    obtain ⟨q1, sl, q2⟩ := m b o hb hn
    exact ⟨fun nf => (k1 b hbT).trans (q1 nf), sl, (k1 b hbT).trans q2⟩
  exact h h' T mm hs hT x' t'
theorem leave_ex (hfr : A.frames = some (env :: outer)) (hl : s.heap.FunFrames base (env :: outer)) (hf : env.frame = some L) (lo : Loose s.heap e cls od S)
    (h : ∀ h' T, Mv S (frs (env :: outer)) s.heap h' → s.heap.objs.size ≤ T → Loose h' e cls od [T, e] → Q () { s with heap := h' }) : wpAny M A (leaving env (.ref e)) Q E s := by
  unfold leaving
  exact wpAny_bind (land_ex hfr hl hf lo fun h' T m hs hT x t => h h' T m hs (loose_of x t hT))
end

/-! ### the abstract state while an exception is on its way -/
theorem ObjOk.obj {P : Program} {w : World} {H : Hp} {h : Heap} {a : Addr} {o : HO} (x : ObjOk P w H h a o) : ∃ ob, h.get? a = some ob := by
  cases o with
  | lst xs => obtain ⟨_, _, _, _, e⟩ := x; exact ⟨_, e⟩
  | tup xs => obtain ⟨_, _, _, ob, e, _⟩ := x; exact ⟨_, e⟩
  | dK kvs => obtain ⟨_, _, _, _, ob, _, _, e, _⟩ := x; exact ⟨_, e⟩
  | dT kvs => obtain ⟨_, _, _, _, ob, _, _, e, _⟩ := x; exact ⟨_, e⟩
  | set S n => obtain ⟨ob, _, _, _, e, _⟩ := x; exact ⟨_, e⟩
  | ins C dx fs => obtain ⟨_, _, _, e, _⟩ := x; exact ⟨_, e⟩
  | own y => exact x
  | xd fs => obtain ⟨_, ⟨ob, _, _, e, _⟩, _⟩ := x; exact ⟨_, e⟩
  | rng lo hi => obtain ⟨_, _, _, e⟩ := x; exact ⟨_, e⟩
  | frz ob u => obtain ⟨e, _⟩ := x; exact ⟨_, e⟩
  | tbl ps => exact ⟨_, show h.get? a = some _ from x⟩
  | met f y => exact ⟨_, show h.get? a = some _ from x⟩
  | ext φ => obtain ⟨_, e, _⟩ := x; exact e
theorem HOk.none_of {P : Program} {w : World} {H : Hp} {h : Heap} (x : HOk P w H h) {a : Addr} (n : h.get? a = none) : H a = none := by
  cases e : H a with
  | none => rfl
  | some o =>
    obtain ⟨ob, q⟩ := (x a o e).obj
    rw [n] at q
    cases q
section
variable {X : Cx} {pins : List (Addr × Obj)} {σ : St} {H H' : Hp} {s : Shared} {h' : Heap} {b : Addr} {S : List Addr}
def Off (X : Cx) (pins : List (Addr × Obj)) (b : Addr) : Prop :=
  (∀ o, X.s₀.heap.get? b = some o → b ∈ X.ex) ∧ b ≠ X.env.locals ∧ (∀ x c, X.env.cells.lookup x = some c → c ≠ b) ∧ ∀ p ∈ X.pn ++ pins, p.1 ≠ b
theorem Inv.off (I : Inv X pins σ H s) (n : s.heap.get? b = none) : Off X pins b := by
  refine ⟨fun o e => ?_, fun z => ?_, fun x c e z => ?_, fun p hp z => ?_⟩
  · by_cases hx : b ∈ X.ex
    · exact hx
    · obtain ⟨o', e'⟩ := I.base.there b o e hx
      rw [n] at e'
      cases e'
  · obtain ⟨m, ⟨o, _, _, ho, _⟩, _⟩ := I.loc
    rw [z, ho] at n
    cases n
  · obtain ⟨v, o, ho, _⟩ := I.cell x c e
    rw [z, n] at ho
    cases ho
  · have q := (I.pin p hp).1
    rw [z, n] at q
    cases q
theorem Inv.moved {t' : Nat} (I : Inv X pins σ H s) (m : Mv S (frs X.stack) s.heap h') (hS : ∀ b ∈ S, Off X pins b ∧ H b = none) : Inv X pins σ H { s with heap := h', toks := t' } := by
  have neL : ∀ b o, X.s₀.heap.get? b = some o → b ≠ X.env.locals := fun b o e => Nat.ne_of_lt (Nat.lt_of_lt_of_le (Heap.lt_size e) I.ok.above)
  have nS : ∀ b o, X.s₀.heap.get? b = some o → b ∉ X.ex → b ∉ S := fun b o e hx z => hx ((hS b z).1.1 o e)
  have nst : ∀ b, b ≠ X.env.locals → b ∉ X.fs → b ∉ frs X.stack := fun b h1 h2 z => (List.mem_cons.mp (I.stkSub b z)).elim h1 h2
  have cellM : ∀ x c, X.env.cells.lookup x = some c → ∀ v, s.heap.IsCell c v → h'.IsCell c v := fun x c e v ⟨o, ho, hd⟩ => by
    obtain ⟨_, sl, q⟩ := m c o ho fun z => (hS c z).1.2.2.1 x c e rfl
    exact ⟨_, q, hd⟩
  refine ⟨I.ok, I.os, I.bare, ⟨fun b o e n hb hx => ?_, fun b o e n hb hx => ?_, I.base.free, fun b o e hx => ?_, I.base.tups, I.base.frzs, I.base.tbls⟩, ?_, fun x c e => ?_, I.free, I.freeC, fun p hp => ?_, fun b u e => ?_, I.len⟩
  · exact (m b o (I.base.keep b o e n hb hx) (nS b o e hx)).1 (nst b (neL b o e) hb)
  · obtain ⟨sl, e1⟩ := I.base.slot b o e n hb hx
    obtain ⟨_, sl', e2⟩ := m b _ e1 (nS b o e hx)
    exact ⟨sl', e2⟩
  · obtain ⟨o', e1⟩ := I.base.there b o e hx
    obtain ⟨_, sl, e2⟩ := m b _ e1 (nS b o e hx)
    exact ⟨_, e2⟩
  · obtain ⟨mm, hn, hl⟩ := I.loc
    refine ⟨mm, ?_, fun i x v e1 e2 e3 => ?_⟩
    · obtain ⟨o, es, ep, ho, r⟩ := hn
      obtain ⟨_, sl, q⟩ := m _ o ho fun z => (hS _ z).1.2.1 rfl
      exact ⟨_, es, ep, q, r⟩
    · obtain ⟨u, r, l⟩ := hl i x v e1 e2 e3
      refine ⟨u, r, ?_⟩
      rcases l with l | ⟨k, c, e, z⟩
      · exact .inl l
      · exact .inr ⟨k, c, e, cellM x c e _ z⟩
  · obtain ⟨v, z⟩ := I.cell x c e
    exact ⟨v, cellM x c e v z⟩
  · obtain ⟨e, n, ne, nf, d⟩ := I.pin p hp
    exact ⟨(m _ _ e fun z => (hS _ z).1.2.2.2 p hp rfl).1 (nst _ ne nf), n, ne, nf, d⟩
  · refine (I.hok b u e).stay (fun c v hc q => ?_) (fun _ q => q) fun _ _ q => q
    have ht : H c ≠ none := by
      rcases hc with rfl | hc
      · rw [e]; exact fun z => nomatch z
      · rw [hc]; exact fun z => nomatch z
    exact (m c v q fun z => ht (hS c z).2).1 fun z => ht (I.stkFree c z)
/-! an object that stood there untracked is tracked -/
theorem Inv.track {φ : Heap → Prop} (I : Inv X pins σ H s) (ob : Off X pins b) (n : H b = none) (hφ : φ s.heap) (ho : ∃ o, s.heap.get? b = some o) (st : ∀ h1 h2 : Heap, φ h1 → (∀ o, h1.get? b = some o → h2.get? b = some o) → φ h2)
    (nf : b ∉ X.fs) : Inv X pins σ (upd H b (.ext φ)) s := by
  refine ⟨I.ok, I.os, I.bare, ⟨I.base.keep, I.base.slot, fun c o e n' hx => ?_, I.base.there, fun c xs e => ?_, fun c o u e => ?_, fun c ps e => ?_⟩, I.loc, I.cell, ?_, fun x c e => ?_, fun p hp => ?_, fun c u e => ?_, I.len⟩
  · have hcb : c ≠ b := fun z => by
      subst z
      exact hx (ob.1 o e)
    rw [upd_ne hcb]
    exact I.base.free c o e n' hx
  · rw [upd_ne (ne_of_none (I.base.tups c xs e) n)]
    exact I.base.tups c xs e
  · rw [upd_ne (ne_of_none (I.base.frzs c o u e) n)]
    exact I.base.frzs c o u e
  · obtain ⟨more, q⟩ := I.base.tbls c ps e
    exact ⟨more, by rw [upd_ne (ne_of_none q n)]; exact q⟩
  · rw [upd_ne (Ne.symm ob.2.1)]
    exact I.free
  · rw [upd_ne (ob.2.2.1 x c e)]
    exact I.freeC x c e
  · obtain ⟨e, n', ne, nf', d⟩ := I.pin p hp
    exact ⟨e, by rw [upd_ne (ob.2.2.2 p hp)]; exact n', ne, nf', d⟩
  · by_cases hc : c = b
    · subst hc
      rw [upd_same] at e
      cases e
      exact ⟨hφ, ho, st⟩
    · rw [upd_ne hc] at e
      refine (I.hok c u e).stay (fun _ _ _ q => q) (fun d r => ?_) fun d xs r => ?_
      · rw [upd_ne (ne_of_none r n)]; exact r
      · rw [upd_ne (ne_of_none r n)]; exact r
end
/-! how an exception lies behind a call -/
def CXF (P : Program) (w : World) : CXT := fun outer H s E e s' => ∃ (ea : Addr) (cls : Value) (od : Option Addr) (S : List Addr) (H' : Hp), e = .ref ea ∧ s'.os = s.os ∧ AllBare s'.gens ∧
  Un (frs outer) [] H H' s.heap s'.heap ∧ HOk P w H' s'.heap ∧ Loose s'.heap ea cls od S ∧ (∀ b ∈ S, s.heap.get? b = none ∧ H' b = none) ∧ E cls od H'
section
variable {P : Program} {w : World} {K : PySem.W.Frag} {mg : Str → Option Value} {base : Heap} {N : List Str} {qual : Str} {scope : Scope} {f : Addr} {cd : Value} {A : Around} {outer : List Env} {s₀ : Shared} {H₀ : Hp} {E : XK}
theorem takes_def : Passes (CXF P w) (cxOf (CXF P w) P w K mg base N qual scope f cd A outer s₀ H₀ E) E := by
  intro pins σ H s e s' I h
  obtain ⟨ea, cls, od, S, H', rfl, os, bare, un, hok, lo, hS, q⟩ := h
  have I1 := I.call' (ch := []) os un hok bare (fun b z => absurd z (by simp))
  show wpAny _ _ (leaving _ (.ref ea)) _ _ s'
  refine leave_ex I.ok.frames I1.stack rfl lo fun h' T m hs lo' => ?_
  have I2 : Inv _ pins σ H' { s' with heap := h', toks := s'.toks } := I1.moved (S := S) m fun b hb => ⟨I.off (hS b hb).1, (hS b hb).2⟩
  have out : ∀ b, Off (cxOf (CXF P w) P w K mg base N qual scope f cd A outer s₀ H₀ E) pins b → s₀.heap.get? b = none := fun b ob => by
    cases e : s₀.heap.get? b with
    | none => rfl
    | some o => exact absurd (ob.1 o e) (by show b ∉ ([] : List Addr); simp)
  refine ⟨ea, cls, od, [T, ea], H', rfl, I2.os, I2.bare, I2.base, I2.hok, lo', fun b hb => ?_, q⟩
  rcases List.mem_cons.mp hb with rfl | hb
  · exact ⟨out _ (I1.off (Heap.get?_none_of_le hs)), I1.hok.fresh hs⟩
  · rw [List.mem_singleton.mp hb]
    exact ⟨out _ (I.off (hS ea lo.1).1), (hS ea lo.1).2⟩
/-! the rule for a def out of which exceptions may come -/
theorem Fun.okF {x qual : Str} {st : Stmt} {f : Addr} {fd : FuncData} {N ps : List Str} {k : Nat} {sp : Sp} (F : Fun K x qual st f fd) (S : FnScope N ps (defScope st)) (len : ∀ vs H Q E, sp vs H Q E → vs.length = ps.length)
    (hbody : ∀ (cdv : Value) (A : Around) (outer : List Env) (s : Shared) (H : Hp) (vs : List V) (Q : VK) (E : XK), Room k (A.deeper (envOfC qual (defScope st) s.heap.objs.size f cdv)) → sp vs H Q E →
      ∃ t, PSs (cxOf (CXF P w) P w K mg base N qual (defScope st) f cdv A outer s H E) (defBody st) t ∧ t { nx := fun _ H' => Q .non H', rt := Q } (start N vs) H) : FnOk P w K mg base (CXF P w) (k + 1) f fd ps sp := by
  obtain ⟨oc, od, kV, doc, pm, an, cdv, ct, osl, rfl, lk, hcd⟩ := F.ex
  exact fn_of lk hcd S len fun A outer s H vs Q E hr hsp => hbody cdv A outer s H vs Q E hr hsp
end
/-! a class of refusals of the text: under ValueError, no __init__ of its own -/
abbrev bmVE : List Value := [.type "ValueError", .type "Exception", .type "BaseException", .type "object"]
abbrev newVE : String := "ValueError.__new__"
structure Ecl (K : PySem.W.Frag) (C : Addr) : Prop where
  ex : PySem.W.excIn K C bmVE newVE = true
theorem Ecl.obj {K : PySem.W.Frag} {C : Addr} (c : Ecl K C) {h : Heap} (X : K.In h) : ∃ bm N nm q bs hdct sn sub ab col dd k0 k1 k2 k3 k5 mN, h.get? C = some (excClassObj nm q C N bs bm hdct sn sub ab col dd k0 k1 k2 k3 k5 newVE) ∧ h.Ns N mN ∧ mN "__init__" = none ∧ OwnTail h bmVE bm := by
  have q := c.ex
  unfold PySem.W.excIn at q
  split at q
  · rename_i dd cd sl ho
    split at q
    · rename_i C' bm k0 k1 k2 k3 n k5 hm hs
      simp only [Bool.and_eq_true, beq_iff_eq, Bool.not_eq_true'] at q
      obtain ⟨⟨⟨⟨⟨rfl, rfl⟩, hdel⟩, ht⟩, hok⟩, hni⟩ := q
      obtain ⟨nm, bs, mro, ns, qn, hd, sn, sub, ab, col, del⟩ := cd
      dsimp only at hm hdel hok hni
      subst hm hdel
      obtain ⟨l⟩ := sl
      have hl : l = [k0, k1, k2, k3, some (.builtin newVE), k5] := hs
      subst hl
      exact ⟨bm, ns, nm, qn, bs, hd, sn, sub, ab, col, dd, k0, k1, k2, k3, k5, _, X _ _ ho, .of_isNs (PySem.W.isNs_of_in X hok), PySem.W.nsMap_none_of_in X hok hni, PySem.W.tail_of_in X ht⟩
    · cases q
  · cases q
/-! raise C(..) -/
def tRaise (C : Addr) (E : XK) (ta : TA) : TS := fun _ σ H => ta σ H fun vs H1 => vs.length ≤ 1000 ∧ E (.ref C) none H1
theorem ps_raise {X : Cx} {E : XK} {x : Str} {C : Addr} {np cpos pos : Pos} {e : Expr} {es : List Expr} {ta : TA} (hx : Passes (CXF X.prog X.w) X E) (hc : X.calm = true) (hg : Gl X x) (hm : X.mg x = some (.ref C)) (hcl : Ecl X.K C) (ha : PA X (e :: es) ta)
    (hdb : (x == ("__debug__" : Str)) = false := by decide) (he : starEach (e :: es) X.env = (false, eval e X.env) :: starEach es X.env := by rfl) (hpl : (backTo cpos (starEach (e :: es) X.env)).any (·.1) = false := by rfl) :
    PS X (.Raise (some (.Call (.Name x np) (e :: es) [] cpos)) none pos) (tRaise C E ta) := by
  intro pins s σ H D I h
  obtain ⟨bm, N, nm, q, bs, hdct, sn, sub, ab, col, dd, k0, k1, k2, k3, k5, mN, hC, hN, hni, T⟩ := hcl.obj I.ok.mod.kin
  refine wpAny_Raise_call_subT (C := C) (nm := nm) (q := q) (N := N) (bs := bs) (bm := bm) (hdct := hdct) (sn := sn) (sub := sub) (ab := ab) (col := col) (dd := dd) (k0 := k0) (k1 := k1) (k2 := k2) (k3 := k3) (k5 := k5) PySem.F.excBase_ValueError (T.hasType (by decide +kernel)) (I.ok.hd hc) hpl hni (ld_glob I hg hm ⟨rfl, ?_⟩ hdb)
  have ha' := ha cpos pins s σ H _ I h
  rw [he] at ha' ⊢
  refine Calls.evalArgs_plain (thn ha' fun us s1 ⟨vs, H1, I1, r, hl, q⟩ => ?_)
  have kb := I1.bk
  refine ⟨rfl, ?_, kb _ _ hC, hN.keeps kb, T.keeps kb, fun h' ea me => ?_⟩
  · show us.length ≤ sizeLine
    rw [← r.length]
    exact small hl
  · refine hx pins σ H1 s1 (.ref ea) _ I1 ⟨ea, .ref C, none, [ea], H1, rfl, rfl, I1.bare, Un.kept me.keeps, I1.hok.kept me.keeps, ?_, fun b hb => ?_, q⟩
    · obtain ⟨t, ht, _, _⟩ := me.there
      refine ⟨List.mem_cons_self, fun b hb o ho => ?_, .none, ⟨_, _, ht, rfl, rfl, rfl, rfl⟩, .inl rfl⟩
      rw [List.mem_singleton.mp hb, ht] at ho
      cases ho
      exact ⟨_, rfl⟩
    · rw [List.mem_singleton.mp hb]
      exact ⟨me.new, I1.hok.none_of me.new⟩

/-! ### try: .. except C as n: .. -/
abbrev Cx.tryx (X : Cx) (pn : List (Addr × Obj)) (xe : Value → Shared → Prop) : Cx := { X with pn := pn, xe := xe }
abbrev Cx.hand (X : Cx) (ea : Addr) : Cx := { X with A := X.A.mark (some (.ref ea)), calm := false, xe := fun _ _ => False }
section
variable {X : Cx} {pins pins' : List (Addr × Obj)} {σ : St} {H : Hp} {s : Shared} {h' : Heap} {ea : Addr} {xe : Value → Shared → Prop}
theorem Inv.tryx (I : Inv X pins σ H s) (xe : Value → Shared → Prop) : Inv (X.tryx (X.pn ++ pins) xe) [] σ H s :=
  ⟨⟨I.ok.mod, I.ok.kind, I.ok.glob, I.ok.blt, I.ok.above, I.ok.inj, I.ok.has, I.ok.cab, I.ok.hd, I.ok.frames, I.ok.stk, I.ok.exf, I.ok.bs, I.ok.bsz, I.ok.noex, I.ok.exfs, I.ok.funs, I.ok.frf⟩, I.os, I.bare, I.base, I.loc, I.cell, I.free, I.freeC,
    fun p hp => I.pin p (by rw [List.append_nil] at hp; exact hp), I.hok, I.len⟩
theorem Inv.untryx (ok : X.Ok) (I : Inv (X.tryx (X.pn ++ pins) xe) pins' σ H s) : Inv X pins σ H s :=
  ⟨ok, I.os, I.bare, I.base, I.loc, I.cell, I.free, I.freeC, fun p hp => I.pin p (List.mem_append_left _ hp), I.hok, I.len⟩
theorem Inv.hand (I : Inv X pins σ H s) (ea : Addr) : Inv (X.hand ea) pins σ H s :=
  ⟨⟨I.ok.mod, I.ok.kind, I.ok.glob, I.ok.blt, I.ok.above, I.ok.inj, I.ok.has, I.ok.cab, fun z => absurd (show false = true from z) (by decide), I.ok.frames, I.ok.stk, I.ok.exf, I.ok.bs, I.ok.bsz, I.ok.noex, I.ok.exfs, I.ok.funs, I.ok.frf⟩, I.os, I.bare, I.base, I.loc, I.cell, I.free, I.freeC, I.pin, I.hok, I.len⟩
theorem Inv.unhand (ok : X.Ok) (I : Inv (X.hand ea) pins σ H s) : Inv X pins σ H s := ⟨ok, I.os, I.bare, I.base, I.loc, I.cell, I.free, I.freeC, I.pin, I.hok, I.len⟩
/-! a name goes -/
theorem Inv.unbind {i : Nat} {n : Str} {m : Str → Option Value} {v : Option Value} {t' : Nat} (I : Inv X pins σ H s) (hN : X.N.Nodup) (hi : X.N[i]? = some n)
    (hm : ∀ (i : Nat) (x : Str) (v : V), X.N[i]? = some x → σ[i]? = some (some v) → Vis X.env.scope x → ∃ u, RelV v u ∧ Look X.env s.heap m x u)
    (hns : h'.Ns X.env.locals (fun x => if x = n then v else m x)) (hs : Heap.SameBut X.env.locals s.heap h') : Inv X pins (σ.set i none) H { s with heap := h', toks := t' } := by
  have k : ∀ b o, b ≠ X.env.locals → s.heap.get? b = some o → h'.get? b = some o := fun b o ne e => (hs.2 b ne).trans e
  have neL : ∀ b o, X.s₀.heap.get? b = some o → b ≠ X.env.locals := fun b o e => Nat.ne_of_lt (Nat.lt_of_lt_of_le (Heap.lt_size e) I.ok.above)
  have cellM : ∀ x c, X.env.cells.lookup x = some c → ∀ v, s.heap.IsCell c v → h'.IsCell c v := fun x c e v ⟨o, ho, hd⟩ => ⟨o, k c o (I.cne x c e) ho, hd⟩
  refine ⟨I.ok, I.os, I.bare, ⟨fun b o e n hb hx => ?_, fun b o e n hb hx => ?_, I.base.free, fun b o e hx => ?_, I.base.tups, I.base.frzs, I.base.tbls⟩, ⟨_, hns, fun j x w e1 e2 e3 => ?_⟩, fun x c e => ?_, I.free, I.freeC, fun p hp => ?_, fun b u e => ?_, ?_⟩
  · exact k b o (neL b o e) (I.base.keep b o e n hb hx)
  · obtain ⟨sl, q⟩ := I.base.slot b o e n hb hx
    exact ⟨sl, k b _ (neL b o e) q⟩
  · obtain ⟨o', q⟩ := I.base.there b o e hx
    exact ⟨o', k b _ (neL b o e) q⟩
  · have hji : j ≠ i := fun z => by
      subst z
      rw [List.getElem?_set] at e2
      split at e2
      · split at e2 <;> cases e2
      · contradiction
    rw [List.getElem?_set_ne (Ne.symm hji)] at e2
    have hxn : x ≠ n := fun z => hji (nodup_ix hN (z ▸ e1) hi)
    obtain ⟨u, r, l⟩ := hm j x w e1 e2 e3
    refine ⟨u, r, ?_⟩
    rcases l with ⟨l1, l2⟩ | ⟨l1, c, e, z⟩
    · exact .inl ⟨l1, by show (if x = n then v else m x) = some u; rw [if_neg hxn]; exact l2⟩
    · exact .inr ⟨l1, c, e, cellM x c e _ z⟩
  · obtain ⟨v, z⟩ := I.cell x c e
    exact ⟨v, cellM x c e v z⟩
  · obtain ⟨e, n', ne, nf, d⟩ := I.pin p hp
    exact ⟨k _ _ ne e, n', ne, nf, d⟩
  · refine (I.hok b u e).stay (fun c v hc q => k c v (fun z => ?_) q) (fun _ q => q) fun _ _ q => q
    rcases hc with rfl | hc
    · rw [z, I.free] at e; cases e
    · rw [z, I.free] at hc; cases hc
  · rw [List.length_set]
    exact I.len
end
/-! a tracked exception -/
def excO (ea C : Addr) (od : Option Addr) : HO := .ext fun h => ∃ oe vs, h.get? ea = some oe ∧ oe.cls = .ref C ∧ oe.dict = od ∧ oe.data = .fields vs
/-! a class by which one catches -/
structure Hcl (K : PySem.W.Frag) (D : Addr) : Prop where
  ty : PySem.W.typeIn K (.ref D) = some (.type "type")
  cl : (PySem.W.clsIn K D).isSome = true
  be : PySem.W.subIn K (.ref D) (.type "BaseException") = some true
theorem exc_matches {K : PySem.W.Frag} {M : Model} {A : Around} {E : Value → Shared → Prop} {s : Shared} {ea C D : Addr} {oe : Obj} {Q : Bool → Shared → Prop} (X : K.In s.heap) (he : s.heap.get? ea = some oe) (hc : oe.cls = .ref C) (hD : Hcl K D)
    (sb : PySem.W.subIn K (.ref C) (.ref D) = some true) (h : Q true s) : wpAny M A (excMatches (.ref ea) (.ref D)) Q E s := by
  obtain ⟨hp, g, d, tk, os⟩ := s
  have L1 : PySem.W.Looks M hp (typeOf (.ref D)) (.type "type") := PySem.W.looks_typeIn X hD.ty
  have L2 : PySem.W.Looks M hp (isType (.ref D)) true := by
    have q := hD.cl
    unfold PySem.W.clsIn at q
    split at q
    · rename_i ho
      intro A' Q' E' s' k q
      unfold isType loadHead
      exact wpAny_bind (wpAny_loadPart (k _ _ (X _ _ ho)) (wpAny_pure q))
    · cases q
  have L3 : PySem.W.Looks M hp (isSubtype (.ref D) (.type "BaseException")) true := PySem.W.looks_subIn X hD.be
  have L4 : PySem.W.Looks M hp (isSubtype (.ref C) (.ref D)) true := PySem.W.looks_subIn X sb
  have L5 : PySem.W.Looks M hp (typeOf (.ref ea)) (.ref C) := hc ▸ (PySem.W.Looks.ld he).andThen .now
  have L6 : PySem.W.Looks M hp (isSubtype (.type "type") (.type "tuple")) false := .of_pure tc_notTuple
  unfold excMatches isInstance
  repeat (first | with_reducible refine PySem.W.Looks.at (by assumption) ?_ | wp_step)
  exact h
end L2
set_option Elab.async false
set_option linter.all false
set_option maxRecDepth 100000
namespace L2
open PySem PySem.Spec PyProof.Rows

/-! ### a call out of which an exception may come, within a try: what is wanted of it may speak of the names -/
def PassesS (X : Cx) (Ex : St → XK) : Prop := ∀ (pins : List (Addr × Obj)) (σ : St) (H : Hp) (s : Shared) (e : Value) (s' : Shared), Inv X pins σ H s → CXF X.prog X.w X.stack H s (Ex σ) e s' → X.xe e s'
def tCallX (sp : Sp) (Ex : St → XK) (t : TA) : TE := fun σ H Q => t σ H fun vs H1 => sp vs H1 Q (Ex σ)
theorem pe_callX {X : Cx} {k : Nat} {f : Addr} {fd : FuncData} {ps : List Str} {sp : Sp} {Ex : St → XK} {x : Str} {p pos : Pos} {e : Expr} {es : List Expr} {t : TA} (F : FnOk X.prog X.w X.K X.mg X.base (CXF X.prog X.w) k f fd ps sp) (hr : Room k X.A) (hg : Gl X x) (hm : X.mg x = some (.ref f))
    (hk : PySem.W.keepIn X.K (.ref f) = true) (hb : Binds X.K fd ps []) (hx : PassesS X Ex) (ha : PA X (e :: es) t) (hdb : (x == ("__debug__" : Str)) = false := by decide) (he : starEach (e :: es) X.env = (false, eval e X.env) :: starEach es X.env := by rfl)
    (hpl : (backTo pos (starEach es X.env)).any (·.1) = false := by rfl) : PE X (.Call (.Name x p) (e :: es) [] pos) (tCallX sp Ex t) := by
  intro pins s σ H Q I h
  refine wpAny_Call_Name_kw (ld_glob I hg hm ?_ hdb)
  refine PySem.W.callWith_K (h₀ := X.base) I.ok.mod.kin hk (thn (ha pos pins s σ H _ I h) fun us s1 ⟨vs, H1, I1, r, q⟩ => ⟨I1.kIn, ?_⟩) he hpl
  have hl : us.length = ps.length := by rw [← r.length]; exact F.len _ _ _ _ q
  have hb' := hb s1 us I1.kIn (by rw [List.append_nil]; exact hl)
  rw [List.append_nil] at hb'
  refine wpAny_call (codeAny_mono (F.run X.A X.stack s1 H1 ⟨us, []⟩ us vs Q (Ex σ) hr I1.env0 hb' r q) fun r s' hq => ?_)
  cases r with
  | error e => exact hx pins σ H1 s1 e s' I1 hq
  | ok fl =>
    cases fl with
    | ret u => exact I1.after hq
    | next => exact False.elim hq
    | brk => exact False.elim hq
    | cont => exact False.elim hq

/-! ### try: body except c as n: suite -/
def tTry (K : PySem.W.Frag) (D : Addr) (i : Nat) (tb : (St → XK) → TS) (ts : TS) : TS := fun G σ H => tb (fun σ' cls od H' => ∃ C, cls = .ref C ∧ PySem.W.subIn K (.ref C) (.ref D) = some true ∧
  ∀ ea, H' ea = none → ts { G with nx := fun σ2 H2 => G.nx (σ2.set i none) H2, bk := fun _ _ => False, ct := fun _ _ => False } (σ'.set i (some (.ref ea))) (upd H' ea (excO ea C od))) G σ H
theorem ps_try {X : Cx} {body suite : List Stmt} {b₀ : Stmt} {c n : Str} {D : Addr} {i : Nat} {np hpos pos : Pos} {tb : (St → XK) → TS} {ts : TS} (hc : X.calm = true) (hfrm : X.stack = X.env :: X.outer ∧ X.env.frame = some X.env.locals)
    (hb : ∀ (pn : List (Addr × Obj)) (xe : Value → Shared → Prop) (Ex : St → XK), PassesS (X.tryx pn xe) Ex → PSs (X.tryx pn xe) body (tb Ex)) (hs : ∀ ea, PSs (X.hand ea) (b₀ :: suite) ts)
    (hN : X.N.Nodup) (hi : X.N[i]? = some n) (hn : X.env.scope.names.lookup n = some .local) (hg : Gl X c) (hm : X.mg c = some (.ref D)) (hD : Hcl X.K D) (hdb : (c == ("__debug__" : Str)) = false := by decide) :
    PS X (.Try body [.ExceptHandler (some (.Name c np)) (some n) (b₀ :: suite) hpos] [] [] pos) (tTry X.K D i tb ts) := by
  intro pins s σ H G I h
  refine wpAny_Try_except ?_
  refine wpAny_mono (hb (X.pn ++ pins) (fun e s₁ => wpAny (model X.prog X.w) X.A (noteFrame e X.env) (fun _ s₂ => wpAny (model X.prog X.w) X.A (setFlight e none) (fun _ s₃ =>
      wpAny (model X.prog X.w) X.A (handleBy e X.env [.ExceptHandler (some (.Name c np)) (some n) (b₀ :: suite) hpos]) (SP X pins G) X.xe s₃) X.xe s₂) X.xe s₁) _ ?_ [] s σ H G (I.tryx _) h) (fun fl s1 q => ?_) fun _ _ z => z
  · intro pins' σ1 H1 s1 e s' I1 hx
    obtain ⟨ea, cls, od, S, H', rfl, os, bare, un, hok, lo, hS, C, rfl, sb, q⟩ := hx
    have J1 : Inv X pins σ1 H1 s1 := I1.untryx I.ok
    have J2 : Inv X pins σ1 H' s' := J1.call' (ch := []) os un hok bare (fun b z => absurd z (by simp))
    show wpAny _ _ (noteFrame (.ref ea) X.env) _ _ s'
    have st := J2.stack
    rw [hfrm.1] at st
    have hfr := I.ok.frames
    rw [hfrm.1] at hfr
    refine land_ex hfr st hfrm.2 lo fun h3 T m3 hs3 hT x3 t3 => ?_
    rw [← hfrm.1] at m3
    have J3 : Inv X pins σ1 H' { s' with heap := h3, toks := s'.toks } := J2.moved (S := S) m3 fun b hb => ⟨J1.off (hS b hb).1, (hS b hb).2⟩
    have oE := J1.off (hS ea lo.1).1
    have nE := (hS ea lo.1).2
    obtain ⟨oe, vs, he, hcls, hdd, hd1, h1⟩ := id x3
    refine wpAny_handleBy_cons (codeAny_handlers_test ?_) (by intro z; cases z)
    refine ld_glob (X := X.hand ea) (J3.hand ea) hg hm ?_ hdb
    refine exc_matches (K := X.K) J3.kIn he hcls hD sb (codeAny_handlers_suite_as ?_)
    refine flight_ex (s := { s' with heap := h3, toks := s'.toks }) x3 t3 hT fun h4 m4 x4 t4 k4 => ?_
    have J4 : Inv X pins σ1 H' { s' with heap := h4, toks := s'.toks } := J3.moved (S := [T]) (fun b o hb hn => by
      have hbT : b ≠ T := fun z => hn (by rw [z]; exact List.mem_cons_self)
      have z := (k4 b hbT).trans hb
      exact ⟨fun _ => z, o.slots, z⟩) fun b hb => by
        rw [List.mem_singleton.mp hb]
        exact ⟨J2.off (Heap.get?_none_of_le hs3), J2.hok.fresh hs3⟩
    have nf : ea ∉ X.fs := fun z => by
      obtain ⟨_, o, ho, _⟩ := I.ok.funs.mem z
      exact I.ok.exfs ea (oE.1 o ho) z
    obtain ⟨oe4, vs4, he4, hcls4, hdd4, hd14, h14⟩ := id x4
    have J5 : Inv X pins σ1 (upd H' ea (excO ea C od)) { s' with heap := h4, toks := s'.toks } := J4.track oE nE ⟨oe4, vs4, he4, hcls4, hdd4, hd14⟩ ⟨oe4, he4⟩ (fun g1 g2 ⟨o, v, q1, q2⟩ k => ⟨o, v, k o q1, q2⟩) nf
    refine store_ok2 (X := X.hand ea) (J5.hand ea) hN hi (.inl hn) (v := .ref ea) rfl (fun s6 J6 _ => ?_) (.inr hn)
    refine wpAny_mono (hs ea pins s6 _ _ _ J6 (q ea nE)) (fun f s7 z => ?_) fun _ _ z => z.elim
    have fin : ∀ {σ7 : St} {H7 : Hp} {R : Shared → Prop}, Inv (X.hand ea) pins σ7 H7 s7 → (∀ s8, Inv X pins (σ7.set i none) H7 s8 → R s8) → wpAny (model X.prog X.w) X.A (do bindName X.env n .none; unbindBehindTheSuite X.env n hpos) (fun _ s8 => R s8) X.xe s7 := fun {σ7 H7 R} J7 k => by
      have J7' := J7.unhand I.ok
      obtain ⟨m, hn7, hl7⟩ := id J7'.loc
      exact wpAny_nameGoes_keeps hn hn7 (by rw [I.ok.kind]; rfl) fun h' v hns hsb => k _ (J7'.unbind hN hi hl7 hns hsb)
    cases f with
    | next =>
      obtain ⟨σ7, H7, J7, z⟩ := z
      exact fin (R := SP X pins G .next) J7 fun s8 J8 => ⟨_, H7, J8, z⟩
    | brk =>
      obtain ⟨σ7, H7, J7, z⟩ := z
      exact z.elim
    | cont =>
      obtain ⟨σ7, H7, J7, z⟩ := z
      exact z.elim
    | ret u =>
      obtain ⟨v, σ7, H7, J7, r, z⟩ := z
      exact fin (R := SP X pins G (.ret u)) J7 fun s8 J8 => ⟨v, _, H7, J8, r, z⟩
  · cases fl with
    | next =>
      obtain ⟨σ', H', J, z⟩ := q
      exact wpAny_execs_nil ⟨σ', H', J.untryx I.ok, z⟩
    | brk =>
      obtain ⟨σ', H', J, z⟩ := q
      exact ⟨σ', H', J.untryx I.ok, z⟩
    | cont =>
      obtain ⟨σ', H', J, z⟩ := q
      exact ⟨σ', H', J.untryx I.ok, z⟩
    | ret u =>
      obtain ⟨v, σ', H', J, r, z⟩ := q
      exact ⟨v, σ', H', J.untryx I.ok, r, z⟩
/-! a word between, behind a test -/
def tMidT (t : TT) : TT := fun σ H Q => ∃ Mid : Bool → Hp → Prop, t σ H Mid ∧ ∀ b H', Mid b H' → Q b H'
theorem pt_mid {X : Cx} {e : Expr} {t : TT} (h : PT X e t) : PT X e (tMidT t) := by
  intro pins s σ H Q I ⟨Mid, h1, h2⟩
  exact thn (h pins s σ H _ I h1) fun b s' ⟨H', I', m⟩ => ⟨H', I', h2 _ _ m⟩
end L2
set_option Elab.async false
set_option linter.all false
set_option maxRecDepth 100000
namespace L2
open PySem PySem.Spec PyProof.Rows

/-! ### attributes of an exception of a class of the text; isinstance of it -/
structure Ek (K : PySem.W.Frag) (C : Addr) : Prop where
  cl : (PySem.W.clsIn K C).isSome = true
  ga : PySem.W.findIn K (.ref C) "__getattribute__" = some (some (.builtin "BaseException.__getattribute__"))
  gt : PySem.W.findIn K (.ref C) "__getattr__" = some none
  ca : PySem.W.findIn K (.ref C) "__class__" = some (some (.builtin "object.__class__"))
  be : PySem.W.subIn K (.ref C) (.type "BaseException") = some true
  ob : PySem.W.mroIn K C (.type "object") = some true
  cg : PySem.W.specialIn K (.builtin "object.__class__") "__get__" = some (some (.builtin "getset_descriptor.__get__"))
  ct : PySem.W.takesIn K (.builtin "object.__class__") = some true
section
variable {K : PySem.W.Frag} {prog : Program} {w : World} {A : Around} {E : Value → Shared → Prop} {s : Shared} {x C : Addr} {ox : Obj} {od : Option Obj} {name : Str} {tk : Tok}
theorem exc_check {M : Model} {nv : Value} {Q : Unit → Shared → Prop} (X : K.In s.heap) (I : PySem.W.InstAt s.heap x ox C od) (G : Ek K C) (h : Q () s) : wpAny M A (checkBuiltinCall "BaseException.__getattribute__" ⟨[.ref x, nv], []⟩) Q E s := by
  obtain ⟨hp, g, d, t, os⟩ := s
  have hk : builtinKind "BaseException.__getattribute__" = some .slot := by decide +kernel
  have hsplit : splitId "BaseException.__getattribute__" = some ("BaseException", "__getattribute__") := by decide +kernel
  have L0 := I.type (M := M)
  have L1 : PySem.W.Looks M hp (isSubtype (.ref C) (.type "BaseException")) true := PySem.W.looks_subIn X G.be
  have ha := PySem.F.args_bexc_ga (.ref x) nv
  simp only [checkBuiltinCall, hk, hsplit]
  refine wpAny_bind ?_
  unfold isInstance
  repeat (first | with_reducible refine PySem.W.Looks.at (by assumption) ?_ | wp_step)
  exact h
theorem exc_by {fill expr : Bool} {Q : Value → Shared → Prop} (X : K.In s.heap) (I : PySem.W.InstAt s.heap x ox C od) (G : Ek K C)
    (h : wpAny (model prog w) A.in1 (Builtin.«object.__getattribute__» ⟨[.ref x, .str name tk], []⟩) (fun fin s' => match fin with | .done (.ret v) => PySem.W.handedIn v = true ∧ Q v s' | .again c' => c'.quiet = true ∧ codeAny (model prog w) A c' (fun r s'' => match r with | .ok (.ret v) => PySem.W.handedIn v = true ∧ Q v s'' | _ => False) s' | _ => False) (fun _ _ => False) s) :
    wpAny (model prog w) A (getAttrBy (.ref x) (.str name tk) fill expr) Q E s := by
  obtain ⟨hp, g, d, t, os⟩ := s
  have L0 := I.type (M := model prog w)
  have L1 : PySem.W.Looks (model prog w) hp (typeLookup (.ref C) "__getattribute__") (some (.builtin "BaseException.__getattribute__")) := PySem.W.looks_findIn X G.ga
  have L2 : PySem.W.Looks (model prog w) hp (typeLookup (.ref C) "__getattr__") none := PySem.W.looks_findIn X G.gt
  have f3 := PySem.F.attr_ValueError.ga.bind (.ref x)
  unfold getAttrBy
  refine wpAny_holding (wpAny_bind (L0.at (wpAny_bind (L1.at ?_))))
  show wpAny _ _ (if (onTheHeap (.ref C) && Value.builtin "BaseException.__getattribute__" == .builtin "object.__getattribute__") = true then _ else _) _ _ _
  have hb : (onTheHeap (Value.ref C) && Value.builtin "BaseException.__getattribute__" == Value.builtin "object.__getattribute__") = false := by
    show (true && Value.builtin "BaseException.__getattribute__" == Value.builtin "object.__getattribute__") = false
    decide +kernel
  rw [hb, if_neg Bool.false_ne_true]
  unfold getAttrByItsOwn
  refine wpAny_bind ?_
  show wpAny _ _ (typeLookup (.ref C) "__getattr__") _ _ _
  refine L2.at ?_
  refine wpAny_bind (wpAny_attempt (wpAny_holding ?_))
  unfold callGetattribute
  rw [if_neg (by cases expr <;> decide)]
  unfold boundAndCalled
  refine wpAny_bind (wpAny_of_eq f3 ?_)
  show wpAny _ _ (call (.builtin "BaseException.__getattribute__") [.ref x, .str name tk]) _ _ _
  refine wpAny_call (codeAny_call_builtin PySem.F.attr_ValueError.ga.plain PySem.F.entry_bexc_ga (exc_check X I G ?_))
  refine wpAny_mono h (fun fin s' z => ?_) fun _ _ z => z.elim
  rcases fin with fl | c'
  · cases fl with
    | ret v =>
      obtain ⟨z1, z2⟩ := z
      show wpAny _ _ (handedOut v) _ _ _
      exact PySem.W.handed_on z1 z2
    | _ => exact z.elim
  · refine ⟨z.1, codeAny_mono z.2 fun r s'' y => ?_⟩
    rcases r with _ | fl
    · exact y.elim
    · cases fl with
      | ret v =>
        obtain ⟨z1, z2⟩ := y
        show wpAny _ _ (handedOut v) _ _ _
        exact PySem.W.handed_on z1 z2
      | _ => exact y.elim
theorem exc_class {Q : Option Value → Shared → Prop} (X : K.In s.heap) (I : PySem.W.InstAt s.heap x ox C od) (G : Ek K C) (h : Q (some (.ref C)) { s with toks := s.toks + 1 }) : wpAny (model prog w) A (getAttr? (.ref x) "__class__") Q E s := by
  obtain ⟨hp, g, d, t, os⟩ := s
  have hf : PySem.W.findObj K C od "__class__" = some (.bind (.builtin "getset_descriptor.__get__") (.builtin "object.__class__")) := by
    obtain ⟨cd, hc⟩ := Option.isSome_iff_exists.mp G.cl
    unfold PySem.W.findObj
    rw [hc, Option.bind_some, G.ca, Option.bind_some]
    simp [G.cg, G.ct]
  have L0 := I.type (M := model prog w)
  have L1 := PySem.W.looks_find (M := model prog w) X I hf
  unfold getAttr? getAttrBy?
  refine wpAny_bind (wpAny_mkText (wpAny_bind (wpAny_attempt ?_)))
  refine exc_by (s := ⟨hp, g, d, t + 1, os⟩) X I G ?_
  unfold Builtin.«object.__getattribute__»
  repeat (first | with_reducible refine PySem.W.Looks.at (by assumption) ?_ | wp_step)
  exact PySem.W.class_get (s := ⟨hp, g, d, t + 1, os⟩) X I G.ob (wpAny_pure ⟨rfl, wpAny_pure h⟩)
end
/-! all that is asked of a class of refusals, as one answer -/
def xcIn (K : PySem.W.Frag) (C : Addr) : Bool :=
  PySem.W.typeIn K (.ref C) == some (.type "type") && (PySem.W.clsIn K C).isSome && PySem.W.subIn K (.ref C) (.type "BaseException") == some true &&
  PySem.W.findIn K (.ref C) "__getattribute__" == some (some (.builtin "BaseException.__getattribute__")) && PySem.W.findIn K (.ref C) "__getattr__" == some none && PySem.W.findIn K (.ref C) "__class__" == some (some (.builtin "object.__class__")) &&
  PySem.W.mroIn K C (.type "object") == some true && PySem.W.specialIn K (.builtin "object.__class__") "__get__" == some (some (.builtin "getset_descriptor.__get__")) && PySem.W.takesIn K (.builtin "object.__class__") == some true &&
  PySem.W.subIn K (.ref C) (.ref C) == some true && PySem.W.subIn K (.ref C) (.type "ValueError") == some true
structure XC (K : PySem.W.Frag) (C : Addr) : Prop where
  h : Hcl K C
  e : Ek K C
  sf : PySem.W.subIn K (.ref C) (.ref C) = some true
  ve : PySem.W.subIn K (.ref C) (.type "ValueError") = some true
theorem XC.of {K : PySem.W.Frag} {C : Addr} (q : xcIn K C = true) : XC K C := by
  unfold xcIn at q
  simp only [Bool.and_eq_true, beq_iff_eq] at q
  obtain ⟨⟨⟨⟨⟨⟨⟨⟨⟨⟨q1, q2⟩, q3⟩, q4⟩, q5⟩, q6⟩, q7⟩, q8⟩, q9⟩, q10⟩, q11⟩ := q
  exact ⟨⟨q1, q2, q3⟩, ⟨q2, q4, q5, q6, q3, q7, q8, q9⟩, q10, q11⟩
section
variable {K : PySem.W.Frag} {C D : Addr}
theorem kit_t (hD : Hcl K D) (sb : PySem.W.subIn K (.ref C) (.ref D) = some true) : PySem.W.kitOne K (.ref C) (.ref D) = some true := by
  unfold PySem.W.kitOne
  split
  · rfl
  · unfold PySem.W.kitCls
    dsimp only
    rw [if_pos (by rw [hD.cl, hD.ty]; rfl)]
    exact sb
theorem kit_f (hC : XC K C) (hD : Hcl K D) (sb : PySem.W.subIn K (.ref C) (.ref D) = some false) : PySem.W.kitOne K (.ref C) (.ref D) = some false := by
  unfold PySem.W.kitOne
  split
  · rename_i z
    have z' := beq_iff_eq.mp z
    rw [← z', hC.sf] at sb
    cases sb
  · unfold PySem.W.kitCls
    dsimp only
    rw [if_pos (by rw [hD.cl, hD.ty]; rfl)]
    exact sb
theorem kit_ve (hC : XC K C) : PySem.W.kitOne K (.ref C) (.type "ValueError") = some true := by
  unfold PySem.W.kitOne
  rw [if_neg (by intro z; cases beq_iff_eq.mp z)]
  unfold PySem.W.kitCls
  dsimp only
  rw [if_pos (show PySem.W.kitMeta "ValueError" = true by decide +kernel)]
  exact hC.ve
theorem kitx_exc {x : Addr} (G : Ek K C) : PySem.W.KitX K (.ref x) (.ref C) (fun h => ∃ ox od, PySem.W.InstAt h x ox C od) where
  ty := fun _ _ _ ⟨_, _, I⟩ => I.type
  it := fun _ _ X _ => by
    have q := G.cl
    unfold PySem.W.clsIn at q
    split at q
    · rename_i ho
      intro A' Q' E' s' k q
      unfold isType loadHead
      exact wpAny_bind (wpAny_loadPart (k _ _ (X _ _ ho)) (wpAny_pure q))
    · cases q
  ne := fun h tp dd its n sl X htp => by
    refine Bool.eq_false_iff.mpr fun z => ?_
    have e : C = tp := Value.ref.inj (beq_iff_eq.mp z)
    subst e
    have q := G.cl
    unfold PySem.W.clsIn at q
    split at q
    · rename_i ho
      have z := (X _ _ ho).symm.trans htp
      cases z
    · cases q
  ca := fun X ⟨_, _, I⟩ k => exc_class X I G k
end
/-! isinstance(e, c) -/
def rIsiE (K : PySem.W.Frag) : List V → Hp → VK → Prop := fun xs H Q => ∃ ea C od c b, xs = [.ref ea, c] ∧ H ea = some (excO ea C od) ∧ Ek K C ∧ (od = none ∨ ∃ dx fs, od = some dx ∧ H dx = some (.xd fs)) ∧
  ((∃ D, c = .ref D ∧ PySem.W.kitOne K (.ref C) (.ref D) = some b) ∨ ∃ T, c = .ty T ∧ PySem.W.kitOne K (.ref C) (.type T) = some b) ∧ Q (.bl b) H
theorem inst_of {X : Cx} {pins : List (Addr × Obj)} {σ : St} {H : Hp} {s : Shared} {ea C : Addr} {od : Option Addr} (I : Inv X pins σ H s) (h : H ea = some (excO ea C od)) (hd : od = none ∨ ∃ dx fs, od = some dx ∧ H dx = some (.xd fs)) :
    ∃ ox o, PySem.W.InstAt s.heap ea ox C o := by
  obtain ⟨⟨oe, vs, he, hc, hdd, hdt⟩, _, _⟩ := I.hok ea _ h
  rcases hd with rfl | ⟨dx, fs, rfl, hx⟩
  · exact ⟨oe, none, he, hc, by unfold PySem.W.notCls; rw [hdt], by rw [hdd]; trivial⟩
  · obtain ⟨ob, hob⟩ := (I.hok dx _ hx).obj
    exact ⟨oe, some ob, he, hc, by unfold PySem.W.notCls; rw [hdt], by rw [hdd]; exact hob⟩
theorem isiE {X : Cx} (K : PySem.W.Frag) (hK : X.K = K := by rfl) : CallR X (.builtin "isinstance") (rIsiE K) := by
  subst hK
  intro pins s σ H xs us Q I r h
  obtain ⟨ea, C, od, c, b, rfl, he, G, hd, hc, q⟩ := h
  obtain ⟨u, v, rfl, r1, r2⟩ := r.two
  cases r1
  obtain ⟨ox, o, IA⟩ := inst_of I he hd
  rcases hc with ⟨D, rfl, e⟩ | ⟨T, rfl, e⟩
  · cases r2
    exact PySem.W.kia_one (kitx_exc G) I.kIn ⟨ox, o, IA⟩ e (fun z => nomatch z) fun tk => ⟨.bl b, H, I.tok tk, rfl, q⟩
  · cases r2
    exact PySem.W.kia_one (kitx_exc G) I.kIn ⟨ox, o, IA⟩ e (fun z => nomatch z) fun tk => ⟨.bl b, H, I.tok tk, rfl, q⟩
theorem b_VE : bootBuiltins "ValueError" = some (.type "ValueError") := by decide +kernel
/-! a def out of which exceptions come, with all that a call of it wants -/
structure Fns' (P : Program) (w : World) (K : PySem.W.Frag) (mg : Str → Option Value) (base : Heap) (ps : List Str) (name : Str) (sp : Sp) (k : Nat) where
  g : Addr
  gd : FuncData
  ok : FnOk P w K mg base (CXF P w) k g gd ps sp
  b : Binds K gd ps []
  kp : PySem.W.keepIn K (.ref g) = true
  m : mg name = some (.ref g)
/-! no exception comes -/
theorem passN {P : Program} {w : World} {X : Cx} : Passes (CXF P w) X E0 := fun _ _ _ _ _ _ _ ⟨_, _, _, _, _, _, _, _, _, _, _, _, z⟩ => z.elim
/-! lists of bools compared -/
def rEqLB : R2 := fun x y H Q => ∃ (a b : Addr) (ns ms : List Bool), x = .ref a ∧ y = .ref b ∧ H a = some (.lst (ns.map V.bl)) ∧ H b = some (.lst (ms.map V.bl)) ∧ Q (.bl (decide (ns = ms))) H
theorem op_eqLB {X : Cx} (hu : X.A.units + 4 < cLine) : OpR X (compareOp .Eq) rEqLB := by
  intro pins s σ H x y v u Q I rx ry h
  obtain ⟨a, b, ns, ms, rfl, rfl, e1, e2, q⟩ := h
  cases rx; cases ry
  exact rc_lsts (A := X.A) (n := 0) EqK.bl I.hok e1 e2 (Paired.bls ns) (Paired.bls ms) (by omega) _ _ _ _ ⟨.bl _, H, I, rfl, q⟩
def rNeLB : R2 := fun x y H Q => ∃ (a b : Addr) (ns ms : List Bool), x = .ref a ∧ y = .ref b ∧ H a = some (.lst (ns.map V.bl)) ∧ H b = some (.lst (ms.map V.bl)) ∧ Q (.bl (!decide (ns = ms))) H
def Fns'.up {P : Program} {w : World} {K : PySem.W.Frag} {mg : Str → Option Value} {base : Heap} {ps : List Str} {name : Str} {sp : Sp} {j k : Nat} (f : Fns' P w K mg base ps name sp j) (h : j ≤ k) : Fns' P w K mg base ps name sp k := ⟨f.g, f.gd, f.ok.mono h, f.b, f.kp, f.m⟩
/-! a method with the fragment named -/
theorem pe_bmK {X : Cx} (K : PySem.W.Frag) {T id : String} {name : Str} {o e : Expr} {es : List Expr} {apos cpos : Pos} {to : TE} {t : TA} {r : V → List V → Hp → VK → Prop} (pa : PlainAttrs T) (slot : Slot T name id) (hty : typeOf (.builtin id) = pure (.type "method_descriptor")) (hm : MtR X id r) (ho : PE X o to) (ha : PA X (e :: es) t)
    (hbase : attributeBase o name X.env (eval o X.env) = eval o X.env := by rfl)
    (hfew : ((backTo cpos (starEach (e :: es) X.env)).all (fun x => !x.1) && (backToKw cpos (keywordEach [] X.env)).all (fun x => x.1.isSome) && decide ((e :: es).length + ([] : List Keyword).length + (if ([] : List Keyword).isEmpty then 0 else 1) < 30)) = true := by rfl)
    (hline : (apos.endLine == cpos.line) = true := by rfl) (hs : starEach (e :: es) X.env = (false, eval e X.env) :: starEach es X.env := by rfl) (hplain : (backTo cpos (starEach es X.env)).any (·.1) = false := by rfl) (hK : X.K = K := by rfl) :
    PE X (.Call (.Attribute o name apos) (e :: es) [] cpos) (tBM K T r to t) := by
  subst hK
  exact pe_bm pa slot hty hm ho ha hbase hfew hline hs hplain
end L2
set_option Elab.async false
set_option linter.all false
set_option maxRecDepth 100000
namespace L2
open PySem PySem.Spec PyProof.Rows
/-- the old fact of a tuple, of the layer of wip/bin/laytup.py -/
theorem old_tup {P : Program} {w : World} {H : Hp} {h : Heap} {a : Addr} {xs : List V} (x : ObjOk P w H h a (.tup xs)) : xs.length ≤ sizeLine ∧ ∃ its : List Value, Vals xs its ∧ PyProof.Rows.IsTup h a its.toArray := by
  obtain ⟨z, its, r, p⟩ := x
  exact ⟨z, its, r, IsTp.is p⟩
/-! ### a list or a tuple, walked -/
def SqB (b : Bool) (K : PySem.W.Frag) (H : Hp) (a : Addr) (xs : List V) : Prop := match b with
  | true => SqL K H a xs
  | false => SqT K H a xs
def Itb (b : Bool) (K : PySem.W.Frag) (a : Addr) : It := match b with
  | true => Itl K a
  | false => Itt K a
def iSeq (K : PySem.W.Frag) (tl : TE) : TI := fun σ H R => tl σ H fun x H1 => ∃ a b, x = .ref a ∧ (∃ xs, SqB b K H1 a xs) ∧ R (Itb b K a) H1
def tCompS (K : PySem.W.Frag) (tl : TE) (tc : TT) (te : TE) : TE := fun σ H Q => tl σ H fun v H1 => ∃ a xs b, v = .ref a ∧ SqB b K H1 a xs ∧ ∀ d, H1 d = none →
  ∃ Pv : Nat → Hp → Prop, Pv 0 (upd H1 d (.lst [])) ∧ (∀ i H, i ≤ xs.length → Pv i H → SqB b K H a xs) ∧ (∀ i x H, xs[i]? = some x → Pv i H → turnC tc te σ d x H (Pv (i + 1))) ∧ ∀ H, Pv xs.length H → Q (.ref d) H
/-! isinstance(e, (C1, C2, ..)), none of them -/
theorem kit_none {K : PySem.W.Frag} {t : Value} : ∀ {cs : List Value}, (∀ c ∈ cs, PySem.W.kitOne K t c = some false) → PySem.W.kitAny K t cs = some false
  | [], _ => rfl
  | c :: cs, h => by
    unfold PySem.W.kitAny
    rw [h c List.mem_cons_self]
    exact kit_none fun d hd => h d (List.mem_cons_of_mem _ hd)
theorem vals_refs : ∀ {ds : List Addr} {us : List Value}, Vals (ds.map V.ref) us → us = ds.map Value.ref := by
  intro ds
  induction ds with
  | nil => intro us r; cases r; rfl
  | cons d ds ih =>
    intro us r
    cases r with
    | cons r1 r2 => rw [ih r2, show _ = Value.ref d from r1]; rfl
def rIsiT (K : PySem.W.Frag) : List V → Hp → VK → Prop := fun xs H Q => ∃ ea C od tp, ∃ ds : List Addr, xs = [.ref ea, .ref tp] ∧ H ea = some (excO ea C od) ∧ Ek K C ∧ (od = none ∨ ∃ dx fs, od = some dx ∧ H dx = some (.xd fs)) ∧ H tp = some (.tup (ds.map V.ref)) ∧
  (∀ D ∈ ds, PySem.W.kitOne K (.ref C) (.ref D) = some false) ∧ Q (.bl false) H
theorem isiT {X : Cx} (K : PySem.W.Frag) (hK : X.K = K := by rfl) : CallR X (.builtin "isinstance") (rIsiT K) := by
  subst hK
  intro pins s σ H xs us Q I r h
  obtain ⟨ea, C, od, tp, ds, rfl, he, G, hd, ht, hk, q⟩ := h
  obtain ⟨u, v, rfl, r1, r2⟩ := r.two
  cases r1
  cases r2
  obtain ⟨ox, o, IA⟩ := inst_of I he hd
  obtain ⟨_, its, rv, ⟨cls, dd, data, sl⟩, ho, hc, n, hdt⟩ := old_tup (I.hok tp _ ht)
  simp only at hc hdt
  subst hc hdt
  rw [vals_refs rv] at ho
  exact PySem.W.kia_tup (kitx_exc G) I.kIn ⟨ox, o, IA⟩ ho (kit_none fun c hcm => by
    obtain ⟨D, hD, rfl⟩ := List.mem_map.mp hcm
    exact hk D hD) (fun z => nomatch z) fun tk => ⟨.bl false, H, I.tok tk, rfl, q⟩
/-! lists of ints compared -/
def rEqLI : R2 := fun x y H Q => ∃ (a b : Addr) (ns ms : List Int), x = .ref a ∧ y = .ref b ∧ H a = some (.lst (ns.map V.int)) ∧ H b = some (.lst (ms.map V.int)) ∧ Q (.bl (decide (ns = ms))) H
def rNeLI : R2 := fun x y H Q => ∃ (a b : Addr) (ns ms : List Int), x = .ref a ∧ y = .ref b ∧ H a = some (.lst (ns.map V.int)) ∧ H b = some (.lst (ms.map V.int)) ∧ Q (.bl (!decide (ns = ms))) H
end L2
set_option Elab.async false
set_option linter.all false
set_option maxRecDepth 100000
namespace L2
open PySem PySem.Spec PyProof.Rows
/-! ### classes of refusals with an __init__ of their own -/
def exiIn (K : PySem.W.Frag) (C fI : Addr) : Bool := match K.lookup C with
  | some ⟨.type "type", _, .cls k, sl⟩ => match k.mro, sl.toList with
    | .ref C' :: bm, [_, _, _, _, some (.builtin n), _] => C' == C && n == newVE && !k.hasDel && k.hasDict && PySem.W.tailIn K bmVE bm && PySem.W.nsOkIn K k.ns && PySem.W.nsIn K k.ns "__init__" == some (some (.ref fI)) && PySem.W.typeIn K (.ref fI) == some (.type "function")
    | _, _ => false
  | _ => false
structure Eci (K : PySem.W.Frag) (C fI : Addr) : Prop where
  ex : exiIn K C fI = true
section
variable {prog : Program} {w : World} {A : Around} {E : Value → Shared → Prop} {h : Heap} {g : Array GenState} {d : Drawn} {t : Nat} {os : OsState}
variable {nm q : Str} {C N : Addr} {bs bm : List Value} {hdct : Bool} {sn : List Str} {sub : List Value} {ab : Bool} {col : Option Bool} {dd : Option Addr} {k0 k1 k2 k3 k5 : Option Value}
end
end L2
set_option Elab.async false
set_option linter.all false
set_option maxRecDepth 100000
namespace L2
open PySem PySem.Spec PyProof.Rows PySem.Calls PySem.Builtin PySem.Builtin.ObjectAttr
/-! ### an exception that was made and not yet raised; its dict -/
def excN (ea C : Addr) (od : Option Addr) : HO := .ext fun h => ∃ oe vs, h.get? ea = some oe ∧ oe.cls = .ref C ∧ oe.dict = od ∧ oe.data = .fields vs ∧ vs[1]? = some .none
def xdO (d : Addr) (fs : List (Str × V)) : HO := .ext fun h => ∃ mA, h.Ns1 d mA ∧ (∀ f, RelO (fs.lookup f) (mA f)) ∧ PySem.Within mA (fs.map (·.1))
/-! what is asked of the class for a store -/
def estIn (K : PySem.W.Frag) (C : Addr) : Bool := PySem.W.findIn K (.ref C) "__setattr__" == some (some (.builtin "object.__setattr__")) && PySem.W.mroIn K C (.type "object") == some true &&
  (PySem.W.clsIn K C).any fun k => k.hasDict && match k.mro with
    | .ref _ :: .ref _ :: r => r == bmVE
    | _ => false
structure Est (K : PySem.W.Frag) (C : Addr) : Prop where
  sa : PySem.W.findIn K (.ref C) "__setattr__" = some (some (.builtin "object.__setattr__"))
  ob : PySem.W.mroIn K C (.type "object") = some true
  cd : ∃ k a b, PySem.W.clsIn K C = some k ∧ k.hasDict = true ∧ k.mro = .ref a :: .ref b :: bmVE
section
variable {K : PySem.W.Frag} {prog : Program} {w : World} {A : Around} {E : Value → Shared → Prop} {s : Shared} {x C : Addr} {ox : Obj} {od : Option Obj} {name : Str} {tk : Tok} {v : Value}
/-! the first store makes the dict, at the heap's end -/
/-! a later store -/
end
/-! ### the statement o.f = e, o an exception that was made and not yet raised -/
def sXfld (K : PySem.W.Frag) (ta tv : TE) (f : Str) : TS := fun D σ H => tv σ H fun y H1 => ta σ H1 fun x H2 => ∃ e C, x = .ref e ∧ Est K C ∧ PySem.W.takerIn K C f = some none ∧
  ((H2 e = some (excN e C none) ∧ ∀ d, H2 d = none → d ≠ e → D.nx σ (upd (upd H2 d (xdO d [(f, y)])) e (excN e C (some d)))) ∨
   (∃ dx fs, H2 e = some (excN e C (some dx)) ∧ H2 dx = some (xdO dx fs) ∧ dx ≠ e ∧ fs.length ≤ 100 ∧ D.nx σ (upd H2 dx (xdO dx (putF f y fs)))))
end L2
set_option Elab.async false
set_option linter.all false
set_option maxRecDepth 100000
namespace L2
open PySem PySem.Spec PyProof.Rows
/-! an exception just made, tracked -/
/-! C(..), no __init__ of its own -/
def tMakeP (C : Addr) (ta : TA) : TE := fun σ H Q => ta σ H fun vs H1 => vs.length ≤ 1000 ∧ ∀ ea, H1 ea = none → Q (.ref ea) (upd H1 ea (excN ea C none))
/-! C(..), with an __init__ of its own: its promise at the new exception -/
def tMakeI (C : Addr) (sp : Sp) (ta : TA) : TE := fun σ H Q => ta σ H fun vs H1 => vs.length ≤ 1000 ∧ ∀ ea, H1 ea = none → sp (.ref ea :: vs) (upd H1 ea (excN ea C none)) (fun v H2 => v = .non ∧ Q (.ref ea) H2) E0
end L2
set_option Elab.async false
set_option linter.all false
set_option maxRecDepth 100000
namespace L2
open PySem PySem.Spec PyProof.Rows
/-! ### what an exception that was made keeps, and what it is -/
def tXget (K : PySem.W.Frag) (ta : TE) (f : Str) : TE := fun σ H Q => ta σ H fun x H1 => ∃ e C dx fs v, x = .ref e ∧ H1 e = some (excN e C (some dx)) ∧ H1 dx = some (xdO dx fs) ∧ Ek K C ∧ Est K C ∧ NoAttr K C f ∧ fs.lookup f = some v ∧ Q v H1
def rIsiN (K : PySem.W.Frag) : List V → Hp → VK → Prop := fun xs H Q => ∃ ea C od c b, xs = [.ref ea, c] ∧ H ea = some (excN ea C od) ∧ Ek K C ∧ (od = none ∨ ∃ dx fs, od = some dx ∧ H dx = some (xdO dx fs)) ∧
  ((∃ D, c = .ref D ∧ PySem.W.kitOne K (.ref C) (.ref D) = some b) ∨ ∃ T, c = .ty T ∧ PySem.W.kitOne K (.ref C) (.type T) = some b) ∧ Q (.bl b) H
/-! the same, told by what it is -/
def Exn (H : Hp) (e C : Addr) : Prop := ∃ od, H e = some (excN e C od) ∧ (od = none ∨ ∃ dx fs, od = some dx ∧ H dx = some (xdO dx fs))
def Exf (H : Hp) (e C : Addr) (fs : List (Str × V)) : Prop := ∃ dx, H e = some (excN e C (some dx)) ∧ H dx = some (xdO dx fs)
def rIsiX (K : PySem.W.Frag) : List V → Hp → VK → Prop := fun xs H Q => ∃ ea C c b, xs = [.ref ea, c] ∧ Exn H ea C ∧ Ek K C ∧
  ((∃ D, c = .ref D ∧ PySem.W.kitOne K (.ref C) (.ref D) = some b) ∨ ∃ T, c = .ty T ∧ PySem.W.kitOne K (.ref C) (.type T) = some b) ∧ Q (.bl b) H
/-! C(..) read so -/
def tMakeQ (C : Addr) (ta : TA) : TE := fun σ H Q => ta σ H fun vs H1 => vs.length ≤ 1000 ∧ ∀ ea H2, Same H1 H2 → Exn H2 ea C → Q (.ref ea) H2
/-! the promise of an __init__ that keeps one thing, two -/
def spI1 (C : Addr) (f : Str) : Sp := fun vs H Q _ => ∃ e v, vs = [.ref e, v] ∧ H e = some (excN e C none) ∧ ∀ H', (∀ a o, a ≠ e → H a = some o → H' a = some o) → Exf H' e C [(f, v)] → Q .non H'
def spI2 (C : Addr) (f g : Str) : Sp := fun vs H Q _ => ∃ e v u, vs = [.ref e, v, u] ∧ H e = some (excN e C none) ∧ ∀ H', (∀ a o, a ≠ e → H a = some o → H' a = some o) → Exf H' e C [(f, v), (g, u)] → Q .non H'
/-! a field of it -/
def tXg (K : PySem.W.Frag) (ta : TE) (f : Str) : TE := fun σ H Q => ta σ H fun x H1 => ∃ e C fs v, x = .ref e ∧ Exf H1 e C fs ∧ Ek K C ∧ Est K C ∧ NoAttr K C f ∧ fs.lookup f = some v ∧ Q v H1
end L2
set_option Elab.async false
set_option linter.all false
set_option maxRecDepth 100000
namespace L2
open PySem PySem.Spec PyProof.Rows
/-! ### zip of two sequences, each a list or a tuple -/
def SIt : Bool → Heap → Addr → Addr → Nat → Prop
  | true, h, i, l, n => h.IsTupleIter i l n
  | false, h, i, l, n => h.IsListIter i l n
def SAt : Bool → Heap → Addr → Array Value → Prop
  | true, h, l, xs => h.IsTuple l xs
  | false, h, l, xs => h.IsList l xs
theorem SIt.at {k : Bool} {h h' : Heap} {i l : Addr} {n : Nat} (x : SIt k h i l n) (e : ∀ o, h.get? i = some o → h'.get? i = some o) : SIt k h' i l n := by
  cases k with
  | true => obtain ⟨o, ho, r⟩ := x; exact ⟨o, e o ho, r⟩
  | false => obtain ⟨o, ho, r⟩ := x; exact ⟨o, e o ho, r⟩
theorem SIt.obj {k : Bool} {h : Heap} {i l : Addr} {n : Nat} (x : SIt k h i l n) : ∃ o, h.get? i = some o ∧ ∀ v, o.data ≠ .cell v := by
  cases k with
  | true => obtain ⟨o, ho, _, d⟩ := x; exact ⟨o, ho, fun v z => by rw [d] at z; cases z⟩
  | false => obtain ⟨o, ho, _, d⟩ := x; exact ⟨o, ho, fun v z => by rw [d] at z; cases z⟩
theorem SAt.at {k : Bool} {h h' : Heap} {l : Addr} {xs : Array Value} (x : SAt k h l xs) (e : ∀ o, h.get? l = some o → h'.get? l = some o) : SAt k h' l xs := by
  cases k with
  | true => obtain ⟨o, ho, r⟩ := x; exact ⟨o, e o ho, r⟩
  | false => obtain ⟨o, ho, r⟩ := x; exact ⟨o, e o ho, r⟩
section
variable {prog : Program} {w : World} {A : Around} {E : Value → Shared → Prop} {s : Shared} {k : Bool} {it l : Addr} {i : Nat} {xs : Array Value} {x : Value} {Q : Value → Shared → Prop}
theorem nextS (hit : SIt k s.heap it l i) (hl : SAt k s.heap l xs) (hx : xs[i]? = some x) (hQ : ∀ h', SIt k h' it l (i + 1) → Heap.SameBut it s.heap h' → Q x { s with heap := h' }) :
    wpAny (model prog w) A (Builtin.SmallTypes.nextOf (.ref it)) Q E s := by
  cases k with
  | false => exact wpAny_nextOf_list_item hit hl hx hQ
  | true =>
    have hit' : s.heap.IsTupleIter it l i := hit
    obtain ⟨o, ho, hc, hd⟩ := id hit'
    obtain ⟨ol, hol, _, nl, hdl⟩ := hl
    unfold Builtin.SmallTypes.nextOf
    refine wpAny_bind (wpAny_callSpecial?_slot (name := Str.ofString "__next__") hit'.typeIs F.slot_tuple_iterator_next (wpAny_call_entry F.slot_tuple_iterator_next hit'.typeIs F.entry_tuple_iterator_next ?_ (F.args_tuple_iterator_next_1 _)))
    show wpAny _ _ (field (.ref it) 0 >>= _) _ _ s
    refine wpAny_bind (wpAny_field ho hd (x := .ref l) rfl ?_)
    show wpAny _ _ (if (Value.ref l == Value.none) = true then _ else _) _ _ s
    rw [if_neg (show ¬ ((Value.ref l == Value.none) = true) from Bool.false_ne_true)]
    show wpAny _ _ (field (.ref it) 1 >>= _) _ _ s
    refine wpAny_bind (wpAny_field ho hd (x := .int i 0) rfl (show wpAny _ _ (seqItems? (.ref l) >>= _) _ _ s from wpAny_bind (wpAny_seqItems hol hdl ?_)))
    simp only [Int.toNat_natCast, hx]
    refine wpAny_bind (wpAny_setField ho hd (by simp) (wpAny_pure ⟨x, rfl, wpAny_pure (hQ _ ?_ (Heap.SameBut.update ..))⟩))
    exact ⟨_, Heap.get?_update_self _ ho (Obj.isFreed_of_fields (Obj.data_mapFields hd _)), (Obj.cls_mapFields ..).trans hc, by rw [Obj.data_mapFields hd]; simp [rawInt]⟩
theorem endS (hh : A.handled = none) (hit : SIt k s.heap it l i) (hl : SAt k s.heap l xs) (hx : xs[i]? = none) (hE : ∀ h' e, Heap.ExtBut it s.heap h' → (∃ o, h'.get? e = some o ∧ o.cls = .type "StopIteration") → E (.ref e) { s with heap := h' }) :
    wpAny (model prog w) A (Builtin.SmallTypes.nextOf (.ref it)) Q E s := by
  cases k with
  | false => exact wpAny_nextOf_list_end hh hit hl hx hE
  | true =>
    have hit' : s.heap.IsTupleIter it l i := hit
    obtain ⟨o, ho, hc, hd⟩ := id hit'
    obtain ⟨ol, hol, _, nl, hdl⟩ := hl
    unfold Builtin.SmallTypes.nextOf
    refine wpAny_bind (wpAny_callSpecial?_slot (name := Str.ofString "__next__") hit'.typeIs F.slot_tuple_iterator_next (wpAny_call_entry F.slot_tuple_iterator_next hit'.typeIs F.entry_tuple_iterator_next ?_ (F.args_tuple_iterator_next_1 _)))
    show wpAny _ _ (field (.ref it) 0 >>= _) _ _ s
    refine wpAny_bind (wpAny_field ho hd (x := .ref l) rfl ?_)
    show wpAny _ _ (if (Value.ref l == Value.none) = true then _ else _) _ _ s
    rw [if_neg (show ¬ ((Value.ref l == Value.none) = true) from Bool.false_ne_true)]
    show wpAny _ _ (field (.ref it) 1 >>= _) _ _ s
    refine wpAny_bind (wpAny_field ho hd (x := .int i 0) rfl (show wpAny _ _ (seqItems? (.ref l) >>= _) _ _ s from wpAny_bind (wpAny_seqItems hol hdl ?_)))
    simp only [Int.toNat_natCast, hx]
    refine wpAny_bind (wpAny_rule (wpAny_bind (wpAny_setField ho hd (by simp) ?_)))
    show wpAny _ _ (newExc (.type "StopIteration") [] >>= _) _ _ _
    refine wpAny_bind ?_
    simp only [newExc, newTuple]
    refine wpAny_bind (wpAny_newObj_type ?_ (by size_fits))
    refine wpAny_bind (m := firstArgMember _ _) (wpAny_of_eq (a := Value.none) (by first | rfl | (simp only [firstArgMember]; rfl)) ?_)
    refine wpAny_newObj_type ?_ (by size_fits)
    simp only [raiseNew]
    refine wpAny_bind (wpAny_handled ?_)
    rw [show A.in1.handled = none from hh]
    refine wpAny_bind (wpAny_pure (wpAny_throw ?_))
    exact hE _ _ (((Heap.SameBut.update ..).extBut.push _).push _) ⟨_, Heap.get?_push_size _ rfl, rfl⟩
end
/-! the zip itself: z its object, TI its iterators, TO its own pair -/
structure ZAt (ka kb : Bool) (z TI TO i1 i2 l1 l2 : Addr) (n : Nat) (h : Heap) : Prop where
  zp : IsZip h z TI TO .none
  ti : IsPair h TI (.ref i1) (.ref i2)
  to_ : ∃ a b, IsPair h TO a b
  a1 : SIt ka h i1 l1 n
  a2 : SIt kb h i2 l2 n
section
variable {prog : Program} {w : World} {A : Around} {E : Value → Shared → Prop} {s : Shared} {ka kb : Bool} {z TI TO i1 i2 l1 l2 : Addr} {n : Nat} {xs ys : Array Value} {x y : Value}
theorem zipS_item {Q : Value → Shared → Prop} (D : ZipApart z TI TO i1 i2 l1 l2) (Z : ZAt ka kb z TI TO i1 i2 l1 l2 n s.heap) (hl1 : SAt ka s.heap l1 xs) (hl2 : SAt kb s.heap l2 ys) (hx : xs[n]? = some x) (hy : ys[n]? = some y)
    (hQ : ∀ h', IsZip h' z TI TO (rawInt s.heap.objs.size) → IsPair h' TO x y → SIt ka h' i1 l1 (n + 1) → SIt kb h' i2 l2 (n + 1) → IsPair h' s.heap.objs.size x y →
      (∀ c o, c ≠ z → c ≠ TO → c ≠ i1 → c ≠ i2 → s.heap.get? c = some o → h'.get? c = some o) → Q (.ref s.heap.objs.size) { s with heap := h' }) :
    wpAny (model prog w) A (Builtin.«zip.__next__» ⟨[.ref z], []⟩) (fun fin s' => ∃ v, fin = .done (.ret v) ∧ Q v s') E s := by
  obtain ⟨hz, hTI, ⟨a, b, hTO⟩, h1, h2⟩ := Z
  show wpAny _ _ (field (.ref z) 2 >>= _) _ _ _
  refine wpAny_bind (wpAny_field hz rfl (x := .bool false) rfl ?_)
  show wpAny _ _ (field (.ref z) 3 >>= _) _ _ _
  refine wpAny_bind (wpAny_field hz rfl (x := .ref TI) rfl (wpAny_bind (wpAny_seqItems hTI rfl ?_)))
  show wpAny _ _ (Builtin.SmallTypes.ownedTupleIsFree (.ref z) >>= _) _ _ _
  refine wpAny_bind ?_
  unfold Builtin.SmallTypes.ownedTupleIsFree
  refine wpAny_bind (wpAny_field hz rfl (x := .none) rfl (wpAny_pure ?_))
  simp only [if_true]
  refine wpAny_bind (wpAny_rule (wpAny_bind (wpAny_field hz rfl (x := .ref TO) rfl (wpAny_bind (wpAny_setField_rec hz (by simp) fun g1 z1 b1 => ?_)))))
  have z1' : IsZip g1 z TI TO .ellipsis := z1
  have k1 : ∀ c o, c ≠ z → s.heap.get? c = some o → g1.get? c = some o := fun c o hc e => b1.extBut _ _ hc e
  refine wpAny_bind ?_
  simp only [List.zipIdx_cons, List.zipIdx_nil, List.forIn_cons, List.forIn_nil]
  refine wpAny_bind (wpAny_bind (wpAny_onRaise ?_))
  show wpAny _ _ (Builtin.SmallTypes.nextOf (.ref i1) >>= _) _ _ _
  refine wpAny_bind (nextS (s := { s with heap := g1 }) (h1.at fun o e => k1 _ o D.i1z e) (hl1.at fun o e => k1 _ o D.l1z e) hx fun g2 h12 b2 => wpAny_pure ?_)
  have k2 : ∀ c o, c ≠ z → c ≠ i1 → s.heap.get? c = some o → g2.get? c = some o := fun c o hc hd e => b2.extBut _ _ hd (k1 c o hc e)
  have o2 : IsPair g2 TO a b := k2 _ _ D.TOz D.TOi1 hTO
  refine wpAny_bind (wpAny_seqItems o2 rfl (wpAny_bind (wpAny_updateSeq_pair (s := { s with heap := g2 }) o2 fun g3 o3 b3 => ?_)))
  have o3' : IsPair g3 TO x b := o3
  refine wpAny_bind (wpAny_letGo (wpAny_pure ?_))
  refine wpAny_bind (wpAny_bind (wpAny_onRaise ?_))
  show wpAny _ _ (Builtin.SmallTypes.nextOf (.ref i2) >>= _) _ _ _
  have k3 : ∀ c o, c ≠ z → c ≠ i1 → c ≠ TO → s.heap.get? c = some o → g3.get? c = some o := fun c o hc hd he e => b3.extBut _ _ he (k2 c o hc hd e)
  refine wpAny_bind (nextS (s := { s with heap := g3 }) (h2.at fun o e => k3 _ o D.i2z D.i12.symm D.TOi2.symm e) (hl2.at fun o e => k3 _ o D.l2z D.l2i1 D.l2TO e) hy fun g4 h24 b4 => wpAny_pure ?_)
  have o4 : IsPair g4 TO x b := b4.extBut _ _ D.TOi2 o3'
  refine wpAny_bind (wpAny_seqItems o4 rfl (wpAny_bind (wpAny_updateSeq_pair (s := { s with heap := g4 }) o4 fun g5 o5 b5 => ?_)))
  have o5' : IsPair g5 TO x y := o5
  refine wpAny_bind (wpAny_letGo (wpAny_pure (wpAny_pure ?_)))
  refine wpAny_bind (wpAny_seqItems o5' rfl (wpAny_bind (wpAny_newTuple ?_)))
  have sz : g5.objs.size = s.heap.objs.size := by rw [b5.1, b4.1, b3.1, b2.1, b1.1]
  have z5 : IsZip g5 z TI TO .ellipsis := b5.extBut _ _ D.TOz.symm (b4.extBut _ _ D.i2z.symm (b3.extBut _ _ D.TOz.symm (b2.extBut _ _ D.i1z.symm z1')))
  have k5 : ∀ c o, c ≠ z → c ≠ TO → c ≠ i1 → c ≠ i2 → s.heap.get? c = some o → g5.get? c = some o := fun c o c1 c2 c3 c4 e => b5.extBut _ _ c2 (b4.extBut _ _ c4 (k3 c o c1 c3 c2 e))
  have h15 : SIt ka g5 i1 l1 (n + 1) := h12.at fun o e => b5.extBut _ _ D.TOi1.symm (b4.extBut _ _ D.i12 (b3.extBut _ _ D.TOi1.symm e))
  have h25 : SIt kb g5 i2 l2 (n + 1) := h24.at fun o e => b5.extBut _ _ D.TOi2.symm e
  have zl : z < g5.objs.size := Heap.lt_size z5
  show wpAny _ _ (Builtin.SmallTypes.ownedTupleHandOut (.ref z) (.ref g5.objs.size) >>= _) _ _ _
  refine wpAny_bind ?_
  unfold Builtin.SmallTypes.ownedTupleHandOut
  have z6 : IsZip (g5.push { cls := .type "tuple", data := .seq #[x, y] }) z TI TO .ellipsis := Heap.get?_push_of_some _ z5
  refine wpAny_bind (wpAny_setField_rec z6 (by simp) fun g7 z7 b7 => ?_)
  replace z7 : IsZip g7 z TI TO (rawInt g5.objs.size) := z7
  refine wpAny_setField_rec z7 (by simp) fun g8 z8 b8 => ?_
  replace z8 : IsZip g8 z TI TO (rawInt g5.objs.size) := z8
  have up : ∀ c o, c ≠ z → g5.get? c = some o → g8.get? c = some o := fun c o c1 e => b8.extBut _ _ c1 (b7.extBut _ _ c1 (Heap.get?_push_of_some _ e))
  have p8 : IsPair g8 g5.objs.size x y := b8.extBut _ _ (Nat.ne_of_gt zl) (b7.extBut _ _ (Nat.ne_of_gt zl) (Heap.get?_push_size _ rfl))
  rw [sz] at z8 p8
  refine wpAny_pure ⟨_, rfl, ?_⟩
  show Q (.ref g5.objs.size) _
  rw [sz]
  exact hQ g8 z8 (up _ _ D.TOz o5') (h15.at fun o e => up _ o D.i1z e) (h25.at fun o e => up _ o D.i2z e) p8 fun c o c1 c2 c3 c4 e => up c o c1 (k5 c o c1 c2 c3 c4 e)
theorem zipS_end {Q : Fin → Shared → Prop} (hh : A.handled = none) (D : ZipApart z TI TO i1 i2 l1 l2) (Z : ZAt ka kb z TI TO i1 i2 l1 l2 n s.heap) (hl1 : SAt ka s.heap l1 xs) (hl2 : SAt kb s.heap l2 ys) (hend : xs[n]? = none ∨ ys[n]? = none)
    (hE : ∀ h' e, (∀ c o, c ≠ z → c ≠ TO → c ≠ i1 → c ≠ i2 → s.heap.get? c = some o → h'.get? c = some o) → (∃ o, h'.get? e = some o ∧ o.cls = .type "StopIteration") → E (.ref e) { s with heap := h' }) :
    wpAny (model prog w) A (Builtin.«zip.__next__» ⟨[.ref z], []⟩) Q E s := by
  obtain ⟨hz, hTI, ⟨a, b, hTO⟩, h1, h2⟩ := Z
  show wpAny _ _ (field (.ref z) 2 >>= _) _ _ _
  refine wpAny_bind (wpAny_field hz rfl (x := .bool false) rfl ?_)
  show wpAny _ _ (field (.ref z) 3 >>= _) _ _ _
  refine wpAny_bind (wpAny_field hz rfl (x := .ref TI) rfl (wpAny_bind (wpAny_seqItems hTI rfl ?_)))
  show wpAny _ _ (Builtin.SmallTypes.ownedTupleIsFree (.ref z) >>= _) _ _ _
  refine wpAny_bind ?_
  unfold Builtin.SmallTypes.ownedTupleIsFree
  refine wpAny_bind (wpAny_field hz rfl (x := .none) rfl (wpAny_pure ?_))
  simp only [if_true]
  refine wpAny_bind (wpAny_rule (wpAny_bind (wpAny_field hz rfl (x := .ref TO) rfl (wpAny_bind (wpAny_setField_rec hz (by simp) fun g1 z1 b1 => ?_)))))
  have z1' : IsZip g1 z TI TO .ellipsis := z1
  have k1 : ∀ c o, c ≠ z → s.heap.get? c = some o → g1.get? c = some o := fun c o hc e => b1.extBut _ _ hc e
  refine wpAny_bind ?_
  simp only [List.zipIdx_cons, List.zipIdx_nil, List.forIn_cons, List.forIn_nil]
  refine wpAny_bind (wpAny_bind (wpAny_onRaise ?_))
  show wpAny _ _ (Builtin.SmallTypes.nextOf (.ref i1) >>= _) _ _ _
  cases hx : xs[n]? with
  | none =>
    refine wpAny_bind (endS (s := { s with heap := g1 }) hh (h1.at fun o e => k1 _ o D.i1z e) (hl1.at fun o e => k1 _ o D.l1z e) hx fun g2 e b2 ⟨oe, he, ce⟩ => ?_)
    have z2 : IsZip g2 z TI TO .ellipsis := b2 _ _ D.i1z.symm z1'
    have ez : e ≠ z := fun q => by subst q; rw [z2] at he; cases he; simp at ce
    exact wpAny_setField_rec z2 (by simp) fun g3 _ b3 => hE g3 e (fun c o c1 _ c3 _ q => b3.extBut _ _ c1 (b2 _ _ c3 (k1 c o c1 q))) ⟨oe, b3.extBut _ _ ez he, ce⟩
  | some x =>
    have hy : ys[n]? = none := hend.resolve_left fun q => by rw [hx] at q; cases q
    refine wpAny_bind (nextS (s := { s with heap := g1 }) (h1.at fun o e => k1 _ o D.i1z e) (hl1.at fun o e => k1 _ o D.l1z e) hx fun g2 h12 b2 => wpAny_pure ?_)
    have k2 : ∀ c o, c ≠ z → c ≠ i1 → s.heap.get? c = some o → g2.get? c = some o := fun c o hc hd e => b2.extBut _ _ hd (k1 c o hc e)
    have o2 : IsPair g2 TO a b := k2 _ _ D.TOz D.TOi1 hTO
    refine wpAny_bind (wpAny_seqItems o2 rfl (wpAny_bind (wpAny_updateSeq_pair (s := { s with heap := g2 }) o2 fun g3 o3 b3 => ?_)))
    refine wpAny_bind (wpAny_letGo (wpAny_pure ?_))
    refine wpAny_bind (wpAny_bind (wpAny_onRaise ?_))
    show wpAny _ _ (Builtin.SmallTypes.nextOf (.ref i2) >>= _) _ _ _
    have k3 : ∀ c o, c ≠ z → c ≠ i1 → c ≠ TO → s.heap.get? c = some o → g3.get? c = some o := fun c o hc hd he e => b3.extBut _ _ he (k2 c o hc hd e)
    refine wpAny_bind (endS (s := { s with heap := g3 }) hh (h2.at fun o e => k3 _ o D.i2z D.i12.symm D.TOi2.symm e) (hl2.at fun o e => k3 _ o D.l2z D.l2i1 D.l2TO e) hy fun g4 e b4 ⟨oe, he, ce⟩ => ?_)
    have z4 : IsZip g4 z TI TO .ellipsis := b4 _ _ D.i2z.symm (b3.extBut _ _ D.TOz.symm (b2.extBut _ _ D.i1z.symm z1'))
    have ez : e ≠ z := fun q => by subst q; rw [z4] at he; cases he; simp at ce
    exact wpAny_setField_rec z4 (by simp) fun g5 _ b5 => hE g5 e (fun c o c1 c2 c3 c4 q => b5.extBut _ _ c1 (b4 _ _ c4 (k3 c o c1 c3 c2 q))) ⟨oe, b5.extBut _ _ ez he, ce⟩
theorem zipS_next {Q : Option Value → Shared → Prop} (D : ZipApart z TI TO i1 i2 l1 l2) (Z : ZAt ka kb z TI TO i1 i2 l1 l2 n s.heap) (hl1 : SAt ka s.heap l1 xs) (hl2 : SAt kb s.heap l2 ys) (hx : xs[n]? = some x) (hy : ys[n]? = some y)
    (hQ : ∀ h', IsZip h' z TI TO (rawInt s.heap.objs.size) → IsPair h' TO x y → SIt ka h' i1 l1 (n + 1) → SIt kb h' i2 l2 (n + 1) → IsPair h' s.heap.objs.size x y →
      (∀ c o, c ≠ z → c ≠ TO → c ≠ i1 → c ≠ i2 → s.heap.get? c = some o → h'.get? c = some o) → Q (some (.ref s.heap.objs.size)) { s with heap := h' }) : wpAny (model prog w) A (pyNext (.ref z)) Q E s := by
  have hT : s.TypeIs (.ref z) "zip" := ⟨_, Z.zp, rfl⟩
  unfold pyNext
  exact wpAny_bind (wpAny_attempt (wpAny_callSpecial?_slot (name := Str.ofString "__next__") hT F.slot_zip_next (wpAny_call_entry F.slot_zip_next hT F.entry_zip_next
    (zipS_item D Z hl1 hl2 hx hy fun h' a1 a2 a3 a4 a5 a7 => wpAny_pure (hQ h' a1 a2 a3 a4 a5 a7)) (F.args_zip_next_1 _))))
theorem zipS_stop {Q : Option Value → Shared → Prop} (hh : A.handled = none) (D : ZipApart z TI TO i1 i2 l1 l2) (Z : ZAt ka kb z TI TO i1 i2 l1 l2 n s.heap) (hl1 : SAt ka s.heap l1 xs) (hl2 : SAt kb s.heap l2 ys) (hend : xs[n]? = none ∨ ys[n]? = none)
    (hQ : ∀ h', (∀ c o, c ≠ z → c ≠ TO → c ≠ i1 → c ≠ i2 → s.heap.get? c = some o → h'.get? c = some o) → Q none { s with heap := h' }) : wpAny (model prog w) A (pyNext (.ref z)) Q E s := by
  have hT : s.TypeIs (.ref z) "zip" := ⟨_, Z.zp, rfl⟩
  unfold pyNext
  refine wpAny_bind (wpAny_attempt (wpAny_callSpecial?_slot (name := Str.ofString "__next__") hT F.slot_zip_next (wpAny_call_entry F.slot_zip_next hT F.entry_zip_next (zipS_end hh D Z hl1 hl2 hend fun h' e hk he => ?_) (F.args_zip_next_1 _))))
  obtain ⟨o, ho, hc⟩ := he
  exact wpAny_bind (wpAny_isInstance (T := "StopIteration") (b := true) ⟨o, ho, hc⟩ isSubtype_stop (wpAny_pure (hQ _ hk)))
end
end L2
set_option Elab.async false
set_option linter.all false
set_option maxRecDepth 100000
namespace L2
open PySem PySem.Spec PyProof.Rows
def SqK (K : PySem.W.Frag) : Bool → Hp → Addr → List V → Prop
  | true, H, a, xs => SqT K H a xs
  | false, H, a, xs => SqL K H a xs
theorem seqK {X : Cx} {pins : List (Addr × Obj)} {σ : St} {H : Hp} {s : Shared} {k : Bool} {a : Addr} {xs : List V} (I : Inv X pins σ H s) (h : SqK X.K k H a xs) : ∃ us, Vals xs us ∧ SAt k s.heap a us.toArray := by
  cases k with
  | true =>
    obtain ⟨its, rv, p, hz⟩ := I.tuple h
    exact ⟨its, rv, p⟩
  | false =>
    obtain ⟨its, rv, p, hz⟩ := I.list h
    exact ⟨its, rv, p.isList⟩
theorem seqK_inj {X : Cx} {pins : List (Addr × Obj)} {σ : St} {H : Hp} {s : Shared} {k : Bool} {a : Addr} {xs ys : List V} (I : Inv X pins σ H s) (h : SqK X.K k H a xs) (h2 : SqK X.K k H a ys) : xs = ys := by
  cases k with
  | true => exact I.tuple_inj h h2
  | false => exact I.list_inj h h2
theorem Inv.turnedL {X : Cx} {pins : List (Addr × Obj)} {σ : St} {H : Hp} {s : Shared} {h' : Heap} {t' : Nat} {L : List Addr} (I : Inv X pins σ H s) (k : ∀ b o, b ∉ L → s.heap.get? b = some o → h'.get? b = some o) (hf : ∀ b ∈ L, FpOk X pins H b) : Inv X pins σ H { s with heap := h', toks := t' } := by
  have nit : ∀ b u, H b = some u → b ∉ L := fun b u e z => by rw [(hf b z).1] at e; cases e
  have nl : X.env.locals ∉ L := fun z => (hf _ z).2.1 rfl
  refine I.step (g' := s.gens) (d' := s.drawn) (ch := L) (fun b hb => ?_) (fun b o _ _ hc e _ => k b o hc e) (fun b o _ _ hc e _ => ⟨o.slots, k b o hc e⟩) (fun _ _ _ _ n => n)
    (fun b o hc e => ⟨o, k b o hc e⟩) (fun _ _ e => e) (fun _ _ _ e => e) (fun b ps e => ⟨#[], by rw [e]; simp⟩) (fun m hm => ?_) (fun b u e => ?_) I.bare
  · obtain ⟨f0, f1, f2, f3, f4, f5⟩ := hf b hb
    exact ⟨f3, f1, f4, f5⟩
  · obtain ⟨o, es, ep, ho, r⟩ := hm
    exact ⟨o, es, ep, k _ o nl ho, r⟩
  · refine (I.hok b u e).stay (fun c v hc q => k c v ?_ q) (fun _ q => q) fun _ _ q => q
    rcases hc with z | z
    · rw [z]; exact nit b u e
    · exact nit c _ z
/-! what zip(a, b) walks: at each turn a new pair -/
def Itz (K : PySem.W.Frag) (ka kb : Bool) (a b : Addr) : It :=
  ⟨fun i H => ∃ xs ys x y, SqK K ka H a xs ∧ SqK K kb H b ys ∧ xs[i]? = some x ∧ ys[i]? = some y,
   fun i H v H' => ∃ p x y, v = .ref p ∧ H p = none ∧ (∀ xs, SqK K ka H a xs → xs[i]? = some x) ∧ (∀ ys, SqK K kb H b ys → ys[i]? = some y) ∧ H' = upd H p (.tup [x, y]),
   fun i H => ∃ xs ys, SqK K ka H a xs ∧ SqK K kb H b ys ∧ (xs.length ≤ i ∨ ys.length ≤ i)⟩
theorem ZAt.obj {ka kb : Bool} {z TI TO i1 i2 l1 l2 : Addr} {n : Nat} {h : Heap} (Z : ZAt ka kb z TI TO i1 i2 l1 l2 n h) : ∀ b ∈ [z, TI, TO, i1, i2], ∃ o, h.get? b = some o ∧ ∀ v, o.data ≠ .cell v := fun b hb => by
  obtain ⟨hz, hTI, ⟨x, y, hTO⟩, h1, h2⟩ := Z
  simp only [List.mem_cons, List.not_mem_nil, or_false] at hb
  rcases hb with rfl | rfl | rfl | rfl | rfl
  · exact ⟨_, hz, fun v z => by cases z⟩
  · exact ⟨_, hTI, fun v z => by cases z⟩
  · exact ⟨_, hTO, fun v z => by cases z⟩
  · exact h1.obj
  · exact h2.obj
theorem turn_zip {P : Program} {w : World} {K : PySem.W.Frag} {elts : List Expr} {x1} {pos : Pos} {ka kb : Bool} {z TI TO i1 i2 a b : Addr} (D : ZipApart z TI TO i1 i2 a b) : Turn P w K (.Tuple elts x1 pos) (Itz K ka kb a b) [z, TI, TO, i1, i2] z (fun n h => ZAt ka kb z TI TO i1 i2 a b n h) where
  mem := by simp
  obj := fun i h st => st.obj
  keep := fun i h h' ⟨hz, hTI, ⟨x, y, hTO⟩, h1, h2⟩ k => ⟨k z (by simp) _ hz, k TI (by simp) _ hTI, ⟨x, y, k TO (by simp) _ hTO⟩, h1.at fun o e => k i1 (by simp) o e, h2.at fun o e => k i2 (by simp) o e⟩
  item := by
    intro X hP hw hK hc i pins s σ H E I hf st hg
    subst hP hw hK
    obtain ⟨xs, ys, x, y, q1, q2, hx, hy⟩ := hg
    obtain ⟨us, r1, p1⟩ := seqK I q1
    obtain ⟨vs, r2, p2⟩ := seqK I q2
    obtain ⟨u, hu, ru⟩ := r1.get hx
    obtain ⟨v, hv, rv⟩ := r2.get hy
    have lt : ∀ b ∈ [z, TI, TO, i1, i2], b < s.heap.objs.size := fun b hb => by
      obtain ⟨o, ho, _⟩ := st.obj b hb
      exact Heap.lt_size ho
    refine zipS_next D st p1 p2 (x := u) (y := v) (by simpa using hu) (by simpa using hv) fun h' z1 o1 a1 a2 pr kk => ?_
    refine ⟨_, rfl, wpAny_letOwnedTupleGo_zip (s := { s with heap := h' }) z1 fun h2 z2 b2 => ?_⟩
    have hT : H s.heap.objs.size = none := I.hok.fresh (Nat.le_refl _)
    have I1 : Inv X pins σ (upd H s.heap.objs.size (.tup [x, y])) { s with heap := s.heap.push { cls := .type "tuple", data := .seq #[u, v] } } := I.laid (t' := s.toks) (fun b u e => Heap.get?_push_of_some _ e) (Nat.le_refl _) ⟨by show 2 ≤ sizeLine; decide, [u, v], .cons ru (.cons rv .nil), ⟨_, Heap.get?_push_size _ rfl, _, rfl⟩⟩
    have Tz : s.heap.objs.size ≠ z := Nat.ne_of_gt (lt z (by simp))
    have fp : ∀ b ∈ [z, TI, TO, i1, i2], FpOk X pins (upd H s.heap.objs.size (.tup [x, y])) b := fun b hb => by
      obtain ⟨f0, f1, f2, f3, f4, f5⟩ := hf b hb
      exact ⟨by rw [upd_ne (Nat.ne_of_lt (lt b hb))]; exact f0, f1, f2, f3, f4, f5⟩
    have I2 := I1.turnedL (h' := h2) (t' := s.toks) (fun c o hc e => by
      simp only [List.mem_cons, List.not_mem_nil, or_false, not_or] at hc
      by_cases zc : c = s.heap.objs.size
      · subst zc
        rw [Heap.get?_push_size _ rfl] at e
        cases e
        exact b2.extBut _ _ Tz pr
      · have e' : s.heap.get? c = some o := by rw [← e]; exact (Heap.get?_push_ne _ _ _ zc).symm
        exact b2.extBut _ _ hc.1 (kk c o hc.1 hc.2.2.1 hc.2.2.2.1 hc.2.2.2.2 e')) fp
    refine ⟨.ref s.heap.objs.size, _, I2, rfl, ⟨_, x, y, rfl, hT, fun zs hz => ?_, fun zs hz => ?_, rfl⟩, ⟨z2, b2.extBut _ _ D.TIz (kk _ _ D.TIz D.TITO D.TIi1 D.TIi2 st.ti), ⟨u, v, b2.extBut _ _ D.TOz o1⟩, a1.at fun o e => b2.extBut _ _ D.i1z e, a2.at fun o e => b2.extBut _ _ D.i2z e⟩, fun b hb => (fp b hb).1⟩
    · rw [seqK_inj I hz q1]; exact hx
    · rw [seqK_inj I hz q2]; exact hy
  done := by
    intro X hP hw hK hc i pins s σ H E I hf st hg
    subst hP hw hK
    obtain ⟨xs, ys, q1, q2, hl⟩ := hg
    obtain ⟨us, r1, p1⟩ := seqK I q1
    obtain ⟨vs, r2, p2⟩ := seqK I q2
    have e1 := r1.length
    have e2 := r2.length
    refine zipS_stop (I.ok.hd hc) D st p1 p2 (hl.elim (fun q => .inl (by simp; omega)) fun q => .inr (by simp; omega)) fun h' kk => ⟨rfl, I.turnedL (t' := s.toks) (fun c o hc e => ?_) hf⟩
    simp only [List.mem_cons, List.not_mem_nil, or_false, not_or] at hc
    exact kk c o hc.1 hc.2.2.1 hc.2.2.2.1 hc.2.2.2.2 e
  self := fun _ _ _ _ _ st h => wpAny_pyIter_zip st.zp h
end L2
set_option Elab.async false
set_option linter.all false
set_option maxRecDepth 100000
namespace L2
open PySem PySem.Spec PyProof.Rows
/-! ### zip(a, b) made and walked -/
def itO (k : Bool) (l : Addr) : Obj := match k with
  | true => { cls := .type "tuple_iterator", data := .fields #[.ref l, .int 0 0] }
  | false => { cls := .type "list_iterator", data := .fields #[.ref l, .int 0 0] }
theorem pyIterS {prog : Program} {w : World} {A : Around} {E : Value → Shared → Prop} {s : Shared} {k : Bool} {l : Addr} {xs : Array Value} {Q : Value → Shared → Prop} (h : SAt k s.heap l xs) (hQ : Q (.ref s.heap.objs.size) { s with heap := s.heap.push (itO k l) }) :
    wpAny (model prog w) A (pyIter (.ref l)) Q E s := by
  cases k with
  | true => exact wpAny_pyIter_tuple h hQ
  | false => exact wpAny_pyIter_list h hQ
theorem itO_free {k : Bool} {l : Addr} : (itO k l).isFreed = false := by cases k <;> rfl
theorem SIt.new {k : Bool} {l i : Addr} {h : Heap} (e : h.get? i = some (itO k l)) : SIt k h i l 0 := by
  cases k with
  | true => exact ⟨_, e, rfl, rfl⟩
  | false => exact ⟨_, e, rfl, rfl⟩
def zip5 (h : Heap) (ka kb : Bool) (l1 l2 : Addr) : Heap := ((((h.push (itO ka l1)).push (itO kb l2)).push { cls := .type "tuple", data := .seq #[.ref h.objs.size, .ref (h.push (itO ka l1)).objs.size] }).push { cls := .type "tuple", data := .seq #[.none, .none] }).push
  { cls := .type "zip", data := .fields #[.none, .bool false, .bool false, .ref ((h.push (itO ka l1)).push (itO kb l2)).objs.size, .ref (((h.push (itO ka l1)).push (itO kb l2)).push { cls := .type "tuple", data := .seq #[.ref h.objs.size, .ref (h.push (itO ka l1)).objs.size] }).objs.size] }
theorem meetsS (ka kb : Bool) (l1 l2 : Addr) (xs ys : Array Value) :
    Meets (Builtin.«zip.__new__» ⟨[.type "zip", .ref l1, .ref l2], []⟩) (fun _ R s => SAt ka s.heap l1 xs ∧ SAt kb s.heap l2 ys ∧ R (.ok (.ret (.ref (s.heap.objs.size + 4)))) { s with heap := zip5 s.heap ka kb l1 l2 }) :=
  .of_wp fun prog w A R s h => by
    obtain ⟨hp, g, d, tk, os⟩ := s
    obtain ⟨hl1, hl2, h⟩ := h
    have hsub := sub_zip
    have hL1 : SAt ka (Shared.heap ⟨hp, g, d, tk, os⟩) l1 xs := hl1
    have hL2 : SAt kb (Shared.heap ⟨hp.push (itO ka l1), g, d, tk, os⟩) l2 ys := hl2.at fun o e => Heap.get?_push_of_some _ e
    wp_walk using pyIterS hL1, pyIterS hL2
    refine ⟨_, rfl, ?_⟩
    have z : ((((hp.push (itO ka l1)).push (itO kb l2)).push { cls := .type "tuple", data := .seq #[.ref hp.objs.size, .ref (hp.push (itO ka l1)).objs.size] }).push { cls := .type "tuple", data := .seq #[.none, .none] }).objs.size = hp.objs.size + 4 := by
      rw [Heap.size_push, Heap.size_push, Heap.size_push, Heap.size_push]
    rw [← z] at h
    exact h
theorem callS {prog : Program} {w : World} {A : Around} {E : Value → Shared → Prop} {s : Shared} {ka kb : Bool} {l1 l2 : Addr} {xs ys : Array Value} {Q : Value → Shared → Prop} (h1 : SAt ka s.heap l1 xs) (h2 : SAt kb s.heap l2 ys)
    (h : ∀ h', ZAt ka kb (s.heap.objs.size + 4) (s.heap.objs.size + 2) (s.heap.objs.size + 3) s.heap.objs.size (s.heap.objs.size + 1) l1 l2 0 h' → (∀ c o, s.heap.get? c = some o → h'.get? c = some o) → Q (.ref (s.heap.objs.size + 4)) { s with heap := h' }) :
    wpAny (model prog w) A (call (.type "zip") [.ref l1, .ref l2]) Q E s := by
  refine callType_new F.called_zip (by decide) (F.typeCall_zip_2 _ _) (F.newCall_zip_2 _ _) (fun obj => F.args_object_init_3 obj _ _) F.entry_zip_new (meetsS ka kb l1 l2 xs ys) ⟨h1, h2, ?_⟩
  have kp : ∀ c o, s.heap.get? c = some o → (zip5 s.heap ka kb l1 l2).get? c = some o := fun c o x => Heap.get?_push_of_some _ (Heap.get?_push_of_some _ (Heap.get?_push_of_some _ (Heap.get?_push_of_some _ (Heap.get?_push_of_some _ x))))
  have z1 : (s.heap.push (itO ka l1)).objs.size = s.heap.objs.size + 1 := Heap.size_push ..
  have z2 : ((s.heap.push (itO ka l1)).push (itO kb l2)).objs.size = s.heap.objs.size + 2 := by rw [Heap.size_push, z1]
  have z3 : (((s.heap.push (itO ka l1)).push (itO kb l2)).push { cls := .type "tuple", data := .seq #[.ref s.heap.objs.size, .ref (s.heap.push (itO ka l1)).objs.size] }).objs.size = s.heap.objs.size + 3 := by rw [Heap.size_push, z2]
  have z4 : ((((s.heap.push (itO ka l1)).push (itO kb l2)).push { cls := .type "tuple", data := .seq #[.ref s.heap.objs.size, .ref (s.heap.push (itO ka l1)).objs.size] }).push { cls := .type "tuple", data := .seq #[.none, .none] }).objs.size = s.heap.objs.size + 4 := by rw [Heap.size_push, z3]
  have g1 : (zip5 s.heap ka kb l1 l2).get? s.heap.objs.size = some (itO ka l1) := Heap.get?_push_of_some _ (Heap.get?_push_of_some _ (Heap.get?_push_of_some _ (Heap.get?_push_of_some _ (Heap.get?_push_size _ itO_free))))
  have g2 : (zip5 s.heap ka kb l1 l2).get? (s.heap.objs.size + 1) = some (itO kb l2) := by rw [← z1]; exact Heap.get?_push_of_some _ (Heap.get?_push_of_some _ (Heap.get?_push_of_some _ (Heap.get?_push_size _ itO_free)))
  have g3 : (zip5 s.heap ka kb l1 l2).get? (s.heap.objs.size + 2) = some { cls := .type "tuple", data := .seq #[.ref s.heap.objs.size, .ref (s.heap.objs.size + 1)] } := by
    rw [← z2]
    have q : (zip5 s.heap ka kb l1 l2).get? ((s.heap.push (itO ka l1)).push (itO kb l2)).objs.size = some { cls := .type "tuple", data := .seq #[.ref s.heap.objs.size, .ref (s.heap.push (itO ka l1)).objs.size] } := Heap.get?_push_of_some _ (Heap.get?_push_of_some _ (Heap.get?_push_size _ rfl))
    rw [z1] at q
    exact q
  have g4 : (zip5 s.heap ka kb l1 l2).get? (s.heap.objs.size + 3) = some { cls := .type "tuple", data := .seq #[.none, .none] } := by rw [← z3]; exact Heap.get?_push_of_some _ (Heap.get?_push_size _ rfl)
  have g5 : (zip5 s.heap ka kb l1 l2).get? (s.heap.objs.size + 4) = some { cls := .type "zip", data := .fields #[.none, .bool false, .bool false, .ref (s.heap.objs.size + 2), .ref (s.heap.objs.size + 3)] } := by
    rw [← z4]
    have q : (zip5 s.heap ka kb l1 l2).get? ((((s.heap.push (itO ka l1)).push (itO kb l2)).push { cls := .type "tuple", data := .seq #[.ref s.heap.objs.size, .ref (s.heap.push (itO ka l1)).objs.size] }).push { cls := .type "tuple", data := .seq #[.none, .none] }).objs.size = some { cls := .type "zip", data := .fields #[.none, .bool false, .bool false, .ref ((s.heap.push (itO ka l1)).push (itO kb l2)).objs.size, .ref (((s.heap.push (itO ka l1)).push (itO kb l2)).push { cls := .type "tuple", data := .seq #[.ref s.heap.objs.size, .ref (s.heap.push (itO ka l1)).objs.size] }).objs.size] } := Heap.get?_push_size _ rfl
    rw [z2, z3] at q
    exact q
  show _ ∧ _
  exact ⟨⟨_, g5, rfl⟩, h _ ⟨g5, g3, ⟨_, _, g4⟩, .new g1, .new g2⟩ kp⟩
theorem b_zip : bootBuiltins "zip" = some (.type "zip") := by decide +kernel
def iZip (K : PySem.W.Frag) (ka kb : Bool) (ta : TA) : TI := fun σ H R => ta σ H fun vs H1 => ∃ a b xs ys, vs = [.ref a, .ref b] ∧ SqK K ka H1 a xs ∧ SqK K kb H1 b ys ∧ R (Itz K ka kb a b) H1
theorem pi_zip {X : Cx} {elts : List Expr} {x1} {tp : Pos} {a b : Expr} {ta : TA} {p pos : Pos} (ka kb : Bool) (hg : Gl X "zip") (hm : X.mg "zip" = none) (ha : PA X [a, b] ta) (hs : starEach [a, b] X.env = [(false, eval a X.env), (false, eval b X.env)] := by rfl) (hs2 : starEach [b] X.env = [(false, eval b X.env)] := by rfl) :
    PI X (.Tuple elts x1 tp) (.Call (.Name "zip" p) [a, b] [] pos) (iZip X.K ka kb ta) := by
  intro pins s σ H R I h
  refine Call_ (ld_blt I hg hm b_zip (PyProof.Rows.callWith_type1 (thn (ha pos pins s σ H _ I h) fun us s1 ⟨vs, H1, I1, r1, q1⟩ => ?_) (by rw [hs, hs2]) (by rw [hs2]; rfl)))
  obtain ⟨a', b', xs, ys, e, q1, q2, q⟩ := q1
  subst e
  obtain ⟨u, v, rfl, r1, r2⟩ := r1.two
  cases r1
  cases r2
  obtain ⟨us, e1, p1⟩ := seqK I1 q1
  obtain ⟨vs, e2, p2⟩ := seqK I1 q2
  have lt : ∀ {k : Bool} {l : Addr} {zs : Array Value}, SAt k s1.heap l zs → l < s1.heap.objs.size := fun {k l zs} x => by
    cases k with
    | true => obtain ⟨o, ho, _⟩ := x; exact Heap.lt_size ho
    | false => obtain ⟨o, ho, _⟩ := x; exact Heap.lt_size ho
  have t1 := lt p1
  have t2 := lt p2
  refine callS p1 p2 fun h' Z kp => wpAny_pyIter_zip (s := { s1 with heap := h' }) Z.zp ?_
  have D : ZipApart (s1.heap.objs.size + 4) (s1.heap.objs.size + 2) (s1.heap.objs.size + 3) s1.heap.objs.size (s1.heap.objs.size + 1) a' b' := by
    have t1' : @LT.lt Nat _ a' s1.heap.objs.size := t1
    have t2' : @LT.lt Nat _ b' s1.heap.objs.size := t2
    constructor <;> (show ¬ (@Eq Nat _ _); omega)
  refine ⟨_, [s1.heap.objs.size + 4, s1.heap.objs.size + 2, s1.heap.objs.size + 3, s1.heap.objs.size, s1.heap.objs.size + 1], _, _, H1, rfl, I1.kept (t' := s1.toks) kp, turn_zip D, Z, fun c hc => ?_, q⟩
  have ge : s1.heap.objs.size ≤ c := by
    simp only [List.mem_cons, List.not_mem_nil, or_false] at hc
    rcases hc with rfl | rfl | rfl | rfl | rfl <;> omega
  exact I1.fpOk ge (I1.hok.fresh ge)
/-! the for over it -/
end L2
set_option Elab.async false
set_option linter.all false
set_option maxRecDepth 100000
namespace L2
open PySem PySem.Spec PyProof.Rows
/-! ### an exception that leaves a comprehension's block -/
section
variable {M : Model} {A : Around} {E : Value → Shared → Prop} {s : Shared} {env : Env} {outer : List Env} {base : Heap} {L e T : Addr} {cls fl : Value} {od : Option Addr} {Q : Unit → Shared → Prop}
theorem note_any (hfr : A.frames = some (env :: outer)) (hl : s.heap.FunFrames base (env :: outer)) (hf : env.frame = some L) (x : ExcAt s.heap e cls od (.ref T)) (t : TbAt s.heap T fl) (hT : T ≠ e)
    (h : ∀ h' T', Mv [T, e] (frs (env :: outer)) s.heap h' → (T' = T ∨ s.heap.objs.size ≤ T') → T' ≠ e → ExcAt h' e cls od (.ref T') → TbAt h' T' (rawInt L) → Q () { s with heap := h' }) : wpAny M A (noteFrame (.ref e) env) Q E s := by
  unfold noteFrame
  simp only [hf]
  obtain ⟨oe, vs, he, hc, hdd, hd1, h1⟩ := id x
  obtain ⟨oT, ts, hTT, hdT, h3⟩ := id t
  refine wpAny_bind (wpAny_field he hd1 h1 ?_)
  rw [if_pos (show (Value.ref T != Value.none) = true from by simp)]
  refine wpAny_bind (wpAny_field hTT hdT h3 ?_)
  by_cases hz : fl = rawInt L
  · subst hz
    rw [if_pos (by simp)]
    exact wpAny_pure (h s.heap T Mv.refl (.inl rfl) hT x t)
  · rw [if_neg (by simpa using hz)]
    refine wpAny_bind (tb_set t fun g m1 t1 k1 => ?_)
    have hSf : ∀ b ∈ [T, e], ∀ o, s.heap.get? b = some o → ∃ vs, o.data = .fields vs := fun b hb o ho => by
      rcases List.mem_cons.mp hb with hb | hb
      · rw [hb, hTT] at ho; cases ho; exact ⟨ts, hdT⟩
      · rw [List.mem_singleton.mp hb, he] at ho; cases ho; exact ⟨vs, hd1⟩
    have m2 : Mv [T, e] (frs (env :: outer)) s.heap g := fun b o hb hn => by
      have hbT : b ≠ T := fun z => hn (by rw [z]; exact List.mem_cons_self)
      have q := (k1 b hbT).trans hb
      exact ⟨fun _ => q, o.slots, q⟩
    refine entry_add (s := { s with heap := g }) hfr (m2.frames hl hSf) hf (x.other (k1 e (Ne.symm hT))) fun h' T' m hs hT' x' t' => ?_
    exact h h' T' (m2.trans (m.mono fun b hb => by rw [List.mem_singleton.mp hb]; exact List.mem_cons_of_mem _ List.mem_cons_self)) (.inr (by rw [← m1]; exact hs)) hT' x' t'
/-! its flight set, whatever to -/
theorem flight_any {fr : Option Addr} (x : ExcAt s.heap e cls od (.ref T)) (t : TbAt s.heap T fl) (hTe : T ≠ e) (h : ∀ h' fl', h'.objs.size = s.heap.objs.size → ExcAt h' e cls od (.ref T) → TbAt h' T fl' → (∀ b, b ≠ T → h'.get? b = s.heap.get? b) → Q () { s with heap := h' }) :
    wpAny M A (setFlight (.ref e) fr) Q E s := by
  obtain ⟨oe, vs, he, hc, hdd, hd1, h1⟩ := id x
  unfold setFlight
  refine wpAny_bind (wpAny_field he hd1 h1 ?_)
  rw [if_pos (show (Value.ref T != Value.none) = true from by simp)]
  exact tb_set t fun g m1 t1 k1 => h g _ m1 (x.other (k1 e (Ne.symm hTe))) t1 k1
end
/-! an exception with a traceback, whatever its flight: what the context does with it -/
def PassesI (X : Cx) (E : XK) : Prop := ∀ (pins : List (Addr × Obj)) (σ : St) (H : Hp) (s : Shared) (ea T : Addr) (cls fl : Value) (od : Option Addr), Inv X pins σ H s → ExcAt s.heap ea cls od (.ref T) → TbAt s.heap T fl → T ≠ ea →
  (∀ b ∈ [T, ea], Off X pins b ∧ H b = none) → E cls od H → X.xe (.ref ea) s
section
variable {P : Program} {w : World} {K : PySem.W.Frag} {mg : Str → Option Value} {base : Heap} {N : List Str} {qual : Str} {scope : Scope} {f : Addr} {cd : Value} {A : Around} {outer : List Env} {s₀ : Shared} {H₀ : Hp} {E : XK}
theorem takes_defI : PassesI (cxOf (CXF P w) P w K mg base N qual scope f cd A outer s₀ H₀ E) E := by
  intro pins σ H s ea T cls fl od I x t hT hS q
  show wpAny _ _ (leaving _ (.ref ea)) _ _ s
  unfold leaving
  refine wpAny_bind (note_any I.ok.frames I.stack rfl x t hT fun h1 T' m1 hs1 hT1 x1 t1 => ?_)
  refine flight_ex (s := { s with heap := h1 }) x1 t1 hT1 fun h2 sz2 x2 t2 k2 => ?_
  have out : ∀ b, Off (cxOf (CXF P w) P w K mg base N qual scope f cd A outer s₀ H₀ E) pins b → s₀.heap.get? b = none := fun b ob => by
    cases e : s₀.heap.get? b with
    | none => rfl
    | some o => exact absurd (ob.1 o e) (by show b ∉ ([] : List Addr); simp)
  have oT : Off (cxOf (CXF P w) P w K mg base N qual scope f cd A outer s₀ H₀ E) pins T' ∧ H T' = none := by
    rcases hs1 with rfl | hs1
    · exact hS _ List.mem_cons_self
    · exact ⟨I.off (Heap.get?_none_of_le hs1), I.hok.fresh hs1⟩
  have oE := hS ea (List.mem_cons_of_mem _ List.mem_cons_self)
  have I1 : Inv _ pins σ H { s with heap := h1, toks := s.toks } := I.moved (S := [T, ea]) m1 hS
  have I2 : Inv _ pins σ H { s with heap := h2, toks := s.toks } := I1.moved (S := [T']) (fun b o hb hn => by
    have hbT : b ≠ T' := fun z => hn (by rw [z]; exact List.mem_cons_self)
    have z := (k2 b hbT).trans hb
    exact ⟨fun _ => z, o.slots, z⟩) fun b hb => by rw [List.mem_singleton.mp hb]; exact oT
  refine ⟨ea, cls, od, [T', ea], H, rfl, I2.os, I2.bare, I2.base, I2.hok, loose_of x2 t2 hT1, fun b hb => ?_, q⟩
  rcases List.mem_cons.mp hb with rfl | hb
  · exact ⟨out _ oT.1, oT.2⟩
  · rw [List.mem_singleton.mp hb]
    exact ⟨out _ oE.1, oE.2⟩
end
theorem passes_comp {X : Cx} {E : XK} {scope : Scope} {cl : List (Str × Addr)} {C : Addr} {s0 : Shared} {H0 : Hp} {fp : List Addr} {N : List Str} {pins : List (Addr × Obj)} {σ : St} (bk : Back X (cxC X scope cl C s0 H0 fp N) pins σ fp C s0 H0) (hfrm : X.stack = X.env :: X.outer ∧ X.env.frame = some X.env.locals) (hx : PassesI X E) :
    Passes (CXF X.prog X.w) (cxC X scope cl C s0 H0 fp N) E := by
  intro pins' σ' H s e s' I h
  obtain ⟨ea, cls, od, S, H', rfl, os, bare, un, hok, lo, hS, q⟩ := h
  have I1 := I.call' (ch := []) os un hok bare (fun b z => absurd z (by simp))
  have X1 := (bk.inv _ _ _ _ I1).1
  show notedBy (model X.prog X.w) X.A (compEnvC scope cl C X.env) (fun e s' => compPost (model X.prog X.w) X.A X.xe none (fun _ _ => False) Value.none C (.error e) s') (.ref ea) s'
  show wpAny (model X.prog X.w) X.A (noteFrame (.ref ea) X.env) _ _ s'
  have st := X1.stack
  rw [hfrm.1] at st
  have hfr := bk.i0.ok.frames
  rw [hfrm.1] at hfr
  refine note_ex hfr st hfrm.2 lo fun h3 T m3 hs3 hT x3 t3 => ?_
  rw [← hfrm.1] at m3
  have offS : ∀ b, s.heap.get? b = none → Off X pins b := fun b hb => by
    by_cases hf : b ∈ fp
    · obtain ⟨f1, f2, f3, f4⟩ := bk.fp b hf
      refine ⟨fun o ho => f1.elim id fun z => ?_, f2, f3, f4⟩
      exact absurd (Nat.lt_of_lt_of_le (Heap.lt_size ho) z) (Nat.lt_irrefl _)
    · refine bk.i0.off (b := b) ?_
      cases e : s0.heap.get? b with
      | none => rfl
      | some o => exact absurd ((I.off hb).1 o e) hf
  have I3 : Inv _ pins' σ' H' { s' with heap := h3, toks := s'.toks } := I1.moved (S := S) m3 fun b hb => ⟨I.off (hS b hb).1, (hS b hb).2⟩
  obtain ⟨X3, gn⟩ := bk.inv _ _ _ _ I3
  obtain ⟨m, hn, _⟩ := I3.loc
  have oT := X1.off (Heap.get?_none_of_le hs3)
  have nT := X1.hok.fresh hs3
  have oE := offS ea (hS ea lo.1).1
  have nE := (hS ea lo.1).2
  refine ⟨m, hn, fun h4 sb cenv hcl => ?_⟩
  obtain ⟨oc, es, ep, hoc, hdc, _⟩ := id hn
  have eC : ea ≠ C := fun z => by
    obtain ⟨oe, vs, he, _, _, hd, _⟩ := x3
    rw [z] at he
    have hoc' : h3.get? C = some oc := hoc
    rw [he] at hoc'
    cases hoc'
    rw [hd] at hdc
    cases hdc
  have tC : T ≠ C := fun z => by
    obtain ⟨oe, vs, he, hd, _⟩ := t3
    rw [z] at he
    have hoc' : h3.get? C = some oc := hoc
    rw [he] at hoc'
    cases hoc'
    rw [hd] at hdc
    cases hdc
  have X4 : Inv X pins σ H' { s' with heap := h4 } := X3.gone gn sb
  have x4 : ExcAt h4 ea cls od (.ref T) := x3.other (sb.2 ea eC)
  have t4 : TbAt h4 T (rawInt X.env.locals) := by
    obtain ⟨oT, ts, e, r⟩ := t3
    exact ⟨oT, ts, (sb.2 T tC).trans e, r⟩
  unfold PySem.passOn
  obtain ⟨oe, vs, he, hc, hdd, hd1, h1⟩ := id x4
  refine wpAny_bind (wpAny_field (s := { s' with heap := h4 }) he hd1 h1 ?_)
  rw [if_neg (by simp)]
  refine wpAny_bind (flight_any (s := { s' with heap := h4 }) x4 t4 hT fun h5 fl5 sz5 x5 t5 k5 => wpAny_throw ?_)
  have X5 : Inv X pins σ H' { s' with heap := h5, toks := s'.toks } := X4.moved (S := [T]) (fun b o hb hn => by
    have hbT : b ≠ T := fun z => hn (by rw [z]; exact List.mem_cons_self)
    have z := (k5 b hbT).trans hb
    exact ⟨fun _ => z, o.slots, z⟩) fun b hb => by rw [List.mem_singleton.mp hb]; exact ⟨oT, nT⟩
  exact hx pins σ H' { s' with heap := h5, toks := s'.toks } ea T cls fl5 od X5 x5 t5 hT (fun b hb => by
    rcases List.mem_cons.mp hb with rfl | hb
    · exact ⟨oT, nT⟩
    · rw [List.mem_singleton.mp hb]; exact ⟨oE, nE⟩) q
end L2
set_option Elab.async false
set_option linter.all false
set_option maxRecDepth 100000
namespace L2
open PySem PySem.Spec PyProof.Rows
/-! ### [e for x, y in zip(a, b) if c] -/
def turnZ (tc : TT) (te : TE) (σ : St) (d : Addr) (x y : V) (H : Hp) (Z : Hp → Prop) : Prop :=
  tc (some x :: some y :: σ) H fun b H3 => if b = true then te (some x :: some y :: σ) H3 fun v H4 => ∃ ys, H4 d = some (.lst ys) ∧ ys.length < sizeLine ∧ Z (upd H4 d (.lst (ys ++ [v]))) else Z H3
def tCompZ (K : PySem.W.Frag) (ka kb : Bool) (ta : TA) (tc : TT) (te : TE) : TE := fun σ H Q => ta σ H fun vs H1 => ∃ a b xs ys, vs = [.ref a, .ref b] ∧ SqK K ka H1 a xs ∧ SqK K kb H1 b ys ∧ xs.length = ys.length ∧ ∀ d, H1 d = none →
  ∃ Pv : Nat → Hp → Prop, Pv 0 (upd H1 d (.lst [])) ∧ (∀ i H, i ≤ xs.length → Pv i H → SqK K ka H a xs ∧ SqK K kb H b ys) ∧ (∀ i x y p H, xs[i]? = some x → ys[i]? = some y → Pv i H → H p = none → turnZ tc te σ d x y (upd H p (.tup [x, y])) (Pv (i + 1))) ∧ ∀ H, Pv xs.length H → Q (.ref d) H
def gPair (K : PySem.W.Frag) : TG := gTup K 2 (gCons (gName 0) (gCons (gName 1) gNil))
theorem gPair_two {K : PySem.W.Frag} {v : V} {σ : St} {H : Hp} {Q : St → Hp → Prop} (h : gPair K v (List.replicate 2 none ++ σ) H Q) : gPair K v (List.replicate 2 none ++ σ) H fun σ2 H2 => (∃ l : St, l.length = 2 ∧ σ2 = l ++ σ) ∧ Q σ2 H2 := by
  obtain ⟨a, xs, e, hq, hl, v1, r1, e1, v2, r2, e2, e3, q⟩ := h
  exact ⟨a, xs, e, hq, hl, v1, r1, e1, v2, r2, e2, e3, ⟨[some v1, some v2], rfl, rfl⟩, q⟩
theorem comp_zip {K : PySem.W.Frag} {ka kb : Bool} {a b : Addr} {xs ys : List V} {tc : TT} {te : TE} {σ : St} {H : Hp} {Q : VK} {d : Addr} (hlen : xs.length = ys.length) (Pv : Nat → Hp → Prop) (h0 : Pv 0 (upd H d (.lst []))) (hl : ∀ i H, i ≤ xs.length → Pv i H → SqK K ka H a xs ∧ SqK K kb H b ys)
    (hs : ∀ i x y p H, xs[i]? = some x → ys[i]? = some y → Pv i H → H p = none → turnZ tc te σ d x y (upd H p (.tup [x, y])) (Pv (i + 1)))
    (hd : ∀ H, Pv xs.length H → Q (.ref d) H) :
    ∃ W : Nat → Nat → Hp → Prop, (∃ m, W 0 m (upd H d (.lst []))) ∧ ∀ i m H, W i m H →
      ((Itz K ka kb a b).stop i H ∧ Q (.ref d) H) ∨ ((Itz K ka kb a b).go i H ∧ ∃ N : Hp → Prop, (∀ H', N H' → ∃ m', m' < m ∧ W (i + 1) m' H') ∧ ∀ x H', (Itz K ka kb a b).yld i H x H' → gPair K x (List.replicate 2 none ++ σ) H' fun σ2 H2 =>
        tc σ2 H2 fun b H3 => if b = true then te σ2 H3 fun y H4 => ∃ ys, H4 d = some (.lst ys) ∧ ys.length < sizeLine ∧ N (upd H4 d (.lst (ys ++ [y]))) else N H3) := by
  refine ⟨fun i m H => m = xs.length - i ∧ i ≤ xs.length ∧ Pv i H, ⟨xs.length, by simp, Nat.zero_le _, h0⟩, ?_⟩
  rintro i m H ⟨rfl, hi, p⟩
  obtain ⟨q1, q2⟩ := hl i H hi p
  by_cases hlt : i < xs.length
  · refine .inr ⟨⟨xs, ys, _, _, q1, q2, List.getElem?_eq_getElem hlt, List.getElem?_eq_getElem (by omega)⟩, Pv (i + 1), fun H' n => ⟨xs.length - (i + 1), by omega, rfl, by omega, n⟩, ?_⟩
    rintro v H' ⟨p', x, y, rfl, hn, e1, e2, rfl⟩
    exact ⟨p', [x, y], rfl, SqT.of upd_same, rfl, x, [y], rfl, y, [], rfl, rfl, hs i x y p' H (e1 _ q1) (e2 _ q2) p hn⟩
  · have e : i = xs.length := by omega
    subst e
    exact .inl ⟨⟨xs, ys, q1, q2, .inl (Nat.le_refl _)⟩, hd H p⟩
theorem pe_compZ {X : Cx} (K : PySem.W.Frag) (ka kb : Bool) {elt a b : Expr} {t1 t2 : Str} {p1 p2 tp p pos pos' : Pos} {k : Nat} {cs : List Expr} {scope : Scope} {tc : TT} {te : TE} {ta : TA} {M : List Str} (hc : X.calm = true) (S : CompScope scope X.env X.N M) (nd : (t1 :: t2 :: M).Nodup) (hl1 : scope.names.lookup t1 = some .local) (hl2 : scope.names.lookup t2 = some .local)
    (hg : Gl X "zip") (hm : X.mg "zip" = none) (ha : PA X [a, b] ta) (mo : MonoA ta)
    (hin : ∀ (cl : List (Str × Addr)) (C : Addr) (s0 : Shared) (H0 : Hp) (fp : List Addr) (pins : List (Addr × Obj)) (σ : St), Back X (cxC X scope cl C s0 H0 fp (t1 :: t2 :: M)) pins σ fp C s0 H0 → PTs (cxC X scope cl C s0 H0 fp (t1 :: t2 :: M)) cs tc ∧ PE (cxC X scope cl C s0 H0 fp (t1 :: t2 :: M)) elt te)
    (hs : starEach [a, b] X.env = [(false, eval a X.env), (false, eval b X.env)] := by rfl) (hs2 : starEach [b] X.env = [(false, eval b X.env)] := by rfl) (hf : ∀ x, foldedSetIterable (.Call (.Name "zip" p) [a, b] [] pos') X.env x = pure x := by intro _; rfl) (hK : X.K = K := by rfl) :
    PE X (.ListComp elt [⟨.Tuple [.Name t1 p1, .Name t2 p2] k tp, .Call (.Name "zip" p) [a, b] [] pos', cs, 0⟩] scope pos) (tCompZ K ka kb ta tc te) := by
  subst hK
  have hx1 : (relabel scope X.env).names.lookup t1 = some .local := by rw [lookup_relabel, hl1]; rfl
  have hx2 : (relabel scope X.env).names.lookup t2 = some .local := by rw [lookup_relabel, hl2]; rfl
  refine PE.imp (pe_compB (xs := [t1, t2]) (M := M) (g := gPair X.K) hc S (pi_zip ka kb hg hm ha hs hs2) (fun cl C s0 H0 fp pins σ bk => ⟨pg_tup hc (pgs_cons (pg_name (i := 0) nd rfl (Or.inl hx1) (Or.inr hx1)) (pgs_cons (pg_name (i := 1) nd rfl (Or.inl hx2) (Or.inr hx2)) pgs_nil)), hin cl C s0 H0 fp pins σ bk⟩) (fun v σ H Q h => gPair_two h) hf) (fun σ H Q h => ?_)
  refine mo σ H _ _ (fun vs H1 q => ?_) h
  obtain ⟨a', b', xs, ys, e, q1, q2, hlen, q⟩ := q
  refine ⟨a', b', xs, ys, e, q1, q2, fun d hd => ?_⟩
  obtain ⟨Pv, h0, hl, hs, hd⟩ := q d hd
  exact comp_zip hlen Pv h0 hl hs hd
end L2
set_option Elab.async false
set_option linter.all false
set_option maxRecDepth 100000
namespace L2
open PySem PySem.Spec PyProof.Rows
/-! ### raise C(..), with an __init__ of its own -/
def untr (H : Hp) (e : Addr) : Hp := fun b => if b = e then none else H b
def tRaiseI (C : Addr) (sp : Sp) (E : XK) (ta : TA) : TS := fun _ σ H => ta σ H fun vs H1 => vs.length ≤ 1000 ∧ ∀ ea, H1 ea = none → sp (.ref ea :: vs) (upd H1 ea (excN ea C none)) (fun v H2 => v = .non ∧ ∃ od, H2 ea = some (excN ea C od) ∧ E (.ref C) od (untr H2 ea)) E0
end L2
set_option Elab.async false
set_option linter.all false
set_option maxRecDepth 100000
namespace L2
open PySem PySem.Spec PyProof.Rows
/-! ### a caught exception of a class with an __init__ of its own: what it is, what it keeps -/
def Exo (H : Hp) (e C : Addr) (fs : List (Str × V)) : Prop := ∃ dx, H e = some (excO e C (some dx)) ∧ H dx = some (xdO dx fs)
def rIsiO (K : PySem.W.Frag) : List V → Hp → VK → Prop := fun xs H Q => ∃ ea C fs c b, xs = [.ref ea, c] ∧ Exo H ea C fs ∧ Ek K C ∧
  ((∃ D, c = .ref D ∧ PySem.W.kitOne K (.ref C) (.ref D) = some b) ∨ ∃ T, c = .ty T ∧ PySem.W.kitOne K (.ref C) (.type T) = some b) ∧ Q (.bl b) H
def tXo (K : PySem.W.Frag) (ta : TE) (f : Str) : TE := fun σ H Q => ta σ H fun x H1 => ∃ e C fs v, x = .ref e ∧ Exo H1 e C fs ∧ Ek K C ∧ Est K C ∧ NoAttr K C f ∧ fs.lookup f = some v ∧ Q v H1
/-! a raise of such a one, told by what comes of it -/
def Exg (H : Hp) (e C : Addr) (fs : List (Str × V)) : Prop := ∃ dx, dx ≠ e ∧ H e = some (excN e C (some dx)) ∧ H dx = some (xdO dx fs)
def spJ1 (C : Addr) (f : Str) : Sp := fun vs H Q _ => ∃ e v, vs = [.ref e, v] ∧ H e = some (excN e C none) ∧ ∀ H', (∀ a o, a ≠ e → H a = some o → H' a = some o) → Exg H' e C [(f, v)] → Q .non H'
def spJ2 (C : Addr) (f g : Str) : Sp := fun vs H Q _ => ∃ e v u, vs = [.ref e, v, u] ∧ H e = some (excN e C none) ∧ ∀ H', (∀ a o, a ≠ e → H a = some o → H' a = some o) → Exg H' e C [(f, v), (g, u)] → Q .non H'
/-! what a reading of raise C(..) wants behind such an __init__: E at a heap that keeps all, with the dict tracked -/
end L2
set_option Elab.async false
set_option linter.all false
set_option maxRecDepth 100000
namespace L2
open PySem PySem.Spec PyProof.Rows

/-! ### lists of pairs as tables -/
section
variable {κ : Type} [DecidableEq κ]
def valV (kvs : List (κ × V)) (k : κ) : Option V := (kvs.find? fun kv => decide (kv.1 = k)).map (·.2)
/-- in its place, or at the end -/
def putK (kvs : List (κ × V)) (k : κ) (v : V) : List (κ × V) :=
  if (kvs.any fun kv => decide (kv.1 = k)) = true then kvs.map (fun kv => if kv.1 = k then (kv.1, v) else kv) else kvs ++ [(k, v)]
def dropK (kvs : List (κ × V)) (k : κ) : List (κ × V) := kvs.filter fun kv => decide (kv.1 ≠ k)



end


/-! ### a tracked dict, its keys ints and texts or tuples of these -/

/-- raw entries of a dict with tuple keys -/
abbrev KT (H : Hp) : List (List Key × V) → List (List Key × Addr × Value) → Prop := Paired fun p q => p.1 = q.1 ∧ H q.2.1 = some (.tup (p.1.map kV)) ∧ RelV p.2 q.2.2

section
variable {P : Program} {w : World} {H : Hp} {h : Heap} {a : Addr}
end

/-- what the dict at a holds at the key y -/
def DGet (H : Hp) (a : Addr) (y : V) (r : Option V) : Prop :=
  (∃ kvs k, Rd H a (.dK kvs) ∧ y = kV k ∧ r = valV kvs k) ∨ ∃ kvs k b, Rd H a (.dT kvs) ∧ y = .ref b ∧ H b = some (.tup (k.map kV)) ∧ r = valV kvs k
/-- the heap behind a[y] = v -/
def DPut (H : Hp) (a : Addr) (y v : V) (H' : Hp) : Prop :=
  (∃ kvs k, H a = some (.dK kvs) ∧ y = kV k ∧ kvs.length < sizeLine ∧ H' = upd H a (.dK (putK kvs k v))) ∨
  ∃ kvs k b, H a = some (.dT kvs) ∧ y = .ref b ∧ H b = some (.tup (k.map kV)) ∧ kvs.length < sizeLine ∧ H' = upd H a (.dT (putK kvs k v))


section
variable {X : Cx} {pins : List (Addr × Obj)} {σ : St} {H : Hp} {s : Shared} {a : Addr} {y v : V} {u r : Value} {o : Option V} {A : Around} {E : Value → Shared → Prop}


end

section
variable {X : Cx} {pins : List (Addr × Obj)} {σ : St} {H : Hp} {s : Shared} {a : Addr} {kvs : List (Key × V)} {k : Key} {u : Value} {A : Around} {E : Value → Shared → Prop}
end


/-! ### readings and rules -/
/-- the element of a subscription, not a slice -/
def NoSl (i : Expr) : Prop := ∀ ov iv, subscripted i false ov iv = operate [ov, iv] (getItem ov iv)


/-- d[y] -/
def tDGet (td ty : TE) : TE := fun σ H Q => td σ H fun x H1 => ty σ H1 fun y H2 => ∃ a v, x = .ref a ∧ DGet H2 a y (some v) ∧ Q v H2
/-- y in d, y not in d -/
def tDIn (ty td : TE) : TE := fun σ H Q => ty σ H fun y H1 => td σ H1 fun x H2 => ∃ a o, x = .ref a ∧ DGet H2 a y o ∧ Q (.bl o.isSome) H2
def tDNotIn (ty td : TE) : TE := fun σ H Q => ty σ H fun y H1 => td σ H1 fun x H2 => ∃ a o, x = .ref a ∧ DGet H2 a y o ∧ Q (.bl (!o.isSome)) H2
/-- d[y] = v -/
def sDPut (td ty tv : TE) : TS := fun D σ H => tv σ H fun v H1 => td σ H1 fun x H2 => ty σ H2 fun y H3 => ∃ a H4, x = .ref a ∧ DPut H3 a y v H4 ∧ D.nx σ H4
/-- d[y] op= v -/
def sDAug (td ty tv : TE) (rd : V → V → Hp → VK → Prop) : TS := fun D σ H => td σ H fun x H1 => ty σ H1 fun y H2 => ∃ a v, x = .ref a ∧ DGet H2 a y (some v) ∧
  tv σ H2 fun y2 H3 => rd v y2 H3 fun z H4 => ∃ H5, DPut H4 a y z H5 ∧ D.nx σ H5
/-- del d[y] -/
def sDDel (td ty : TE) : TS := fun D σ H => td σ H fun x H1 => ty σ H1 fun y H2 => ∃ a kvs k, x = .ref a ∧ H2 a = some (.dK kvs) ∧ y = kV k ∧ (valV kvs k).isSome = true ∧ D.nx σ (upd H2 a (.dK (dropK kvs k)))

section
variable {X : Cx} {o i e value : Expr} {pos pos' tpos : Pos} {td ty tv : TE}
end


/-! ### displays -/
/-- {}, to be a dict of the kind that is wanted -/
def tDNewK : TE := fun _ H Q => ∀ p, H p = none → Q (.ref p) (upd H p (.dK []))
def tDNewT : TE := fun _ H Q => ∀ p, H p = none → Q (.ref p) (upd H p (.dT []))
section
variable {X : Cx} {pos : Pos}
end

/-- the pairs of a display, from the left -/
def tPairs : List (TE × TE) → St → Hp → (List (V × V) → Hp → Prop) → Prop
  | [], _, H, Q => Q [] H
  | (tk, tv) :: r, σ, H, Q => tk σ H fun x H1 => tv σ H1 fun y H2 => tPairs r σ H2 fun ps H3 => Q ((x, y) :: ps) H3
abbrev VV : List (V × V) → List (Value × Value) → Prop := Paired fun p q => RelV p.1 q.1 ∧ RelV p.2 q.2
def PPs (X : Cx) (pos : Pos) (keys : List (Option Expr)) (values : List Expr) (trs : List (TE × TE)) : Prop :=
  ∀ (pins : List (Addr × Obj)) (s : Shared) (σ : St) (H : Hp) (Q : List (V × V) → Hp → Prop), Inv X pins σ H s → tPairs trs σ H Q →
    wpAny (model X.prog X.w) X.A (evalPairs (pairTrees keys values X.env pos)) (fun vs s' => ∃ ps H', Inv X pins σ H' s' ∧ VV ps vs ∧ Q ps H') X.xe s

def mergeK (kvs more : List (Key × V)) : List (Key × V) := more.foldl (fun acc kv => putK acc kv.1 kv.2) kvs
/-- {k: v, ..} with keys ints and texts; the new dict stands empty while the pairs are made -/
def tDisp (trs : List (TE × TE)) : TE := fun σ H Q => ∀ p, H p = none → tPairs trs σ (upd H p (.dK [])) fun ps H2 => H2 p = some (.dK []) ∧ ∃ kvs : List (Key × V), ps = kvs.map (fun kv => (kV kv.1, kv.2)) ∧ kvs.length ≤ 15 ∧ Q (.ref p) (upd H2 p (.dK (mergeK [] kvs)))


/-! ### methods -/
/-- a method call o.m(e) of a built-in, with one argument: what must be seen of the text -/
structure M1 (X : Cx) (o : Expr) (m : Str) (apos : Pos) (e : Expr) (cpos : Pos) : Prop where
  base : attributeBase o m X.env (eval o X.env) = eval o X.env
  few : ((backTo cpos (starEach [e] X.env)).all (fun x => !x.1) && (backToKw cpos (keywordEach [] X.env)).all (fun x => x.1.isSome)
    && decide (([e] : List Expr).length + ([] : List Keyword).length + (if ([] : List Keyword).isEmpty then 0 else 1) < 30)) = true
  line : (apos.endLine == cpos.line) = true
  trees : backTo cpos (starEach [e] X.env) = [(false, eval e X.env)]
structure M2 (X : Cx) (o : Expr) (m : Str) (apos : Pos) (e f : Expr) (cpos : Pos) : Prop where
  base : attributeBase o m X.env (eval o X.env) = eval o X.env
  few : ((backTo cpos (starEach [e, f] X.env)).all (fun x => !x.1) && (backToKw cpos (keywordEach [] X.env)).all (fun x => x.1.isSome)
    && decide (([e, f] : List Expr).length + ([] : List Keyword).length + (if ([] : List Keyword).isEmpty then 0 else 1) < 30)) = true
  line : (apos.endLine == cpos.line) = true
  trees : backTo cpos (starEach [e, f] X.env) = [(false, eval e X.env), (false, eval f X.env)]

/-- a is a dict, whatever its keys -/
def IsD (H : Hp) (a : Addr) : Prop := (∃ kvs, Rd H a (.dK kvs)) ∨ ∃ kvs, Rd H a (.dT kvs)

section
variable {X : Cx} {pins : List (Addr × Obj)} {σ : St} {H : Hp} {s : Shared} {a : Addr} {y d : V} {u r : Value} {o : Option V} {A : Around} {E : Value → Shared → Prop}
end

def tDGet1 (td ty : TE) : TE := fun σ H Q => td σ H fun x H1 => ∃ a, x = .ref a ∧ IsD H1 a ∧ ty σ H1 fun y H2 => ∃ o, DGet H2 a y o ∧ Q (o.getD .non) H2
def tDGet2 (td ty tx : TE) : TE := fun σ H Q => td σ H fun x H1 => ∃ a, x = .ref a ∧ IsD H1 a ∧ ty σ H1 fun y H2 => tx σ H2 fun z H3 => ∃ o, DGet H3 a y o ∧ Q (o.getD z) H3
/-- d.pop(k): there; d.pop(k, x): there or not -/
def tDPop1 (td ty : TE) : TE := fun σ H Q => td σ H fun x H1 => ∃ a, x = .ref a ∧ IsD H1 a ∧ ty σ H1 fun y H2 => ∃ kvs k v, H2 a = some (.dK kvs) ∧ y = kV k ∧ valV kvs k = some v ∧ Q v (upd H2 a (.dK (dropK kvs k)))
def tDPop2 (td ty tx : TE) : TE := fun σ H Q => td σ H fun x H1 => ∃ a, x = .ref a ∧ IsD H1 a ∧ ty σ H1 fun y H2 => tx σ H2 fun z H3 => ∃ kvs k, H3 a = some (.dK kvs) ∧ y = kV k ∧
  (∀ v, valV kvs k = some v → Q v (upd H3 a (.dK (dropK kvs k)))) ∧ (valV kvs k = none → Q z H3)
section
variable {X : Cx} {o e f : Expr} {apos cpos : Pos} {td ty tx : TE}
end

/-! ### dict(d): a copy -/
section
variable {X : Cx} {pins : List (Addr × Obj)} {σ : St} {H : Hp} {s : Shared} {a : Addr} {kvs : List (Key × V)} {A : Around} {E : Value → Shared → Prop}
end


section
variable {X : Cx} {pins : List (Addr × Obj)} {σ : St} {H : Hp} {s : Shared} {a : Addr} {y : V} {u : Value} {A : Around} {E : Value → Shared → Prop}
end
end L2
set_option Elab.async false
set_option linter.all false
set_option maxRecDepth 100000
namespace L2
open PySem PySem.Spec PyProof.Rows
/-! ### d.setdefault(k, x), the keys tuples -/
section
variable {prog : Program} {w : World} {K : Type} [DecidableEq K] {knd : HeapKind prog w K} {A : Around} {E : Value → Shared → Prop} {s : Shared} {d a : Addr} {k : K} {xs : List (K × Addr × Value)} {v : Value}
end
def tDSetd (td ty tx : TE) : TE := fun σ H Q => td σ H fun x H1 => ∃ a, x = .ref a ∧ IsD H1 a ∧ ty σ H1 fun y H2 => tx σ H2 fun z H3 => ∃ kvs k b, H3 a = some (.dT kvs) ∧ y = .ref b ∧ H3 b = some (.tup (k.map kV)) ∧ kvs.length < sizeLine ∧ (∀ v, valV kvs k = some v → Q v H3) ∧ (valV kvs k = none → Q z (upd H3 a (.dT (putK kvs k z))))
end L2
set_option Elab.async false
set_option linter.all false
set_option maxRecDepth 100000
namespace L2
open PySem PySem.Spec PyProof.Rows
/-! ### the keys of a dict walked, told by its entries -/
def EntAt (h : Heap) (d : Addr) (es : Array DictEntry) (ep : Nat) : Prop := ∃ o, h.get? d = some o ∧ o.ExactDict ∧ o.data = .dict es ep
section
variable {prog : Program} {w : World} {A : Around} {E : Value → Shared → Prop} {s : Shared} {it d : Addr} {i ep : Nat} {es : Array DictEntry}
end
end L2
set_option Elab.async false
set_option linter.all false
set_option maxRecDepth 100000
namespace L2
open PySem PySem.Spec PyProof.Rows
/-! ### for k in d, comprehensions over d: d a dict keyed by tuples; while it is walked (and behind) it stands still -/
def Itf (d : Addr) (ob : Obj) (kvs : List (List Key × V)) : It :=
  ⟨fun i H => H d = some (.frz ob (.dT kvs)) ∧ i < kvs.length, fun i H x H' => H' = H ∧ ∃ k v b, kvs[i]? = some (k, v) ∧ x = .ref b ∧ H b = some (.tup (k.map kV)), fun i H => H d = some (.frz ob (.dT kvs)) ∧ kvs.length ≤ i⟩
def iDict (td : TE) : TI := fun σ H R => td σ H fun x H1 => ∃ d kvs, x = .ref d ∧ H1 d = some (.dT kvs) ∧ ∀ ob, R (Itf d ob kvs) (upd H1 d (.frz ob (.dT kvs)))
end L2
namespace L2
open PySem PySem.Spec PyProof.Rows
/-! [e for k in d if c]: the turn's item is the key's tuple at some address -/
def tCompD (td : TE) (tc : TT) (te : TE) : TE := fun σ H Q => td σ H fun x H1 => ∃ a kvs, x = .ref a ∧ H1 a = some (.dT kvs) ∧ ∀ ob d, upd H1 a (.frz ob (.dT kvs)) d = none →
  ∃ Pv : Nat → Hp → Prop, Pv 0 (upd (upd H1 a (.frz ob (.dT kvs))) d (.lst [])) ∧ (∀ i H, i ≤ kvs.length → Pv i H → H a = some (.frz ob (.dT kvs))) ∧ (∀ i k v b H, kvs[i]? = some (k, v) → H b = some (.tup (k.map kV)) → Pv i H → turnC tc te σ d (.ref b) H (Pv (i + 1))) ∧ ∀ H, Pv kvs.length H → Q (.ref d) H
/-! for k in d -/
end L2
namespace L2
open PySem PySem.Spec PyProof.Rows
/-! len(d), its keys ints and texts -/
def rLenD : List V → Hp → VK → Prop := fun xs H Q => ∃ a kvs, xs = [V.ref a] ∧ H a = some (.dK kvs) ∧ Q (.int kvs.length) H
end L2
set_option Elab.async false
set_option linter.all false
set_option maxRecDepth 100000
namespace L2
open PySem PySem.Spec PyProof.Rows PySem.W
/-! ### the sort's tree of questions ends with a permutation, and asks for what is there -/
def Lf {α : Type} (n : Nat) (P : α → Prop) : KasT α → Prop
  | .ret a => P a
  | .ask i j k => i < n ∧ j < n ∧ ∀ b, Lf n P (k b)
def Pm (n : Nat) (p : Array Nat) : Prop := p.Perm (List.range n).toArray
/-! the tree gone through, where each question is answered and changes nothing that I speaks of -/
end L2
set_option Elab.async false
set_option linter.all false
set_option maxRecDepth 100000
namespace L2
open PySem PySem.Spec PyProof.Rows PySem.W
/-! ### the sort of a list of tuples of ints whose first is empty: a permutation -/
section
variable {prog : Program} {w : World} {A : Around} {E : Value → Shared → Prop} {s : Shared}
def TupI (h : Heap) (v : Value) : Prop := ∃ (b : Addr) (items : Array Value) (ns : List Int), v = .ref b ∧ IsTup h b items ∧ IntsAre items.toList ns
def fst? (h : Heap) : Value → Option Value
  | .ref b => match h.get? b with
    | some o => match o.data with
      | .seq xs _ => xs[0]?
      | _ => none
    | none => none
  | _ => none
end
end L2
set_option Elab.async false
set_option linter.all false
set_option maxRecDepth 100000
set_option maxHeartbeats 1000000
namespace L2
open PySem PySem.Spec PyProof.Rows PySem.W
section
variable {prog : Program} {w : World} {A : Around} {E : Value → Shared → Prop} {s : Shared}
end
end L2
set_option Elab.async false
set_option linter.all false
set_option maxRecDepth 100000
set_option maxHeartbeats 1000000
namespace L2
open PySem PySem.Spec PyProof.Rows PySem.W
/-! ### sorted(d), d keyed by tuples of ints, its first key the empty one: some permutation of the keys -/
section
variable {prog : Program} {w : World} {A : Around} {E : Value → Shared → Prop} {s : Shared} {d : Addr} {es : Array DictEntry} {ep : Nat}
end
end L2
set_option Elab.async false
set_option linter.all false
set_option maxRecDepth 100000
set_option maxHeartbeats 1000000
namespace L2
open PySem PySem.Spec PyProof.Rows PySem.W
def KeyAt (H : Hp) (x : V) (k : List Key) : Prop := ∃ b, x = .ref b ∧ H b = some (.tup (k.map kV))
def rSortD : List V → Hp → VK → Prop := fun xs H Q => ∃ d kvs, xs = [.ref d] ∧ H d = some (.dT kvs) ∧ kvs.length < 64 ∧ (∀ kv ∈ kvs, ∃ ns : List Int, kv.1 = ns.map Sum.inl) ∧ (∀ k v r, kvs = (k, v) :: r → k = []) ∧
  ∀ p H' out ks, Same H H' → H p = none → H' p = some (.lst out) → ks.Perm (kvs.map (·.1)) → Paired (KeyAt H') out ks → Q (.ref p) H'
end L2
set_option Elab.async false
set_option linter.all false
set_option maxRecDepth 100000
namespace L2
open PySem PySem.Spec PyProof.Rows
/-! ### enumerate(a), a list or a tuple -/
section
variable {prog : Program} {w : World} {A : Around} {E : Value → Shared → Prop} {s : Shared} {k : Bool} {ee it l : Addr} {n : Nat} {xs : Array Value} {x old : Value}
theorem enumS_item {Q : Value → Shared → Prop} (he : IsEnum s.heap ee it n old) (hi : SIt k s.heap it l n) (hl : SAt k s.heap l xs) (hx : xs[n]? = some x) (hne : ee ≠ it)
    (hQ : ∀ h', IsEnumOut h' ee it ((n : Int) + 1) x s.heap.objs.size → SIt k h' it l (n + 1) → h'.get? s.heap.objs.size = some { cls := .type "tuple", data := .seq #[.int n s.toks, x] } →
      (∀ b o, b ≠ ee → b ≠ it → s.heap.get? b = some o → h'.get? b = some o) → Q (.ref s.heap.objs.size) { s with heap := h', toks := s.toks + 1 }) :
    wpAny (model prog w) A (Builtin.«enumerate.__next__» ⟨[.ref ee], []⟩) (fun fin s' => ∃ v, fin = .done (.ret v) ∧ Q v s') E s := by
  obtain ⟨hp, g, d, tk, os⟩ := s
  show wpAny _ _ (field (.ref ee) 2 >>= _) _ _ _
  refine wpAny_bind (wpAny_field he rfl (x := .ref it) rfl (wpAny_bind (nextS hi hl hx fun g1 i1 b1 => ?_)))
  replace b1 : Heap.SameBut it hp g1 := b1
  have e1 : IsEnum g1 ee it n old := (b1.2 ee hne).trans he
  show wpAny _ _ (field (.ref ee) 3 >>= _) _ _ ⟨g1, g, d, tk, os⟩
  refine wpAny_bind (wpAny_field e1 rfl (x := rawInt n) rfl ?_)
  show wpAny _ _ (field (.ref ee) 4 >>= _) _ _ ⟨g1, g, d, tk, os⟩
  refine wpAny_bind (wpAny_field e1 rfl (x := .none) rfl ?_)
  show wpAny _ _ (mkInt n >>= _) _ _ ⟨g1, g, d, tk, os⟩
  refine wpAny_bind (wpAny_mkInt ?_)
  show wpAny _ _ (setField (.ref ee) 3 (rawInt ((n : Int) + 1)) >>= _) _ _ ⟨g1, g, d, tk + 1, os⟩
  refine wpAny_bind (wpAny_setField_rec e1 (by simp) fun g2 e2 b2 => ?_)
  replace b2 : Heap.SameBut ee g1 g2 := b2
  replace e2 : IsEnum g2 ee it ((n : Int) + 1) old := e2
  show wpAny _ _ (setField (.ref ee) 4 .none >>= _) _ _ ⟨g2, g, d, tk + 1, os⟩
  refine wpAny_bind (wpAny_setField_rec e2 (by simp) fun g3 e3 b3 => ?_)
  replace b3 : Heap.SameBut ee g2 g3 := b3
  replace e3 : IsEnum g3 ee it ((n : Int) + 1) old := e3
  show wpAny _ _ (newTuple [.int n tk, x] >>= _) _ _ ⟨g3, g, d, tk + 1, os⟩
  refine wpAny_bind (wpAny_newTuple ?_)
  have e4 : IsEnum (g3.push { cls := .type "tuple", data := .seq #[.int n tk, x] }) ee it ((n : Int) + 1) old := Heap.get?_push_of_some _ e3
  generalize q4 : g3.push { cls := .type "tuple", data := .seq #[.int n tk, x] } = g4 at e4
  have sz : g3.objs.size = hp.objs.size := by rw [b3.1, b2.1, b1.1]
  have lt : ee < hp.objs.size := Heap.lt_size he
  have t4 : g4.get? hp.objs.size = some { cls := .type "tuple", data := .seq #[.int n tk, x] } := by rw [← q4, ← sz]; exact Heap.get?_push_size _ rfl
  have k4 : ∀ b o, b ≠ ee → b ≠ it → hp.get? b = some o → g4.get? b = some o := fun b o c1 c2 hb => by
    rw [← q4]; exact Heap.get?_push_of_some _ (b3.extBut b o c1 (b2.extBut b o c1 (b1.extBut b o c2 hb)))
  have i4 : SIt k g4 it l (n + 1) := i1.at fun o e => by
    rw [← q4]; exact Heap.get?_push_of_some _ (b3.extBut _ _ (Ne.symm hne) (b2.extBut _ _ (Ne.symm hne) e))
  show wpAny _ _ (Builtin.SmallTypes.ownedTupleIsFree (.ref ee) >>= _) _ _ ⟨g4, g, d, tk + 1, os⟩
  rw [sz]
  clear q4 e3 b3 e2 b2 e1 b1 i1 sz g3 g2 g1
  refine wpAny_bind ?_
  unfold Builtin.SmallTypes.ownedTupleIsFree
  refine wpAny_bind (wpAny_field e4 rfl (x := .none) rfl (wpAny_pure ?_))
  simp only [if_true]
  refine wpAny_bind (wpAny_rule (wpAny_bind (wpAny_field e4 rfl (x := old) rfl (wpAny_bind (wpAny_setField_rec e4 (by simp) fun g5 e5 b5 => ?_)))))
  replace b5 : Heap.SameBut ee g4 g5 := b5
  replace e5 : IsEnum g5 ee it ((n : Int) + 1) x := e5
  show wpAny _ _ (Builtin.SmallTypes.ownedTupleHandOut (.ref ee) (.ref hp.objs.size) >>= _) _ _ ⟨g5, g, d, tk + 1, os⟩
  refine wpAny_bind ?_
  unfold Builtin.SmallTypes.ownedTupleHandOut
  refine wpAny_bind (wpAny_setField_rec e5 (by simp) fun g6 e6 b6 => ?_)
  replace b6 : Heap.SameBut ee g5 g6 := b6
  replace e6 : IsEnumOut g6 ee it ((n : Int) + 1) x hp.objs.size := e6
  refine wpAny_setField_rec e6 (by simp) fun g7 e7 b7 => ?_
  replace b7 : Heap.SameBut ee g6 g7 := b7
  replace e7 : IsEnumOut g7 ee it ((n : Int) + 1) x hp.objs.size := e7
  have up : ∀ b o, b ≠ ee → g4.get? b = some o → g7.get? b = some o := fun b o c1 e => b7.extBut b o c1 (b6.extBut b o c1 (b5.extBut b o c1 e))
  exact wpAny_bind (wpAny_letGo (wpAny_pure ⟨_, rfl, hQ g7 e7 (i4.at fun o e => up _ o (Ne.symm hne) e) (up _ _ (Nat.ne_of_gt lt) t4) fun b o c1 c2 e => up b o c1 (k4 b o c1 c2 e)⟩))
theorem enumS_next {Q : Option Value → Shared → Prop} (he : IsEnum s.heap ee it n old) (hi : SIt k s.heap it l n) (hl : SAt k s.heap l xs) (hx : xs[n]? = some x) (hne : ee ≠ it)
    (hQ : ∀ h', IsEnumOut h' ee it ((n : Int) + 1) x s.heap.objs.size → SIt k h' it l (n + 1) → h'.get? s.heap.objs.size = some { cls := .type "tuple", data := .seq #[.int n s.toks, x] } →
      (∀ b o, b ≠ ee → b ≠ it → s.heap.get? b = some o → h'.get? b = some o) → Q (some (.ref s.heap.objs.size)) { s with heap := h', toks := s.toks + 1 }) : wpAny (model prog w) A (pyNext (.ref ee)) Q E s := by
  have hT : s.TypeIs (.ref ee) "enumerate" := ⟨_, he, rfl⟩
  unfold pyNext
  exact wpAny_bind (wpAny_attempt (wpAny_callSpecial?_slot (name := Str.ofString "__next__") hT F.slot_enumerate_next (wpAny_call_entry F.slot_enumerate_next hT F.entry_enumerate_next
    (enumS_item he hi hl hx hne fun h' a b c d => wpAny_pure (hQ h' a b c d)) (F.args_enumerate_next_1 _))))
theorem enumS_stop {Q : Option Value → Shared → Prop} (hh : A.handled = none) (he : IsEnum s.heap ee it n old) (hi : SIt k s.heap it l n) (hl : SAt k s.heap l xs) (hx : xs[n]? = none)
    (hQ : ∀ h', Heap.ExtBut it s.heap h' → Q none { s with heap := h' }) : wpAny (model prog w) A (pyNext (.ref ee)) Q E s := by
  have hT : s.TypeIs (.ref ee) "enumerate" := ⟨_, he, rfl⟩
  unfold pyNext
  refine wpAny_bind (wpAny_attempt (wpAny_callSpecial?_slot (name := Str.ofString "__next__") hT F.slot_enumerate_next (wpAny_call_entry F.slot_enumerate_next hT F.entry_enumerate_next ?_ (F.args_enumerate_next_1 _))))
  show wpAny _ _ (field (.ref ee) 2 >>= _) _ _ _
  refine wpAny_bind (wpAny_field he rfl (x := .ref it) rfl (wpAny_bind (endS hh hi hl hx fun h' e b he' => ?_)))
  obtain ⟨o, ho, hc⟩ := he'
  exact wpAny_bind (wpAny_isInstance (T := "StopIteration") (b := true) ⟨o, ho, hc⟩ isSubtype_stop (wpAny_pure (hQ _ b)))
/-! the object made -/
theorem meetsE (l : Addr) (xs : Array Value) (n : Nat) (dct : Option Addr) (sl : Array (Option Value)) :
    Meets (Builtin.«enumerate.__new__» ⟨[.type "enumerate", .ref l], []⟩) (fun _ R s => s.heap.get? l = some { cls := .type "tuple", dict := dct, data := .seq xs n, slots := sl } ∧
      R (.ok (.ret (.ref (s.heap.push (itO true l)).objs.size))) { s with heap := (s.heap.push (itO true l)).push { cls := .type "enumerate", data := .fields #[.none, .bool false, .ref s.heap.objs.size, rawInt 0, .none, .none] } }) :=
  .of_wp fun prog w A R s h => by
    obtain ⟨hp, g, d, tk, os⟩ := s
    obtain ⟨hl, h⟩ := h
    have hsub := sub_enumerate
    have hL : Heap.IsTuple (Shared.heap ⟨hp, g, d, tk, os⟩) l xs := ⟨_, hl, rfl, n, rfl⟩
    wp_walk using AutoSeq1.wpAny_loadPart' hl
    refine wpAny_stack_any fun st => wpAny_pure ?_
    split
    · rename_i c _ _ _ _ _
      cases (c == Value.type "enumerate") <;> (wp_walk using AutoSeq1.wpAny_loadPart' hl, wpAny_pyIter_tuple hL) <;> exact ⟨_, rfl, h⟩
    · wp_walk using AutoSeq1.wpAny_loadPart' hl, wpAny_pyIter_tuple hL
      exact ⟨_, rfl, h⟩
structure EAt (k : Bool) (ee it l : Addr) (n : Nat) (h : Heap) : Prop where
  en : ∃ old, IsEnum h ee it n old
  a1 : SIt k h it l n
theorem callE {Q : Value → Shared → Prop} (h1 : SAt k s.heap l xs) (h : ∀ h', EAt k (s.heap.objs.size + 1) s.heap.objs.size l 0 h' → (∀ c o, s.heap.get? c = some o → h'.get? c = some o) → Q (.ref (s.heap.objs.size + 1)) { s with heap := h' }) :
    wpAny (model prog w) A (call (.type "enumerate") [.ref l]) Q E s := by
  cases k with
  | false => exact call_enumerate_list h1 fun h' he hi _ kp => h h' ⟨⟨_, he⟩, hi⟩ kp
  | true =>
    obtain ⟨⟨c, dct, dt, sl⟩, hl, hc, n, hd⟩ := h1
    replace hc : c = .type "tuple" := hc
    replace hd : dt = .seq xs n := hd
    subst hc hd
    refine callType_new F.called_enumerate (by decide) (F.typeCall_enumerate_1 _) (F.newCall_enumerate_1 _) (fun obj => F.args_object_init_2 obj _) F.entry_enumerate_new (meetsE l xs n dct sl) ⟨hl, ?_⟩
    have z1 : (s.heap.push (itO true l)).objs.size = s.heap.objs.size + 1 := Heap.size_push ..
    show _ ∧ _
    rw [z1]
    have g1 : IsEnum ((s.heap.push (itO true l)).push { cls := .type "enumerate", data := .fields #[.none, .bool false, .ref s.heap.objs.size, rawInt 0, .none, .none] }) (s.heap.objs.size + 1) s.heap.objs.size 0 .none := by
      have q := Heap.get?_push_size (s.heap.push (itO true l)) (o := { cls := .type "enumerate", data := .fields #[.none, .bool false, .ref s.heap.objs.size, rawInt 0, .none, .none] }) rfl
      rw [z1] at q
      exact q
    exact ⟨⟨_, g1, rfl⟩, h _ ⟨⟨_, g1⟩, .new (Heap.get?_push_of_some _ (Heap.get?_push_size _ itO_free))⟩ fun c o e => Heap.get?_push_of_some _ (Heap.get?_push_of_some _ e)⟩
end
/-! what enumerate(a) walks: at each turn a new pair -/
def Ite (K : PySem.W.Frag) (k : Bool) (a : Addr) : It :=
  ⟨fun i H => ∃ xs x, SqK K k H a xs ∧ xs[i]? = some x,
   fun i H v H' => ∃ p x, v = .ref p ∧ H p = none ∧ (∀ xs, SqK K k H a xs → xs[i]? = some x) ∧ H' = upd H p (.tup [.int i, x]),
   fun i H => ∃ xs, SqK K k H a xs ∧ xs.length ≤ i⟩
theorem EAt.obj {k : Bool} {ee it l : Addr} {n : Nat} {h : Heap} (Z : EAt k ee it l n h) : ∀ b ∈ [ee, it], ∃ o, h.get? b = some o ∧ ∀ v, o.data ≠ .cell v := fun b hb => by
  obtain ⟨⟨old, he⟩, h1⟩ := Z
  simp only [List.mem_cons, List.not_mem_nil, or_false] at hb
  rcases hb with rfl | rfl
  · exact ⟨_, he, fun v z => by cases z⟩
  · exact h1.obj
theorem turn_enum {P : Program} {w : World} {K : PySem.W.Frag} {elts : List Expr} {x1} {pos : Pos} {k : Bool} {ee it a : Addr} (hne : ee ≠ it) : Turn P w K (.Tuple elts x1 pos) (Ite K k a) [ee, it] ee (fun n h => EAt k ee it a n h) where
  mem := by simp
  obj := fun i h st => st.obj
  keep := fun i h h' ⟨⟨old, he⟩, h1⟩ kp => ⟨⟨old, kp ee (by simp) _ he⟩, h1.at fun o e => kp it (by simp) o e⟩
  item := by
    intro X hP hw hK hc i pins s σ H E I hf st hg
    subst hP hw hK
    obtain ⟨xs, x, q1, hx⟩ := hg
    obtain ⟨us, r1, p1⟩ := seqK I q1
    obtain ⟨u, hu, ru⟩ := r1.get hx
    have lt : ∀ b ∈ [ee, it], b < s.heap.objs.size := fun b hb => by
      obtain ⟨o, ho, _⟩ := st.obj b hb
      exact Heap.lt_size ho
    obtain ⟨⟨old, he⟩, h1⟩ := st
    refine enumS_next he h1 p1 (x := u) (by simpa using hu) hne fun h' z1 a1 pr kk => ?_
    refine ⟨_, rfl, wpAny_letOwnedTupleGo_enum (s := { s with heap := h', toks := s.toks + 1 }) z1 fun h2 z2 b2 => ?_⟩
    replace b2 : Heap.SameBut ee h' h2 := b2
    have hT : H s.heap.objs.size = none := I.hok.fresh (Nat.le_refl _)
    have I1 : Inv X pins σ (upd H s.heap.objs.size (.tup [.int i, x])) { s with heap := s.heap.push { cls := .type "tuple", data := .seq #[.int i s.toks, u] }, toks := s.toks + 1 } := I.laid (t' := s.toks + 1) (fun b u e => Heap.get?_push_of_some _ e) (Nat.le_refl _) ⟨by show 2 ≤ sizeLine; decide, [.int i s.toks, u], .cons ⟨_, rfl⟩ (.cons ru .nil), ⟨_, Heap.get?_push_size _ rfl, _, rfl⟩⟩
    have Tz : s.heap.objs.size ≠ ee := Nat.ne_of_gt (lt ee (by simp))
    have fp : ∀ b ∈ [ee, it], FpOk X pins (upd H s.heap.objs.size (.tup [.int i, x])) b := fun b hb => by
      obtain ⟨f0, f1, f2, f3, f4, f5⟩ := hf b hb
      exact ⟨by rw [upd_ne (Nat.ne_of_lt (lt b hb))]; exact f0, f1, f2, f3, f4, f5⟩
    have I2 := I1.turnedL (h' := h2) (t' := s.toks + 1) (fun c o hc e => by
      simp only [List.mem_cons, List.not_mem_nil, or_false, not_or] at hc
      by_cases zc : c = s.heap.objs.size
      · subst zc
        rw [Heap.get?_push_size _ rfl] at e
        cases e
        exact b2.extBut _ _ Tz pr
      · have e' : s.heap.get? c = some o := by rw [← e]; exact (Heap.get?_push_ne _ _ _ zc).symm
        exact b2.extBut _ _ hc.1 (kk c o hc.1 hc.2 e')) fp
    refine ⟨.ref s.heap.objs.size, _, I2, rfl, ⟨_, x, rfl, hT, fun zs hz => ?_, rfl⟩, ⟨⟨_, z2⟩, a1.at fun o e => b2.extBut _ _ (Ne.symm hne) e⟩, fun b hb => (fp b hb).1⟩
    rw [seqK_inj I hz q1]; exact hx
  done := by
    intro X hP hw hK hc i pins s σ H E I hf st hg
    subst hP hw hK
    obtain ⟨xs, q1, hl⟩ := hg
    obtain ⟨us, r1, p1⟩ := seqK I q1
    have e1 := r1.length
    obtain ⟨⟨old, he⟩, h1⟩ := st
    refine enumS_stop (I.ok.hd hc) he h1 p1 (by simp; omega) fun h' kk => ⟨rfl, I.turnedL (t' := s.toks) (fun c o hc e => ?_) hf⟩
    simp only [List.mem_cons, List.not_mem_nil, or_false, not_or] at hc
    exact kk c o hc.2 e
  self := fun _ _ _ _ _ ⟨⟨_, he⟩, _⟩ h => wpAny_pyIter_enum he h
theorem b_enum : bootBuiltins "enumerate" = some (.type "enumerate") := by decide +kernel
def iEnum (K : PySem.W.Frag) (k : Bool) (ta : TA) : TI := fun σ H R => ta σ H fun vs H1 => ∃ a xs, vs = [.ref a] ∧ SqK K k H1 a xs ∧ R (Ite K k a) H1
theorem pi_enum {X : Cx} {elts : List Expr} {x1} {tp : Pos} {a : Expr} {ta : TA} {p pos : Pos} (k : Bool) (hg : Gl X "enumerate") (hm : X.mg "enumerate" = none) (ha : PA X [a] ta) (hs : starEach [a] X.env = [(false, eval a X.env)] := by rfl) :
    PI X (.Tuple elts x1 tp) (.Call (.Name "enumerate" p) [a] [] pos) (iEnum X.K k ta) := by
  intro pins s σ H R I h
  refine Call_ (ld_blt I hg hm b_enum (PyProof.Rows.callWith_type1 (thn (ha pos pins s σ H _ I h) fun us s1 ⟨vs, H1, I1, r1, q1⟩ => ?_) (by rw [hs]; rfl) rfl))
  obtain ⟨a', xs, e, q1, q⟩ := q1
  subst e
  obtain ⟨u, rfl, ru⟩ := r1.one
  cases ru
  obtain ⟨us, e1, p1⟩ := seqK I1 q1
  refine callE p1 fun h' Z kp => ?_
  obtain ⟨old, he⟩ := Z.en
  refine wpAny_pyIter_enum (s := { s1 with heap := h' }) he ?_
  refine ⟨_, [s1.heap.objs.size + 1, s1.heap.objs.size], _, _, H1, rfl, I1.kept (t' := s1.toks) kp, turn_enum (Nat.succ_ne_self _), Z, fun c hc => ?_, q⟩
  have ge : s1.heap.objs.size ≤ c := by
    simp only [List.mem_cons, List.not_mem_nil, or_false] at hc
    rcases hc with rfl | rfl <;> omega
  exact I1.fpOk ge (I1.hok.fresh ge)
/-! the for over it -/
theorem for_enum {K : PySem.W.Frag} {k : Bool} {a : Addr} {xs : List V} {g : TG} {tb : TS} {D : Ends} {σ : St} {H : Hp} (Pv : Nat → St → Hp → Prop) (h0 : Pv 0 σ H) (hl : ∀ i σ H, i ≤ xs.length → Pv i σ H → SqK K k H a xs)
    (hs : ∀ i x p σ H, xs[i]? = some x → Pv i σ H → H p = none → g (.ref p) σ (upd H p (.tup [.int i, x])) fun σ2 H2 => tb { D with nx := Pv (i + 1), ct := Pv (i + 1), bk := D.nx } σ2 H2) (hd : ∀ σ H, Pv xs.length σ H → D.nx σ H) :
    ∃ W : Nat → Nat → St → Hp → Prop, (∃ m, W 0 m σ H) ∧ ∀ i m σ H, W i m σ H →
      ((Ite K k a).stop i H ∧ D.nx σ H) ∨ ((Ite K k a).go i H ∧ ∃ N : St → Hp → Prop, (∀ σ' H', N σ' H' → ∃ m', m' < m ∧ W (i + 1) m' σ' H') ∧ ∀ x H', (Ite K k a).yld i H x H' → g x σ H' fun σ2 H2 => tb { D with nx := N, ct := N, bk := D.nx } σ2 H2) := by
  refine ⟨fun i m σ H => m = xs.length - i ∧ i ≤ xs.length ∧ Pv i σ H, ⟨xs.length, by simp, Nat.zero_le _, h0⟩, ?_⟩
  rintro i m σ H ⟨rfl, hi, p⟩
  have q1 := hl i σ H hi p
  by_cases hlt : i < xs.length
  · refine .inr ⟨⟨xs, _, q1, List.getElem?_eq_getElem hlt⟩, Pv (i + 1), fun σ' H' n => ⟨xs.length - (i + 1), by omega, rfl, by omega, n⟩, ?_⟩
    rintro v H' ⟨p', x, rfl, hn, e1, rfl⟩
    exact hs i x p' σ H (e1 _ q1) p hn
  · have e : i = xs.length := by omega
    subst e
    exact .inl ⟨⟨xs, q1, Nat.le_refl _⟩, hd σ H p⟩
end L2
set_option Elab.async false
set_option linter.all false
set_option maxRecDepth 100000
namespace L2
open PySem PySem.Spec PyProof.Rows
/-! products of numbers up to 10 ** 40; some names of the builtins -/
abbrev B30 : Int := 1000000000000000000000000000000
theorem e30 : (10 : Int) ^ (30 : Int).toNat = B30 := by decide
def CMulB (i j : Int) : Prop := (0 ≤ i ∧ i ≤ 10000000000 * B30) ∧ (0 ≤ j ∧ j ≤ 10000000000 * B30)
theorem CMulB.ok {i j : Int} (h : CMulB i j) : IntMulOk i j := by
  have q : ∀ k : Int, 0 ≤ k ∧ k ≤ 10000000000 * B30 → PySem.Builtin.Int.intBits k ≤ 140 := fun k hk => intBits_le_iff.mpr (by
    have e : (2 : Nat) ^ 140 = 1393796574908163946345982392040522594123776 := by decide
    rw [e]
    unfold B30 at hk
    omega)
  exact IntMulOk.of_le (q i h.1) (q j h.2) (by decide)
theorem op_mulB {X : Cx} : OpR X (binaryOp .Mult) (rI CMulB fun i j => .int (i * j)) := opI fun _ _ _ _ _ _ _ hc q => PyProof.Rows.mul_int q hc.ok
theorem b_max : bootBuiltins "max" = some (.builtin "max") := by decide +kernel
theorem turnZ_all {te : TE} {σ : St} {d : Addr} {x y : V} {H : Hp} {Z : Hp → Prop} (h : te (some x :: some y :: σ) H fun v H4 => ∃ ys, H4 d = some (.lst ys) ∧ ys.length < sizeLine ∧ Z (upd H4 d (.lst (ys ++ [v])))) : turnZ tTrue te σ d x y H Z := by
  show (if true = true then (te (some x :: some y :: σ) H fun v H4 => ∃ ys, H4 d = some (.lst ys) ∧ ys.length < sizeLine ∧ Z (upd H4 d (.lst (ys ++ [v])))) else Z H)
  rw [if_pos rfl]
  exact h
end L2
set_option Elab.async false
set_option linter.all false
set_option maxRecDepth 100000
namespace L2
open PySem
/-! ### codes grown knot by knot -/
inductive Gr (b : Int) (lo : Bool) : Nat → List (List Int) → Prop
  | zero : Gr b lo 0 [[]]
  | stay {n : Nat} {ws : List (List Int)} : Gr b lo n ws → Gr b lo (n + 1) ws
  | grow {n : Nat} {ws : List (List Int)} (t : Nat) (u : List Int) (ss : List Int) : Gr b lo n ws → ws[t]? = some u → ss.Pairwise (· < ·) → 1 ≤ ss.length → (lo = false → 2 ≤ ss.length) → (∀ x ∈ ss, 0 ≤ x ∧ x < b) → u.length < 50 →
      Gr b lo (n + 1) (ws.take t ++ ss.map (fun k => u ++ [k]) ++ ws.drop (t + 1))
/-- two words of which none begins the other one -/
def Apart (u v : List Int) : Prop := ¬ u <+: v ∧ ¬ v <+: u
abbrev PF (ws : List (List Int)) : Prop := ws.Pairwise Apart
variable {b : Int} {lo : Bool} {n : Nat} {ws : List (List Int)}
end L2
set_option Elab.async false
set_option linter.all false
set_option maxRecDepth 100000
namespace L2
open PySem PySem.Spec PyProof.Rows
/-! ### either of two readings of a call -/
def rOr (r1 r2 : List V → Hp → VK → Prop) : List V → Hp → VK → Prop := fun xs H Q => r1 xs H Q ∨ r2 xs H Q
/-! ### xs.extend(t), t a tuple -/
def rExtendT (K : PySem.W.Frag) : V → List V → Hp → VK → Prop := fun x vs H Q => ∃ l b xs zs, x = .ref l ∧ vs = [.ref b] ∧ H l = some (.lst xs) ∧ SqT K H b zs ∧ xs.length + zs.length ≤ sizeLine ∧ Q .non (upd H l (.lst (xs ++ zs)))
/-! ### for over a list or a tuple -/
end L2
set_option Elab.async false
set_option linter.all false
set_option maxRecDepth 100000
namespace L2
open PySem PySem.Spec PyProof.Rows
/-! ### range(a, b, c), c above nought -/
def Itr3 (lo st : Int) (n : Nat) : It := ⟨fun i _ => i < n, fun i H x H' => H' = H ∧ x = .int (lo + i * st), fun i _ => n ≤ i⟩
def iRng3 (ta : TA) : TI := fun σ H R => ta σ H fun vs H1 => ∃ a b c : Int, vs = [.int a, .int b, .int c] ∧ (0 ≤ a ∧ a < 1000000 ∧ 0 ≤ b ∧ b < 1000000 ∧ 0 < c ∧ c < 1000000) ∧ ∀ n : Nat, (∀ i : Nat, i < n → a + i * c < b) → R (Itr3 a c n) H1
/-! ### pairs of a list and a tuple compared -/
def rNeP : R2 := fun x y H Q => ∃ (a b l1 t1 l2 t2 : Addr) (ns ms us vs : List Int), x = .ref a ∧ y = .ref b ∧ H a = some (.tup [.ref l1, .ref t1]) ∧ H b = some (.tup [.ref l2, .ref t2]) ∧ H l1 = some (.lst (ns.map V.int)) ∧ H l2 = some (.lst (ms.map V.int)) ∧ TW H t1 us ∧ TW H t2 vs ∧ Q (.bl (!(decide (ns = ms) && decide (us = vs)))) H
end L2
set_option Elab.async false
set_option linter.all false
set_option maxRecDepth 100000
namespace L2
open PySem PySem.Spec PyProof.Rows
/-! ### an instance made, a method called, within a try -/
section
variable {X : Cx} {k : Nat} {f C : Addr} {fd : FuncData} {ps : List Str} {sp : Sp} {Ex : St → XK} {x m : Str} {p pos apos : Pos} {e o : Expr} {es : List Expr} {ta : TE} {t : TA}
def tMakeX (C : Addr) (sp : Sp) (Ex : St → XK) (t : TA) : TE := fun σ H Q => t σ H fun vs H1 => ∀ x dx, H1 x = none → H1 dx = none → dx ≠ x →
  sp (.ref x :: vs) (upd (upd H1 dx (.own x)) x (.ins C dx [])) (fun v H2 => v = .non ∧ Q (.ref x) H2) (Ex σ)
def tMethX (C : Addr) (m : Str) (sp : Sp) (Ex : St → XK) (ta : TE) (t : TA) : TE := fun σ H Q => ta σ H fun x H1 => ∃ a dx fs, x = .ref a ∧ H1 a = some (.ins C dx fs) ∧ fs.lookup m = none ∧
  t σ H1 fun vs H2 => sp (x :: vs) H2 Q (Ex σ)
end
/-! ### lists of words compared -/
def rEqLW : R2 := fun x y H Q => ∃ a b xs ys ws vs, x = .ref a ∧ y = .ref b ∧ H a = some (.lst xs) ∧ H b = some (.lst ys) ∧ Ws H xs ws ∧ Ws H ys vs ∧ Q (.bl (decide (ws = vs))) H
end L2
set_option Elab.async false
set_option linter.all false
set_option maxRecDepth 100000
namespace L2
open PySem PySem.Spec PyProof.Rows
/-! ### a word looked for in a list of words -/
def rInLW : R2 := fun x y H Q => ∃ (c : Addr) (xs : List V) (ws : List (List Int)) (u : List Int), y = .ref c ∧ Wd H x u ∧ H c = some (.lst xs) ∧ Ws H xs ws ∧ Q (.bl (decide (u ∈ ws))) H
def rIdxW : V → List V → Hp → VK → Prop := fun x vs H Q => ∃ (l : Addr) (y : V) (xs : List V) (ws : List (List Int)) (u : List Int), x = .ref l ∧ vs = [y] ∧ Wd H y u ∧ H l = some (.lst xs) ∧ Ws H xs ws ∧ u ∈ ws ∧ Q (.int (ws.idxOf u : Nat)) H
end L2
namespace L2
open PySem PySem.Spec PyProof.Rows
/-! ### any(list of bools) -/
def rAny : List V → Hp → VK → Prop := fun xs H Q => ∃ (a : Addr) (bs : List Bool), xs = [.ref a] ∧ H a = some (.lst (bs.map V.bl)) ∧ Q (.bl (bs.any id)) H
end L2
set_option Elab.async false
set_option linter.all false
set_option maxRecDepth 100000
namespace L2
open PySem PySem.Spec PyProof.Rows PySem.W
/-! ### list(reversed(xs)) -/
section
variable {prog : Program} {w : World} {A : Around} {E : Value → Shared → Prop} {s : Shared}
end
def tRev (te : TE) : TE := fun σ H Q => te σ H fun x H1 => ∃ l xs, x = .ref l ∧ H1 l = some (.lst xs) ∧ ∀ p, H1 p = none → Q (.ref p) (upd H1 p (.lst xs.reverse))
end L2
set_option Elab.async false
set_option linter.all false
set_option maxRecDepth 100000
namespace L2
open PySem PySem.Spec PyProof.Rows
/-! ### pairs of a text and an int or None, alike -/
def rEqS2 : R2 := fun x y H Q => ∃ (a b : Addr) (u : Str) (z : V), x = .ref a ∧ y = .ref b ∧ H a = some (.tup [.str u, z]) ∧ H b = some (.tup [.str u, z]) ∧ (z = .non ∨ ∃ i, z = .int i) ∧ Q (.bl true) H
end L2
set_option Elab.async false
set_option linter.all false
set_option maxRecDepth 100000
namespace L2
open PySem PySem.Spec PyProof.Rows
section
variable {X : Cx} {elt iter : Expr} {tg : Str} {tp : Pos} {cs : List Expr} {scope : Scope} {pos : Pos} {tc : TT} {te : TE} {M : List Str}
end
end L2
set_option Elab.async false
set_option linter.all false
set_option maxRecDepth 100000
namespace L2
open PySem PySem.Spec PyProof.Rows
/-! ### [e for x, y in list if c] -/
def turnP (K : PySem.W.Frag) (tc : TT) (te : TE) (σ : St) (d : Addr) (z : V) (H : Hp) (Z : Hp → Prop) : Prop := ∃ a x y, z = .ref a ∧ SqT K H a [x, y] ∧ turnZ tc te σ d x y H Z
def tCompP (K : PySem.W.Frag) (tl : TE) (tc : TT) (te : TE) : TE := fun σ H Q => tl σ H fun v H1 => ∃ a xs, v = .ref a ∧ SqL K H1 a xs ∧ ∀ d, H1 d = none →
  ∃ Pv : Nat → Hp → Prop, Pv 0 (upd H1 d (.lst [])) ∧ (∀ i H, i ≤ xs.length → Pv i H → SqL K H a xs) ∧ (∀ i x H, xs[i]? = some x → Pv i H → turnP K tc te σ d x H (Pv (i + 1))) ∧ ∀ H, Pv xs.length H → Q (.ref d) H
end L2
set_option Elab.async false
set_option linter.all false
set_option maxRecDepth 100000
set_option maxHeartbeats 1000000
namespace L2
open PySem PySem.Spec PyProof.Rows
/-! ### tuples of two, of three unlike things, compared -/
section
variable {P : Program} {w : World} {A : Around} {H : Hp} {s : Shared} {n : Nat} {α β γ : Type} [DecidableEq α] [DecidableEq β] [DecidableEq γ]
def RTwo {α β : Type} (H : Hp) (R1 : V → α → Prop) (R2 : V → β → Prop) (x : V) (p : α × β) : Prop := ∃ a y z, x = .ref a ∧ H a = some (.tup [y, z]) ∧ R1 y p.1 ∧ R2 z p.2
def RThr {α β γ : Type} (H : Hp) (R1 : V → α → Prop) (R2 : V → β → Prop) (R3 : V → γ → Prop) (x : V) (p : α × β × γ) : Prop := ∃ a y z t, x = .ref a ∧ H a = some (.tup [y, z, t]) ∧ R1 y p.1 ∧ R2 z p.2.1 ∧ R3 t p.2.2
variable {R1 : V → α → Prop} {R2 : V → β → Prop} {R3 : V → γ → Prop}
end
/-! ### sorted(xs), xs a list or a tuple of ints -/
def srt (ns : List Int) : List Int := ns.mergeSort fun a b => decide (a ≤ b)
/-- a list or a tuple of ints -/
def SqI (H : Hp) (a : Addr) (ns : List Int) : Prop := H a = some (.lst (ns.map V.int)) ∨ H a = some (.tup (ns.map V.int))
def rSortI : List V → Hp → VK → Prop := fun xs H Q => ∃ (a : Addr) (ns : List Int), xs = [.ref a] ∧ SqI H a ns ∧ ns.length < 64 ∧ ∀ p H', Same H H' → H p = none → H' p = some (.lst ((srt ns).map V.int)) → Q (.ref p) H'
end L2
set_option Elab.async false
set_option linter.all false
set_option maxRecDepth 100000
set_option maxHeartbeats 1000000
namespace L2
open PySem PySem.Spec PyProof.Rows
/-! ### min(xs), xs a list or a tuple of ints -/
def rMinI : List V → Hp → VK → Prop := fun xs H Q => ∃ (a : Addr) (ns : List Int), xs = [.ref a] ∧ SqI H a ns ∧ ns ≠ [] ∧ Q (.int ((srt ns).headD 0)) H
end L2
set_option Elab.async false
set_option linter.all false
set_option maxRecDepth 100000
namespace L2
open PySem PySem.Spec PyProof.Rows
/-! // by a positive divisor of a thousand bits at most -/
def CDivC (_ j : Int) : Prop := 0 < j ∧ j < 2 ^ 200
end L2
namespace L2
open PySem PySem.Spec PyProof.Rows
/-! monotone readings -/
/-! what tuples hold stays, where only lists change -/
def TK (H H' : Hp) : Prop := ∀ a xs, H a = some (.tup xs) → H' a = some (.tup xs)
/-! a move: (number, cost, (settled, gaps)) -/
abbrev FrAt (H : Hp) : V → Int × List Int → Prop := RTwo H RInt (RTup H RInt)
abbrev MvAt (H : Hp) : V → Int × Int × (Int × List Int) → Prop := RThr H RInt RInt (FrAt H)
abbrev Mvs (H : Hp) (xs : List V) (ms : List (Int × Int × (Int × List Int))) : Prop := Paired (MvAt H) xs ms
def rEqFr : R2 := fun x y H Q => ∃ p q, FrAt H x p ∧ FrAt H y q ∧ Q (.bl (decide (p = q))) H
def rNeMv : R2 := fun x y H Q => ∃ a b xs ys ms ns, x = .ref a ∧ y = .ref b ∧ H a = some (.lst xs) ∧ H b = some (.lst ys) ∧ Mvs H xs ms ∧ Mvs H ys ns ∧ Q (.bl (!decide (ms = ns))) H
end L2
set_option Elab.async false
set_option linter.all false
set_option maxRecDepth 100000
set_option maxHeartbeats 1000000
namespace L2
open PySem PySem.Spec PyProof.Rows
/-! ### min(xs, default=d) -/
section
variable {prog : Program} {w : World} {A : Around} {R : Result → Shared → Prop} {I : Addr} {fp wr : List Addr} {n : Nat} {P : Nat → Value → Prop} {St : Nat → Heap → Prop}
abbrev kwD (d : Value) : List (Str × Value) := [(Str.ofString "default", d)]
end
/-- min(list of ints, default=None) -/
def rMinD (xs zs : List V) (H : Hp) (Q : VK) : Prop := ∃ (a : Addr) (ns : List Int), xs = [.ref a] ∧ zs = [.non] ∧ H a = some (.lst (ns.map V.int)) ∧ Q (if ns = [] then .non else .int ((srt ns).headD 0)) H
/-- the expression -/
def tMinD (t tk : TA) : TE := fun σ H Q => t σ H fun vs H1 => tk σ H1 fun zs H2 => rMinD vs zs H2 Q
end L2
set_option Elab.async false
set_option linter.all false
set_option maxRecDepth 100000
set_option maxHeartbeats 1000000
namespace L2
open PySem PySem.Spec PyProof.Rows
/-! ### range(a, -1, -1) -/
def iRngD (ta : TA) : TI := fun σ H R => ta σ H fun vs H1 => ∃ a : Int, vs = [.int a, .int (-1), .int (-1)] ∧ (-1 ≤ a ∧ a < 1000000) ∧ R (Itr3 a (-1) (a + 1).toNat) H1
/-! ### sum(t), t a tuple of ints -/
def rSumT : List V → Hp → VK → Prop := fun xs H Q => ∃ (a : Addr) (ns : List Int), xs = [.ref a] ∧ H a = some (.tup (ns.map V.int)) ∧ Q (.int ns.sum) H
/-! ### xs.reverse() -/
def rRev : V → List V → Hp → VK → Prop := fun x vs H Q => ∃ l xs, x = .ref l ∧ vs = [] ∧ H l = some (.lst xs) ∧ Q .non (upd H l (.lst xs.reverse))
/-! ### lists of lists of ints compared -/
def rEqLL : R2 := fun x y H Q => ∃ a b xs ys ms ns, x = .ref a ∧ y = .ref b ∧ H a = some (.lst xs) ∧ H b = some (.lst ys) ∧ Paired (RLst H RInt) xs ms ∧ Paired (RLst H RInt) ys ns ∧ Q (.bl (decide (ms = ns))) H
end L2
set_option Elab.async false
set_option linter.all false
set_option maxRecDepth 100000
set_option maxHeartbeats 1000000
namespace L2
open PySem PySem.Spec PyProof.Rows
/-! ### list(range(n, 0, -1)) -/
def tLRD (ta : TA) : TE := fun σ H Q => ta σ H fun vs H1 => ∃ n : Nat, vs = [.int (n : Int), .int 0, .int (-1)] ∧ n < 1000 ∧ ∀ p, H1 p = none → Q (.ref p) (upd H1 p (.lst ((List.range n).map fun i : Nat => V.int ((n : Int) + (i : Int) * (-1)))))
/-! ### lists of lists of ints: != -/
def rNeLL : R2 := fun x y H Q => ∃ a b xs ys ms ns, x = .ref a ∧ y = .ref b ∧ H a = some (.lst xs) ∧ H b = some (.lst ys) ∧ Paired (RLst H RInt) xs ms ∧ Paired (RLst H RInt) ys ns ∧ Q (.bl (!decide (ms = ns))) H
end L2
set_option Elab.async false
set_option linter.all false
set_option maxRecDepth 100000
set_option maxHeartbeats 1000000
namespace L2
open PySem PySem.Spec PyProof.Rows
/-! ### list.insert -/
def rIns : V → List V → Hp → VK → Prop := fun x vs H Q => ∃ (l : Addr) (xs : List V) (i : Int) (k : Nat) (y : V), x = .ref l ∧ vs = [.int i, y] ∧ i = (k : Int) ∧ H l = some (.lst xs) ∧ k ≤ xs.length ∧ xs.length < 1000 ∧ Q .non (upd H l (.lst (xs.take k ++ y :: xs.drop k)))
theorem ins_arr (its : List Value) (y : Value) (k : Nat) (h : k ≤ its.length) : (its.toArray.extract 0 k).push y ++ its.toArray.extract k = (its.take k ++ y :: its.drop k).toArray := by
  simp [List.extract_toArray, List.extract_eq_drop_take]
  exact List.take_of_length_le (by rw [List.length_drop]; omega)
theorem mt_insert {X : Cx} : MtM X "list.insert" rIns := by
  intro pins s σ H x vs v us Q I rx rv h
  obtain ⟨l, xs, i, k, y, rfl, rfl, hi, hH, hk, hz, q⟩ := h
  cases rx
  obtain ⟨u, u2, rfl, ru, ru2⟩ := rv.two
  obtain ⟨t, rfl⟩ := ru
  obtain ⟨z, its, n, r, hl, e⟩ := I.lstM hH
  have li : xs.length = its.length := r.length
  have hs := small1000 hz
  have fe : Builtin.List.listFitsIndex i = true := by
    unfold Builtin.List.listFitsIndex
    rw [Bool.and_eq_true]
    exact ⟨decide_eq_true (by omega), decide_eq_true (by omega)⟩
  have fe' : ¬ (!Builtin.List.listFitsIndex i) = true := by rw [fe]; exact Bool.false_ne_true
  have sz : its.toArray.size ≤ sizeLine := by rw [List.size_toArray]; omega
  have M := AutoSeq1.list_insert_list_int_val_1 l its.toArray n i t u2 fe' sz
  refine call_meets F.slot_list_insert ⟨_, e, rfl⟩ F.entry_list_insert (F.args_list_insert_3 _ _ _) M ⟨e, ?_⟩
  refine ⟨.non, _, I.lset (its' := its.take k ++ u2 :: its.drop k) hH e ?_ ((r.take k).append (.cons ru2 (r.drop k))) ?_, rfl, q⟩
  · show (its.toArray.extract 0 (if i < 0 then (i + (its.toArray.size : Int)).toNat else min i.toNat its.toArray.size)).push u2 ++ its.toArray.extract (if i < 0 then (i + (its.toArray.size : Int)).toNat else min i.toNat its.toArray.size) = _
    have ei : i.toNat = k := by omega
    have en : ¬ i < 0 := by omega
    rw [if_neg en, ei, List.size_toArray, Nat.min_eq_left (by omega)]
    exact ins_arr its u2 k (by omega)
  · rw [List.length_append, List.length_cons, List.length_take, List.length_drop]; omega
/-! ### a op1 b op2 c op3 d -/
def tChain3 (r r' r'' : R2) (ta tb tc td : TE) : TE := fun σ H Q => ta σ H fun x H1 => tb σ H1 fun y H2 => r x y H2 fun z H3 => ∃ k, z = .bl k ∧
  (if k = true then tc σ H3 fun w' H4 => r' y w' H4 fun z' H5 => ∃ k', z' = .bl k' ∧ (if k' = true then td σ H5 fun v' H6 => r'' w' v' H6 Q else Q (.bl false) H5) else Q (.bl false) H3)
end L2
set_option Elab.async false
set_option linter.all false
set_option maxRecDepth 100000
set_option maxHeartbeats 1000000
namespace L2
open PySem PySem.Spec PyProof.Rows
/-! ### numbers and None, in lists of lists of lists, compared -/
def vO : Option Int → V
  | none => .non
  | some i => .int i
def ROI (x : V) (o : Option Int) : Prop := x = vO o
def rNeL3 : R2 := fun x y H Q => ∃ a b xs ys ms ns, x = .ref a ∧ y = .ref b ∧ H a = some (.lst xs) ∧ H b = some (.lst ys) ∧ Paired (RLst H (RLst H ROI)) xs ms ∧ Paired (RLst H (RLst H ROI)) ys ns ∧ Q (.bl (!decide (ms = ns))) H
def rEqL3 : R2 := fun x y H Q => ∃ a b xs ys ms ns, x = .ref a ∧ y = .ref b ∧ H a = some (.lst xs) ∧ H b = some (.lst ys) ∧ Paired (RLst H (RLst H ROI)) xs ms ∧ Paired (RLst H (RLst H ROI)) ys ns ∧ Q (.bl (decide (ms = ns))) H
end L2
set_option Elab.async false
set_option linter.all false
set_option maxRecDepth 100000
set_option maxHeartbeats 1000000
namespace L2
open PySem PySem.Spec PyProof.Rows
/-! ### a method of a tuple; wants the layer of wip/bin/laytup.py -/
section
variable {X : Cx} {pins : List (Addr × Obj)} {σ : St} {H : Hp} {s : Shared}
theorem Inv.tup0 {a : Addr} {xs : List V} (I : Inv X pins σ H s) (e : H a = some (.tup xs)) : xs.length ≤ sizeLine ∧ ∃ (its : List Value) (n : Nat), Vals xs its ∧ s.heap.get? a = some { cls := .type "tuple", data := .seq its.toArray n } := by
  obtain ⟨z, its, r, o, e1, n, rfl⟩ := (show ObjOk X.prog X.w H s.heap a (.tup xs) from I.hok a _ e)
  exact ⟨z, its, n, r, e1⟩
end
def tBMT (r : V → List V → Hp → VK → Prop) (to : TE) (t : TA) : TE := fun σ H Q => to σ H fun x H1 => (∃ a xs, x = .ref a ∧ H1 a = some (.tup xs)) ∧ t σ H1 fun xs H2 => r x xs H2 Q
theorem pe_bmT {X : Cx} {id : String} {name : Str} {o e : Expr} {es : List Expr} {apos cpos : Pos} {to : TE} {t : TA} {r : V → List V → Hp → VK → Prop} (slot : Slot "tuple" name id) (hty : typeOf (.builtin id) = pure (.type "method_descriptor")) (hm : MtR X id r) (ho : PE X o to) (ha : PA X (e :: es) t)
    (hbase : attributeBase o name X.env (eval o X.env) = eval o X.env := by rfl)
    (hfew : ((backTo cpos (starEach (e :: es) X.env)).all (fun x => !x.1) && (backToKw cpos (keywordEach [] X.env)).all (fun x => x.1.isSome) && decide ((e :: es).length + ([] : List Keyword).length + (if ([] : List Keyword).isEmpty then 0 else 1) < 30)) = true := by rfl)
    (hline : (apos.endLine == cpos.line) = true := by rfl) (hs : starEach (e :: es) X.env = (false, eval e X.env) :: starEach es X.env := by rfl) (hplain : (backTo cpos (starEach es X.env)).any (·.1) = false := by rfl) :
    PE X (.Call (.Attribute o name apos) (e :: es) [] cpos) (tBMT r to t) := by
  intro pins s σ H Q I h
  refine wpAny_Call_method_late hbase hfew hline rfl (thn (ho pins s σ H _ I h) fun v s1 ⟨x, H1, I1, r1, ty, q1⟩ => ?_)
  obtain ⟨a, xs, rfl, ea⟩ := ty
  cases r1
  obtain ⟨_, its, n, _, e1⟩ := I1.tup0 ea
  refine ⟨"tuple", id, PySem.F.plainAttrs_tuple, slot, hty, ⟨_, e1, rfl⟩, fun b eb => ?_, ?_⟩
  · cases eb
    exact ⟨_, e1, rfl⟩
  have hA := ha cpos pins s1 σ H1 _ I1 q1
  rw [hs] at hA ⊢
  refine Calls.callWith_builtin (by show (false || (backTo cpos (starEach es X.env)).any (·.1)) = false; rw [hplain] <;> rfl) (Calls.evalArgs_plain ?_)
  exact thn hA fun us s2 ⟨vs, H2, I2, r2, q2⟩ => hm pins s2 σ H2 (.ref a) vs _ us Q I2 rfl r2 q2
/-! ### word.count(letter) -/
def eqI (k : Int) : Value → Bool
  | .int i _ => i == k
  | _ => false
theorem count_is (k : Int) : ∀ {ns : List Int} {its : List Value}, Vals (ns.map V.int) its → its.countP (eqI k) = ns.count k
  | [], _, .nil => rfl
  | n :: ns, _, .cons r t => by
    obtain ⟨u, rfl⟩ := r
    rw [List.countP_cons, List.count_cons, count_is k t]
    rfl
theorem vals_int {ns : List Int} {its : List Value} (h : Vals (ns.map V.int) its) : ∀ y ∈ its, ∃ i t, y = .int i t := by
  induction ns generalizing its with
  | nil => cases h; intro y hy; cases hy
  | cons n ns ih =>
    cases h with
    | cons r t =>
      obtain ⟨u, rfl⟩ := r
      intro y hy
      rcases List.mem_cons.mp hy with z | z
      · exact ⟨n, u, z⟩
      · exact ih t y z
def rCntT : V → List V → Hp → VK → Prop := fun x vs H Q => ∃ (a : Addr) (ns : List Int) (k : Int), x = .ref a ∧ vs = [.int k] ∧ H a = some (.tup (ns.map V.int)) ∧ Q (.int ((ns.count k : Nat) : Int)) H
theorem mt_countT {X : Cx} : MtM X "tuple.count" rCntT := by
  intro pins s σ H x vs v us Q I rx rv h
  obtain ⟨a, ns, k, rfl, rfl, hH, q⟩ := h
  cases rx
  obtain ⟨y', rfl, ry⟩ := rv.one
  obtain ⟨t, rfl⟩ := ry
  obtain ⟨z, its, n, r, e0⟩ := I.tup0 hH
  refine call_meets PySem.F.slot_tuple_count ⟨_, e0, rfl⟩ PySem.F.entry_tuple_count (PySem.F.args_tuple_count_2 _ _) (SeqAt.tuple_countAt a its.toArray n none #[] (.int k t) (eqI k)) ⟨e0, fun y hy => ?_, ?_⟩
  · obtain ⟨i, u, rfl⟩ := vals_int r y (by simpa using hy)
    exact SeqAt.EqAt.int_int i u k t
  · refine ⟨.int _, H, I.tok _, ⟨_, rfl⟩, ?_⟩
    have e : (its.toArray.toList.countP (eqI k)) = ns.count k := by rw [List.toList_toArray]; exact count_is k r
    rw [e]
    exact q
/-! ### pairs of a text and an int or None, alike, told apart by != -/
def rNeS2 : R2 := fun x y H Q => ∃ (a b : Addr) (u : Str) (z : V), x = .ref a ∧ y = .ref b ∧ H a = some (.tup [.str u, z]) ∧ H b = some (.tup [.str u, z]) ∧ (z = .non ∨ ∃ i, z = .int i) ∧ Q (.bl false) H
theorem op_neS2 {X : Cx} (hu : X.A.units + 4 < cLine) : OpR X (compareOp .NotEq) rNeS2 := by
  intro pins s σ H x y v w' Q I rx ry h
  obtain ⟨a, b, u, z, rfl, rfl, ha, hb, hz, q⟩ := h
  cases rx; cases ry
  obtain ⟨_, its, v1, p1⟩ := old_tup (I.hok a _ ha)
  obtain ⟨_, its2, v2, p2⟩ := old_tup (I.hok b _ hb)
  obtain ⟨u1, u2, rfl, r1, r2⟩ := v1.two
  obtain ⟨w1, w2, rfl, r3, r4⟩ := v2.two
  obtain ⟨t1, rfl⟩ := r1
  obtain ⟨t3, rfl⟩ := r3
  have q1 : SeqAt.EqAt X.A.in1 s (.str u t1) (.str u t3) true := by
    have := SeqAt.EqAt.str_str (A := X.A.in1) (s := s) u t1 u t3
    simpa using this
  have q2 : SeqAt.EqAt X.A.in1 s u2 w2 true := by
    rcases hz with rfl | ⟨i, rfl⟩
    · cases r2; cases r4
      exact SeqAt.EqAt.same _
    · obtain ⟨t2, rfl⟩ := r2
      obtain ⟨t4, rfl⟩ := r4
      have := SeqAt.EqAt.int_int (A := X.A.in1) (s := s) i t2 i t4
      simpa using this
  have z := SeqAt.RcNeAt.tuples (A := X.A) (e := fun _ => true) p1 p2 (by omega) (fun j h1 h2 => by
    match j, h1, h2 with
    | 0, _, _ => exact q1
    | 1, _, _ => exact q2
    | j + 2, h1, _ => exact absurd (show j + 2 < 2 from h1) (by omega))
  refine z _ _ _ _ ⟨.bl _, H, I, rfl, ?_⟩
  have ez : (!((List.range (min [Value.str u t1, u2].toArray.size [Value.str u t3, w2].toArray.size)).all (fun _ => true) && [Value.str u t1, u2].toArray.size == [Value.str u t3, w2].toArray.size)) = false := by
    show (!((List.range 2).all (fun _ => true) && true)) = false
    decide
  rw [ez]
  exact q
theorem call_lenK {X : Cx} (K : PySem.W.Frag) (hK : X.K = K := by rfl) : CallR X (.builtin "len") (fun xs H Q => ∃ p ys, xs = [.ref p] ∧ (SqL K H p ys ∨ SqT K H p ys) ∧ Q (.int (ys.length : Nat)) H) := by
  subst hK
  exact call_len_seq
/-! ### products of numbers of either sign -/
def CMulS (i j : Int) : Prop := (-(100000000 * B30) ≤ i ∧ i ≤ 100000000 * B30) ∧ (-(100000000 * B30) ≤ j ∧ j ≤ 100000000 * B30)
theorem CMulS.ok {i j : Int} (h : CMulS i j) : IntMulOk i j := by
  have q : ∀ k : Int, -(100000000 * B30) ≤ k ∧ k ≤ 100000000 * B30 → PySem.Builtin.Int.intBits k ≤ 140 := fun k hk => intBits_le_iff.mpr (by
    have e : (2 : Nat) ^ 140 = 1393796574908163946345982392040522594123776 := by decide
    rw [e]
    unfold B30 at hk
    omega)
  exact IntMulOk.of_le (q i h.1) (q j h.2) (by decide)
theorem op_mulS {X : Cx} : OpR X (binaryOp .Mult) (rI CMulS fun i j => .int (i * j)) := opI fun _ _ _ _ _ _ _ hc q => PyProof.Rows.mul_int q hc.ok
end L2
set_option Elab.async false
set_option linter.all false
set_option maxRecDepth 100000
namespace K62
open PySem L2
def top (i : Nat) : Stmt := PySem.Challenge.pw_lettertoll_k62_shares.main.body.getD i (.Pass ⟨0, 0, 0, 0⟩)
abbrev sIs : Stmt := top 9
abbrev sPM : Stmt := top 15
abbrev sWM : Stmt := top 16
abbrev sRL : Stmt := top 17
abbrev sRT : Stmt := top 18
abbrev sWN : Stmt := top 19
abbrev sCell : Stmt := top 23
abbrev sNumber : Stmt := top 24
abbrev sNumbers : Stmt := top 25
abbrev sWhole : Stmt := top 26
abbrev sAlone : Stmt := top 10
abbrev sPrice : Stmt := top 11
abbrev sCost : Stmt := top 13
abbrev sPS : Stmt := top 20
abbrev sWS : Stmt := top 21
abbrev sWord : Stmt := top 27
abbrev sTold : Stmt := top 28
abbrev sDue : Stmt := top 29
abbrev sSpoilt : Stmt := top 30
abbrev sRises : Stmt := top 31
abbrev sLaw : Stmt := top 32
def am (x : Int) : Bool := decide (1 ≤ x) && decide (x ≤ (10 : Int) ^ (30 : Int).toNat)
def In (i : Int) (ns : List Int) : Prop := 0 ≤ i ∧ i < (ns.length : Int)
section
variable {P : Program} {w : World} {K : PySem.W.Frag} {mg : Str → Option Value} {base : Heap} {f : Addr} {fd : FuncData}
/-! is_amount -/
def spIs : Sp := fun vs H Q _ => ∃ n : Int, vs = [.int n] ∧ Q (.bl (am n)) H
theorem scIs : FnScope ["number"] ["number"] (defScope sIs) := ⟨rfl, rfl, rfl, by decide +kernel, rfl, by decide +kernel, by decide +kernel⟩
theorem ok_is (F : Fun K "is_amount" "is_amount" sIs f fd) : FnOk P w K mg base CX0 1 f fd ["number"] spIs := by
  refine F.ok (k := 0) scIs (fun vs H Q E h => ?_) (fun cdv A outer s H vs Q E hr h => ?_)
  · obtain ⟨n, rfl, _⟩ := h
    rfl
  obtain ⟨n, rfl, q⟩ := h
  refine ⟨_, pss_one (ps_ret (pe_chain op_le op_le pe_int (pv 0) (pe_op op_pow pe_int pe_int))), ?_⟩
  refine ⟨_, rfl, _, _, rfl, rfl, _, rfl, ?_⟩
  unfold am at q
  refine ite2 (fun c => ?_) (fun c => ?_)
  · refine ⟨_, _, rfl, rfl, ⟨by decide, by decide, by decide⟩, _, _, rfl, rfl, ?_⟩
    rw [c, Bool.true_and] at q
    exact q
  · rw [Bool.eq_false_iff.mpr c, Bool.false_and] at q
    exact q
/-! refuse_letter, refuse_thing -/
def spRef (C : Addr) : Sp := fun vs H Q E => ∃ (p : Addr) (ns : List Int) (i : Int), vs = [.ref p, .int i] ∧ TW H p ns ∧ (In i ns → Q .non H) ∧ (¬ In i ns → E (.ref C) none H)
theorem scRL : FnScope ["prices", "letter"] ["prices", "letter"] (defScope sRL) := ⟨rfl, rfl, rfl, by decide +kernel, rfl, by decide +kernel, by decide +kernel⟩
theorem scRT : FnScope ["weights", "thing"] ["weights", "thing"] (defScope sRT) := ⟨rfl, rfl, rfl, by decide +kernel, rfl, by decide +kernel, by decide +kernel⟩
theorem ok_RL {C : Addr} (F : Fun K "refuse_letter" "refuse_letter" sRL f fd) (ml : mg "len" = none) (mC : mg "BadWord" = some (.ref C)) (eC : Ecl K C) : FnOk P w K mg base (CXF P w) 1 f fd ["prices", "letter"] (spRef C) := by
  refine F.okF (k := 0) scRL (fun vs H Q E h => ?_) (fun cdv A outer s H vs Q E hr h => ?_)
  · obtain ⟨p, ns, i, rfl, _⟩ := h
    rfl
  obtain ⟨p, ns, i, rfl, hp, q1, q2⟩ := h
  refine ⟨_, pss_one (ps_if (pt_not (pt_chain op_le op_lt pe_int (pv 1) (pe_callB call_len_seq (by rfl) ml PySem.boot_len (pa_cons (pv 0) pa_nil)))) (pss_one (ps_raise takes_def rfl (by rfl) mC eC (pa_cons pe_str pa_nil))) pss_nil), ?_⟩
  refine ⟨_, rfl, _, _, rfl, rfl, _, rfl, ?_⟩
  refine ite2 (fun c => ?_) (fun c => ?_)
  · refine ⟨_, rfl, p, _, rfl, .inr (SqT.of hp), _, _, rfl, rfl, _, rfl, ?_⟩
    rw [List.length_map]
    refine ite2 (fun d => ?_) (fun d => ?_)
    · exact ⟨by decide, q2 fun z => by rw [decide_eq_true z.2] at d; cases d⟩
    · exact q1 ⟨of_decide_eq_true c, by
        cases hb : decide (i < (ns.length : Int)) with
        | true => exact of_decide_eq_true hb
        | false => rw [hb] at d; exact absurd rfl d⟩
  · exact ⟨_, rfl, iteT ⟨by decide, q2 fun z => c (decide_eq_true z.1)⟩⟩
theorem ok_RT {C : Addr} (F : Fun K "refuse_thing" "refuse_thing" sRT f fd) (ml : mg "len" = none) (mC : mg "NoThing" = some (.ref C)) (eC : Ecl K C) : FnOk P w K mg base (CXF P w) 1 f fd ["weights", "thing"] (spRef C) := by
  refine F.okF (k := 0) scRT (fun vs H Q E h => ?_) (fun cdv A outer s H vs Q E hr h => ?_)
  · obtain ⟨p, ns, i, rfl, _⟩ := h
    rfl
  obtain ⟨p, ns, i, rfl, hp, q1, q2⟩ := h
  refine ⟨_, pss_one (ps_if (pt_not (pt_chain op_le op_lt pe_int (pv 1) (pe_callB call_len_seq (by rfl) ml PySem.boot_len (pa_cons (pv 0) pa_nil)))) (pss_one (ps_raise takes_def rfl (by rfl) mC eC (pa_cons pe_str pa_nil))) pss_nil), ?_⟩
  refine ⟨_, rfl, _, _, rfl, rfl, _, rfl, ?_⟩
  refine ite2 (fun c => ?_) (fun c => ?_)
  · refine ⟨_, rfl, p, _, rfl, .inr (SqT.of hp), _, _, rfl, rfl, _, rfl, ?_⟩
    rw [List.length_map]
    refine ite2 (fun d => ?_) (fun d => ?_)
    · exact ⟨by decide, q2 fun z => by rw [decide_eq_true z.2] at d; cases d⟩
    · exact q1 ⟨of_decide_eq_true c, by
        cases hb : decide (i < (ns.length : Int)) with
        | true => exact of_decide_eq_true hb
        | false => rw [hb] at d; exact absurd rfl d⟩
  · exact ⟨_, rfl, iteT ⟨by decide, q2 fun z => c (decide_eq_true z.1)⟩⟩
/-! with_number -/
def spWN (C : Addr) : Sp := fun vs H Q E => ∃ (p : Addr) (ns : List Int) (i n : Int), vs = [.ref p, .int i, .int n] ∧ TW H p ns ∧ ns.length ≤ 900 ∧ In i ns ∧ (am n = true → ∀ p' H', Same H H' → TW H' p' (ns.set i.toNat n) → Q (.ref p') H') ∧ (am n = false → E (.ref C) none H)
theorem scWN : FnScope ["numbers", "at", "number"] ["numbers", "at", "number"] (defScope sWN) := ⟨rfl, rfl, rfl, by decide +kernel, rfl, by decide +kernel, by decide +kernel⟩
theorem ok_WN {C : Addr} (F : Fun K "with_number" "with_number" sWN f fd) (G : Fns P w K mg base ["number"] "is_amount" spIs 1) (mC : mg "BadNumber" = some (.ref C)) (eC : Ecl K C) : FnOk P w K mg base (CXF P w) 2 f fd ["numbers", "at", "number"] (spWN C) := by
  refine F.okF (k := 1) scWN (fun vs H Q E h => ?_) (fun cdv A outer s H vs Q E hr h => ?_)
  · obtain ⟨p, ns, i, n, rfl, _⟩ := h
    rfl
  obtain ⟨p, ns, i, n, rfl, hp, l1, hi, q1, q2⟩ := h
  refine ⟨_, pss_cons (ps_if (pt_not (pt_val (pe_call G.ok hr (by rfl) G.m G.kp G.b .nil pass0 (pa_cons (pv 2) pa_nil)))) (pss_one (ps_raise takes_def rfl (by rfl) mC eC (pa_cons pe_str pa_nil))) pss_nil)
    (pss_one (ps_ret (pe_op op_catG (pe_op op_catG (pe_slice sl_tupG (pv 0) po_none (po_some (pv 1))) (pe_tup (pa_cons (pv 2) pa_nil))) (pe_slice sl_tupG (pv 0) (po_some (pe_op op_add (pv 1) pe_int)) po_none)))), ?_⟩
  refine ⟨_, rfl, n, rfl, _, rfl, ?_⟩
  obtain ⟨i0, i1⟩ := hi
  refine ite2 (fun c => ?_) (fun c => ?_)
  · exact ⟨by decide, q2 (by
      cases hb : am n with
      | false => rfl
      | true => rw [hb] at c; cases c)⟩
  have c1 : am n = true := by
    cases hb : am n with
    | true => rfl
    | false => rw [hb] at c; exact absurd rfl c
  refine ⟨_, rfl, _, rfl, _, rfl, p, _, rfl, hp, fun p1 H1 s1 hp1 => ?_⟩
  rw [cutLit _ _ i0, ← List.map_take] at hp1
  refine ⟨_, rfl, (by show 1 ≤ sizeLine; decide), fun p2 hp2 => ?_⟩
  have s2 := same_newO hp2 (.tup [.int n])
  refine ⟨p1, p2, _, _, rfl, rfl, s2 _ _ hp1, upd_same, small (by rw [List.length_map, List.length_take]; show min _ _ + 1 ≤ 1000; omega), fun p3 H3 s3 hp3 => ?_⟩
  refine ⟨_, rfl, _, rfl, _, _, rfl, rfl, _, rfl, p, _, rfl, s3 _ _ (s2 _ _ (s1 _ _ hp)), fun p4 H4 s4 hp4 => ?_⟩
  rw [cutFrom _ _ (by omega), ← List.map_drop] at hp4
  refine ⟨p3, p4, _, _, rfl, rfl, s4 _ _ hp3, hp4, small (by rw [List.length_append, List.length_map, List.length_map, List.length_take, List.length_drop]; show min _ _ + 1 + _ ≤ 1000; omega), fun p5 H5 s5 hp5 => ?_⟩
  refine q1 c1 p5 H5 ((((s1.trans s2).trans s3).trans s4).trans s5) ?_
  show H5 p5 = _
  have e : (i + 1).toNat = i.toNat + 1 := by omega
  rw [hp5, List.set_eq_take_append_cons_drop, if_pos (by omega), e, List.map_append, List.map_cons, List.append_assoc]
  rfl
/-! price_moved, weight_moved -/
def spPM (C CN : Addr) : Sp := fun vs H Q E => ∃ (p : Addr) (ns : List Int) (i n : Int), vs = [.ref p, .int i, .int n] ∧ TW H p ns ∧ ns.length ≤ 900 ∧ (¬ In i ns → E (.ref C) none H) ∧ (In i ns → am n = false → E (.ref CN) none H) ∧ (In i ns → am n = true → ∀ p' H', Same H H' → TW H' p' (ns.set i.toNat n) → Q (.ref p') H')
theorem scPM : FnScope ["prices", "letter", "number"] ["prices", "letter", "number"] (defScope sPM) := ⟨rfl, rfl, rfl, by decide +kernel, rfl, by decide +kernel, by decide +kernel⟩
theorem scWM : FnScope ["weights", "thing", "number"] ["weights", "thing", "number"] (defScope sWM) := ⟨rfl, rfl, rfl, by decide +kernel, rfl, by decide +kernel, by decide +kernel⟩
theorem ok_PM {C CN : Addr} (F : Fun K "price_moved" "price_moved" sPM f fd) (GR : Fns' P w K mg base ["prices", "letter"] "refuse_letter" (spRef C) 2) (GW : Fns' P w K mg base ["numbers", "at", "number"] "with_number" (spWN CN) 2) : FnOk P w K mg base (CXF P w) 3 f fd ["prices", "letter", "number"] (spPM C CN) := by
  refine F.okF (k := 2) scPM (fun vs H Q E h => ?_) (fun cdv A outer s H vs Q E hr h => ?_)
  · obtain ⟨p, ns, i, n, rfl, _⟩ := h
    rfl
  obtain ⟨p, ns, i, n, rfl, hp, l1, q1, q2, q3⟩ := h
  refine ⟨_, pss_cons (ps_expr (pe_call GR.ok hr (by rfl) GR.m GR.kp GR.b .nil takes_def (pa_cons (pv 0) (pa_cons (pv 1) pa_nil)))) (pss_one (ps_ret (pe_call GW.ok hr (by rfl) GW.m GW.kp GW.b .nil takes_def (pa_cons (pv 0) (pa_cons (pv 1) (pa_cons (pv 2) pa_nil)))))), ?_⟩
  exact ⟨_, rfl, _, rfl, p, ns, i, rfl, hp, fun hi => ⟨_, rfl, _, rfl, _, rfl, p, ns, i, n, rfl, hp, l1, hi, q3 hi, q2 hi⟩, q1⟩
theorem ok_WM {C CN : Addr} (F : Fun K "weight_moved" "weight_moved" sWM f fd) (GR : Fns' P w K mg base ["weights", "thing"] "refuse_thing" (spRef C) 2) (GW : Fns' P w K mg base ["numbers", "at", "number"] "with_number" (spWN CN) 2) : FnOk P w K mg base (CXF P w) 3 f fd ["weights", "thing", "number"] (spPM C CN) := by
  refine F.okF (k := 2) scWM (fun vs H Q E h => ?_) (fun cdv A outer s H vs Q E hr h => ?_)
  · obtain ⟨p, ns, i, n, rfl, _⟩ := h
    rfl
  obtain ⟨p, ns, i, n, rfl, hp, l1, q1, q2, q3⟩ := h
  refine ⟨_, pss_cons (ps_expr (pe_call GR.ok hr (by rfl) GR.m GR.kp GR.b .nil takes_def (pa_cons (pv 0) (pa_cons (pv 1) pa_nil)))) (pss_one (ps_ret (pe_call GW.ok hr (by rfl) GW.m GW.kp GW.b .nil takes_def (pa_cons (pv 0) (pa_cons (pv 1) (pa_cons (pv 2) pa_nil)))))), ?_⟩
  exact ⟨_, rfl, _, rfl, p, ns, i, rfl, hp, fun hi => ⟨_, rfl, _, rfl, _, rfl, p, ns, i, n, rfl, hp, l1, hi, q3 hi, q2 hi⟩, q1⟩
/-! _law_whole, of an int -/
def spWhole : Sp := fun vs H Q _ => ∃ i, vs = [.int i] ∧ Q (.bl true) H
theorem scWhole : FnScope ["found"] ["found"] (defScope sWhole) := ⟨rfl, rfl, rfl, by decide +kernel, rfl, by decide +kernel, by decide +kernel⟩
theorem ok_whole (F : Fun K "_law_whole" "_law_whole" sWhole f fd) (mi : mg "isinstance" = none) (m1 : mg "int" = none) (m2 : mg "bool" = none) : FnOk P w K mg base CX0 1 f fd ["found"] spWhole := by
  refine F.ok (k := 0) scWhole (fun vs H Q E h => ?_) (fun cdv A outer s H vs Q E hr h => ?_)
  · obtain ⟨i, rfl, _⟩ := h
    rfl
  obtain ⟨i, rfl, q⟩ := h
  refine ⟨_, pss_one (ps_ret (pe_and (pe_callB call_isi (by rfl) mi b_isi (pa_cons (pv 0) (pa_cons (pe_bltn (v := .ty "int") (by rfl) m1 b_int rfl) pa_nil)))
    (pe_one (pe_not (pe_callB call_isi (by rfl) mi b_isi (pa_cons (pv 0) (pa_cons (pe_bltn (v := .ty "bool") (by rfl) m2 b_bool rfl) pa_nil))))))), ?_⟩
  exact ⟨_, rfl, _, _, _, _, rfl, .int i, kit_int_int _, _, rfl, iteT ⟨_, rfl, _, _, _, _, rfl, .int i, kit_int_bool _, _, rfl, q⟩⟩
end
end K62
set_option Elab.async false
set_option linter.all false
set_option maxRecDepth 100000
namespace K62
open PySem L2
section
variable {P : Program} {w : World} {K : PySem.W.Frag} {mg : Str → Option Value} {base : Heap} {f : Addr} {fd : FuncData}
/-! _law_cell: some int, not below nought -/
def spCell (K : PySem.W.Frag) : Sp := fun vs H Q _ => ∃ (a : Addr) (ns : List Int) (k : Int), vs = [.ref a, .int k] ∧ SqL K H a (ns.map V.int) ∧ 0 ≤ k ∧ k ≤ 1000 ∧ ∀ i, 0 ≤ i → Q (.int i) H
theorem scCell : FnScope ["script", "k", "near"] ["script", "k"] (defScope sCell) := ⟨rfl, rfl, rfl, by decide +kernel, rfl, by decide +kernel, by decide +kernel⟩
theorem e60 : (0 : Int) < (10 : Int) ^ (60 : Int).toNat := by decide
theorem ok_cell (F : Fun K "_law_cell" "_law_cell" sCell f fd) (ml : mg "len" = none) : FnOk P w K mg base CX0 1 f fd ["script", "k"] (spCell K) := by
  refine F.ok (k := 0) scCell (fun vs H Q E h => ?_) (fun cdv A outer s H vs Q E hr h => ?_)
  · obtain ⟨a, ns, k, rfl, _⟩ := h
    rfl
  obtain ⟨a, ns, k, rfl, hS, h0, h1, q⟩ := h
  refine ⟨_, pss_cons (ps_if (pt_cmpR op_lt (pv 1) (pe_callB call_len_seq (by rfl) ml PySem.boot_len (pa_cons (pv 0) pa_nil)) (nomark _)) (pss_one (ps_ret (pe_op op_mod (pe_ix ix_list (pv 0) (pv 1) (fun _ _ => rfl)) (pe_op op_pow pe_int pe_int)))) pss_nil)
    (pss_cons (ps_set (i := 2) scCell.nd rfl (Or.inl rfl) pe_int)
    (pss_cons (ps_mid (ps_if (pt_cmpR op_gt (pe_callB call_len_seq (by rfl) ml PySem.boot_len (pa_cons (pv 0) pa_nil)) pe_int (nomark _)) (pss_one (ps_set (i := 2) scCell.nd rfl (Or.inl rfl) (pe_op op_mod (pe_ix ix_list (pv 0) pe_int (fun _ _ => rfl)) (pe_op op_pow pe_int pe_int)))) pss_nil))
    (pss_cons (ps_set (i := 2) scCell.nd rfl (Or.inl rfl) (pe_op op_mod (pe_op op_add (pe_op op_add (pv 2) (pe_op op_mul pe_int (pv 1))) pe_int) pe_int))
    (pss_cons (ps_set (i := 2) scCell.nd rfl (Or.inl rfl) (pe_op op_mod (pe_op op_mulB (pv 2) (pv 2)) pe_int))
    (pss_cons (ps_set (i := 2) scCell.nd rfl (Or.inl rfl) (pe_op op_mod (pe_op op_mul (pe_op op_add (pv 2) (pe_op op_mul pe_int (pv 1))) pe_int) pe_int))
    (pss_one (ps_ret (pe_op op_fdiv (pe_op op_mod (pe_op op_mulB (pv 2) (pv 2)) pe_int) pe_int)))))))), ?_⟩
  refine ⟨_, rfl, _, rfl, a, _, rfl, .inl hS, _, _, rfl, rfl, _, rfl, ?_⟩
  refine ite2 (fun c => ?_) (fun c => ?_)
  · have c1 : k < ((ns.map V.int).length : Int) := of_decide_eq_true c
    obtain ⟨n, rfl⟩ : ∃ n : Nat, k = n := ⟨k.toNat, by omega⟩
    have hn : n < ns.length := by rw [List.length_map] at c1; omega
    exact ⟨_, rfl, _, rfl, a, _, _, _, rfl, rfl, hS, at_int (List.getElem?_eq_getElem hn), _, _, rfl, rfl, ⟨by decide, by decide, by decide⟩, _, _, rfl, rfl, e60, q _ (Int.emod_nonneg _ (Int.ne_of_gt e60))⟩
  refine ⟨fun σ' H' => H' = H ∧ ∃ n : Int, σ' = [some (.ref a), some (.int k), some (.int n)], ?_, ?_⟩
  · refine ⟨_, rfl, a, _, rfl, .inl hS, _, _, rfl, rfl, _, rfl, ?_⟩
    refine ite2 (fun d => ?_) (fun d => ⟨rfl, _, rfl⟩)
    have d1 : ((ns.map V.int).length : Int) > 0 := of_decide_eq_true d
    have hn : 0 < ns.length := by rw [List.length_map] at d1; omega
    exact ⟨_, rfl, a, _, _, _, rfl, rfl, hS, at_int (k := 0) (List.getElem?_eq_getElem hn), _, _, rfl, rfl, ⟨by decide, by decide, by decide⟩, _, _, rfl, rfl, e60, rfl, _, rfl⟩
  rintro σ' H' ⟨rfl, n, rfl⟩
  refine ⟨_, rfl, _, rfl, _, _, rfl, rfl, .inl ⟨by decide, by decide⟩, _, _, rfl, rfl, _, _, rfl, rfl, _, _, rfl, rfl, (by show (0 : Int) < _; decide), ?_⟩
  dsimp only
  have n0 : 0 ≤ (n + 104729 * k + 17) % 618970019642690137449562111 := Int.emod_nonneg _ (by decide)
  have n1 : (n + 104729 * k + 17) % 618970019642690137449562111 < 618970019642690137449562111 := Int.emod_lt_of_pos _ (by decide)
  generalize (n + 104729 * k + 17) % 618970019642690137449562111 = n' at n0 n1 ⊢
  refine ⟨_, rfl, _, rfl, _, _, rfl, rfl, ⟨⟨n0, by unfold B30; omega⟩, ⟨n0, by unfold B30; omega⟩⟩, _, _, rfl, rfl, (by show (0 : Int) < _; decide), ?_⟩
  dsimp only
  generalize n' * n' % 618970019642690137449562111 = n2
  refine ⟨_, rfl, _, rfl, _, _, rfl, rfl, .inl ⟨by decide, by decide⟩, _, _, rfl, rfl, _, _, rfl, rfl, .inr ⟨by decide, by decide⟩, _, _, rfl, rfl, (by show (0 : Int) < _; decide), ?_⟩
  dsimp only
  have m0 : 0 ≤ (n2 + 7919 * k) * 48271 % 2305843009213693951 := Int.emod_nonneg _ (by decide)
  have m1 : (n2 + 7919 * k) * 48271 % 2305843009213693951 < 2305843009213693951 := Int.emod_lt_of_pos _ (by decide)
  generalize (n2 + 7919 * k) * 48271 % 2305843009213693951 = m at m0 m1 ⊢
  refine ⟨_, rfl, _, rfl, _, _, rfl, rfl, ⟨⟨m0, by unfold B30; omega⟩, ⟨m0, by unfold B30; omega⟩⟩, _, _, rfl, rfl, (by show (0 : Int) < _; decide), _, _, rfl, rfl, ⟨by decide, by decide⟩, q _ ?_⟩
  have z : 0 ≤ m * m % 2305843009213693951 := Int.emod_nonneg _ (by decide)
  omega
/-! _law_number: from 1 to 10 ** 30 -/
def spNumber : Sp := fun vs H Q _ => ∃ c i : Int, vs = [.int c, .int i] ∧ 0 ≤ i ∧ i < 4 ∧ ∀ v H', Same H H' → 1 ≤ v → v ≤ B30 → Q (.int v) H'
theorem scNumber : FnScope ["cell", "way"] ["cell", "way"] (defScope sNumber) := ⟨rfl, rfl, rfl, by decide +kernel, rfl, by decide +kernel, by decide +kernel⟩
theorem four {a b c d i : Int} (i0 : 0 ≤ i) (i1 : i < 4) (ha : 1 ≤ a ∧ a ≤ B30) (hb : 1 ≤ b ∧ b ≤ B30) (hc : 1 ≤ c ∧ c ≤ B30) (hd : 1 ≤ d ∧ d ≤ B30) : ∃ v, atI [V.int a, .int b, .int c, .int d] i = some (.int v) ∧ 1 ≤ v ∧ v ≤ B30 := by
  have h : i = 0 ∨ i = 1 ∨ i = 2 ∨ i = 3 := by omega
  rcases h with h | h | h | h <;> subst h
  · exact ⟨a, rfl, ha⟩
  · exact ⟨b, rfl, hb⟩
  · exact ⟨c, rfl, hc⟩
  · exact ⟨d, rfl, hd⟩
theorem ok_number (F : Fun K "_law_number" "_law_number" sNumber f fd) : FnOk P w K mg base CX0 1 f fd ["cell", "way"] spNumber := by
  refine F.ok (k := 0) scNumber (fun vs H Q E h => ?_) (fun cdv A outer s H vs Q E hr h => ?_)
  · obtain ⟨c, i, rfl, _⟩ := h
    rfl
  obtain ⟨c, i, rfl, i0, i1, q⟩ := h
  refine ⟨_, pss_one (ps_ret (pe_ix ix_list (pe_lst (pa_cons (pe_op op_add pe_int (pe_op op_mod (pv 0) (pe_op op_pow pe_int pe_int))) (pa_cons (pe_op op_add pe_int (pe_op op_mod (pv 0) pe_int)) (pa_cons (pe_op op_add pe_int (pe_op op_mod (pv 0) pe_int))
    (pa_cons (pe_op op_sub (pe_op op_pow pe_int pe_int) (pe_op op_mod (pv 0) pe_int)) pa_nil))))) (pv 1) (fun _ _ => rfl))), ?_⟩
  refine ⟨_, rfl, _, _, rfl, rfl, ⟨by decide, by decide, by decide⟩, _, _, rfl, rfl, (by show (0 : Int) < _; decide), _, _, rfl, rfl, ?_⟩
  refine ⟨_, rfl, _, _, rfl, rfl, (by show (0 : Int) < _; decide), _, _, rfl, rfl, ?_⟩
  refine ⟨_, rfl, _, _, rfl, rfl, (by show (0 : Int) < _; decide), _, _, rfl, rfl, ?_⟩
  refine ⟨_, _, rfl, rfl, ⟨by decide, by decide, by decide⟩, _, rfl, _, _, rfl, rfl, (by show (0 : Int) < _; decide), _, _, rfl, rfl, (by show 4 ≤ sizeLine; decide), fun l hl => ?_⟩
  have s1 := same_newO hl (.lst [.int (1 + c % 10 ^ (30 : Int).toNat), .int (1 + c % 3), .int (1 + c % 50), .int (10 ^ (30 : Int).toNat - c % 3)])
  obtain ⟨v, hv, v0, v1⟩ := four (a := 1 + c % 10 ^ (30 : Int).toNat) (b := 1 + c % 3) (c := 1 + c % 50) (d := 10 ^ (30 : Int).toNat - c % 3) i0 i1 (by rw [e30]; unfold B30; omega) (by unfold B30; omega) (by unfold B30; omega) (by rw [e30]; unfold B30; omega)
  exact ⟨_, rfl, l, _, _, _, rfl, rfl, SqL.of upd_same, hv, q v _ s1 v0 v1⟩
/-! _law_numbers: as many as asked, from 1 to 10 ** 30 -/
abbrev NN : List Str := ["script", "at", "many", "way", "numbers", "k", "cell"]
def Bd (ns : List Int) : Prop := ∀ x ∈ ns, 1 ≤ x ∧ x ≤ B30
def spNumbers (K : PySem.W.Frag) : Sp := fun vs H Q _ => ∃ (a : Addr) (ns : List Int) (i m y : Int), vs = [.ref a, .int i, .int m, .int y] ∧ SqL K H a (ns.map V.int) ∧ 0 ≤ i ∧ i ≤ 100 ∧ 1 ≤ m ∧ m ≤ 100 ∧ 0 ≤ y ∧ y < 6 ∧ ∀ p H' ms, Same H H' → TW H' p ms → (ms.length : Int) = m → Bd ms → Q (.ref p) H'
theorem scNumbers : FnScope NN ["script", "at", "many", "way"] (defScope sNumbers) := ⟨rfl, rfl, rfl, by decide +kernel, rfl, by decide +kernel, by decide +kernel⟩
theorem ok_numbers (F : Fun K "_law_numbers" "_law_numbers" sNumbers f fd) (GC : Fns P w K mg base ["script", "k"] "_law_cell" (spCell K) 1) (GN : Fns P w K mg base ["cell", "way"] "_law_number" spNumber 1) (mr : mg "range" = none) (mt : mg "tuple" = none) : FnOk P w K mg base CX0 2 f fd ["script", "at", "many", "way"] (spNumbers K) := by
  refine F.ok (k := 1) scNumbers (fun vs H Q E h => ?_) (fun cdv A outer s H vs Q E hr h => ?_)
  · obtain ⟨a, ns, i, m, y, rfl, _⟩ := h
    rfl
  obtain ⟨a, ns, i, m, y, rfl, hS, i0, i1, m0, m1, y0, y1, q⟩ := h
  refine ⟨_, pss_cons (ps_set (i := 4) scNumbers.nd rfl (Or.inl rfl) (pe_lst pa_nil))
    (pss_cons (ps_for PassesOwn.never rfl (pi_range1 (by rfl) mr (pa_cons (pv 2) pa_nil)) (pg_name (i := 5) scNumbers.nd rfl (Or.inl rfl))
      (pss_cons (ps_set (i := 6) scNumbers.nd rfl (Or.inl rfl) (pe_call GC.ok hr (by rfl) GC.m GC.kp GC.b .nil pass0 (pa_cons (pv 0) (pa_cons (pe_op op_add (pv 1) (pv 5)) pa_nil))))
      (pss_one (ps_if (pt_cmpR op_lt (pv 3) pe_int (nomark _))
        (pss_one (ps_expr (pe_bm PySem.F.plainAttrs_list PySem.F.slot_list_append PySem.F.type_list_append mt_append (pv 4) (pa_cons (pe_call GN.ok hr (by rfl) GN.m GN.kp GN.b .nil pass0 (pa_cons (pv 6) (pa_cons (pv 3) pa_nil))) pa_nil))))
        (pss_one (ps_expr (pe_bm PySem.F.plainAttrs_list PySem.F.slot_list_append PySem.F.type_list_append mt_append (pv 4) (pa_cons (pe_call GN.ok hr (by rfl) GN.m GN.kp GN.b .nil pass0 (pa_cons (pe_op op_fdiv (pv 6) pe_int) (pa_cons (pe_op op_mod (pv 6) pe_int) pa_nil))) pa_nil))))))))
    (pss_cons (ps_mid (ps_if (pt_cmpR op_eq (pv 3) pe_int (nomark _)) (pss_one (ps_set (i := 4) scNumbers.nd rfl (Or.inl rfl) (pe_op op_rep (pe_lst (pa_cons (pe_ix ix_list (pv 4) pe_int (fun _ _ => rfl)) pa_nil)) (pv 2)))) pss_nil))
    (pss_one (ps_ret (pe_callTy call_tuple_of (by rfl) mt b_tuple (pa_cons (pv 4) pa_nil)))))), ?_⟩
  refine ⟨(by show 0 ≤ sizeLine; decide), fun l hl => ?_⟩
  have s0 := same_newO hl (.lst [])
  refine ⟨_, rfl, m, rfl, by omega, by omega, ?_⟩
  refine for_range (fun j σ H' => ∃ (ms : List Int) (x5 x6 : Option V), ms.length = j ∧ σ = [some (.ref a), some (.int i), some (.int m), some (.int y), some (.ref l), x5, x6] ∧ H' l = some (.lst (ms.map V.int)) ∧ Same H H' ∧ Bd ms) ⟨[], none, none, rfl, rfl, upd_same, s0, by intro x hx; cases hx⟩ (fun j σ H1 hj hP => ?_) (fun σ H1 hP => ?_)
  · obtain ⟨ms, x5, x6, lm, rfl, hm, sm, bm⟩ := hP
    have e0 : (0 : Int) + (j : Int) = ((j : Nat) : Int) := by omega
    rw [e0]
    refine ⟨_, rfl, _, rfl, _, rfl, _, _, rfl, rfl, a, ns, i + (j : Int), rfl, sm.seq hS, by omega, by omega, fun c c0 => ?_⟩
    refine ⟨_, rfl, _, _, rfl, rfl, _, rfl, ?_⟩
    have fin : ∀ (v : Int) (H2 : Hp), Same H1 H2 → 1 ≤ v → v ≤ B30 → ∃ l' xs v', V.ref l = .ref l' ∧ [V.int v] = [v'] ∧ H2 l' = some (.lst xs) ∧ xs.length < sizeLine ∧ ∃ (ms : List Int) (x5 x6 : Option V), ms.length = j + 1 ∧ ([some (.ref a), some (.int i), some (.int m), some (.int y), some (.ref l), some (.int (j : Int)), some (.int c)] : St) = [some (.ref a), some (.int i), some (.int m), some (.int y), some (.ref l), x5, x6] ∧ upd H2 l' (.lst (xs ++ [v'])) l = some (.lst (ms.map V.int)) ∧ Same H (upd H2 l' (.lst (xs ++ [v']))) ∧ Bd ms := fun v H2 s2 v0 v1 => by
      refine ⟨l, _, _, rfl, rfl, s2 _ _ hm, small1000 (by rw [List.length_map]; omega), ms ++ [v], _, _, by rw [List.length_append, lm]; rfl, rfl, by rw [upd_same, List.map_append]; rfl, same_upd hl (sm.trans s2), fun x hx => ?_⟩
      rcases List.mem_append.mp hx with z | z
      · exact bm x z
      · rw [List.mem_singleton.mp z]; exact ⟨v0, v1⟩
    refine ite2 (fun d => ?_) (fun d => ?_)
    · have d1 : y < 4 := of_decide_eq_true d
      exact ⟨_, rfl, .inl ⟨rfl, _, SqL.of hm⟩, _, rfl, _, rfl, c, y, rfl, y0, d1, fin⟩
    · exact ⟨_, rfl, .inl ⟨rfl, _, SqL.of hm⟩, _, rfl, _, _, rfl, rfl, ⟨by decide, by decide⟩, _, rfl, _, _, rfl, rfl, (by show (0 : Int) < _; decide), c / 4, c % 4, rfl, by omega, by omega, fin⟩
  · obtain ⟨ms, x5, x6, lm, rfl, hm, sm, bm⟩ := hP
    refine ⟨fun σ' H' => ∃ (l' : Addr) (ms : List Int), σ' = [some (.ref a), some (.int i), some (.int m), some (.int y), some (.ref l'), x5, x6] ∧ (ms.length : Int) = m ∧ H' l' = some (.lst (ms.map V.int)) ∧ Same H H' ∧ Bd ms, ?_, ?_⟩
    · refine ⟨_, rfl, rfl, _, rfl, ?_⟩
      refine ite2 (fun d => ?_) (fun d => ⟨l, ms, rfl, by omega, hm, sm, bm⟩)
      have l0 : 0 < ms.length := by omega
      refine ⟨_, rfl, l, _, _, _, rfl, rfl, SqL.of hm, at_int (k := 0) (List.getElem?_eq_getElem l0), (by show 1 ≤ sizeLine; decide), fun p1 hp1 => ?_⟩
      have s1 := same_newO hp1 (.lst [.int ms[0]])
      refine ⟨_, rfl, p1, m, _, rfl, rfl, upd_same, by omega, by omega, small (by show 1 * m.toNat ≤ 1000; omega), fun p2 hp2 => ?_⟩
      have s2 := same_newO hp2 (.lst (List.replicate m.toNat [V.int ms[0]]).flatten)
      refine ⟨p2, List.replicate m.toNat ms[0], rfl, by rw [List.length_replicate]; omega, ?_, (sm.trans s1).trans s2, fun x hx => ?_⟩
      · rw [upd_same, List.flatten_replicate_singleton, List.map_replicate]
      · rw [List.eq_of_mem_replicate hx]; exact bm _ (List.getElem_mem l0)
    · rintro σ' H' ⟨l', ms', rfl, lm', hm', sm', bm'⟩
      exact ⟨_, rfl, l', _, rfl, .inl ⟨SqL.of hm', fun t ht => q t _ ms' (sm'.trans (same_newO ht _)) upd_same lm' bm'⟩⟩
end
end K62
set_option Elab.async false
set_option linter.all false
set_option maxRecDepth 100000
namespace K62
open PySem L2
section
variable {P : Program} {w : World} {K : PySem.W.Frag} {mg : Str → Option Value} {base : Heap} {f : Addr} {fd : FuncData}
/-! has_letters_alone -/
def al (m x : Int) : Bool := decide (0 ≤ x) && decide (x < m)
def alone (m : Int) (ns : List Int) : Bool := (ns.map (al m)).all id
def spAlone : Sp := fun vs H Q _ => ∃ (x : V) (ns : List Int) (m : Int), vs = [x, .int m] ∧ Wd H x ns ∧ ns.length ≤ 1000 ∧ ∀ H', Same H H' → Q (.bl (alone m ns)) H'
theorem scAlone : FnScope ["word", "letters"] ["word", "letters"] (defScope sAlone) := ⟨rfl, rfl, rfl, by decide +kernel, rfl, by decide +kernel, by decide +kernel⟩
theorem ndA : (("letter" : Str) :: ["word", "letters"]).Nodup := by decide +kernel
theorem ok_alone (F : Fun K "has_letters_alone" "has_letters_alone" sAlone f fd) (ma : mg "all" = none) : FnOk P w K mg base CX0 1 f fd ["word", "letters"] spAlone := by
  refine F.ok (k := 0) scAlone (fun vs H Q E h => ?_) (fun cdv A outer s H vs Q E hr h => ?_)
  · obtain ⟨x, ns, m, rfl, _⟩ := h
    rfl
  obtain ⟨x, ns, m, rfl, hx, hl, q⟩ := h
  obtain ⟨a, rfl, ha⟩ := hx.ti
  refine ⟨_, pss_one (ps_ret (pe_callB (call_all rfl) (by rfl) ma b_all (pa_cons (pe_compT (M := ["word", "letters"]) rfl (CompScope.of (defScope sAlone) ["word", "letters"] rfl rfl rfl (by decide +kernel) (by decide +kernel) (by decide +kernel) rfl (by decide +kernel)) ndA rfl (pv 0) mo_var
    (fun cl C s0 H0 fp => ⟨pts_nil, pe_chain op_le op_lt pe_int (pv 0) (pv 2)⟩)) pa_nil))), ?_⟩
  refine ⟨_, rfl, a, _, rfl, SqT.of ha, fun d hd => ?_⟩
  refine ⟨fun k H' => Same H H' ∧ H' d = some (.lst (((ns.take k).map (al m)).map V.bl)), ⟨same_newO hd _, upd_same⟩, fun k H' _ hP => SqT.of (hP.1 _ _ ha), fun k x H' hx hP => ?_, fun H' hP => ?_⟩
  · obtain ⟨sm, hd'⟩ := hP
    rw [List.getElem?_map] at hx
    cases hz : ns[k]? with
    | none => rw [hz] at hx; cases hx
    | some z =>
      rw [hz] at hx; cases hx
      have hk := (List.getElem?_eq_some_iff.mp hz).1
      have fin : ∀ b, b = al m z → ∃ ys, H' d = some (.lst ys) ∧ ys.length < sizeLine ∧ (Same H (upd H' d (.lst (ys ++ [.bl b]))) ∧ upd H' d (.lst (ys ++ [.bl b])) d = some (.lst (((ns.take (k + 1)).map (al m)).map V.bl))) := fun b eb => by
        refine ⟨_, hd', ?_, same_upd hd sm, ?_⟩
        · rw [List.length_map, List.length_map, List.length_take]; exact small1000 (by omega)
        · rw [upd_same, List.take_add_one, hz, List.map_append, List.map_append, eb]; rfl
      refine turn_all ⟨_, rfl, _, _, rfl, rfl, _, rfl, ?_⟩
      refine ite2 (fun c => ?_) (fun c => ?_)
      · refine ⟨_, rfl, _, _, rfl, rfl, ?_⟩
        exact fin _ (by unfold al; rw [c]; rfl)
      · exact fin _ (by unfold al; rw [Bool.eq_false_iff.mpr c]; rfl)
  · obtain ⟨sm, hd'⟩ := hP
    rw [List.length_map, List.take_length] at hd'
    exact ⟨d, _, rfl, hd', q H' sm⟩
theorem alone_of {m : Int} {ns : List Int} (h : alone m ns = true) : ∀ x ∈ ns, 0 ≤ x ∧ x < m := fun x hx => by
  have q := List.all_eq_true.mp h (al m x) (List.mem_map_of_mem hx)
  unfold al at q
  simp only [id, Bool.and_eq_true, decide_eq_true_eq] at q
  exact q
theorem alone_iff {m : Int} {ns : List Int} : alone m ns = true ↔ ∀ x ∈ ns, 0 ≤ x ∧ x < m := by
  refine ⟨alone_of, fun h => ?_⟩
  unfold alone
  rw [List.all_eq_true]
  intro b hb
  obtain ⟨x, hx, rfl⟩ := List.mem_map.mp hb
  obtain ⟨h1, h2⟩ := h x hx
  unfold al
  simp [h1, h2]
/-! word_price -/
def prc (ps ns : List Int) : Int := (ns.map fun x => ps.getD x.toNat 0).sum
def spPrice (CB : Addr) : Sp := fun vs H Q E => ∃ (x y : V) (ps ns : List Int), vs = [x, y] ∧ Wd H x ps ∧ Wd H y ns ∧ ns.length ≤ 1000 ∧ (alone (ps.length : Int) ns = true → ∀ H', Same H H' → Q (.int (prc ps ns)) H') ∧ (alone (ps.length : Int) ns = false → ∀ H', Same H H' → E (.ref CB) none H')
theorem scPrice : FnScope ["prices", "word"] ["prices", "word"] (defScope sPrice) := ⟨rfl, rfl, rfl, by decide +kernel, rfl, by decide +kernel, by decide +kernel⟩
theorem ndP : (("letter" : Str) :: ["prices", "word"]).Nodup := by decide +kernel
theorem ok_price {CB : Addr} (F : Fun K "word_price" "word_price" sPrice f fd) (G : Fns P w K mg base ["word", "letters"] "has_letters_alone" spAlone 1) (ml : mg "len" = none) (ms : mg "sum" = none) (mB : mg "BadWord" = some (.ref CB)) (eB : Ecl K CB) :
    FnOk P w K mg base (CXF P w) 2 f fd ["prices", "word"] (spPrice CB) := by
  refine F.okF (k := 1) scPrice (fun vs H Q E h => ?_) (fun cdv A outer s H vs Q E hr h => ?_)
  · obtain ⟨x, y, ps, ns, rfl, _⟩ := h
    rfl
  obtain ⟨x, y, ps, ns, rfl, hx, hy, hl, q1, q2⟩ := h
  obtain ⟨p, rfl, hp⟩ := hx.ti
  obtain ⟨a, rfl, ha⟩ := hy.ti
  refine ⟨_, pss_cons (ps_if (pt_not (pt_val (pe_call G.ok hr (by rfl) G.m G.kp G.b .nil pass0 (pa_cons (pv 1) (pa_cons (pe_callB call_len_seq (by rfl) ml PySem.boot_len (pa_cons (pv 0) pa_nil)) pa_nil))))) (pss_one (ps_raise takes_def rfl (by rfl) mB eB (pa_cons pe_str pa_nil))) pss_nil)
    (pss_one (ps_ret (pe_callB (call_sum rfl) (by rfl) ms b_sum (pa_cons (pe_compT (M := ["prices", "word"]) rfl (CompScope.of (defScope sPrice) ["prices", "word"] rfl rfl rfl (by decide +kernel) (by decide +kernel) (by decide +kernel) rfl (by decide +kernel)) ndP rfl (pv 1) mo_var
      (fun cl C s0 H0 fp => ⟨pts_nil, pe_ix (ixT K) (pv 1) (pv 0) (fun _ _ => rfl)⟩)) pa_nil)))), ?_⟩
  refine ⟨_, rfl, _, rfl, p, _, rfl, .inr (SqT.of hp), .ref a, ns, _, rfl, Wd.of ha, hl, fun H1 s1 => ?_⟩
  rw [List.length_map]
  refine ⟨_, rfl, ?_⟩
  refine ite2 (fun c => ?_) (fun c => ?_)
  · have c1 : alone (ps.length : Int) ns = false := by
      cases hb : alone (ps.length : Int) ns with
      | false => rfl
      | true => rw [hb] at c; cases c
    exact ⟨by decide, q2 c1 H1 s1⟩
  have c1 : alone (ps.length : Int) ns = true := by
    cases hb : alone (ps.length : Int) ns with
    | true => rfl
    | false => rw [hb] at c; exact absurd rfl c
  have hn := alone_of c1
  refine ⟨_, rfl, a, _, rfl, SqT.of (s1 _ _ ha), fun d hd => ?_⟩
  refine ⟨fun k H' => Same H1 H' ∧ H' d = some (.lst (((ns.take k).map fun x => ps.getD x.toNat 0).map V.int)), ⟨same_newO hd _, upd_same⟩, fun k H' _ hP => SqT.of (hP.1 _ _ (s1 _ _ ha)), fun k x H' hx hP => ?_, fun H' hP => ?_⟩
  · obtain ⟨sm, hd'⟩ := hP
    rw [List.getElem?_map] at hx
    cases hz : ns[k]? with
    | none => rw [hz] at hx; cases hx
    | some z =>
      rw [hz] at hx; cases hx
      have hk := (List.getElem?_eq_some_iff.mp hz).1
      obtain ⟨z0, z1⟩ := hn z (List.mem_of_getElem? hz)
      obtain ⟨n, rfl⟩ : ∃ n : Nat, z = n := ⟨z.toNat, by omega⟩
      have hn' : n < ps.length := by omega
      refine turn_all ⟨_, rfl, _, rfl, p, _, _, _, rfl, rfl, SqT.of (sm _ _ (s1 _ _ hp)), at_int (List.getElem?_eq_getElem hn'), _, hd', ?_, same_upd hd sm, ?_⟩
      · rw [List.length_map, List.length_map, List.length_take]; exact small1000 (by omega)
      · rw [upd_same, List.take_add_one, hz, List.map_append, List.map_append]
        simp [List.getD_eq_getElem?_getD, List.getElem?_eq_getElem hn']
  · obtain ⟨sm, hd'⟩ := hP
    rw [List.length_map, List.take_length] at hd'
    exact ⟨d, _, rfl, hd', q1 c1 H' (s1.trans sm)⟩
end
theorem prc_bd {ps : List Int} (hp : ∀ x ∈ ps, 0 ≤ x ∧ x ≤ B30) : ∀ ns : List Int, 0 ≤ prc ps ns ∧ prc ps ns ≤ (ns.length : Int) * B30
  | [] => ⟨by show (0 : Int) ≤ 0; decide, by show (0 : Int) ≤ 0 * B30; decide⟩
  | n :: ns => by
    obtain ⟨h1, h2⟩ := prc_bd hp ns
    have e : prc ps (n :: ns) = ps.getD n.toNat 0 + prc ps ns := by unfold prc; simp
    have b : 0 ≤ ps.getD n.toNat 0 ∧ ps.getD n.toNat 0 ≤ B30 := by
      rw [List.getD_eq_getElem?_getD]
      cases hz : ps[n.toNat]? with
      | none => exact ⟨by decide, by decide⟩
      | some z => exact hp z (List.mem_of_getElem? hz)
    rw [e]
    have e2 : ((n :: ns).length : Int) * B30 = (ns.length : Int) * B30 + B30 := by
      rw [List.length_cons]
      push_cast
      rw [Int.add_mul]
      simp
    omega
def cst (ps ws : List Int) (nss : List (List Int)) : Int := (List.zipWith (fun x ns => x * prc ps ns) ws nss).sum
section
variable {P : Program} {w : World} {K : PySem.W.Frag} {mg : Str → Option Value} {base : Heap} {f : Addr} {fd : FuncData}
/-! cost -/
def Bd0 (ns : List Int) : Prop := ∀ x ∈ ns, 0 ≤ x ∧ x ≤ B30
def spCost (CU CB : Addr) : Sp := fun vs H Q E => ∃ (p wa c : Addr) (ps ws : List Int) (xs : List V) (nss : List (List Int)), vs = [.ref p, .ref wa, .ref c] ∧ TW H p ps ∧ TW H wa ws ∧ H c = some (.tup xs) ∧ Ws H xs nss ∧ nss.length ≤ 100 ∧ (∀ ns ∈ nss, ns.length ≤ 1000) ∧ Bd0 ps ∧ Bd0 ws ∧
  (nss.length ≠ ws.length → ∀ H', Same H H' → E (.ref CU) none H') ∧ (nss.length = ws.length → (∀ ns ∈ nss, alone (ps.length : Int) ns = true) → ∀ H', Same H H' → Q (.int (cst ps ws nss)) H') ∧
  (nss.length = ws.length → (∃ ns ∈ nss, alone (ps.length : Int) ns = false) → ∀ H', Same H H' → E (.ref CB) none H')
abbrev NC : List Str := ["prices", "weights", "code"]
theorem scCost : FnScope NC NC (defScope sCost) := ⟨rfl, rfl, rfl, by decide +kernel, rfl, by decide +kernel, by decide +kernel⟩
theorem ndC : (("weight" : Str) :: "word" :: NC).Nodup := by decide +kernel
theorem zip_at {ps ws : List Int} {nss : List (List Int)} {i : Nat} {x : Int} {ns : List Int} (h1 : ws[i]? = some x) (h2 : nss[i]? = some ns) : (List.zipWith (fun x ns => x * prc ps ns) ws nss)[i]? = some (x * prc ps ns) := by
  rw [List.getElem?_zipWith, h1, h2]
set_option maxHeartbeats 2000000 in
theorem ok_cost {CU CB : Addr} (F : Fun K "cost" "cost" sCost f fd) (G : Fns' P w K mg base ["prices", "word"] "word_price" (spPrice CB) 2) (ml : mg "len" = none) (ms : mg "sum" = none) (mz : mg "zip" = none) (mU : mg "Unlike" = some (.ref CU)) (eU : Ecl K CU) :
    FnOk P w K mg base (CXF P w) 3 f fd NC (spCost CU CB) := by
  refine F.okF (k := 2) scCost (fun vs H Q E h => ?_) (fun cdv A outer s H vs Q E hr h => ?_)
  · obtain ⟨p, wa, c, ps, ws, xs, nss, rfl, _⟩ := h
    rfl
  obtain ⟨p, wa, c, ps, ws, xs, nss, rfl, hp, hw, hc, hx, l1, l2, bp, bw, q1, q2, q3⟩ := h
  have lx : xs.length = nss.length := hx.length
  refine ⟨_, pss_cons (ps_if (pt_cmpR op_ne (pe_callB call_len_seq (by rfl) ml PySem.boot_len (pa_cons (pv 2) pa_nil)) (pe_callB call_len_seq (by rfl) ml PySem.boot_len (pa_cons (pv 1) pa_nil)) (nomark _)) (pss_one (ps_raise takes_def rfl (by rfl) mU eU (pa_cons pe_str pa_nil))) pss_nil)
    (pss_one (ps_ret (pe_callB (call_sum rfl) (by rfl) ms b_sum (pa_cons (pe_compZ K true true (M := NC) rfl (CompScope.of (defScope sCost) NC rfl rfl rfl (by decide +kernel) (by decide +kernel) (by decide +kernel) rfl (by decide +kernel)) ndC rfl rfl (by rfl) mz (pa_cons (pv 1) (pa_cons (pv 2) pa_nil)) (mo_cons mo_var (mo_cons mo_var mo_nil))
      (fun cl C s0 H0 fp pins σ bk => ⟨pts_nil, pe_op op_mulB (pv 0) (pe_call G.ok hr (by rfl) G.m G.kp G.b .nil (passes_comp bk ⟨rfl, rfl⟩ takes_defI) (pa_cons (pv 2) (pa_cons (pv 1) pa_nil)))⟩)) pa_nil)))), ?_⟩
  refine ⟨_, rfl, c, _, rfl, .inr (SqT.of hc), _, rfl, wa, _, rfl, .inr (SqT.of hw), rfl, _, rfl, ?_⟩
  rw [List.length_map, lx]
  refine ite2 (fun b => ?_) (fun b => ?_)
  · refine ⟨by decide, q1 (fun z => ?_) H (Same.refl _)⟩
    rw [z] at b
    simp at b
  have el : nss.length = ws.length := by
    by_cases z : nss.length = ws.length
    · exact z
    · refine absurd ?_ b
      rw [Bool.not_eq_true', decide_eq_false_iff_not]
      intro y
      have := V.int.inj y
      omega
  refine ⟨_, rfl, _, rfl, wa, c, _, _, rfl, SqT.of hw, SqT.of hc, by rw [List.length_map]; omega, fun d hd => ?_⟩
  refine ⟨fun i H' => Same H H' ∧ H' d = some (.lst (((List.zipWith (fun x ns => x * prc ps ns) ws nss).take i).map V.int)) ∧ ∀ j, j < i → ∀ ns, nss[j]? = some ns → alone (ps.length : Int) ns = true, ⟨same_newO hd _, upd_same, fun j hj => absurd hj (by omega)⟩,
    fun i H' _ hP => ⟨SqT.of (hP.1 _ _ hw), SqT.of (hP.1 _ _ hc)⟩, fun i x y pp H' hx' hy' hP hpp => ?_, fun H' hP => ?_⟩
  · obtain ⟨sm, hd', al⟩ := hP
    rw [List.getElem?_map] at hx'
    cases hz : ws[i]? with
    | none => rw [hz] at hx'; cases hx'
    | some wt =>
    rw [hz] at hx'; cases hx'
    obtain ⟨ns, hn, ry⟩ := Paired.right_of hx i y hy'
    have iw := (List.getElem?_eq_some_iff.mp hz).1
    have s2 := same_newO hpp (.tup [.int wt, y])
    have dn : d ≠ pp := ne_of_none hd' hpp
    refine turnZ_all ⟨_, rfl, _, rfl, _, rfl, .ref p, y, ps, ns, rfl, Wd.of (s2 _ _ (sm _ _ hp)), Wd.same (sm.trans s2) ry, l2 ns (List.mem_of_getElem? hn), fun ok H3 s3 => ?_, fun bad H3 s3 => ?_⟩
    · obtain ⟨b1, b2⟩ := prc_bd bp ns
      obtain ⟨b3, b4⟩ := bw wt (List.mem_of_getElem? hz)
      have b5 : (ns.length : Int) ≤ 1000 := by have := l2 ns (List.mem_of_getElem? hn); omega
      have b6 : (ns.length : Int) * B30 ≤ 1000 * B30 := Int.mul_le_mul_of_nonneg_right b5 (by decide)
      refine ⟨_, _, rfl, rfl, ⟨⟨b3, by unfold B30 at *; omega⟩, ⟨b1, by unfold B30 at *; omega⟩⟩, _, s3 _ _ (s2 _ _ hd'), ?_, same_upd hd ((sm.trans s2).trans s3), ?_, fun j hj ms hm => ?_⟩
      · rw [List.length_map, List.length_take, List.length_zipWith]; exact small1000 (by omega)
      · rw [upd_same, List.take_add_one, zip_at hz hn, List.map_append]; rfl
      · rcases Nat.lt_succ_iff_lt_or_eq.mp hj with z | z
        · exact al j z ms hm
        · rw [z, hn] at hm; cases hm; exact ok
    · exact q3 el ⟨ns, List.mem_of_getElem? hn, bad⟩ H3 ((sm.trans s2).trans s3)
  · obtain ⟨sm, hd', al⟩ := hP
    rw [List.length_map] at hd' al
    rw [List.take_of_length_le (by rw [List.length_zipWith]; omega)] at hd'
    refine ⟨d, _, rfl, hd', q2 el (fun ns hns => ?_) H' sm⟩
    obtain ⟨j, hj⟩ := List.mem_iff_getElem?.mp hns
    exact al j (by have := (List.getElem?_eq_some_iff.mp hj).1; omega) ns hj
end
end K62
set_option Elab.async false
set_option linter.all false
set_option maxRecDepth 100000
namespace K62
open PySem L2
/-! ### what is told: pure -/
def shr (ws : List Int) (nss : List (List Int)) (i : Int) : Int := (List.zipWith (fun x ns => x * ((List.count i ns : Nat) : Int)) ws nss).sum
inductive Oc
  | un
  | wd
  | th
  | told (v : Int)
def allA (ps : List Int) (nss : List (List Int)) : Bool := nss.all fun ns => alone (ps.length : Int) ns
def inB (i : Int) (ns : List Int) : Bool := decide (0 ≤ i) && decide (i < (ns.length : Int))
theorem inB_iff {i : Int} {ns : List Int} : inB i ns = true ↔ In i ns := by
  unfold inB In
  rw [Bool.and_eq_true, decide_eq_true_eq, decide_eq_true_eq]
def oc (wh : Nat) (ps ws : List Int) (nss : List (List Int)) (i : Int) : Oc :=
  if nss.length = ws.length then
    if allA ps nss = true then
      if wh = 0 then (if inB i ps = true then .told (shr ws nss i) else .wd)
      else (if inB i ws = true then .told (prc ps (nss.getD i.toNat [])) else .th)
    else .wd
  else .un
theorem oc_un {wh : Nat} {ps ws : List Int} {nss : List (List Int)} {i : Int} (h : nss.length ≠ ws.length) : oc wh ps ws nss i = .un := if_neg h
theorem oc_bad {wh : Nat} {ps ws : List Int} {nss : List (List Int)} {i : Int} (h : nss.length = ws.length) (h2 : ∃ ns ∈ nss, alone (ps.length : Int) ns = false) : oc wh ps ws nss i = .wd := by
  unfold oc
  rw [if_pos h, if_neg]
  intro z
  obtain ⟨ns, hn, e⟩ := h2
  have := List.all_eq_true.mp z ns hn
  rw [e] at this
  cases this
theorem oc_good {wh : Nat} {ps ws : List Int} {nss : List (List Int)} {i : Int} (h : nss.length = ws.length) (h2 : ∀ ns ∈ nss, alone (ps.length : Int) ns = true) : oc wh ps ws nss i = if wh = 0 then (if inB i ps = true then .told (shr ws nss i) else .wd) else (if inB i ws = true then .told (prc ps (nss.getD i.toNat [])) else .th) := by
  unfold oc
  rw [if_pos h, if_pos (show allA ps nss = true from List.all_eq_true.mpr h2)]
/-- a code and its numbers -/
structure Cd (H : Hp) (p wa c : Addr) (ps ws : List Int) (nss : List (List Int)) : Prop where
  hp : TW H p ps
  hw : TW H wa ws
  hc : ∃ xs, H c = some (.tup xs) ∧ Ws H xs nss
  l1 : nss.length ≤ 100
  l2 : ∀ ns ∈ nss, ns.length ≤ 1000
  bp : Bd0 ps
  bw : Bd0 ws
theorem Cd.same {H H' : Hp} {p wa c : Addr} {ps ws : List Int} {nss : List (List Int)} (x : Cd H p wa c ps ws nss) (s : Same H H') : Cd H' p wa c ps ws nss := by
  obtain ⟨xs, h1, h2⟩ := x.hc
  exact ⟨s _ _ x.hp, s _ _ x.hw, ⟨xs, s _ _ h1, Ws.same s h2⟩, x.l1, x.l2, x.bp, x.bw⟩
def Out (CU CB CT : Addr) (H : Hp) (Q : VK) (E : Value → Option Addr → Hp → Prop) : Oc → Prop
  | .un => ∀ H', Same H H' → E (.ref CU) none H'
  | .wd => ∀ H', Same H H' → E (.ref CB) none H'
  | .th => ∀ H', Same H H' → E (.ref CT) none H'
  | .told v => ∀ H', Same H H' → Q (.int v) H'
section
variable {P : Program} {w : World} {K : PySem.W.Frag} {mg : Str → Option Value} {base : Heap} {f : Addr} {fd : FuncData}
/-! price_share, weight_share -/
def spSh (wh : Nat) (CU CB CT : Addr) : Sp := fun vs H Q E => ∃ (p wa c : Addr) (ps ws : List Int) (nss : List (List Int)) (i : Int), vs = [.ref p, .ref wa, .ref c, .int i] ∧ Cd H p wa c ps ws nss ∧ Out CU CB CT H Q E (oc wh ps ws nss i)
abbrev NPS : List Str := ["prices", "weights", "code", "letter"]
abbrev NWS : List Str := ["prices", "weights", "code", "thing"]
theorem scPS : FnScope NPS NPS (defScope sPS) := ⟨rfl, rfl, rfl, by decide +kernel, rfl, by decide +kernel, by decide +kernel⟩
theorem scWS : FnScope NWS NWS (defScope sWS) := ⟨rfl, rfl, rfl, by decide +kernel, rfl, by decide +kernel, by decide +kernel⟩
theorem ndPS : (("weight" : Str) :: "word" :: NPS).Nodup := by decide +kernel
theorem zip_at2 {ws : List Int} {nss : List (List Int)} {i : Nat} {x j : Int} {ns : List Int} (h1 : ws[i]? = some x) (h2 : nss[i]? = some ns) : (List.zipWith (fun x ns => x * ((List.count j ns : Nat) : Int)) ws nss)[i]? = some (x * ((List.count j ns : Nat) : Int)) := by
  rw [List.getElem?_zipWith, h1, h2]
set_option maxHeartbeats 4000000 in
theorem ok_ps {CU CB CT : Addr} (F : Fun K "price_share" "price_share" sPS f fd) (GC : Fns' P w K mg base NC "cost" (spCost CU CB) 3) (GR : Fns' P w K mg base ["prices", "letter"] "refuse_letter" (spRef CB) 3) (ms : mg "sum" = none) (mz : mg "zip" = none) : FnOk P w K mg base (CXF P w) 4 f fd NPS (spSh 0 CU CB CT) := by
  refine F.okF (k := 3) scPS (fun vs H Q E h => ?_) (fun cdv A outer s H vs Q E hr h => ?_)
  · obtain ⟨p, wa, c, ps, ws, nss, i, rfl, _⟩ := h
    rfl
  obtain ⟨p, wa, c, ps, ws, nss, i, rfl, cd, out⟩ := h
  obtain ⟨hp, hw, ⟨xs, hc, hx⟩, l1, l2, bp, bw⟩ := cd
  have lx : xs.length = nss.length := hx.length
  refine ⟨_, pss_cons (ps_expr (pe_call GC.ok hr (by rfl) GC.m GC.kp GC.b .nil takes_def (pa_cons (pv 0) (pa_cons (pv 1) (pa_cons (pv 2) pa_nil)))))
    (pss_cons (ps_expr (pe_call GR.ok hr (by rfl) GR.m GR.kp GR.b .nil takes_def (pa_cons (pv 0) (pa_cons (pv 3) pa_nil))))
    (pss_one (ps_ret (pe_callB (call_sum rfl) (by rfl) ms b_sum (pa_cons (pe_compZ K true true (M := NPS) rfl (CompScope.of (defScope sPS) NPS rfl rfl rfl (by decide +kernel) (by decide +kernel) (by decide +kernel) rfl (by decide +kernel)) ndPS rfl rfl (by rfl) mz (pa_cons (pv 1) (pa_cons (pv 2) pa_nil)) (mo_cons mo_var (mo_cons mo_var mo_nil))
      (fun cl C s0 H0 fp pins σ bk => ⟨pts_nil, pe_op op_mulB (pv 0) (pe_bmT PySem.F.slot_tuple_count PySem.F.type_tuple_count mt_countT (pv 1) (pa_cons (pv 5) pa_nil))⟩)) pa_nil))))), ?_⟩
  refine ⟨_, rfl, _, rfl, _, rfl, p, wa, c, ps, ws, xs, nss, rfl, hp, hw, hc, hx, l1, l2, bp, bw, fun ne H' s => ?_, fun el al H1 s1 => ?_, fun el bad H' s => ?_⟩
  · rw [oc_un ne] at out; exact out H' s
  · rw [oc_good el al, if_pos rfl] at out
    refine ⟨_, rfl, _, rfl, p, ps, i, rfl, s1 _ _ hp, fun hin => ?_, fun hno => ?_⟩
    · rw [if_pos (inB_iff.mpr hin)] at out
      have hw1 : TW H1 wa ws := s1 _ _ hw
      have hc1 := s1 _ _ hc
      have hx1 := Ws.same s1 hx
      refine ⟨_, rfl, _, rfl, wa, c, _, _, rfl, SqT.of hw1, SqT.of hc1, by rw [List.length_map]; omega, fun d hd => ?_⟩
      refine ⟨fun k H' => Same H1 H' ∧ H' d = some (.lst (((List.zipWith (fun x ns => x * ((List.count i ns : Nat) : Int)) ws nss).take k).map V.int)), ⟨same_newO hd _, upd_same⟩,
        fun k H' _ hP => ⟨SqT.of (hP.1 _ _ hw1), SqT.of (hP.1 _ _ hc1)⟩, fun k x y pp H' hx' hy' hP hpp => ?_, fun H' hP => ?_⟩
      · obtain ⟨sm, hd'⟩ := hP
        rw [List.getElem?_map] at hx'
        obtain ⟨wt, hz, rfl⟩ := Option.map_eq_some_iff.mp hx'
        obtain ⟨ns, hn, ry⟩ := Paired.right_of hx1 k y hy'
        obtain ⟨ya, rfl, hya⟩ := Wd.ti ry
        have iw := (List.getElem?_eq_some_iff.mp hz).1
        have s2 := same_newO hpp (.tup [.int wt, .ref ya])
        have hya2 := s2 _ _ (sm _ _ hya)
        obtain ⟨b3, b4⟩ := bw wt (List.mem_of_getElem? hz)
        have b5 := l2 ns (List.mem_of_getElem? hn)
        have b6 : List.count i ns ≤ ns.length := List.count_le_length
        refine turnZ_all ⟨_, rfl, _, rfl, ⟨ya, _, rfl, hya2⟩, _, rfl, ya, ns, i, rfl, rfl, hya2, _, _, rfl, rfl, ⟨⟨b3, by unfold B30 at *; omega⟩, ⟨by omega, by unfold B30 at *; omega⟩⟩, _, s2 _ _ hd', ?_, same_upd hd (sm.trans s2), ?_⟩
        · rw [List.length_map, List.length_take, List.length_zipWith]; exact small1000 (by omega)
        · rw [upd_same, List.take_add_one, zip_at2 hz hn, List.map_append]; rfl
      · obtain ⟨sm, hd'⟩ := hP
        rw [List.length_map] at hd'
        rw [List.take_of_length_le (by rw [List.length_zipWith]; omega)] at hd'
        exact ⟨d, _, rfl, hd', out H' (s1.trans sm)⟩
    · rw [if_neg (fun z => hno (inB_iff.mp z))] at out
      exact out H1 s1
  · rw [oc_bad el bad] at out; exact out H' s
set_option maxHeartbeats 4000000 in
theorem ok_ws {CU CB CT : Addr} (F : Fun K "weight_share" "weight_share" sWS f fd) (GC : Fns' P w K mg base NC "cost" (spCost CU CB) 3) (GR : Fns' P w K mg base ["weights", "thing"] "refuse_thing" (spRef CT) 3) (GP : Fns' P w K mg base ["prices", "word"] "word_price" (spPrice CB) 3) : FnOk P w K mg base (CXF P w) 4 f fd NWS (spSh 1 CU CB CT) := by
  refine F.okF (k := 3) scWS (fun vs H Q E h => ?_) (fun cdv A outer s H vs Q E hr h => ?_)
  · obtain ⟨p, wa, c, ps, ws, nss, i, rfl, _⟩ := h
    rfl
  obtain ⟨p, wa, c, ps, ws, nss, i, rfl, cd, out⟩ := h
  obtain ⟨hp, hw, ⟨xs, hc, hx⟩, l1, l2, bp, bw⟩ := cd
  refine ⟨_, pss_cons (ps_expr (pe_call GC.ok hr (by rfl) GC.m GC.kp GC.b .nil takes_def (pa_cons (pv 0) (pa_cons (pv 1) (pa_cons (pv 2) pa_nil)))))
    (pss_cons (ps_expr (pe_call GR.ok hr (by rfl) GR.m GR.kp GR.b .nil takes_def (pa_cons (pv 1) (pa_cons (pv 3) pa_nil))))
    (pss_one (ps_ret (pe_call GP.ok hr (by rfl) GP.m GP.kp GP.b .nil takes_def (pa_cons (pv 0) (pa_cons (pe_ix ix_tup (pv 2) (pv 3) (fun _ _ => rfl)) pa_nil)))))), ?_⟩
  refine ⟨_, rfl, _, rfl, _, rfl, p, wa, c, ps, ws, xs, nss, rfl, hp, hw, hc, hx, l1, l2, bp, bw, fun ne H' s => ?_, fun el al H1 s1 => ?_, fun el bad H' s => ?_⟩
  · rw [oc_un ne] at out; exact out H' s
  · rw [oc_good el al, if_neg (by decide)] at out
    refine ⟨_, rfl, _, rfl, wa, ws, i, rfl, s1 _ _ hw, fun hin => ?_, fun hno => ?_⟩
    · rw [if_pos (inB_iff.mpr hin)] at out
      obtain ⟨i0, i1⟩ := hin
      obtain ⟨k, rfl⟩ : ∃ k : Nat, i = (k : Int) := ⟨i.toNat, by omega⟩
      have hk : k < nss.length := by omega
      have hn : nss[k]? = some (nss[k]'hk) := List.getElem?_eq_getElem hk
      obtain ⟨x, hxk, rx⟩ := Paired.left_of hx k _ hn
      obtain ⟨ya, rfl, hya⟩ := Wd.ti rx
      have eg : nss.getD (k : Int).toNat [] = nss[k]'hk := by rw [Int.toNat_natCast, List.getD_eq_getElem?_getD, hn]; rfl
      rw [eg] at out
      have xk : k < xs.length := (List.getElem?_eq_some_iff.mp hxk).1
      refine ⟨_, rfl, _, rfl, _, rfl, c, xs, (k : Int), .ref ya, rfl, rfl, SqT.of (s1 _ _ hc), ?_, .ref p, .ref ya, ps, nss[k]'hk, rfl, Wd.of (s1 _ _ hp), Wd.of (s1 _ _ hya), l2 _ (List.getElem_mem hk), fun _ H' s' => out H' (s1.trans s'), fun ba => ?_⟩
      · exact atI_nat hxk
      · rw [al _ (List.getElem_mem hk)] at ba; cases ba
    · rw [if_neg (fun z => hno (inB_iff.mp z))] at out
      exact out H1 s1
  · rw [oc_bad el bad] at out; exact out H' s
end
/-! ### how a cost moves: pure -/
theorem getD_set {ps : List Int} {i x : Nat} {n : Int} (hi : i < ps.length) : (ps.set i n).getD x 0 = ps.getD x 0 + (if x = i then n - ps.getD i 0 else 0) := by
  rw [List.getD_eq_getElem?_getD, List.getD_eq_getElem?_getD, List.getD_eq_getElem?_getD]
  by_cases e : x = i
  · subst e
    rw [List.getElem?_set_self hi, if_pos rfl, List.getElem?_eq_getElem hi]
    show n = ps[x] + (n - ps[x])
    omega
  · rw [List.getElem?_set_ne (fun z => e z.symm), if_neg e]; omega
theorem prc_set {ps : List Int} {i : Nat} {n : Int} (hi : i < ps.length) : ∀ ns : List Int, (∀ x ∈ ns, 0 ≤ x) → prc (ps.set i n) ns = prc ps ns + ((List.count (i : Int) ns : Nat) : Int) * (n - ps.getD i 0)
  | [], _ => by unfold prc; simp
  | x :: ns, h => by
    have ih := prc_set (n := n) hi ns fun y hy => h y (.tail _ hy)
    have e1 : ∀ qs, prc qs (x :: ns) = qs.getD x.toNat 0 + prc qs ns := fun qs => by unfold prc; simp
    have h0 := h x (.head _)
    rw [e1, e1, ih, getD_set hi, List.count_cons]
    by_cases e : x = (i : Int)
    · subst e
      rw [Int.toNat_natCast, if_pos rfl, if_pos (by simp)]
      push_cast
      rw [Int.add_mul]
      omega
    · have e2 : ¬ x.toNat = i := fun z => e (by omega)
      rw [if_neg e2, if_neg (by simpa using e)]
      simp
      omega
theorem cst_setP {ps : List Int} {i : Nat} {n : Int} (hi : i < ps.length) : ∀ (ws : List Int) (nss : List (List Int)), (∀ ns ∈ nss, ∀ x ∈ ns, 0 ≤ x) → cst (ps.set i n) ws nss = cst ps ws nss + shr ws nss (i : Int) * (n - ps.getD i 0)
  | [], nss, _ => by unfold cst shr; simp
  | w :: ws, [], _ => by unfold cst shr; simp
  | w :: ws, ns :: nss, h => by
    have ih := cst_setP (n := n) hi ws nss fun m hm => h m (.tail _ hm)
    unfold cst shr at ih ⊢
    rw [List.zipWith_cons_cons, List.zipWith_cons_cons, List.zipWith_cons_cons, List.sum_cons, List.sum_cons, List.sum_cons, ih, prc_set hi ns (h ns (.head _)), Int.mul_add, Int.add_mul, Int.mul_assoc]
    omega
theorem cst_setW {ps : List Int} {n : Int} : ∀ (i : Nat) (ws : List Int) (nss : List (List Int)), i < ws.length → nss.length = ws.length → cst ps (ws.set i n) nss = cst ps ws nss + prc ps (nss.getD i []) * (n - ws.getD i 0)
  | _, [], _, hi, _ => absurd hi (Nat.not_lt_zero _)
  | i, w :: ws, [], _, hl => by simp at hl
  | 0, w :: ws, ns :: nss, hi, hl => by
    unfold cst
    show ((List.zipWith (fun x ns => x * prc ps ns) (n :: ws) (ns :: nss)).sum) = (List.zipWith (fun x ns => x * prc ps ns) (w :: ws) (ns :: nss)).sum + prc ps ns * (n - w)
    rw [List.zipWith_cons_cons, List.zipWith_cons_cons, List.sum_cons, List.sum_cons, Int.mul_sub, Int.mul_comm n, Int.mul_comm w]
    omega
  | i + 1, w :: ws, ns :: nss, hi, hl => by
    have ih := cst_setW (ps := ps) (n := n) i ws nss (by simpa using hi) (by simpa using hl)
    unfold cst at ih ⊢
    show ((List.zipWith (fun x ns => x * prc ps ns) (w :: ws.set i n) (ns :: nss)).sum) = (List.zipWith (fun x ns => x * prc ps ns) (w :: ws) (ns :: nss)).sum + prc ps (nss.getD i []) * (n - ws.getD i 0)
    rw [List.zipWith_cons_cons, List.zipWith_cons_cons, List.sum_cons, List.sum_cons, ih]
    omega
end K62
set_option Elab.async false
set_option linter.all false
set_option maxRecDepth 100000
namespace K62
open PySem L2
/-! here CB is Unlike, CT is BadWord, CN is NoThing; CP, CW, CC are BadNumber, Clash, NotCheapest -/
def nmO : Oc → Str
  | .un => "unlike"
  | .wd => "word"
  | .th => "thing"
  | .told _ => "told"
def vlO : Oc → V
  | .told v => .int v
  | _ => .non
def kinds (c : Nat) : List Bool := if c < 3 then [decide (c = 0), decide (c = 1), decide (c = 2), true, false] else []
def nm (c : Nat) : Str := match c with
  | 0 => "unlike"
  | 1 => "word"
  | 2 => "thing"
  | _ => "told"
theorem kne : ∀ j g : Nat, j < 3 → g ≤ 3 → (kinds g = [decide (V.int (j : Int) = V.int 0), decide (V.int (j : Int) = V.int 1), decide (V.int (j : Int) = V.int 2), true, false] ↔ g = j) := by
  intro j g hj hg
  have h1 : j = 0 ∨ j = 1 ∨ j = 2 := by omega
  have h2 : g = 0 ∨ g = 1 ∨ g = 2 ∨ g = 3 := by omega
  rcases h1 with rfl | rfl | rfl <;> rcases h2 with rfl | rfl | rfl | rfl <;> decide
section
variable {P : Program} {w : World} {K : PySem.W.Frag} {mg : Str → Option Value} {base : Heap} {f : Addr} {fd : FuncData}
/-! the classes -/
structure Cl (K : PySem.W.Frag) (mg : Str → Option Value) (D CB CT CN CP CW CC : Addr) : Prop where
  gD : mg "TollError" = some (.ref D)
  gB : mg "Unlike" = some (.ref CB)
  gT : mg "BadWord" = some (.ref CT)
  gN : mg "NoThing" = some (.ref CN)
  gP : mg "BadNumber" = some (.ref CP)
  gW : mg "Clash" = some (.ref CW)
  gC : mg "NotCheapest" = some (.ref CC)
  gV : mg "ValueError" = none
  xD : XC K D
  xB : XC K CB
  xT : XC K CT
  xN : XC K CN
  xP : XC K CP
  xW : XC K CW
  xC : XC K CC
  eB : Ecl K CB
  eT : Ecl K CT
  eN : Ecl K CN
  bD : PySem.W.subIn K (.ref CB) (.ref D) = some true
  tD : PySem.W.subIn K (.ref CT) (.ref D) = some true
  nD : PySem.W.subIn K (.ref CN) (.ref D) = some true
  bT : PySem.W.subIn K (.ref CB) (.ref CT) = some false
  bN : PySem.W.subIn K (.ref CB) (.ref CN) = some false
  bP : PySem.W.subIn K (.ref CB) (.ref CP) = some false
  bW : PySem.W.subIn K (.ref CB) (.ref CW) = some false
  bC : PySem.W.subIn K (.ref CB) (.ref CC) = some false
  tB : PySem.W.subIn K (.ref CT) (.ref CB) = some false
  tN : PySem.W.subIn K (.ref CT) (.ref CN) = some false
  tP : PySem.W.subIn K (.ref CT) (.ref CP) = some false
  tW : PySem.W.subIn K (.ref CT) (.ref CW) = some false
  tC : PySem.W.subIn K (.ref CT) (.ref CC) = some false
  nB : PySem.W.subIn K (.ref CN) (.ref CB) = some false
  nT : PySem.W.subIn K (.ref CN) (.ref CT) = some false
  nP : PySem.W.subIn K (.ref CN) (.ref CP) = some false
  nW : PySem.W.subIn K (.ref CN) (.ref CW) = some false
  nC : PySem.W.subIn K (.ref CN) (.ref CC) = some false
/-- the class with the number c is the c-th of the three, and none of the others -/
structure Kd (K : PySem.W.Frag) (D CB CT CN CP CW CC C : Addr) (c : Nat) : Prop where
  x : XC K C
  d : PySem.W.subIn K (.ref C) (.ref D) = some true
  k0 : PySem.W.kitOne K (.ref C) (.ref CB) = some (decide (c = 0))
  k1 : PySem.W.kitOne K (.ref C) (.ref CT) = some (decide (c = 1))
  k2 : PySem.W.kitOne K (.ref C) (.ref CN) = some (decide (c = 2))
  no : ∀ E ∈ [CP, CW, CC], PySem.W.kitOne K (.ref C) (.ref E) = some false
  lt : c < 3
theorem no3 {K : PySem.W.Frag} {C a b c : Addr} (ha : PySem.W.kitOne K (.ref C) (.ref a) = some false) (hb : PySem.W.kitOne K (.ref C) (.ref b) = some false) (hc : PySem.W.kitOne K (.ref C) (.ref c) = some false) : ∀ E ∈ [a, b, c], PySem.W.kitOne K (.ref C) (.ref E) = some false := fun E hE => by
  rcases List.mem_cons.mp hE with rfl | hE
  · exact ha
  rcases List.mem_cons.mp hE with rfl | hE
  · exact hb
  · rw [List.mem_singleton.mp hE]; exact hc
variable {D CB CT CN CP CW CC : Addr}
theorem Cl.kB (c : Cl K mg D CB CT CN CP CW CC) : Kd K D CB CT CN CP CW CC CB 0 := ⟨c.xB, c.bD, kit_t c.xB.h c.xB.sf, kit_f c.xB c.xT.h c.bT, kit_f c.xB c.xN.h c.bN, no3 (kit_f c.xB c.xP.h c.bP) (kit_f c.xB c.xW.h c.bW) (kit_f c.xB c.xC.h c.bC), by decide⟩
theorem Cl.kT (c : Cl K mg D CB CT CN CP CW CC) : Kd K D CB CT CN CP CW CC CT 1 := ⟨c.xT, c.tD, kit_f c.xT c.xB.h c.tB, kit_t c.xT.h c.xT.sf, kit_f c.xT c.xN.h c.tN, no3 (kit_f c.xT c.xP.h c.tP) (kit_f c.xT c.xW.h c.tW) (kit_f c.xT c.xC.h c.tC), by decide⟩
theorem Cl.kN (c : Cl K mg D CB CT CN CP CW CC) : Kd K D CB CT CN CP CW CC CN 2 := ⟨c.xN, c.nD, kit_f c.xN c.xB.h c.nB, kit_f c.xN c.xT.h c.nT, kit_t c.xN.h c.xN.sf, no3 (kit_f c.xN c.xP.h c.nP) (kit_f c.xN c.xW.h c.nW) (kit_f c.xN c.xC.h c.nC), by decide⟩
/-! _law_told -/
abbrev NT : List Str := ["which", "prices", "weights", "code", "at", "found", "kinds", "e", "k", "word"]
abbrev NA : List Str := ["which", "prices", "weights", "code", "at"]
def spTold : Sp := fun vs H Q _ => ∃ (wh : Nat) (p wa ca : Addr) (ps ws : List Int) (nss : List (List Int)) (i : Int), vs = [.int (wh : Int), .ref p, .ref wa, .ref ca, .int i] ∧ wh ≤ 1 ∧ Cd H p wa ca ps ws nss ∧
  ∀ t H', Same H H' → H' t = some (.tup [.str (nmO (oc wh ps ws nss i)), vlO (oc wh ps ws nss i)]) → Q (.ref t) H'
theorem scTold : FnScope NT NA (defScope sTold) := ⟨rfl, rfl, rfl, by decide +kernel, rfl, by decide +kernel, by decide +kernel⟩
set_option maxHeartbeats 16000000 in
theorem ok_told (F : Fun K "_law_told" "_law_told" sTold f fd) (GP : Fns' P w K mg base NPS "price_share" (spSh 0 CB CT CN) 4) (GW : Fns' P w K mg base NWS "weight_share" (spSh 1 CB CT CN) 4) (c : Cl K mg D CB CT CN CP CW CC) (mi : mg "isinstance" = none) (me : mg "enumerate" = none) :
    FnOk P w K mg base CX0 5 f fd NA spTold := by
  refine F.ok (k := 4) scTold (fun vs H Q E h => ?_) (fun cdv A outer s H vs Q E hr h => ?_)
  · obtain ⟨wh, p, wa, ca, ps, ws, nss, i, rfl, _⟩ := h
    rfl
  obtain ⟨wh, p, wa, ca, ps, ws, nss, i, rfl, hw, cd, q⟩ := h
  refine ⟨_, pss_cons (ps_set (i := 5) scTold.nd rfl (Or.inl rfl) pe_non)
    (pss_cons (ps_set (i := 6) scTold.nd rfl (Or.inl rfl) (pe_lst pa_nil))
    (pss_cons (ps_mid (ps_try (i := 7) rfl ⟨rfl, rfl⟩ (fun pn xe Ex hx => pss_one (ps_if (pt_cmpR op_eq (pv 0) pe_int (nomark _))
          (pss_one (ps_set (i := 5) scTold.nd rfl (Or.inl rfl) (pe_callX GP.ok hr (by rfl) GP.m GP.kp GP.b hx (pa_cons (pv 1) (pa_cons (pv 2) (pa_cons (pv 3) (pa_cons (pv 4) pa_nil)))))))
          (pss_one (ps_set (i := 5) scTold.nd rfl (Or.inl rfl) (pe_callX GW.ok hr (by rfl) GW.m GW.kp GW.b hx (pa_cons (pv 1) (pa_cons (pv 2) (pa_cons (pv 3) (pa_cons (pv 4) pa_nil)))))))))
      (fun ea => pss_cons (ps_set (i := 6) scTold.nd rfl (Or.inl rfl) (pe_lst (pa_cons (pe_callB (isiE K) (by rfl) mi b_isi (pa_cons (pv 7) (pa_cons (pe_glob (v := .ref CB) (by rfl) c.gB rfl) pa_nil)))
        (pa_cons (pe_callB (isiE K) (by rfl) mi b_isi (pa_cons (pv 7) (pa_cons (pe_glob (v := .ref CT) (by rfl) c.gT rfl) pa_nil)))
        (pa_cons (pe_callB (isiE K) (by rfl) mi b_isi (pa_cons (pv 7) (pa_cons (pe_glob (v := .ref CN) (by rfl) c.gN rfl) pa_nil)))
        (pa_cons (pe_callB (isiE K) (by rfl) mi b_isi (pa_cons (pv 7) (pa_cons (pe_bltn (v := .ty "ValueError") (by rfl) c.gV b_VE rfl) pa_nil))) pa_nil))))))
        (pss_one (ps_expr (pe_bmK K PySem.F.plainAttrs_list PySem.F.slot_list_append PySem.F.type_list_append mt_append (pv 6) (pa_cons (pe_callB (isiT K) (by rfl) mi b_isi (pa_cons (pv 7)
          (pa_cons (pe_tup (pa_cons (pe_glob (v := .ref CP) (by rfl) c.gP rfl) (pa_cons (pe_glob (v := .ref CW) (by rfl) c.gW rfl) (pa_cons (pe_glob (v := .ref CC) (by rfl) c.gC rfl) pa_nil)))) pa_nil))) pa_nil)))))
      scTold.nd rfl rfl (by rfl) c.gD c.xD.h))
    (pss_cons (ps_for PassesOwn.never rfl (pi_enum false (by rfl) me (pa_cons (pe_lst (pa_cons pe_str (pa_cons pe_str (pa_cons pe_str pa_nil)))) pa_nil))
        (pg_tup rfl (pgs_cons (pg_name (i := 8) scTold.nd rfl (Or.inl rfl)) (pgs_cons (pg_name (i := 9) scTold.nd rfl (Or.inl rfl)) pgs_nil)))
      (pss_one (ps_if (pt_cmpR (op_eqLB (hu4 hr)) (pv 6) (pe_lst (pa_cons (pe_cmpR op_eq (pv 8) pe_int (nomark _)) (pa_cons (pe_cmpR op_eq (pv 8) pe_int (nomark _)) (pa_cons (pe_cmpR op_eq (pv 8) pe_int (nomark _)) (pa_cons pe_bl (pa_cons pe_bl pa_nil)))))) (nomark _))
        (pss_one (ps_ret (pe_tup (pa_cons (pv 9) (pa_cons pe_non pa_nil))))) pss_nil)))
    (pss_one (ps_ret (pe_tup (pa_cons (pe_ifExp (pt_cmpR (op_eqLB (hu4 hr)) (pv 6) (pe_lst pa_nil) (nomark _)) pe_str pe_str) (pa_cons (pv 5) pa_nil)))))))), ?_⟩
  refine ⟨(by show 0 ≤ sizeLine; decide), fun t0 ht0 => ?_⟩
  have s1 := same_newO ht0 (.lst [])
  refine ⟨fun σ' H' => ∃ (fo : V) (kl : Addr) (g : Nat), σ' = [some (.int (wh : Int)), some (.ref p), some (.ref wa), some (.ref ca), some (.int i), some fo, some (.ref kl), none, none, none] ∧ Same H H' ∧ H' kl = some (.lst ((kinds g).map V.bl)) ∧
    ((g < 3 ∧ ∀ t H2, Same H' H2 → H2 t = some (.tup [.str (nm g), .non]) → Q (.ref t) H2) ∨ (g = 3 ∧ ∀ t H2, Same H' H2 → H2 t = some (.tup [.str "told", fo]) → Q (.ref t) H2)), ?_, ?_⟩
  · have hw' : wh = 0 ∨ wh = 1 := by omega
    rcases hw' with rfl | rfl
    · refine ⟨_, rfl, rfl, _, rfl, ?_⟩
      refine ite2 (fun _ => ?_) (fun z => absurd (decide_eq_true rfl) z)
      refine ⟨_, rfl, _, rfl, _, rfl, _, rfl, p, wa, ca, ps, ws, nss, i, rfl, cd.same s1, ?_⟩
      generalize oc 0 ps ws nss i = o at q ⊢
      cases o with
      | un =>
        refine fun H3 s3 => ?_
        have kd := c.kB
        have fin : ∀ t H', Same H H' → H' t = some (.tup [.str (nm 0), .non]) → Q (.ref t) H' := q
        refine ⟨CB, rfl, kd.d, fun ea hea => ?_⟩
        have s4 := same_newO hea (excO ea CB none)
        have hE : upd H3 ea (excO ea CB none) ea = some (excO ea CB none) := upd_same
        generalize upd H3 ea (excO ea CB none) = H4 at s4 hE ⊢
        refine ⟨_, rfl, ea, CB, none, _, _, rfl, hE, kd.x.e, .inl rfl, .inl ⟨CB, rfl, kd.k0⟩, ?_⟩
        refine ⟨_, rfl, ea, CB, none, _, _, rfl, hE, kd.x.e, .inl rfl, .inl ⟨CT, rfl, kd.k1⟩, ?_⟩
        refine ⟨_, rfl, ea, CB, none, _, _, rfl, hE, kd.x.e, .inl rfl, .inl ⟨CN, rfl, kd.k2⟩, ?_⟩
        refine ⟨_, rfl, ea, CB, none, _, true, rfl, hE, kd.x.e, .inl rfl, .inr ⟨"ValueError", rfl, kit_ve kd.x⟩, (by show 4 ≤ sizeLine; decide), fun t3 ht3 => ?_⟩
        have s5 := same_newO ht3 (.lst [.bl (decide ((0 : Nat) = 0)), .bl (decide ((0 : Nat) = 1)), .bl (decide ((0 : Nat) = 2)), .bl true])
        refine ⟨_, rfl, .inl ⟨rfl, _, SqL.of upd_same⟩, _, rfl, (by show 3 ≤ sizeLine; decide), fun tp htp => ?_⟩
        have s6 := same_newO htp (.tup [.ref CP, .ref CW, .ref CC])
        refine ⟨ea, CB, none, tp, [CP, CW, CC], rfl, s6 _ _ (s5 _ _ hE), kd.x.e, .inl rfl, upd_same, kd.no, t3, _, _, rfl, rfl, s6 _ _ upd_same, small1000 (by show 4 ≤ 1000; decide), ?_⟩
        have g7 := ((s1.trans s3).trans s4).trans (same_upd (o := .lst [.bl (decide ((0 : Nat) = 0)), .bl (decide ((0 : Nat) = 1)), .bl (decide ((0 : Nat) = 2)), .bl true, .bl false]) ht3 (s5.trans s6))
        exact ⟨.non, t3, 0, rfl, g7, upd_same, .inl ⟨by decide, fun t H2 s h => fin t H2 (g7.trans s) h⟩⟩
      | wd =>
        refine fun H3 s3 => ?_
        have kd := c.kT
        have fin : ∀ t H', Same H H' → H' t = some (.tup [.str (nm 1), .non]) → Q (.ref t) H' := q
        refine ⟨CT, rfl, kd.d, fun ea hea => ?_⟩
        have s4 := same_newO hea (excO ea CT none)
        have hE : upd H3 ea (excO ea CT none) ea = some (excO ea CT none) := upd_same
        generalize upd H3 ea (excO ea CT none) = H4 at s4 hE ⊢
        refine ⟨_, rfl, ea, CT, none, _, _, rfl, hE, kd.x.e, .inl rfl, .inl ⟨CB, rfl, kd.k0⟩, ?_⟩
        refine ⟨_, rfl, ea, CT, none, _, _, rfl, hE, kd.x.e, .inl rfl, .inl ⟨CT, rfl, kd.k1⟩, ?_⟩
        refine ⟨_, rfl, ea, CT, none, _, _, rfl, hE, kd.x.e, .inl rfl, .inl ⟨CN, rfl, kd.k2⟩, ?_⟩
        refine ⟨_, rfl, ea, CT, none, _, true, rfl, hE, kd.x.e, .inl rfl, .inr ⟨"ValueError", rfl, kit_ve kd.x⟩, (by show 4 ≤ sizeLine; decide), fun t3 ht3 => ?_⟩
        have s5 := same_newO ht3 (.lst [.bl (decide ((1 : Nat) = 0)), .bl (decide ((1 : Nat) = 1)), .bl (decide ((1 : Nat) = 2)), .bl true])
        refine ⟨_, rfl, .inl ⟨rfl, _, SqL.of upd_same⟩, _, rfl, (by show 3 ≤ sizeLine; decide), fun tp htp => ?_⟩
        have s6 := same_newO htp (.tup [.ref CP, .ref CW, .ref CC])
        refine ⟨ea, CT, none, tp, [CP, CW, CC], rfl, s6 _ _ (s5 _ _ hE), kd.x.e, .inl rfl, upd_same, kd.no, t3, _, _, rfl, rfl, s6 _ _ upd_same, small1000 (by show 4 ≤ 1000; decide), ?_⟩
        have g7 := ((s1.trans s3).trans s4).trans (same_upd (o := .lst [.bl (decide ((1 : Nat) = 0)), .bl (decide ((1 : Nat) = 1)), .bl (decide ((1 : Nat) = 2)), .bl true, .bl false]) ht3 (s5.trans s6))
        exact ⟨.non, t3, 1, rfl, g7, upd_same, .inl ⟨by decide, fun t H2 s h => fin t H2 (g7.trans s) h⟩⟩
      | th =>
        refine fun H3 s3 => ?_
        have kd := c.kN
        have fin : ∀ t H', Same H H' → H' t = some (.tup [.str (nm 2), .non]) → Q (.ref t) H' := q
        refine ⟨CN, rfl, kd.d, fun ea hea => ?_⟩
        have s4 := same_newO hea (excO ea CN none)
        have hE : upd H3 ea (excO ea CN none) ea = some (excO ea CN none) := upd_same
        generalize upd H3 ea (excO ea CN none) = H4 at s4 hE ⊢
        refine ⟨_, rfl, ea, CN, none, _, _, rfl, hE, kd.x.e, .inl rfl, .inl ⟨CB, rfl, kd.k0⟩, ?_⟩
        refine ⟨_, rfl, ea, CN, none, _, _, rfl, hE, kd.x.e, .inl rfl, .inl ⟨CT, rfl, kd.k1⟩, ?_⟩
        refine ⟨_, rfl, ea, CN, none, _, _, rfl, hE, kd.x.e, .inl rfl, .inl ⟨CN, rfl, kd.k2⟩, ?_⟩
        refine ⟨_, rfl, ea, CN, none, _, true, rfl, hE, kd.x.e, .inl rfl, .inr ⟨"ValueError", rfl, kit_ve kd.x⟩, (by show 4 ≤ sizeLine; decide), fun t3 ht3 => ?_⟩
        have s5 := same_newO ht3 (.lst [.bl (decide ((2 : Nat) = 0)), .bl (decide ((2 : Nat) = 1)), .bl (decide ((2 : Nat) = 2)), .bl true])
        refine ⟨_, rfl, .inl ⟨rfl, _, SqL.of upd_same⟩, _, rfl, (by show 3 ≤ sizeLine; decide), fun tp htp => ?_⟩
        have s6 := same_newO htp (.tup [.ref CP, .ref CW, .ref CC])
        refine ⟨ea, CN, none, tp, [CP, CW, CC], rfl, s6 _ _ (s5 _ _ hE), kd.x.e, .inl rfl, upd_same, kd.no, t3, _, _, rfl, rfl, s6 _ _ upd_same, small1000 (by show 4 ≤ 1000; decide), ?_⟩
        have g7 := ((s1.trans s3).trans s4).trans (same_upd (o := .lst [.bl (decide ((2 : Nat) = 0)), .bl (decide ((2 : Nat) = 1)), .bl (decide ((2 : Nat) = 2)), .bl true, .bl false]) ht3 (s5.trans s6))
        exact ⟨.non, t3, 2, rfl, g7, upd_same, .inl ⟨by decide, fun t H2 s h => fin t H2 (g7.trans s) h⟩⟩
      | told v =>
        refine fun H3 s3 => ?_
        exact ⟨.int v, t0, 3, rfl, s1.trans s3, s3 _ _ upd_same, .inr ⟨rfl, fun t H2 s4 h => q t H2 ((s1.trans s3).trans s4) h⟩⟩
    · refine ⟨_, rfl, rfl, _, rfl, ?_⟩
      refine ite2 (fun z => absurd (of_decide_eq_true z) (by intro y; cases y)) (fun _ => ?_)
      refine ⟨_, rfl, _, rfl, _, rfl, _, rfl, p, wa, ca, ps, ws, nss, i, rfl, cd.same s1, ?_⟩
      generalize oc 1 ps ws nss i = o at q ⊢
      cases o with
      | un =>
        refine fun H3 s3 => ?_
        have kd := c.kB
        have fin : ∀ t H', Same H H' → H' t = some (.tup [.str (nm 0), .non]) → Q (.ref t) H' := q
        refine ⟨CB, rfl, kd.d, fun ea hea => ?_⟩
        have s4 := same_newO hea (excO ea CB none)
        have hE : upd H3 ea (excO ea CB none) ea = some (excO ea CB none) := upd_same
        generalize upd H3 ea (excO ea CB none) = H4 at s4 hE ⊢
        refine ⟨_, rfl, ea, CB, none, _, _, rfl, hE, kd.x.e, .inl rfl, .inl ⟨CB, rfl, kd.k0⟩, ?_⟩
        refine ⟨_, rfl, ea, CB, none, _, _, rfl, hE, kd.x.e, .inl rfl, .inl ⟨CT, rfl, kd.k1⟩, ?_⟩
        refine ⟨_, rfl, ea, CB, none, _, _, rfl, hE, kd.x.e, .inl rfl, .inl ⟨CN, rfl, kd.k2⟩, ?_⟩
        refine ⟨_, rfl, ea, CB, none, _, true, rfl, hE, kd.x.e, .inl rfl, .inr ⟨"ValueError", rfl, kit_ve kd.x⟩, (by show 4 ≤ sizeLine; decide), fun t3 ht3 => ?_⟩
        have s5 := same_newO ht3 (.lst [.bl (decide ((0 : Nat) = 0)), .bl (decide ((0 : Nat) = 1)), .bl (decide ((0 : Nat) = 2)), .bl true])
        refine ⟨_, rfl, .inl ⟨rfl, _, SqL.of upd_same⟩, _, rfl, (by show 3 ≤ sizeLine; decide), fun tp htp => ?_⟩
        have s6 := same_newO htp (.tup [.ref CP, .ref CW, .ref CC])
        refine ⟨ea, CB, none, tp, [CP, CW, CC], rfl, s6 _ _ (s5 _ _ hE), kd.x.e, .inl rfl, upd_same, kd.no, t3, _, _, rfl, rfl, s6 _ _ upd_same, small1000 (by show 4 ≤ 1000; decide), ?_⟩
        have g7 := ((s1.trans s3).trans s4).trans (same_upd (o := .lst [.bl (decide ((0 : Nat) = 0)), .bl (decide ((0 : Nat) = 1)), .bl (decide ((0 : Nat) = 2)), .bl true, .bl false]) ht3 (s5.trans s6))
        exact ⟨.non, t3, 0, rfl, g7, upd_same, .inl ⟨by decide, fun t H2 s h => fin t H2 (g7.trans s) h⟩⟩
      | wd =>
        refine fun H3 s3 => ?_
        have kd := c.kT
        have fin : ∀ t H', Same H H' → H' t = some (.tup [.str (nm 1), .non]) → Q (.ref t) H' := q
        refine ⟨CT, rfl, kd.d, fun ea hea => ?_⟩
        have s4 := same_newO hea (excO ea CT none)
        have hE : upd H3 ea (excO ea CT none) ea = some (excO ea CT none) := upd_same
        generalize upd H3 ea (excO ea CT none) = H4 at s4 hE ⊢
        refine ⟨_, rfl, ea, CT, none, _, _, rfl, hE, kd.x.e, .inl rfl, .inl ⟨CB, rfl, kd.k0⟩, ?_⟩
        refine ⟨_, rfl, ea, CT, none, _, _, rfl, hE, kd.x.e, .inl rfl, .inl ⟨CT, rfl, kd.k1⟩, ?_⟩
        refine ⟨_, rfl, ea, CT, none, _, _, rfl, hE, kd.x.e, .inl rfl, .inl ⟨CN, rfl, kd.k2⟩, ?_⟩
        refine ⟨_, rfl, ea, CT, none, _, true, rfl, hE, kd.x.e, .inl rfl, .inr ⟨"ValueError", rfl, kit_ve kd.x⟩, (by show 4 ≤ sizeLine; decide), fun t3 ht3 => ?_⟩
        have s5 := same_newO ht3 (.lst [.bl (decide ((1 : Nat) = 0)), .bl (decide ((1 : Nat) = 1)), .bl (decide ((1 : Nat) = 2)), .bl true])
        refine ⟨_, rfl, .inl ⟨rfl, _, SqL.of upd_same⟩, _, rfl, (by show 3 ≤ sizeLine; decide), fun tp htp => ?_⟩
        have s6 := same_newO htp (.tup [.ref CP, .ref CW, .ref CC])
        refine ⟨ea, CT, none, tp, [CP, CW, CC], rfl, s6 _ _ (s5 _ _ hE), kd.x.e, .inl rfl, upd_same, kd.no, t3, _, _, rfl, rfl, s6 _ _ upd_same, small1000 (by show 4 ≤ 1000; decide), ?_⟩
        have g7 := ((s1.trans s3).trans s4).trans (same_upd (o := .lst [.bl (decide ((1 : Nat) = 0)), .bl (decide ((1 : Nat) = 1)), .bl (decide ((1 : Nat) = 2)), .bl true, .bl false]) ht3 (s5.trans s6))
        exact ⟨.non, t3, 1, rfl, g7, upd_same, .inl ⟨by decide, fun t H2 s h => fin t H2 (g7.trans s) h⟩⟩
      | th =>
        refine fun H3 s3 => ?_
        have kd := c.kN
        have fin : ∀ t H', Same H H' → H' t = some (.tup [.str (nm 2), .non]) → Q (.ref t) H' := q
        refine ⟨CN, rfl, kd.d, fun ea hea => ?_⟩
        have s4 := same_newO hea (excO ea CN none)
        have hE : upd H3 ea (excO ea CN none) ea = some (excO ea CN none) := upd_same
        generalize upd H3 ea (excO ea CN none) = H4 at s4 hE ⊢
        refine ⟨_, rfl, ea, CN, none, _, _, rfl, hE, kd.x.e, .inl rfl, .inl ⟨CB, rfl, kd.k0⟩, ?_⟩
        refine ⟨_, rfl, ea, CN, none, _, _, rfl, hE, kd.x.e, .inl rfl, .inl ⟨CT, rfl, kd.k1⟩, ?_⟩
        refine ⟨_, rfl, ea, CN, none, _, _, rfl, hE, kd.x.e, .inl rfl, .inl ⟨CN, rfl, kd.k2⟩, ?_⟩
        refine ⟨_, rfl, ea, CN, none, _, true, rfl, hE, kd.x.e, .inl rfl, .inr ⟨"ValueError", rfl, kit_ve kd.x⟩, (by show 4 ≤ sizeLine; decide), fun t3 ht3 => ?_⟩
        have s5 := same_newO ht3 (.lst [.bl (decide ((2 : Nat) = 0)), .bl (decide ((2 : Nat) = 1)), .bl (decide ((2 : Nat) = 2)), .bl true])
        refine ⟨_, rfl, .inl ⟨rfl, _, SqL.of upd_same⟩, _, rfl, (by show 3 ≤ sizeLine; decide), fun tp htp => ?_⟩
        have s6 := same_newO htp (.tup [.ref CP, .ref CW, .ref CC])
        refine ⟨ea, CN, none, tp, [CP, CW, CC], rfl, s6 _ _ (s5 _ _ hE), kd.x.e, .inl rfl, upd_same, kd.no, t3, _, _, rfl, rfl, s6 _ _ upd_same, small1000 (by show 4 ≤ 1000; decide), ?_⟩
        have g7 := ((s1.trans s3).trans s4).trans (same_upd (o := .lst [.bl (decide ((2 : Nat) = 0)), .bl (decide ((2 : Nat) = 1)), .bl (decide ((2 : Nat) = 2)), .bl true, .bl false]) ht3 (s5.trans s6))
        exact ⟨.non, t3, 2, rfl, g7, upd_same, .inl ⟨by decide, fun t H2 s h => fin t H2 (g7.trans s) h⟩⟩
      | told v =>
        refine fun H3 s3 => ?_
        exact ⟨.int v, t0, 3, rfl, s1.trans s3, s3 _ _ upd_same, .inr ⟨rfl, fun t H2 s4 h => q t H2 ((s1.trans s3).trans s4) h⟩⟩
  rintro σ' H1 ⟨fo, kl, g, rfl, sm, hk, fin⟩
  refine ⟨(by show 3 ≤ sizeLine; decide), fun l hl => ?_⟩
  have s2 := same_newO hl (.lst [.str "unlike", .str "word", .str "thing"])
  refine ⟨l, _, rfl, SqL.of upd_same, ?_⟩
  have hl2 : upd H1 l (.lst [.str "unlike", .str "word", .str "thing"]) l = some (.lst [.str "unlike", .str "word", .str "thing"]) := upd_same
  generalize upd H1 l (.lst [.str "unlike", .str "word", .str "thing"]) = H2 at s2 hl2 ⊢
  have g3 : g ≤ 3 := by rcases fin with ⟨z, _⟩ | ⟨z, _⟩ <;> omega
  refine for_enum (k := false) (xs := [.str "unlike", .str "word", .str "thing"]) (fun j σ H' => j ≤ g ∧ Same H2 H' ∧ ∃ x7 x8 : Option V, σ = [some (.int (wh : Int)), some (.ref p), some (.ref wa), some (.ref ca), some (.int i), some fo, some (.ref kl), none, x7, x8]) ⟨by omega, Same.refl _, _, _, rfl⟩ (fun j σ H' _ hP => SqL.of (hP.2.1 _ _ hl2)) (fun j x pp σ H3 hx hP hpp => ?_) (fun σ H3 hP => ?_)
  · obtain ⟨jg, s3, x7, x8, rfl⟩ := hP
    have s4 := same_newO hpp (.tup [.int (j : Int), x])
    refine ⟨pp, _, rfl, SqT.of upd_same, rfl, _, _, rfl, _, _, rfl, rfl, ?_⟩
    refine ⟨_, rfl, _, rfl, rfl, _, rfl, rfl, _, rfl, rfl, (by show 5 ≤ sizeLine; decide), fun t5 ht5 => ?_⟩
    have s5 := same_newO ht5 (.lst [.bl (decide (V.int (j : Int) = V.int 0)), .bl (decide (V.int (j : Int) = V.int 1)), .bl (decide (V.int (j : Int) = V.int 2)), .bl true, .bl false])
    have g5 : Same H1 _ := ((s2.trans s3).trans s4).trans s5
    refine ⟨kl, t5, kinds g, [decide (V.int (j : Int) = V.int 0), decide (V.int (j : Int) = V.int 1), decide (V.int (j : Int) = V.int 2), true, false], rfl, rfl, g5 _ _ hk, upd_same, _, rfl, ?_⟩
    have hj : j < 3 := (List.getElem?_eq_some_iff.mp hx).1
    refine ite2 (fun z => ?_) (fun z => ⟨?_, (s3.trans s4).trans s5, _, _, rfl⟩)
    · have e := (kne j g hj g3).mp (of_decide_eq_true z)
      subst e
      rcases fin with ⟨_, fin⟩ | ⟨z, _⟩
      · refine ⟨_, rfl, (by show 2 ≤ sizeLine; decide), fun t ht => fin t _ (g5.trans (same_newO ht _)) ?_⟩
        have h1 : g = 0 ∨ g = 1 ∨ g = 2 := by omega
        rcases h1 with rfl | rfl | rfl <;> cases hx <;> exact upd_same
      · omega
    · have ne : g ≠ j := fun e => z (decide_eq_true ((kne j g hj g3).mpr e))
      omega
  · obtain ⟨jg, s3, x7, x8, rfl⟩ := hP
    have jg' : 3 ≤ g := jg
    rcases fin with ⟨z, _⟩ | ⟨z, fin⟩
    · omega
    subst z
    refine ⟨_, rfl, (by show 0 ≤ sizeLine; decide), fun t6 ht6 => ?_⟩
    have s6 := same_newO ht6 (.lst [])
    have g6 : Same H1 _ := (s2.trans s3).trans s6
    refine ⟨kl, t6, [], [], rfl, rfl, g6 _ _ hk, upd_same, _, rfl, ?_⟩
    rw [decide_eq_true rfl]
    exact iteT ⟨_, rfl, (by show 2 ≤ sizeLine; decide), fun t ht => fin t _ (g6.trans (same_newO ht _)) upd_same⟩
end
end K62
set_option Elab.async false
set_option linter.all false
set_option maxRecDepth 100000
namespace K62
open PySem L2
/-! ### _law_due -/
def bad (m x : Int) : Bool := !(al m x)
theorem bad_iff {m x : Int} : bad m x = true ↔ (x < 0 ∨ x ≥ m) := by
  unfold bad al
  by_cases h1 : 0 ≤ x <;> by_cases h2 : x < m <;> simp [h1, h2] <;> omega
theorem alone_bad {m : Int} {ns : List Int} : alone m ns = decide (ns.filter (bad m) = []) := by
  by_cases h : ns.filter (bad m) = []
  · rw [decide_eq_true h, alone_iff]
    intro x hx
    have := List.filter_eq_nil_iff.mp h x hx
    rw [bad_iff] at this
    omega
  · rw [decide_eq_false h]
    cases e : alone m ns with
    | false => rfl
    | true =>
      refine absurd (List.filter_eq_nil_iff.mpr fun x hx => ?_) h
      have := alone_of e x hx
      rw [bad_iff]
      omega
section
variable {P : Program} {w : World} {K : PySem.W.Frag} {mg : Str → Option Value} {base : Heap} {f : Addr} {fd : FuncData}
abbrev NDu : List Str := ["which", "prices", "weights", "code", "at", "word"]
abbrev NDm : List Str := ["which", "prices", "weights", "code", "at", "-"]
theorem scDue : FnScope NDu NA (defScope sDue) := ⟨rfl, rfl, rfl, by decide +kernel, rfl, by decide +kernel, by decide +kernel⟩
theorem ndD1 : (("letter" : Str) :: NDu).Nodup := by decide +kernel
theorem ndD2 : (("weight" : Str) :: "word" :: NDm).Nodup := by decide +kernel
set_option maxHeartbeats 16000000 in
theorem ok_due (F : Fun K "_law_due" "_law_due" sDue f fd) (ml : mg "len" = none) (ms : mg "sum" = none) (mz : mg "zip" = none) : FnOk P w K mg base CX0 1 f fd NA spTold := by
  refine F.ok (k := 0) scDue (fun vs H Q E h => ?_) (fun cdv A outer s H vs Q E hr h => ?_)
  · obtain ⟨wh, p, wa, ca, ps, ws, nss, i, rfl, _⟩ := h
    rfl
  obtain ⟨wh, p, wa, ca, ps, ws, nss, i, rfl, hwh, cd, q⟩ := h
  obtain ⟨hp, hw, ⟨xs, hc, hx⟩, l1, l2, bp, bw⟩ := cd
  have lx : xs.length = nss.length := hx.length
  refine ⟨_, pss_cons (ps_if (pt_cmpR op_ne (pe_callB call_len_seq (by rfl) ml PySem.boot_len (pa_cons (pv 3) pa_nil)) (pe_callB call_len_seq (by rfl) ml PySem.boot_len (pa_cons (pv 2) pa_nil)) (nomark _)) (pss_one (ps_ret (pe_tup (pa_cons pe_str (pa_cons pe_non pa_nil))))) pss_nil)
    (pss_cons (ps_for PassesOwn.never rfl (pi_tup (pv 3)) (pg_name (i := 5) scDue.nd rfl (Or.inl rfl))
      (pss_one (ps_if (pt_cmpR op_gt (pe_callB call_len_seq (by rfl) ml PySem.boot_len (pa_cons (pe_compT (M := NDu) rfl (CompScope.of (defScope sDue) NDu rfl rfl rfl (by decide +kernel) (by decide +kernel) (by decide +kernel) rfl (by decide +kernel)) ndD1 rfl (pv 5) mo_var
          (fun cl C s0 H0 fp => ⟨pts_one (pt_mid (PW.pt (pw_or (pt_cmpR op_lt (pv 0) pe_int (nomark _)) (pw_or1 (pt_cmpR op_ge (pv 0) (pe_callB (call_lenK K) (by rfl) ml PySem.boot_len (pa_cons (pv 2) pa_nil)) (nomark _)))))), pv 0⟩)) pa_nil)) pe_int (nomark _)) (pss_one (ps_ret (pe_tup (pa_cons pe_str (pa_cons pe_non pa_nil))))) pss_nil)))
    (pss_cons (ps_if (pt_cmpR op_eq (pv 0) pe_int (nomark _))
        (pss_cons (ps_if (pt_mid (PW.pt (pw_or (pt_cmpR op_lt (pv 4) pe_int (nomark _)) (pw_or1 (pt_cmpR op_ge (pv 4) (pe_callB call_len_seq (by rfl) ml PySem.boot_len (pa_cons (pv 1) pa_nil)) (nomark _)))))) (pss_one (ps_ret (pe_tup (pa_cons pe_str (pa_cons pe_non pa_nil))))) pss_nil)
        (pss_one (ps_ret (pe_tup (pa_cons pe_str (pa_cons (pe_callB (call_sum rfl) (by rfl) ms b_sum (pa_cons (pe_compZ K true true (M := NDm) rfl (CompScope.of (defScope sDue) NDu rfl rfl rfl (by decide +kernel) (by decide +kernel) (by decide +kernel) rfl (by decide +kernel)) ndD2 rfl rfl (by rfl) mz (pa_cons (pv 2) (pa_cons (pv 3) pa_nil)) (mo_cons mo_var (mo_cons mo_var mo_nil))
          (fun cl C s0 H0 fp pins σ bk => ⟨pts_nil, pe_op op_mulB (pv 0) (pe_bmT PySem.F.slot_tuple_count PySem.F.type_tuple_count mt_countT (pv 1) (pa_cons (pv 6) pa_nil))⟩)) pa_nil)) pa_nil)))))) pss_nil)
    (pss_cons (ps_if (pt_mid (PW.pt (pw_or (pt_cmpR op_lt (pv 4) pe_int (nomark _)) (pw_or1 (pt_cmpR op_ge (pv 4) (pe_callB call_len_seq (by rfl) ml PySem.boot_len (pa_cons (pv 2) pa_nil)) (nomark _)))))) (pss_one (ps_ret (pe_tup (pa_cons pe_str (pa_cons pe_non pa_nil))))) pss_nil)
    (pss_one (ps_ret (pe_tup (pa_cons pe_str (pa_cons (pe_callB (call_sum rfl) (by rfl) ms b_sum (pa_cons (pe_compT (M := NDu) rfl (CompScope.of (defScope sDue) NDu rfl rfl rfl (by decide +kernel) (by decide +kernel) (by decide +kernel) rfl (by decide +kernel)) ndD1 rfl (pe_mid (pe_ix ix_tup (pv 3) (pv 4) (fun _ _ => rfl))) mo_mid
      (fun cl C s0 H0 fp => ⟨pts_nil, pe_ix (ixT K) (pv 2) (pv 0) (fun _ _ => rfl)⟩)) pa_nil)) pa_nil)))))))), ?_⟩
  refine ⟨_, rfl, ca, _, rfl, .inr (SqT.of hc), _, rfl, wa, _, rfl, .inr (SqT.of hw), rfl, _, rfl, ?_⟩
  rw [List.length_map, lx]
  refine ite2 (fun b => ?_) (fun b => ?_)
  · have ne : nss.length ≠ ws.length := fun z => by rw [z] at b; simp at b
    rw [oc_un ne] at q
    exact ⟨(by show 2 ≤ sizeLine; decide), fun t ht => q t _ (same_newO ht _) upd_same⟩
  have el : nss.length = ws.length := by
    by_cases z : nss.length = ws.length
    · exact z
    · refine absurd ?_ b
      rw [Bool.not_eq_true', decide_eq_false_iff_not]
      intro y
      have := V.int.inj y
      omega
  refine ⟨_, rfl, ca, rfl, ⟨_, SqT.of hc⟩, ?_⟩
  refine for_tup (xs := xs) (fun k σ H' => Same H H' ∧ (∀ j, j < k → ∀ ns, nss[j]? = some ns → alone (ps.length : Int) ns = true) ∧ ∃ x5 : Option V, σ = [some (.int (wh : Int)), some (.ref p), some (.ref wa), some (.ref ca), some (.int i), x5]) ⟨Same.refl _, fun j hj => absurd hj (Nat.not_lt_zero _), _, rfl⟩ (fun k σ H' _ hP => SqT.of (hP.1 _ _ hc)) (fun k x σ H1 hx' hP => ?_) (fun σ H1 hP => ?_)
  · obtain ⟨s1, al1, x5, rfl⟩ := hP
    obtain ⟨ns, hn, rx⟩ := Paired.right_of hx k x hx'
    obtain ⟨a, rfl, ha0⟩ := Wd.ti rx
    have ha := s1 _ _ ha0
    have hl := l2 ns (List.mem_of_getElem? hn)
    refine ⟨_, rfl, a, _, rfl, SqT.of ha, fun d hd => ?_⟩
    refine ⟨fun m H' => Same H1 H' ∧ H' d = some (.lst (((ns.take m).filter (bad (ps.length : Int))).map V.int)), ⟨same_newO hd _, upd_same⟩, fun m H' _ hP => SqT.of (hP.1 _ _ ha), fun m x H' hx hP => ?_, fun H' hP => ?_⟩
    · obtain ⟨sm, hd'⟩ := hP
      rw [List.getElem?_map] at hx
      obtain ⟨z, hz, rfl⟩ := Option.map_eq_some_iff.mp hx
      have et : (ns.take (m + 1)).filter (bad (ps.length : Int)) = (ns.take m).filter (bad (ps.length : Int)) ++ (if bad (ps.length : Int) z = true then [z] else []) := by
        rw [List.take_add_one, hz, List.filter_append]
        congr 1
        show [z].filter _ = _
        rw [List.filter_cons]
        rfl
      refine ⟨fun b H2 => b = bad (ps.length : Int) z ∧ H2 = H', ?_, ?_⟩
      · refine ⟨_, rfl, _, _, rfl, rfl, _, rfl, ?_⟩
        refine ite2 (fun y => ⟨?_, rfl⟩) (fun y => ?_)
        · exact (bad_iff.mpr (.inl (of_decide_eq_true y))).symm
        · refine ⟨_, rfl, _, rfl, p, _, rfl, .inr (SqT.of (sm _ _ (s1 _ _ hp))), _, _, rfl, rfl, _, rfl, ?_, rfl⟩
          rw [List.length_map]
          have y1 : ¬ z < 0 := fun w => y (decide_eq_true w)
          by_cases g : z ≥ (ps.length : Int)
          · rw [bad_iff.mpr (.inr g)]; exact decide_eq_true g
          · rw [show bad (ps.length : Int) z = false from Bool.eq_false_iff.mpr fun w => by rcases bad_iff.mp w with w | w <;> omega]; exact decide_eq_false g
      · rintro b H2 ⟨rfl, rfl⟩
        refine ite2 (fun y => ?_) (fun y => ?_)
        · refine ⟨_, rfl, _, hd', ?_, same_upd hd sm, ?_⟩
          · rw [List.length_map]
            have := List.length_filter_le (bad (ps.length : Int)) (ns.take m)
            rw [List.length_take] at this
            exact small1000 (by omega)
          · rw [upd_same, et, if_pos y, List.map_append]; rfl
        · exact ⟨sm, by rw [hd', et, if_neg y, List.append_nil]⟩
    · obtain ⟨sm, hd'⟩ := hP
      rw [List.length_map, List.take_length] at hd'
      refine ⟨d, _, rfl, .inl (SqL.of hd'), _, _, rfl, rfl, _, rfl, ?_⟩
      rw [List.length_map]
      have s2 := s1.trans sm
      refine ite2 (fun y => ?_) (fun y => ?_)
      · have y1 := of_decide_eq_true y
        have ba : alone (ps.length : Int) ns = false := by
          rw [alone_bad]
          refine decide_eq_false fun z => ?_
          rw [z] at y1
          simp at y1
        rw [oc_bad el ⟨ns, List.mem_of_getElem? hn, ba⟩] at q
        exact ⟨(by show 2 ≤ sizeLine; decide), fun t ht => q t _ (s2.trans (same_newO ht _)) upd_same⟩
      · have go : alone (ps.length : Int) ns = true := by
          rw [alone_bad]
          refine decide_eq_true ?_
          cases e : ns.filter (bad (ps.length : Int)) with
          | nil => rfl
          | cons u us => exact absurd (decide_eq_true (by rw [e, List.length_cons]; omega)) y
        refine ⟨s2, fun j hj ms hm => ?_, _, rfl⟩
        by_cases e : j = k
        · rw [e, hn] at hm; cases hm; exact go
        · exact al1 j (by omega) ms hm
  obtain ⟨s1, al1, x5, rfl⟩ := hP
  have good : ∀ ns ∈ nss, alone (ps.length : Int) ns = true := fun ns hns => by
    obtain ⟨j, hj⟩ := List.mem_iff_getElem?.mp hns
    exact al1 j (by have := (List.getElem?_eq_some_iff.mp hj).1; omega) ns hj
  rw [oc_good el good] at q
  have hp1 : TW H1 p ps := s1 _ _ hp
  have hw1 : TW H1 wa ws := s1 _ _ hw
  have hc1 := s1 _ _ hc
  have hx1 := Ws.same s1 hx
  -- the place, told or not
  have hw' : wh = 0 ∨ wh = 1 := by omega
  rcases hw' with rfl | rfl
  · rw [if_pos rfl] at q
    refine ⟨_, rfl, rfl, _, rfl, ?_⟩
    refine ite2 (fun _ => ?_) (fun z => absurd (decide_eq_true rfl) z)
    refine ⟨fun b H2 => b = !(inB i ps) ∧ H2 = H1, ?_, ?_⟩
    · refine ⟨_, rfl, _, _, rfl, rfl, _, rfl, ?_⟩
      refine ite2 (fun y => ⟨?_, rfl⟩) (fun y => ?_)
      · have := of_decide_eq_true y
        unfold inB
        rw [decide_eq_false (by omega)]; rfl
      · refine ⟨_, rfl, _, rfl, p, _, rfl, .inr (SqT.of hp1), _, _, rfl, rfl, _, rfl, ?_, rfl⟩
        rw [List.length_map]
        have y1 : ¬ i < 0 := fun w => y (decide_eq_true w)
        unfold inB
        rw [decide_eq_true (show 0 ≤ i by omega), Bool.true_and]
        by_cases g : i < (ps.length : Int)
        · rw [decide_eq_true g]; exact decide_eq_false (by omega)
        · rw [decide_eq_false g]; exact decide_eq_true (by omega)
    rintro b H2 ⟨rfl, rfl⟩
    cases hin : inB i ps with
    | false =>
      rw [hin, if_neg (by decide)] at q
      refine iteT ⟨(by show 2 ≤ sizeLine; decide), fun t ht => q t _ (s1.trans (same_newO ht _)) upd_same⟩
    | true =>
      rw [hin, if_pos rfl] at q
      refine iteF ?_
      refine ⟨_, rfl, _, rfl, wa, ca, _, _, rfl, SqT.of hw1, SqT.of hc1, by rw [List.length_map]; omega, fun d hd => ?_⟩
      refine ⟨fun k H' => Same H2 H' ∧ H' d = some (.lst (((List.zipWith (fun x ns => x * ((List.count i ns : Nat) : Int)) ws nss).take k).map V.int)), ⟨same_newO hd _, upd_same⟩,
        fun k H' _ hP => ⟨SqT.of (hP.1 _ _ hw1), SqT.of (hP.1 _ _ hc1)⟩, fun k x y pp H' hx' hy' hP hpp => ?_, fun H' hP => ?_⟩
      · obtain ⟨sm, hd'⟩ := hP
        rw [List.getElem?_map] at hx'
        obtain ⟨wt, hz, rfl⟩ := Option.map_eq_some_iff.mp hx'
        obtain ⟨ns, hn, ry⟩ := Paired.right_of hx1 k y hy'
        obtain ⟨ya, rfl, hya⟩ := Wd.ti ry
        have iw := (List.getElem?_eq_some_iff.mp hz).1
        have s2 := same_newO hpp (.tup [.int wt, .ref ya])
        have hya2 := s2 _ _ (sm _ _ hya)
        obtain ⟨b3, b4⟩ := bw wt (List.mem_of_getElem? hz)
        have b5 := l2 ns (List.mem_of_getElem? hn)
        have b6 : List.count i ns ≤ ns.length := List.count_le_length
        refine turnZ_all ⟨_, rfl, _, rfl, ⟨ya, _, rfl, hya2⟩, _, rfl, ya, ns, i, rfl, rfl, hya2, _, _, rfl, rfl, ⟨⟨b3, by unfold B30 at *; omega⟩, ⟨by omega, by unfold B30 at *; omega⟩⟩, _, s2 _ _ hd', ?_, same_upd hd (sm.trans s2), ?_⟩
        · rw [List.length_map, List.length_take, List.length_zipWith]; exact small1000 (by omega)
        · rw [upd_same, List.take_add_one, zip_at2 hz hn, List.map_append]; rfl
      · obtain ⟨sm, hd'⟩ := hP
        rw [List.length_map] at hd'
        rw [List.take_of_length_le (by rw [List.length_zipWith]; omega)] at hd'
        exact ⟨d, _, rfl, hd', (by show 2 ≤ sizeLine; decide), fun t ht => q t _ ((s1.trans sm).trans (same_newO ht _)) upd_same⟩
  · rw [if_neg (by decide)] at q
    refine ⟨_, rfl, rfl, _, rfl, ?_⟩
    refine ite2 (fun z => absurd (of_decide_eq_true z) (by intro y; cases y)) (fun _ => ?_)
    refine ⟨fun b H2 => b = !(inB i ws) ∧ H2 = H1, ?_, ?_⟩
    · refine ⟨_, rfl, _, _, rfl, rfl, _, rfl, ?_⟩
      refine ite2 (fun y => ⟨?_, rfl⟩) (fun y => ?_)
      · have := of_decide_eq_true y
        unfold inB
        rw [decide_eq_false (by omega)]; rfl
      · refine ⟨_, rfl, _, rfl, wa, _, rfl, .inr (SqT.of hw1), _, _, rfl, rfl, _, rfl, ?_, rfl⟩
        rw [List.length_map]
        have y1 : ¬ i < 0 := fun w => y (decide_eq_true w)
        unfold inB
        rw [decide_eq_true (show 0 ≤ i by omega), Bool.true_and]
        by_cases g : i < (ws.length : Int)
        · rw [decide_eq_true g]; exact decide_eq_false (by omega)
        · rw [decide_eq_false g]; exact decide_eq_true (by omega)
    rintro b H2 ⟨rfl, rfl⟩
    cases hin : inB i ws with
    | false =>
      rw [hin, if_neg (by decide)] at q
      refine iteT ⟨(by show 2 ≤ sizeLine; decide), fun t ht => q t _ (s1.trans (same_newO ht _)) upd_same⟩
    | true =>
      obtain ⟨i0, i1⟩ := inB_iff.mp hin
      rw [hin, if_pos rfl] at q
      refine iteF ?_
      obtain ⟨k, rfl⟩ : ∃ k : Nat, i = (k : Int) := ⟨i.toNat, by omega⟩
      have hk : k < nss.length := by omega
      have hn : nss[k]? = some (nss[k]'hk) := List.getElem?_eq_getElem hk
      obtain ⟨x, hxk, rx⟩ := Paired.left_of hx1 k _ hn
      obtain ⟨ya, rfl, hya⟩ := Wd.ti rx
      have eg : nss.getD (k : Int).toNat [] = nss[k]'hk := by rw [Int.toNat_natCast, List.getD_eq_getElem?_getD, hn]; rfl
      rw [eg] at q
      have hng := alone_of (good _ (List.getElem_mem hk))
      have hl := l2 _ (List.getElem_mem hk)
      generalize nss[k]'hk = ns at q hya hng hl
      refine ⟨fun v H' => v = .ref ya ∧ H' = H2, ⟨_, rfl, _, rfl, ca, xs, (k : Int), .ref ya, rfl, rfl, SqT.of hc1, atI_nat hxk, rfl, rfl⟩, ?_⟩
      rintro v H3 ⟨rfl, rfl⟩
      refine ⟨ya, _, rfl, SqT.of hya, fun d hd => ?_⟩
      refine ⟨fun k H' => Same H3 H' ∧ H' d = some (.lst (((ns.take k).map fun x => ps.getD x.toNat 0).map V.int)), ⟨same_newO hd _, upd_same⟩, fun k H' _ hP => SqT.of (hP.1 _ _ hya), fun k x H' hx hP => ?_, fun H' hP => ?_⟩
      · obtain ⟨sm, hd'⟩ := hP
        rw [List.getElem?_map] at hx
        obtain ⟨z, hz, rfl⟩ := Option.map_eq_some_iff.mp hx
        have hk2 := (List.getElem?_eq_some_iff.mp hz).1
        obtain ⟨z0, z1⟩ := hng z (List.mem_of_getElem? hz)
        obtain ⟨n, rfl⟩ : ∃ n : Nat, z = n := ⟨z.toNat, by omega⟩
        have hn' : n < ps.length := by omega
        refine turn_all ⟨_, rfl, _, rfl, p, _, _, _, rfl, rfl, SqT.of (sm _ _ hp1), at_int (List.getElem?_eq_getElem hn'), _, hd', ?_, same_upd hd sm, ?_⟩
        · rw [List.length_map, List.length_map, List.length_take]; exact small1000 (by omega)
        · rw [upd_same, List.take_add_one, hz, List.map_append, List.map_append]
          simp [List.getD_eq_getElem?_getD, List.getElem?_eq_getElem hn']
      · obtain ⟨sm, hd'⟩ := hP
        rw [List.length_map, List.take_length] at hd'
        exact ⟨d, _, rfl, hd', (by show 2 ≤ sizeLine; decide), fun t ht => q t _ ((s1.trans sm).trans (same_newO ht _)) upd_same⟩
end
end K62
set_option Elab.async false
set_option linter.all false
set_option maxRecDepth 100000
namespace K62
open PySem L2
theorem fourS {a b c d i : Int} (i0 : 0 ≤ i) (i1 : i < 4) : ∃ v, atI [V.int a, .int b, .int c, .int d] i = some (.int v) := by
  have h : i = 0 ∨ i = 1 ∨ i = 2 ∨ i = 3 := by omega
  rcases h with h | h | h | h <;> subst h <;> exact ⟨_, rfl⟩
theorem mod_n {x : Int} {n : Nat} (hn : 1 ≤ n) : ∃ k : Nat, x % (n : Int) = (k : Int) ∧ k < n := by
  have h1 := Int.emod_nonneg x (show (n : Int) ≠ 0 by omega)
  have h2 := Int.emod_lt_of_pos x (show (0 : Int) < (n : Int) by omega)
  exact ⟨(x % (n : Int)).toNat, by omega, by omega⟩
theorem ixN_nat {n j : Nat} (h : j < n) : ixN n (j : Int) = some j := by
  unfold ixN
  rw [if_pos (by omega), if_pos (by omega)]
  rfl
theorem paired_set {α β : Type} {R : α → β → Prop} : ∀ (k : Nat) {xs : List α} {ys : List β} {x : α} {y : β}, Paired R xs ys → R x y → Paired R (xs.set k x) (ys.set k y)
  | _, _, _, _, _, .nil, _ => .nil
  | 0, _, _, _, _, .cons _ t, h => .cons h t
  | k + 1, _, _, _, _, .cons r t, h => .cons r (paired_set k t h)
section
variable {P : Program} {w : World} {K : PySem.W.Frag} {mg : Str → Option Value} {base : Heap} {f : Addr} {fd : FuncData}
/-! _law_word -/
abbrev NWd : List Str := ["cell", "letters", "many", "word", "k"]
def spWord : Sp := fun vs H Q _ => ∃ (c : Int) (m : Nat), vs = [.int c, .int (m : Int)] ∧ 2 ≤ m ∧ m ≤ 6 ∧ ∀ t ns H', Same H H' → TW H' t ns → ns.length ≤ 8 → Q (.ref t) H'
theorem scWord : FnScope NWd ["cell", "letters"] (defScope sWord) := ⟨rfl, rfl, rfl, by decide +kernel, rfl, by decide +kernel, by decide +kernel⟩
set_option maxHeartbeats 4000000 in
theorem ok_word (F : Fun K "_law_word" "_law_word" sWord f fd) (mr : mg "range" = none) (mt : mg "tuple" = none) : FnOk P w K mg base CX0 1 f fd ["cell", "letters"] spWord := by
  refine F.ok (k := 0) scWord (fun vs H Q E h => ?_) (fun cdv A outer s H vs Q E hr h => ?_)
  · obtain ⟨c, m, rfl, _⟩ := h
    rfl
  obtain ⟨c, m, rfl, m2, m6, q⟩ := h
  refine ⟨_, pss_cons (ps_set (i := 2) scWord.nd rfl (Or.inl rfl) (pe_op op_mod (pv 0) pe_int))
    (pss_cons (ps_set (i := 0) scWord.nd rfl (Or.inl rfl) (pe_op op_fdiv (pv 0) pe_int))
    (pss_cons (ps_set (i := 3) scWord.nd rfl (Or.inl rfl) (pe_lst pa_nil))
    (pss_cons (ps_for PassesOwn.never rfl (pi_range1 (by rfl) mr (pa_cons (pv 2) pa_nil)) (pg_name (i := 4) scWord.nd rfl (Or.inl rfl))
      (pss_cons (ps_expr (pe_bm PySem.F.plainAttrs_list PySem.F.slot_list_append PySem.F.type_list_append mt_append (pv 3) (pa_cons (pe_op op_mod (pv 0) (pv 1)) pa_nil)))
      (pss_one (ps_set (i := 0) scWord.nd rfl (Or.inl rfl) (pe_op op_fdiv (pv 0) (pv 1))))))
    (pss_one (ps_ret (pe_callTy call_tuple_of (by rfl) mt b_tuple (pa_cons (pv 3) pa_nil))))))), ?_⟩
  refine ⟨_, rfl, _, _, rfl, rfl, (by show (0 : Int) < _; decide), _, rfl, _, _, rfl, rfl, ⟨by decide, by decide⟩, (by show 0 ≤ sizeLine; decide), fun d hd => ?_⟩
  have s1 := same_newO hd (.lst [])
  have g1 : upd H d (.lst []) d = some (.lst (([] : List Int).map V.int)) := upd_same
  generalize upd H d (.lst []) = H1 at s1 g1 ⊢
  refine ⟨_, rfl, _, rfl, by omega, by omega, ?_⟩
  refine for_range (fun k σ H' => Same H H' ∧ (∃ ns : List Int, H' d = some (.lst (ns.map V.int)) ∧ ns.length = k) ∧ ∃ (c' : Int) (x4 : Option V), σ = [some (.int c'), some (.int (m : Int)), some (.int (c % 9)), some (.ref d), x4]) ⟨s1, ⟨[], g1, rfl⟩, _, _, rfl⟩ (fun k σ H2 hk hP => ?_) (fun σ H2 hP => ?_)
  · obtain ⟨s2, ⟨ns, g2, ln⟩, c', x4, rfl⟩ := hP
    have hk' : k < 9 := by omega
    refine ⟨_, rfl, .inl ⟨rfl, _, SqL.of g2⟩, _, rfl, _, rfl, _, _, rfl, rfl, (by show (0 : Int) < _; omega), d, _, _, rfl, rfl, g2, (by rw [List.length_map]; exact small1000 (by omega)), ?_⟩
    exact ⟨_, rfl, _, rfl, _, _, rfl, rfl, ⟨by omega, by omega⟩, same_upd hd s2, ⟨ns ++ [c' % (m : Int)], by rw [upd_same, List.map_append]; rfl, by rw [List.length_append, ln]; rfl⟩, _, _, rfl⟩
  · obtain ⟨s2, ⟨ns, g2, ln⟩, c', x4, rfl⟩ := hP
    refine ⟨_, rfl, d, _, rfl, .inl ⟨SqL.of g2, fun t ht => q t ns _ (s2.trans (same_newO ht _)) upd_same (by omega)⟩⟩
/-! _law_spoilt -/
abbrev NSp : List Str := ["code", "letters", "cell", "made", "at"]
def spSpoilt : Sp := fun vs H Q _ => ∃ (ca : Addr) (xs : List V) (nss : List (List Int)) (m : Nat) (c : Int), vs = [.ref ca, .int (m : Int), .int c] ∧ H ca = some (.tup xs) ∧ Ws H xs nss ∧ 1 ≤ nss.length ∧ nss.length ≤ 30 ∧ (∀ ns ∈ nss, ns.length ≤ 900) ∧
  ∀ t ys mss H', Same H H' → H' t = some (.tup ys) → Ws H' ys mss → mss.length ≤ 100 → (∀ ns ∈ mss, ns.length ≤ 1000) → Q (.ref t) H'
theorem scSpoilt : FnScope NSp ["code", "letters", "cell"] (defScope sSpoilt) := ⟨rfl, rfl, rfl, by decide +kernel, rfl, by decide +kernel, by decide +kernel⟩
set_option maxHeartbeats 16000000 in
theorem ok_spoilt (F : Fun K "_law_spoilt" "_law_spoilt" sSpoilt f fd) (ml : mg "len" = none) (mL : mg "list" = none) (mt : mg "tuple" = none) : FnOk P w K mg base CX0 1 f fd ["code", "letters", "cell"] spSpoilt := by
  refine F.ok (k := 0) scSpoilt (fun vs H Q E h => ?_) (fun cdv A outer s H vs Q E hr h => ?_)
  · obtain ⟨ca, xs, nss, m, c, rfl, _⟩ := h
    rfl
  obtain ⟨ca, xs, nss, m, c, rfl, hc, hx, n1, n30, l9, q⟩ := h
  have lx : xs.length = nss.length := hx.length
  refine ⟨_, pss_cons (ps_set (i := 3) scSpoilt.nd rfl (Or.inl rfl) (pe_callTy call_list_of (by rfl) mL b_list (pa_cons (pv 0) pa_nil)))
    (pss_cons (ps_set (i := 4) scSpoilt.nd rfl (Or.inl rfl) (pe_op op_mod (pe_op op_fdiv (pv 2) pe_int) (pe_callB call_len_seq (by rfl) ml PySem.boot_len (pa_cons (pv 3) pa_nil))))
    (pss_cons (ps_mid (ps_if (pt_cmpR op_eq (pe_op op_mod (pv 2) pe_int) pe_int (nomark _)) (pss_one (ps_expr (pe_bm PySem.F.plainAttrs_list PySem.F.slot_list_insert PySem.F.type_list_insert mt_insert (pv 3) (pa_cons (pv 4) (pa_cons (pe_tup pa_nil) pa_nil))))) pss_nil))
    (pss_cons (ps_mid (ps_if (PW.pt (pw_and (pt_cmpR op_eq (pe_op op_mod (pv 2) pe_int) pe_int (nomark _)) (pw_and1 (pt_cmpR op_gt (pe_callB call_len_seq (by rfl) ml PySem.boot_len (pa_cons (pv 3) pa_nil)) pe_int (nomark _))))) (pss_one (ps_expr (pe_bm PySem.F.plainAttrs_list PySem.F.slot_list_pop PySem.F.type_list_pop mt_popAt (pv 3) (pa_cons (pv 4) pa_nil)))) pss_nil))
    (pss_cons (ps_mid (ps_if (pt_mid (PW.pt (pw_or (pt_cmpR op_eq (pe_op op_mod (pv 2) pe_int) pe_int (nomark _)) (pw_or1 (pt_cmpR op_eq (pe_op op_mod (pv 2) pe_int) pe_int (nomark _))))))
        (pss_one (ps_asg (pe_op op_catG (pe_ix ix_list (pv 3) (pv 4) (fun _ _ => rfl)) (pe_tup (pa_cons (pe_ix ix_list (pe_lst (pa_cons (pe_un un_neg pe_int) (pa_cons (pv 1) (pa_cons (pe_op op_add (pv 1) (pv 2)) (pa_cons (pe_op op_sub (pe_un un_neg pe_int) (pv 2)) pa_nil))))) (pe_op op_mod (pe_op op_fdiv (pv 2) pe_int) pe_int) (fun _ _ => rfl)) pa_nil))) (pg_sub (pv 3) (pv 4) set_list))) pss_nil))
    (pss_cons (ps_mid (ps_if (pt_cmpR op_eq (pe_op op_mod (pv 2) pe_int) pe_int (nomark _)) (pss_one (ps_expr (pe_bm PySem.F.plainAttrs_list PySem.F.slot_list_append PySem.F.type_list_append mt_append (pv 3) (pa_cons (pe_tup pa_nil) pa_nil)))) pss_nil))
    (pss_one (ps_ret (pe_callTy call_tuple_of (by rfl) mt b_tuple (pa_cons (pv 3) pa_nil))))))))), ?_⟩
  refine ⟨_, rfl, ca, _, rfl, .inr (SqT.of hc), fun d hd => ?_⟩
  have s1 := same_newO hd (.lst xs)
  have g1 : upd H d (.lst xs) d = some (.lst xs) := upd_same
  have hx1 := Ws.same s1 hx
  generalize upd H d (.lst xs) = H1 at s1 g1 hx1 ⊢
  refine ⟨_, rfl, _, _, rfl, rfl, ⟨by decide, by decide⟩, _, rfl, d, _, rfl, .inl (SqL.of g1), ?_⟩
  rw [lx]
  obtain ⟨k, ek, hk⟩ := mod_n (x := c / 16) n1
  have ek' : (fun (i j : Int) => V.int (i % j)) (c / 16) (nss.length : Int) = .int (k : Int) := congrArg V.int ek
  refine ⟨_, _, rfl, rfl, (by show (0 : Int) < _; omega), ?_⟩
  rw [ek']
  refine ⟨fun σ H' => σ = [some (.ref ca), some (.int (m : Int)), some (.int c), some (.ref d), some (.int (k : Int))] ∧ Same H H' ∧ ∃ ys mss, H' d = some (.lst ys) ∧ Ws H' ys mss ∧ nss.length ≤ mss.length ∧ mss.length ≤ 40 ∧ ∀ ns ∈ mss, ns.length ≤ 900, ?_, ?_⟩
  · refine ⟨_, rfl, _, _, rfl, rfl, (by show (0 : Int) < _; decide), rfl, _, rfl, ?_⟩
    refine ite2 (fun _ => ?_) (fun _ => ⟨rfl, s1, xs, nss, g1, hx1, Nat.le_refl _, by omega, l9⟩)
    refine ⟨_, rfl, .inl ⟨rfl, _, SqL.of g1⟩, _, rfl, (by show 0 ≤ sizeLine; decide), fun t ht => ?_⟩
    have dt : d ≠ t := fun z => by rw [← z, g1] at ht; cases ht
    have s2 := same_newO ht (.tup [])
    have g2 := s2 _ _ g1
    have ht2 : TW (upd H1 t (.tup [])) t [] := upd_same
    have hx2 := Ws.same s2 hx1
    generalize upd H1 t (.tup []) = H2 at s2 g2 ht2 hx2 ⊢
    refine ⟨d, _, (k : Int), k, _, rfl, rfl, rfl, g2, by omega, by omega, rfl, same_upd hd (s1.trans s2), _, nss.take k ++ [] :: nss.drop k, upd_same, Ws.upd g2 (L2.Paired.appendP (Paired.takeP k hx2) (.cons (Wd.of ht2) (Paired.dropP k hx2))), ?_, ?_, fun ns hns => ?_⟩
    · rw [List.length_append, List.length_cons, List.length_take, List.length_drop]; omega
    · rw [List.length_append, List.length_cons, List.length_take, List.length_drop]; omega
    · rcases List.mem_append.mp hns with z | z
      · exact l9 ns (List.mem_of_mem_take z)
      · rcases List.mem_cons.mp z with z | z
        · rw [z]; exact Nat.zero_le _
        · exact l9 ns (List.mem_of_mem_drop z)
  rintro σ H2 ⟨rfl, s2, ys, mss, g2, hy2, k2, m40, b2⟩
  have ly : ys.length = mss.length := hy2.length
  refine ⟨fun σ H' => σ = [some (.ref ca), some (.int (m : Int)), some (.int c), some (.ref d), some (.int (k : Int))] ∧ Same H H' ∧ ∃ ys mss, H' d = some (.lst ys) ∧ Ws H' ys mss ∧ (c % 16 ≠ 2 → nss.length ≤ mss.length) ∧ mss.length ≤ 40 ∧ ∀ ns ∈ mss, ns.length ≤ 900, ?_, ?_⟩
  · refine ⟨_, rfl, _, _, rfl, rfl, (by show (0 : Int) < _; decide), rfl, _, rfl, ?_⟩
    refine ite2 (fun y => ?_) (fun _ => ⟨rfl, s2, ys, mss, g2, hy2, fun _ => k2, m40, b2⟩)
    have y1 : c % 16 = 2 := V.int.inj (of_decide_eq_true y)
    refine ⟨_, rfl, d, _, rfl, .inl (SqL.of g2), _, _, rfl, rfl, _, rfl, ?_⟩
    refine ite2 (fun _ => ?_) (fun _ => ⟨rfl, s2, ys, mss, g2, hy2, fun _ => k2, m40, b2⟩)
    have hk2 : k < ys.length := by omega
    refine ⟨_, rfl, .inl ⟨rfl, _, SqL.of g2⟩, _, rfl, d, _, (k : Int), k, ys[k]'hk2, rfl, rfl, g2, by omega, by omega, (ixN_seq (ixN_nat hk2)).1, List.getElem?_eq_getElem hk2, rfl, same_upd hd s2, _, mss.eraseIdx k, upd_same, Ws.upd g2 (Paired.eraseP k hy2), fun z => absurd y1 z, ?_, fun ns hns => b2 ns (List.mem_of_mem_eraseIdx hns)⟩
    rw [List.length_eraseIdx]
    split <;> omega
  rintro σ H3 ⟨rfl, s3, ys3, mss3, g3, hy3, k3, m3, b3⟩
  have ly3 : ys3.length = mss3.length := hy3.length
  refine ⟨fun σ H' => σ = [some (.ref ca), some (.int (m : Int)), some (.int c), some (.ref d), some (.int (k : Int))] ∧ Same H H' ∧ ∃ ys mss, H' d = some (.lst ys) ∧ Ws H' ys mss ∧ mss.length ≤ 40 ∧ ∀ ns ∈ mss, ns.length ≤ 901, ?_, ?_⟩
  · refine ⟨fun b H' => H' = H3 ∧ (b = true → c % 16 ≠ 2), ?_, ?_⟩
    · refine ⟨_, rfl, _, _, rfl, rfl, (by show (0 : Int) < _; decide), rfl, _, rfl, ?_⟩
      refine ite2 (fun y => ⟨rfl, fun _ => ?_⟩) (fun _ => ?_)
      · have y1 : c % 16 = 3 := V.int.inj (of_decide_eq_true y)
        omega
      · refine ⟨_, rfl, _, _, rfl, rfl, (by show (0 : Int) < _; decide), rfl, _, rfl, rfl, fun y => ?_⟩
        have y1 : c % 16 = 4 := V.int.inj (of_decide_eq_true y)
        omega
    rintro b H4 ⟨rfl, hb⟩
    refine ite2 (fun y => ?_) (fun _ => ⟨rfl, s3, ys3, mss3, g3, hy3, m3, fun ns h => by have := b3 ns h; omega⟩)
    have hk3 : k < mss3.length := by have := k3 (hb y); omega
    have hn : mss3[k]? = some (mss3[k]'hk3) := List.getElem?_eq_getElem hk3
    obtain ⟨x, hxk, rx⟩ := Paired.left_of hy3 k _ hn
    obtain ⟨ya, rfl, hya⟩ := Wd.ti rx
    have bk := b3 _ (List.getElem_mem hk3)
    generalize mss3[k]'hk3 = ns3 at hya bk hn
    refine ⟨_, rfl, _, rfl, d, _, _, _, rfl, rfl, SqL.of g3, atI_nat hxk, ?_⟩
    refine ⟨_, rfl, _, rfl, _, rfl, _, rfl, _, _, rfl, rfl, _, rfl, _, rfl, _, _, rfl, rfl, (by show 4 ≤ sizeLine; decide), fun lL hL => ?_⟩
    dsimp only
    obtain ⟨v, hv⟩ := fourS (a := -1) (b := (m : Int)) (c := (m : Int) + c) (d := -1 - c) (i := c / 500 % 4) (by omega) (by omega)
    refine ⟨_, rfl, _, _, rfl, rfl, ⟨by decide, by decide⟩, _, _, rfl, rfl, (by show (0 : Int) < _; decide), lL, _, _, _, rfl, rfl, SqL.of upd_same, hv, (by show 1 ≤ sizeLine; decide), fun t1 ht1 => ?_⟩
    have s5 := same_newO hL (.lst [V.int (-1), .int (m : Int), .int ((m : Int) + c), .int (-1 - c)])
    have s6 := same_newO ht1 (.tup [V.int v])
    have s56 := s5.trans s6
    refine ⟨ya, t1, _, [V.int v], rfl, rfl, s56 _ _ hya, upd_same, Nat.le_of_lt (small1000 (by rw [List.length_map]; show _ + 1 ≤ 1000; omega)), fun p7 H7 s7 hp7 => ?_⟩
    have s57 := s56.trans s7
    have g7 := s57 _ _ g3
    have hp7' : TW H7 p7 (ns3 ++ [v]) := by show H7 p7 = _; rw [hp7, List.map_append]; rfl
    refine ⟨_, rfl, _, rfl, d, _, (k : Int), k, rfl, rfl, g7, ixN_nat (by omega), rfl, same_upd hd (s3.trans s57), _, mss3.set k (ns3 ++ [v]), upd_same, Ws.upd g7 (paired_set k (Ws.same s57 hy3) (Wd.of hp7')), ?_, fun ns hns => ?_⟩
    · rw [List.length_set]; exact m3
    · rcases List.mem_or_eq_of_mem_set hns with z | z
      · have := b3 ns z; omega
      · rw [z, List.length_append]; show _ + 1 ≤ 901; omega
  rintro σ H4 ⟨rfl, s4, ys4, mss4, g4, hy4, m4, b4⟩
  have ly4 : ys4.length = mss4.length := hy4.length
  refine ⟨fun σ H' => σ = [some (.ref ca), some (.int (m : Int)), some (.int c), some (.ref d), some (.int (k : Int))] ∧ Same H H' ∧ ∃ ys mss, H' d = some (.lst ys) ∧ Ws H' ys mss ∧ mss.length ≤ 50 ∧ ∀ ns ∈ mss, ns.length ≤ 901, ?_, ?_⟩
  · refine ⟨_, rfl, _, _, rfl, rfl, (by show (0 : Int) < _; decide), rfl, _, rfl, ?_⟩
    refine ite2 (fun _ => ?_) (fun _ => ⟨rfl, s4, ys4, mss4, g4, hy4, by omega, b4⟩)
    refine ⟨_, rfl, .inl ⟨rfl, _, SqL.of g4⟩, (by show 0 ≤ sizeLine; decide), fun t ht => ?_⟩
    have s5 := same_newO ht (.tup [])
    have g5 := s5 _ _ g4
    have ht5 : TW (upd H4 t (.tup [])) t [] := upd_same
    have hy5 := Ws.same s5 hy4
    generalize upd H4 t (.tup []) = H5 at s5 g5 ht5 hy5 ⊢
    refine ⟨d, _, _, rfl, rfl, g5, small1000 (by omega), rfl, same_upd hd (s4.trans s5), _, mss4 ++ [[]], upd_same, Ws.upd g5 (L2.Paired.appendP hy5 (.cons (Wd.of ht5) .nil)), ?_, fun ns hns => ?_⟩
    · rw [List.length_append, List.length_singleton]; omega
    · rcases List.mem_append.mp hns with z | z
      · exact b4 ns z
      · rw [List.mem_singleton.mp z]; exact Nat.zero_le _
  rintro σ H5 ⟨rfl, s5, ys5, mss5, g5, hy5, m5, b5⟩
  refine ⟨_, rfl, d, _, rfl, .inl ⟨SqL.of g5, fun t ht => ?_⟩⟩
  have s6 := same_newO ht (.tup ys5)
  exact q t ys5 mss5 _ (s5.trans s6) upd_same (Ws.same s6 hy5) (by omega) fun ns h => by have := b5 ns h; omega
end
end K62
set_option Elab.async false
set_option linter.all false
set_option maxRecDepth 100000
namespace K62
open PySem L2
theorem Bd.b0 {ns : List Int} (h : Bd ns) : Bd0 ns := fun x hx => ⟨by have := (h x hx).1; omega, (h x hx).2⟩
theorem Bd.set {ns : List Int} {i : Nat} {n : Int} (h : Bd ns) (h1 : 1 ≤ n) (h2 : n ≤ B30) : Bd (ns.set i n) := fun x hx => by
  rcases List.mem_or_eq_of_mem_set hx with z | z
  · exact h x z
  · rw [z]; exact ⟨h1, h2⟩
theorem am_of {n : Int} (h1 : 1 ≤ n) (h2 : n ≤ B30) : am n = true := by
  unfold am
  rw [decide_eq_true h1, Bool.true_and]
  refine decide_eq_true ?_
  have : (10 : Int) ^ (30 : Int).toNat = B30 := by decide
  omega
section
variable {P : Program} {w : World} {K : PySem.W.Frag} {mg : Str → Option Value} {base : Heap} {f : Addr} {fd : FuncData} {D CB CT CN CP CW CC : Addr}
/-! _law_rises -/
abbrev NRs : List Str := ["which", "prices", "weights", "code", "at", "number", "share", "numbers", "rise"]
abbrev NRp : List Str := ["which", "prices", "weights", "code", "at", "number", "share"]
def spRises : Sp := fun vs H Q _ => ∃ (wh : Nat) (p wa ca : Addr) (ps ws : List Int) (nss : List (List Int)) (i n v : Int), vs = [.int (wh : Int), .ref p, .ref wa, .ref ca, .int i, .int n, .int v] ∧ wh ≤ 1 ∧ Cd H p wa ca ps ws nss ∧ Bd ps ∧ Bd ws ∧ ps.length ≤ 100 ∧ ws.length ≤ 100 ∧ (∀ ns ∈ nss, ns.length ≤ 1000) ∧ 1 ≤ n ∧ n ≤ B30 ∧ oc wh ps ws nss i = .told v ∧ ∀ H', Same H H' → Q (.bl true) H'
theorem scRises : FnScope NRs NRp (defScope sRises) := ⟨rfl, rfl, rfl, by decide +kernel, rfl, by decide +kernel, by decide +kernel⟩
theorem told_is {wh : Nat} {ps ws : List Int} {nss : List (List Int)} {i v : Int} (h : oc wh ps ws nss i = .told v) : nss.length = ws.length ∧ (∀ ns ∈ nss, alone (ps.length : Int) ns = true) ∧ (wh = 0 → In i ps ∧ v = shr ws nss i) ∧ (wh ≠ 0 → In i ws ∧ v = prc ps (nss.getD i.toNat [])) := by
  unfold oc at h
  split at h
  · rename_i e1
    split at h
    · rename_i e2
      refine ⟨e1, List.all_eq_true.mp e2, fun z => ?_, fun z => ?_⟩
      · rw [if_pos z] at h
        split at h
        · rename_i e3
          cases h
          exact ⟨inB_iff.mp e3, rfl⟩
        · cases h
      · rw [if_neg z] at h
        split at h
        · rename_i e3
          cases h
          exact ⟨inB_iff.mp e3, rfl⟩
        · cases h
    · cases h
  · cases h
theorem shr_bd {ws : List Int} {i : Int} (hw : Bd0 ws) : ∀ nss : List (List Int), (∀ ns ∈ nss, ns.length ≤ 1000) → ∀ k : Nat, nss.length ≤ k → 0 ≤ shr ws nss i ∧ shr ws nss i ≤ (k : Int) * (1000 * B30) := by
  induction ws with
  | nil => intro nss _ k _; unfold shr; rw [List.zipWith_nil_left]; exact ⟨Int.le_refl _, Int.mul_nonneg (by omega) (by decide)⟩
  | cons x ws ih =>
    intro nss h k hk
    cases nss with
    | nil => unfold shr; rw [List.zipWith_nil_right]; exact ⟨Int.le_refl _, Int.mul_nonneg (by omega) (by decide)⟩
    | cons ns nss =>
      obtain ⟨k, rfl⟩ : ∃ m, k = m + 1 := ⟨k - 1, by rw [List.length_cons] at hk; omega⟩
      obtain ⟨a1, a2⟩ := ih (fun y hy => hw y (.tail _ hy)) nss (fun m hm => h m (.tail _ hm)) k (by rw [List.length_cons] at hk; omega)
      obtain ⟨b1, b2⟩ := hw x (.head _)
      have c1 : List.count i ns ≤ 1000 := Nat.le_trans List.count_le_length (h ns (.head _))
      have e : shr (x :: ws) (ns :: nss) i = x * ((List.count i ns : Nat) : Int) + shr ws nss i := by unfold shr; rw [List.zipWith_cons_cons, List.sum_cons]
      rw [e]
      have d1 : 0 ≤ x * ((List.count i ns : Nat) : Int) := Int.mul_nonneg b1 (by omega)
      have d2 : x * ((List.count i ns : Nat) : Int) ≤ B30 * 1000 := Int.mul_le_mul b2 (by omega) (by omega) (by decide)
      have d3 : ((k + 1 : Nat) : Int) * (1000 * B30) = (k : Int) * (1000 * B30) + 1000 * B30 := by push_cast; rw [Int.add_mul]; omega
      rw [d3]
      constructor <;> omega
set_option maxHeartbeats 16000000 in
theorem ok_rises (F : Fun K "_law_rises" "_law_rises" sRises f fd) (GC : Fns' P w K mg base NC "cost" (spCost CB CT) 4) (GP : Fns' P w K mg base ["prices", "letter", "number"] "price_moved" (spPM CT CP) 4) (GW : Fns' P w K mg base ["weights", "thing", "number"] "weight_moved" (spPM CN CP) 4) : FnOk P w K mg base CX0 5 f fd NRp spRises := by
  refine F.ok (k := 4) scRises (fun vs H Q E h => ?_) (fun cdv A outer s H vs Q E hr h => ?_)
  · obtain ⟨wh, p, wa, ca, ps, ws, nss, i, n, v, rfl, _⟩ := h
    rfl
  obtain ⟨wh, p, wa, ca, ps, ws, nss, i, n, v, rfl, hwh, cd, bps, bws, lp, lw, l8, n1, n2, tl, q⟩ := h
  obtain ⟨hp, hw, ⟨xs, hc, hx⟩, l1, l2, bp, bw⟩ := cd
  obtain ⟨el, al, t0, t1⟩ := told_is tl
  have hw' : wh = 0 ∨ wh = 1 := by omega
  refine ⟨_, pss_cons (ps_set (i := 7) scRises.nd rfl (Or.inl rfl) (pe_ix ix_list (pe_lst (pa_cons (pv 1) (pa_cons (pv 2) pa_nil))) (pv 0) (fun _ _ => rfl)))
    (pss_cons (ps_set (i := 8) scRises.nd rfl (Or.inl rfl) (pe_op op_mulS (pv 6) (pe_op op_sub (pv 5) (pe_ix ix_tup (pv 7) (pv 4) (fun _ _ => rfl)))))
    (pss_cons (ps_if (pt_cmpR op_eq (pv 0) pe_int (nomark _)) (pss_one (ps_ret (pe_cmpR op_eq (pe_call GC.ok hr (by rfl) GC.m GC.kp GC.b .nil passN (pa_cons (pe_call GP.ok hr (by rfl) GP.m GP.kp GP.b .nil passN (pa_cons (pv 1) (pa_cons (pv 4) (pa_cons (pv 5) pa_nil)))) (pa_cons (pv 2) (pa_cons (pv 3) pa_nil)))) (pe_op op_add (pe_call GC.ok hr (by rfl) GC.m GC.kp GC.b .nil passN (pa_cons (pv 1) (pa_cons (pv 2) (pa_cons (pv 3) pa_nil)))) (pv 8)) (nomark _)))) pss_nil)
    (pss_one (ps_ret (pe_cmpR op_eq (pe_call GC.ok hr (by rfl) GC.m GC.kp GC.b .nil passN (pa_cons (pv 1) (pa_cons (pe_call GW.ok hr (by rfl) GW.m GW.kp GW.b .nil passN (pa_cons (pv 2) (pa_cons (pv 4) (pa_cons (pv 5) pa_nil)))) (pa_cons (pv 3) pa_nil)))) (pe_op op_add (pe_call GC.ok hr (by rfl) GC.m GC.kp GC.b .nil passN (pa_cons (pv 1) (pa_cons (pv 2) (pa_cons (pv 3) pa_nil)))) (pv 8)) (nomark _)))))), ?_⟩
  refine ⟨_, rfl, _, rfl, (by show 2 ≤ sizeLine; decide), fun l hl => ?_⟩
  have s1 := same_newO hl (.lst [.ref p, .ref wa])
  have g1 : upd H l (.lst [.ref p, .ref wa]) l = some (.lst [.ref p, .ref wa]) := upd_same
  generalize upd H l (.lst [.ref p, .ref wa]) = H1 at s1 g1 ⊢
  rcases hw' with rfl | rfl
  · obtain ⟨⟨i0, i1⟩, rfl⟩ := t0 rfl
    obtain ⟨k, rfl⟩ : ∃ k : Nat, i = (k : Int) := ⟨i.toNat, by omega⟩
    have hk : k < ps.length := by omega
    have hpk : ps[k]? = some (ps[k]'hk) := List.getElem?_eq_getElem hk
    have epk : ps.getD k 0 = ps[k]'hk := by rw [List.getD_eq_getElem?_getD, hpk]; rfl
    obtain ⟨c1, c2⟩ := bps _ (List.getElem_mem hk)
    obtain ⟨d1, d2⟩ := shr_bd (i := (k : Int)) bw nss l8 100 l1
    have id := cst_setP (n := n) hk ws nss fun ns hns x hx => (alone_of (al ns hns) x hx).1
    rw [epk] at id
    generalize ps[k]'hk = pk at hpk c1 c2 id
    refine ⟨_, rfl, l, _, _, _, rfl, rfl, SqL.of g1, rfl, ?_⟩
    refine ⟨_, rfl, _, rfl, _, rfl, _, rfl, p, _, _, _, rfl, rfl, SqT.of (s1 _ _ hp), at_int hpk, _, _, rfl, rfl, _, _, rfl, rfl, ⟨⟨by unfold B30 at *; omega, by unfold B30 at *; omega⟩, ⟨by unfold B30 at *; omega, by unfold B30 at *; omega⟩⟩, ?_⟩
    refine ⟨_, rfl, rfl, _, rfl, ?_⟩
    refine ite2 (fun _ => ?_) (fun z => absurd (decide_eq_true rfl) z)
    refine ⟨_, rfl, _, rfl, _, rfl, p, ps, (k : Int), n, rfl, s1 _ _ hp, by omega, fun no => absurd ⟨i0, i1⟩ no, fun _ ba => ?_, fun _ _ p2 H2 s2 hp2 => ?_⟩
    · rw [am_of n1 n2] at ba; cases ba
    have s12 := s1.trans s2
    refine ⟨_, rfl, _, rfl, p2, wa, ca, ps.set k n, ws, xs, nss, rfl, hp2, s12 _ _ hw, s12 _ _ hc, Ws.same s12 hx, l1, l2, (bps.set n1 n2).b0, bw, fun ne => absurd el ne, fun _ _ H3 s3 => ?_, fun _ bad => ?_⟩
    · have s13 := s12.trans s3
      refine ⟨_, rfl, _, rfl, _, rfl, p, wa, ca, ps, ws, xs, nss, rfl, s13 _ _ hp, s13 _ _ hw, s13 _ _ hc, Ws.same s13 hx, l1, l2, bp, bw, fun ne => absurd el ne, fun _ _ H4 s4 => ?_, fun _ bad => ?_⟩
      · refine ⟨_, rfl, _, _, rfl, rfl, rfl, ?_⟩
        rw [decide_eq_true (show V.int (cst (ps.set k n) ws nss) = V.int (cst ps ws nss + shr ws nss (k : Int) * (n - pk)) by rw [id])]
        exact q _ (s13.trans s4)
      · obtain ⟨ns, hns, e⟩ := bad
        rw [al ns hns] at e; cases e
    · obtain ⟨ns, hns, e⟩ := bad
      rw [List.length_set, al ns hns] at e; cases e
  · obtain ⟨⟨i0, i1⟩, rfl⟩ := t1 (by decide)
    obtain ⟨k, rfl⟩ : ∃ k : Nat, i = (k : Int) := ⟨i.toNat, by omega⟩
    have hk : k < ws.length := by omega
    have hpk : ws[k]? = some (ws[k]'hk) := List.getElem?_eq_getElem hk
    have epk : ws.getD k 0 = ws[k]'hk := by rw [List.getD_eq_getElem?_getD, hpk]; rfl
    obtain ⟨c1, c2⟩ := bws _ (List.getElem_mem hk)
    have id := cst_setW (ps := ps) (n := n) k ws nss hk el
    have lk : (nss.getD k []).length ≤ 1000 := by
      rw [List.getD_eq_getElem?_getD]
      cases e : nss[k]? with
      | none => exact Nat.zero_le _
      | some ns => exact l8 ns (List.mem_of_getElem? e)
    obtain ⟨d1, d2⟩ := prc_bd bp (nss.getD k [])
    have d3 : ((nss.getD k []).length : Int) * B30 ≤ 1000 * B30 := Int.mul_le_mul_of_nonneg_right (by omega) (by decide)
    rw [epk] at id
    rw [Int.toNat_natCast]
    generalize ws[k]'hk = pk at hpk c1 c2 id
    generalize prc ps (nss.getD k []) = pr at id d1 d2 ⊢
    refine ⟨_, rfl, l, _, _, _, rfl, rfl, SqL.of g1, rfl, ?_⟩
    refine ⟨_, rfl, _, rfl, _, rfl, _, rfl, wa, _, _, _, rfl, rfl, SqT.of (s1 _ _ hw), at_int hpk, _, _, rfl, rfl, _, _, rfl, rfl, ⟨⟨by unfold B30 at *; omega, by unfold B30 at *; omega⟩, ⟨by unfold B30 at *; omega, by unfold B30 at *; omega⟩⟩, ?_⟩
    refine ⟨_, rfl, rfl, _, rfl, ?_⟩
    refine ite2 (fun z => absurd (of_decide_eq_true z) (by intro y; cases y)) (fun _ => ?_)
    refine ⟨_, rfl, _, rfl, _, rfl, _, rfl, wa, ws, (k : Int), n, rfl, s1 _ _ hw, by omega, fun no => absurd ⟨i0, i1⟩ no, fun _ ba => ?_, fun _ _ p2 H2 s2 hp2 => ?_⟩
    · rw [am_of n1 n2] at ba; cases ba
    have s12 := s1.trans s2
    refine ⟨_, rfl, p, p2, ca, ps, ws.set k n, xs, nss, rfl, s12 _ _ hp, hp2, s12 _ _ hc, Ws.same s12 hx, l1, l2, bp, (bws.set n1 n2).b0, fun ne => absurd (by rw [List.length_set]; exact el) ne, fun _ _ H3 s3 => ?_, fun _ bad => ?_⟩
    · have s13 := s12.trans s3
      refine ⟨_, rfl, _, rfl, _, rfl, p, wa, ca, ps, ws, xs, nss, rfl, s13 _ _ hp, s13 _ _ hw, s13 _ _ hc, Ws.same s13 hx, l1, l2, bp, bw, fun ne => absurd el ne, fun _ _ H4 s4 => ?_, fun _ bad => ?_⟩
      · refine ⟨_, rfl, _, _, rfl, rfl, rfl, ?_⟩
        rw [decide_eq_true (show V.int (cst ps (ws.set k n) nss) = V.int (cst ps ws nss + pr * (n - pk)) by rw [id])]
        exact q _ (s13.trans s4)
      · obtain ⟨ns, hns, e⟩ := bad
        rw [al ns hns] at e; cases e
    · obtain ⟨ns, hns, e⟩ := bad
      rw [al ns hns] at e; cases e
end
end K62
set_option Elab.async false
set_option linter.all false
set_option maxRecDepth 100000
namespace K62
open PySem L2
theorem five {a b c d e i : Int} (i0 : 0 ≤ i) (i1 : i < 5) : ∃ v, atI [V.int a, .int b, .int c, .int d, .int e] i = some (.int v) := by
  have h : i = 0 ∨ i = 1 ∨ i = 2 ∨ i = 3 ∨ i = 4 := by omega
  rcases h with h | h | h | h | h <;> subst h <;> exact ⟨_, rfl⟩
theorem vlO_or (o : Oc) : vlO o = .non ∨ ∃ i, vlO o = .int i := by
  cases o with
  | told v => exact .inr ⟨v, rfl⟩
  | _ => exact .inl rfl
section
variable {P : Program} {w : World} {K : PySem.W.Frag} {mg : Str → Option Value} {base : Heap} {f : Addr} {fd : FuncData}
abbrev NL : List Str := ["script", "head", "prices", "weights", "words", "k", "cell", "code", "number", "which", "numbers", "many", "at", "found"]
abbrev NLm : List Str := ["script", "head", "prices", "weights", "words", "-", "cell", "code", "number", "which", "numbers", "many", "at", "found"]
def spLaw (K : PySem.W.Frag) : Sp := fun vs H Q _ => ∃ (a : Addr) (ns : List Int), vs = [.ref a] ∧ SqL K H a (ns.map V.int) ∧ ns.length ≤ 63 ∧ ∀ H', Q (.bl true) H'
theorem scLaw : FnScope NL ["script"] (defScope sLaw) := ⟨rfl, rfl, rfl, by decide +kernel, rfl, by decide +kernel, by decide +kernel⟩
theorem ndL : (("k" : Str) :: NLm).Nodup := by decide +kernel
set_option maxHeartbeats 16000000 in
theorem ok_law {e : Addr} {ed : FuncData} (F : Fun K "law" "law" sLaw e ed) (GA : Fns P w K mg base ["script", "k"] "_law_cell" (spCell K) 5) (GN : Fns P w K mg base ["script", "at", "many", "way"] "_law_numbers" (spNumbers K) 5) (GW : Fns P w K mg base ["cell", "letters"] "_law_word" spWord 5)
    (GS : Fns P w K mg base ["code", "letters", "cell"] "_law_spoilt" spSpoilt 5) (GT : Fns P w K mg base NA "_law_told" spTold 5) (GD : Fns P w K mg base NA "_law_due" spTold 5) (GH : Fns P w K mg base ["found"] "_law_whole" spWhole 5) (GR : Fns P w K mg base NRp "_law_rises" spRises 5) (ml : mg "len" = none) (mr : mg "range" = none) (me : mg "enumerate" = none) (mx : mg "max" = none) (mt : mg "tuple" = none) : FnOk P w K mg base CX0 6 e ed ["script"] (spLaw K) := by
  refine F.ok (k := 5) scLaw (fun vs H Q E h => ?_) (fun cdv A outer s H vs Q E hr h => ?_)
  · obtain ⟨a, ns, rfl, _⟩ := h
    rfl
  obtain ⟨a, ns, rfl, hS, h63, q⟩ := h
  refine ⟨_, pss_cons (ps_set (i := 1) scLaw.nd rfl (Or.inl rfl) (pe_call GA.ok hr (by rfl) GA.m GA.kp GA.b .nil pass0 (pa_cons (pv 0) (pa_cons pe_int pa_nil))))
    (pss_cons (ps_set (i := 2) scLaw.nd rfl (Or.inr rfl) (pe_call GN.ok hr (by rfl) GN.m GN.kp GN.b .nil pass0 (pa_cons (pv 0) (pa_cons pe_int (pa_cons (pe_op op_add pe_int (pe_op op_mod (pv 1) pe_int)) (pa_cons (pe_op op_mod (pe_op op_fdiv (pv 1) pe_int) pe_int) pa_nil))))))
    (pss_cons (ps_set (i := 3) scLaw.nd rfl (Or.inl rfl) (pe_call GN.ok hr (by rfl) GN.m GN.kp GN.b .nil pass0 (pa_cons (pv 0) (pa_cons pe_int (pa_cons (pe_op op_add pe_int (pe_op op_mod (pe_op op_fdiv (pv 1) pe_int) pe_int)) (pa_cons (pe_op op_mod (pe_op op_fdiv (pv 1) pe_int) pe_int) pa_nil))))))
    (pss_cons (ps_compR1 (i := 4) (M := NLm) scLaw.nd rfl rfl rfl (CompScope.of (defScope sLaw) NL rfl rfl rfl (by decide +kernel) (by decide +kernel) (by decide +kernel) rfl (by decide +kernel)) ndL rfl (by rfl) mr (pa_cons (pe_callB call_len_seq (by rfl) ml PySem.boot_len (pa_cons (pv 3) pa_nil)) pa_nil) (mo_cons (mo_len (mo_cons mo_var mo_nil)) mo_nil)
      (fun cl C s0 H0 fp => ⟨pts_nil, pe_call GW.ok hr (by rfl) GW.m GW.kp GW.b .nil pass0 (pa_cons (pe_call GA.ok hr (by rfl) GA.m GA.kp GA.b .nil pass0 (pa_cons (pv 1) (pa_cons (pe_op op_add pe_int (pv 0)) pa_nil))) (pa_cons (pe_callB (call_lenK K) (by rfl) ml PySem.boot_len (pa_cons (pv 3) pa_nil)) pa_nil))⟩))
    (pss_cons (ps_for PassesOwn.never rfl (pi_range1 (by rfl) mr (pa_cons pe_int pa_nil)) (pg_name (i := 5) scLaw.nd rfl (Or.inl rfl))
      (pss_cons (ps_set (i := 6) scLaw.nd rfl (Or.inl rfl) (pe_call GA.ok hr (by rfl) GA.m GA.kp GA.b .nil pass0 (pa_cons (pv 0) (pa_cons (pe_op op_add pe_int (pv 5)) pa_nil))))
      (pss_cons (ps_set (i := 7) scLaw.nd rfl (Or.inl rfl) (pe_call GS.ok hr (by rfl) GS.m GS.kp GS.b .nil pass0 (pa_cons (pe_callTy call_tuple_of (by rfl) mt b_tuple (pa_cons (pv 4) pa_nil)) (pa_cons (pe_callB call_len_seq (by rfl) ml PySem.boot_len (pa_cons (pv 2) pa_nil)) (pa_cons (pv 6) pa_nil)))))
      (pss_cons (ps_set (i := 8) scLaw.nd rfl (Or.inl rfl) (pe_op op_add pe_int (pe_op op_mod (pe_op op_fdiv (pv 6) pe_int) (pe_op op_pow pe_int pe_int))))
      (pss_one (ps_for PassesOwn.never rfl (pi_enum false (by rfl) me (pa_cons (pe_lst (pa_cons (pv 2) (pa_cons (pv 3) pa_nil))) pa_nil))
          (pg_tup rfl (pgs_cons (pg_name (i := 9) scLaw.nd rfl (Or.inl rfl)) (pgs_cons (pg_name (i := 10) scLaw.nd rfl (Or.inl rfl)) pgs_nil)))
        (pss_cons (ps_set (i := 11) scLaw.nd rfl (Or.inl rfl) (pe_callB call_len_seq (by rfl) ml PySem.boot_len (pa_cons (pv 10) pa_nil)))
        (pss_cons (ps_set (i := 12) scLaw.nd rfl (Or.inl rfl) (pe_ix ix_list (pe_lst (pa_cons (pe_op op_mod (pe_op op_fdiv (pv 6) pe_int) (pv 11)) (pa_cons (pe_un un_neg pe_int) (pa_cons (pv 11) (pa_cons (pe_op op_add (pv 11) (pv 6)) (pa_cons (pe_op op_sub (pe_un un_neg pe_int) (pv 6)) pa_nil))))))
            (pe_callB (call_max2 rfl) (by rfl) mx b_max (pa_cons pe_int (pa_cons (pe_op op_sub (pe_op op_mod (pe_op op_fdiv (pv 6) pe_int) pe_int) pe_int) pa_nil))) (fun _ _ => rfl)))
        (pss_cons (ps_set (i := 13) scLaw.nd rfl (Or.inl rfl) (pe_call GT.ok hr (by rfl) GT.m GT.kp GT.b .nil pass0 (pa_cons (pv 9) (pa_cons (pv 2) (pa_cons (pv 3) (pa_cons (pv 7) (pa_cons (pv 12) pa_nil)))))))
        (pss_cons (ps_if (pt_cmpR (op_neS2 (hu4 hr)) (pv 13) (pe_call GD.ok hr (by rfl) GD.m GD.kp GD.b .nil pass0 (pa_cons (pv 9) (pa_cons (pv 2) (pa_cons (pv 3) (pa_cons (pv 7) (pa_cons (pv 12) pa_nil)))))) (nomark _)) (pss_one (ps_ret pe_bl)) pss_nil)
        (pss_one (ps_if (pt_cmpR op_eq (pe_ix ix_tup (pv 13) pe_int (fun _ _ => rfl)) pe_str (nomark _))
          (pss_cons (ps_if (pt_not (pt_val (pe_call GH.ok hr (by rfl) GH.m GH.kp GH.b .nil pass0 (pa_cons (pe_ix ix_tup (pv 13) pe_int (fun _ _ => rfl)) pa_nil)))) (pss_one (ps_ret pe_bl)) pss_nil)
          (pss_one (ps_if (pt_not (pt_val (pe_call GR.ok hr (by rfl) GR.m GR.kp GR.b .nil pass0 (pa_cons (pv 9) (pa_cons (pv 2) (pa_cons (pv 3) (pa_cons (pv 7) (pa_cons (pv 12) (pa_cons (pv 8) (pa_cons (pe_ix ix_tup (pv 13) pe_int (fun _ _ => rfl)) pa_nil)))))))))) (pss_one (ps_ret pe_bl)) pss_nil))) pss_nil))))))))))))
    (pss_one (ps_ret pe_bl)))))), ?_⟩
  refine ⟨_, rfl, a, ns, 0, rfl, hS, by decide, by decide, fun hd hd0 => ?_⟩
  refine ⟨_, rfl, _, rfl, _, _, rfl, rfl, (by show (0 : Int) < _; decide), _, _, rfl, rfl, _, rfl, _, _, rfl, rfl, ⟨by decide, by decide⟩, _, _, rfl, rfl, (by show (0 : Int) < _; decide), ?_⟩
  refine ⟨a, ns, 1, 2 + hd % 5, hd / 120 % 6, rfl, hS, by decide, by decide, by omega, by omega, by omega, by omega, fun p1 H1 ps s1 hp1 lp bp => ?_⟩
  refine ⟨_, rfl, _, rfl, _, _, rfl, rfl, ⟨by decide, by decide⟩, _, _, rfl, rfl, (by show (0 : Int) < _; decide), _, _, rfl, rfl, _, rfl, _, _, rfl, rfl, ⟨by decide, by decide⟩, _, _, rfl, rfl, (by show (0 : Int) < _; decide), ?_⟩
  refine ⟨a, ns, 7, 1 + hd / 5 % 24, hd / 720 % 6, rfl, s1.seq hS, by decide, by decide, by omega, by omega, by omega, by omega, fun p2 H2 ws s2 hp2 lw bw => ?_⟩
  have hp1' := s2 _ _ hp1
  have hS2 := (s1.trans s2).seq hS
  -- words
  refine ⟨_, rfl, p2, _, rfl, .inr (SqT.of hp2), _, rfl, by omega, by rw [List.length_map]; omega, fun d hd' => ?_⟩
  rw [List.length_map, Int.toNat_natCast]
  refine ⟨fun i H' => Same H2 H' ∧ ∃ xs mss, H' d = some (.lst xs) ∧ Ws H' xs mss ∧ mss.length = i ∧ ∀ ns ∈ mss, ns.length ≤ 8, ⟨same_newO hd' _, [], [], upd_same, .nil, rfl, fun _ h => (by cases h)⟩, fun i H3 hi hP => ?_, fun H3 hP => ?_⟩
  · obtain ⟨s3, xs, mss, g3, hx3, lm, b8⟩ := hP
    rw [show (0 : Int) + (i : Int) = (i : Int) from Int.zero_add _]
    refine turn_all ⟨_, rfl, _, rfl, _, _, rfl, rfl, a, ns, 31 + (i : Int), rfl, s3.seq hS2, by omega, by omega, fun c c0 => ?_⟩
    refine ⟨_, rfl, p1, _, rfl, .inr (SqT.of (s3 _ _ hp1')), c, ps.length, (by rw [List.length_map]; rfl), by omega, by omega, fun t us H4 s4 ht lu => ?_⟩
    have g4 := s4 _ _ g3
    have lx : xs.length = mss.length := hx3.length
    refine ⟨_, g4, small1000 (by omega), same_upd hd' (s3.trans s4), xs ++ [.ref t], mss ++ [us], upd_same, Ws.upd g4 (L2.Paired.appendP (Ws.same s4 hx3) (.cons (Wd.of ht) .nil)), ?_, fun m hm => ?_⟩
    · rw [List.length_append, lm]; rfl
    · rcases List.mem_append.mp hm with z | z
      · exact b8 m z
      · rw [List.mem_singleton.mp z]; exact lu
  obtain ⟨s3, xs, mss, g3, hx3, lm, b8⟩ := hP
  have lx : xs.length = mss.length := hx3.length
  have hp13 := s3 _ _ hp1'
  have hp23 := s3 _ _ hp2
  have hS3 := s3.seq hS2
  refine ⟨4, rfl, by decide, by decide, ?_⟩
  refine for_range (n := 4) (fun i σ H' => Same H3 H' ∧ ∃ x5 x6 x7 x8 x9 x10 x11 x12 x13 : Option V, σ = [some (.ref a), some (.int hd), some (.ref p1), some (.ref p2), some (.ref d), x5, x6, x7, x8, x9, x10, x11, x12, x13]) ⟨Same.refl _, _, _, _, _, _, _, _, _, _, rfl⟩ (fun i σ H4 hi hP => ?_) (fun σ H4 hP => q H4)
  obtain ⟨s4, x5, x6, x7, x8, x9, x10, x11, x12, x13, rfl⟩ := hP
  have e0 : (0 : Int) + (i : Int) = ((i : Nat) : Int) := by omega
  rw [e0]
  refine ⟨_, rfl, _, rfl, _, _, rfl, rfl, a, ns, 55 + (i : Int), rfl, s4.seq hS3, by omega, by omega, fun c c0 => ?_⟩
  -- code
  refine ⟨_, rfl, d, _, rfl, .inl ⟨SqL.of (s4 _ _ g3), fun tw htw => ?_⟩⟩
  have s5 := same_newO htw (.tup xs)
  have g5 : upd H4 tw (.tup xs) tw = some (.tup xs) := upd_same
  have hx5 := Ws.same (s4.trans s5) hx3
  have hp15 := s5 _ _ (s4 _ _ hp13)
  have hp25 := s5 _ _ (s4 _ _ hp23)
  generalize upd H4 tw (.tup xs) = H5 at s5 g5 hx5 hp15 hp25 ⊢
  refine ⟨_, rfl, p1, _, rfl, .inr (SqT.of hp15), _, rfl, tw, xs, mss, ps.length, c, (by rw [List.length_map]; rfl), g5, hx5, by omega, by omega, fun m hm => by have := b8 m hm; omega, fun tc ys nss H6 s6 g6 hy6 ln ll => ?_⟩
  have hp16 := s6 _ _ hp15
  have hp26 := s6 _ _ hp25
  have s36 : Same H3 H6 := (s4.trans s5).trans s6
  have cd6 : Cd H6 p1 p2 tc ps ws nss := ⟨hp16, hp26, ⟨ys, g6, hy6⟩, ln, ll, bp.b0, bw.b0⟩
  -- number
  refine ⟨_, rfl, _, _, rfl, rfl, ⟨by decide, by decide⟩, _, _, rfl, rfl, ⟨by decide, by decide, by decide⟩, _, _, rfl, rfl, (by show (0 : Int) < _; decide), _, _, rfl, rfl, ?_⟩
  have nb : 1 ≤ 1 + c / 64 % 10 ^ (30 : Int).toNat ∧ 1 + c / 64 % 10 ^ (30 : Int).toNat ≤ B30 := by
    have e30 : (10 : Int) ^ (30 : Int).toNat = B30 := by decide
    rw [e30]
    unfold B30
    omega
  refine ⟨_, rfl, _, rfl, (by show 2 ≤ sizeLine; decide), fun l7 hl7 => ?_⟩
  have s7 := same_newO hl7 (.lst [.ref p1, .ref p2])
  have e7 : upd H6 l7 (.lst [.ref p1, .ref p2]) l7 = some (.lst [.ref p1, .ref p2]) := upd_same
  refine ⟨l7, _, rfl, SqL.of upd_same, ?_⟩
  have cd7 := cd6.same s7
  generalize upd H6 l7 (.lst [.ref p1, .ref p2]) = H7 at s7 e7 cd7 ⊢
  refine for_enum (k := false) (xs := [.ref p1, .ref p2]) (fun j σ H' => Same H7 H' ∧ ∃ x9 x10 x11 x12 x13 : Option V, σ = [some (.ref a), some (.int hd), some (.ref p1), some (.ref p2), some (.ref d), some (.int (i : Int)), some (.int c), some (.ref tc), some (.int (1 + c / 64 % 10 ^ (30 : Int).toNat)), x9, x10, x11, x12, x13]) ⟨Same.refl _, _, _, _, _, _, rfl⟩ (fun j σ H' _ hP => SqL.of (hP.1 _ _ e7)) (fun j x pp σ H8 hx hP hpp => ?_) (fun σ H8 hP => ?_)
  · obtain ⟨s8, y9, y10, y11, y12, y13, rfl⟩ := hP
    have s9 := same_newO hpp (.tup [.int (j : Int), x])
    refine ⟨pp, _, rfl, SqT.of upd_same, rfl, _, _, rfl, _, _, rfl, rfl, ?_⟩
    have cd9 := cd7.same (s8.trans s9)
    obtain ⟨px, ms, rfl, hpx, lm1, lm2, jj⟩ : ∃ px ms, x = .ref px ∧ TW (upd H8 pp (.tup [.int (j : Int), x])) px ms ∧ 1 ≤ ms.length ∧ ms.length ≤ 900 ∧ j ≤ 1 := by
      match j, hx with
      | 0, hx => cases hx; exact ⟨p1, ps, rfl, cd9.hp, by omega, by omega, by omega⟩
      | 1, hx => cases hx; exact ⟨p2, ws, rfl, cd9.hw, by omega, by omega, by omega⟩
      | j + 2, hx => simp at hx
    generalize upd H8 pp (.tup [.int (j : Int), .ref px]) = H9 at s9 cd9 hpx ⊢
    refine ⟨_, rfl, px, _, rfl, .inr (SqT.of hpx), ?_⟩
    rw [List.length_map]
    refine ⟨_, rfl, _, _, rfl, rfl, ⟨by decide, by decide⟩, _, rfl, _, _, rfl, rfl, (by show (0 : Int) < _; omega), _, rfl, _, rfl, _, rfl, _, rfl, _, _, rfl, rfl, _, rfl, _, rfl, _, _, rfl, rfl, (by show 5 ≤ sizeLine; decide), fun lA hlA => ?_⟩
    dsimp only
    obtain ⟨v, hv⟩ := five (a := c / 500 % (ms.length : Int)) (b := -1) (c := (ms.length : Int)) (d := (ms.length : Int) + c) (e := -1 - c) (i := if c / 7 % 16 - 11 > 0 then c / 7 % 16 - 11 else 0) (by split <;> omega) (by split <;> omega)
    refine ⟨_, rfl, _, _, rfl, rfl, ⟨by decide, by decide⟩, _, _, rfl, rfl, (by show (0 : Int) < _; decide), _, _, rfl, rfl, _, _, rfl, lA, _, _, _, rfl, rfl, SqL.of upd_same, hv, ?_⟩
    have sA := same_newO hlA (.lst [V.int (c / 500 % (ms.length : Int)), .int (-1), .int (ms.length : Int), .int ((ms.length : Int) + c), .int (-1 - c)])
    have cdA := cd9.same sA
    generalize upd H9 lA (.lst [V.int (c / 500 % (ms.length : Int)), .int (-1), .int (ms.length : Int), .int ((ms.length : Int) + c), .int (-1 - c)]) = HA at sA cdA ⊢
    -- told, due
    refine ⟨_, rfl, _, rfl, _, rfl, _, rfl, _, rfl, j, p1, p2, tc, ps, ws, nss, v, rfl, jj, cdA, fun tB HB sB gB => ?_⟩
    refine ⟨_, rfl, _, rfl, _, rfl, _, rfl, _, rfl, _, rfl, j, p1, p2, tc, ps, ws, nss, v, rfl, jj, cdA.same sB, fun tC HC sC gC => ?_⟩
    have gB' := sC _ _ gB
    have cdC := (cdA.same sB).same sC
    have s8C := (((s8.trans s9).trans sA).trans sB).trans sC
    refine ⟨tB, tC, _, _, rfl, rfl, gB', gC, vlO_or _, _, rfl, iteF ?_⟩
    generalize hoc : oc j ps ws nss v = o at gB'
    refine ⟨_, rfl, tB, _, _, _, rfl, rfl, SqT.of gB', rfl, rfl, _, rfl, ?_⟩
    cases o with
    | told val =>
      refine ite2 (fun _ => ?_) (fun z => absurd (decide_eq_true rfl) z)
      refine ⟨_, rfl, tB, _, _, _, rfl, rfl, SqT.of gB', rfl, val, rfl, true, rfl, iteF ?_⟩
      refine ⟨_, rfl, _, rfl, _, rfl, _, rfl, _, rfl, _, rfl, _, rfl, tB, _, _, _, rfl, rfl, SqT.of gB', rfl, j, p1, p2, tc, ps, ws, nss, v, _, val, rfl, jj, cdC, bp, bw, by omega, by omega, ll, nb.1, nb.2, hoc, fun HD sD => ⟨true, rfl, iteF ?_⟩⟩
      exact ⟨s8C.trans sD, _, _, _, _, _, rfl⟩
    | un => exact ite2 (fun z => absurd (of_decide_eq_true z) (by intro y; cases y)) (fun _ => ⟨s8C, _, _, _, _, _, rfl⟩)
    | wd => exact ite2 (fun z => absurd (of_decide_eq_true z) (by intro y; cases y)) (fun _ => ⟨s8C, _, _, _, _, _, rfl⟩)
    | th => exact ite2 (fun z => absurd (of_decide_eq_true z) (by intro y; cases y)) (fun _ => ⟨s8C, _, _, _, _, _, rfl⟩)
  · obtain ⟨s8, y9, y10, y11, y12, y13, rfl⟩ := hP
    exact ⟨(s36.trans s7).trans s8, _, _, _, _, _, _, _, _, _, rfl⟩
end
end K62
set_option Elab.async false
set_option linter.all false
set_option maxRecDepth 100000
namespace K62
open PySem L2
set_option maxHeartbeats 0 in
theorem all_mk {l : PySem.W.OpenLaw} {w : World} {K : PySem.W.Frag} {h : Heap} {mg : Str → Option Value} {fa f1 f2 f3 f4 f5 f6 f7 f8 f9 f10 f11 f12 f13 f14 f15 f16 f17 f18 f19 f20 f21 : Addr} (X : K.In h) (G : h.Ns mainGlobals mg) (hfa : mg "law" = some (.ref fa))
    {od1 an1 od2 an2 od3 an3 od4 an4 od5 an5 od6 an6 od7 an7 od8 an8 od9 an9 od10 an10 od11 an11 od12 an12 od13 an13 od14 an14 od15 an15 od16 an16 od17 an17 od18 an18 od19 an19 od20 an20 od21 an21 : Option Addr} {sl1 sl2 sl3 sl4 sl5 sl6 sl7 sl8 sl9 sl10 sl11 sl12 sl13 sl14 sl15 sl16 sl17 sl18 sl19 sl20 sl21 : Array (Option Value)}
    {oc1 kV1 dc1 pm1 cd1 ct1 oc2 kV2 dc2 pm2 cd2 ct2 oc3 kV3 dc3 pm3 cd3 ct3 oc4 kV4 dc4 pm4 cd4 ct4 oc5 kV5 dc5 pm5 cd5 ct5 oc6 kV6 dc6 pm6 cd6 ct6 oc7 kV7 dc7 pm7 cd7 ct7 oc8 kV8 dc8 pm8 cd8 ct8 oc9 kV9 dc9 pm9 cd9 ct9 oc10 kV10 dc10 pm10 cd10 ct10 oc11 kV11 dc11 pm11 cd11 ct11 oc12 kV12 dc12 pm12 cd12 ct12 oc13 kV13 dc13 pm13 cd13 ct13 oc14 kV14 dc14 pm14 cd14 ct14 oc15 kV15 dc15 pm15 cd15 ct15 oc16 kV16 dc16 pm16 cd16 ct16 oc17 kV17 dc17 pm17 cd17 ct17 oc18 kV18 dc18 pm18 cd18 ct18 oc19 kV19 dc19 pm19 cd19 ct19 oc20 kV20 dc20 pm20 cd20 ct20 oc21 kV21 dc21 pm21 cd21 ct21 : Value}
    (a1 : PySem.W.nsIn K mainGlobals "is_amount" = some (some (.ref f1))) (l1 : K.lookup f1 = some ⟨oc1, od1, .func (PySem.W.fnOf "is_amount" "is_amount" (defArgs sIs) (defBody sIs) (defScope sIs) .none kV1 dc1 pm1 an1 cd1 ct1), sl1⟩) (c1 : PySem.W.codeIn K cd1 "is_amount" = true) (k1 : PySem.W.keepIn K (.ref f1) = true)
    (a2 : PySem.W.nsIn K mainGlobals "has_letters_alone" = some (some (.ref f2))) (l2 : K.lookup f2 = some ⟨oc2, od2, .func (PySem.W.fnOf "has_letters_alone" "has_letters_alone" (defArgs sAlone) (defBody sAlone) (defScope sAlone) .none kV2 dc2 pm2 an2 cd2 ct2), sl2⟩) (c2 : PySem.W.codeIn K cd2 "has_letters_alone" = true) (k2 : PySem.W.keepIn K (.ref f2) = true)
    (a3 : PySem.W.nsIn K mainGlobals "word_price" = some (some (.ref f3))) (l3 : K.lookup f3 = some ⟨oc3, od3, .func (PySem.W.fnOf "word_price" "word_price" (defArgs sPrice) (defBody sPrice) (defScope sPrice) .none kV3 dc3 pm3 an3 cd3 ct3), sl3⟩) (c3 : PySem.W.codeIn K cd3 "word_price" = true) (k3 : PySem.W.keepIn K (.ref f3) = true)
    (a4 : PySem.W.nsIn K mainGlobals "cost" = some (some (.ref f4))) (l4 : K.lookup f4 = some ⟨oc4, od4, .func (PySem.W.fnOf "cost" "cost" (defArgs sCost) (defBody sCost) (defScope sCost) .none kV4 dc4 pm4 an4 cd4 ct4), sl4⟩) (c4 : PySem.W.codeIn K cd4 "cost" = true) (k4 : PySem.W.keepIn K (.ref f4) = true)
    (a5 : PySem.W.nsIn K mainGlobals "price_moved" = some (some (.ref f5))) (l5 : K.lookup f5 = some ⟨oc5, od5, .func (PySem.W.fnOf "price_moved" "price_moved" (defArgs sPM) (defBody sPM) (defScope sPM) .none kV5 dc5 pm5 an5 cd5 ct5), sl5⟩) (c5 : PySem.W.codeIn K cd5 "price_moved" = true) (k5 : PySem.W.keepIn K (.ref f5) = true)
    (a6 : PySem.W.nsIn K mainGlobals "weight_moved" = some (some (.ref f6))) (l6 : K.lookup f6 = some ⟨oc6, od6, .func (PySem.W.fnOf "weight_moved" "weight_moved" (defArgs sWM) (defBody sWM) (defScope sWM) .none kV6 dc6 pm6 an6 cd6 ct6), sl6⟩) (c6 : PySem.W.codeIn K cd6 "weight_moved" = true) (k6 : PySem.W.keepIn K (.ref f6) = true)
    (a7 : PySem.W.nsIn K mainGlobals "refuse_letter" = some (some (.ref f7))) (l7 : K.lookup f7 = some ⟨oc7, od7, .func (PySem.W.fnOf "refuse_letter" "refuse_letter" (defArgs sRL) (defBody sRL) (defScope sRL) .none kV7 dc7 pm7 an7 cd7 ct7), sl7⟩) (c7 : PySem.W.codeIn K cd7 "refuse_letter" = true) (k7 : PySem.W.keepIn K (.ref f7) = true)
    (a8 : PySem.W.nsIn K mainGlobals "refuse_thing" = some (some (.ref f8))) (l8 : K.lookup f8 = some ⟨oc8, od8, .func (PySem.W.fnOf "refuse_thing" "refuse_thing" (defArgs sRT) (defBody sRT) (defScope sRT) .none kV8 dc8 pm8 an8 cd8 ct8), sl8⟩) (c8 : PySem.W.codeIn K cd8 "refuse_thing" = true) (k8 : PySem.W.keepIn K (.ref f8) = true)
    (a9 : PySem.W.nsIn K mainGlobals "with_number" = some (some (.ref f9))) (l9 : K.lookup f9 = some ⟨oc9, od9, .func (PySem.W.fnOf "with_number" "with_number" (defArgs sWN) (defBody sWN) (defScope sWN) .none kV9 dc9 pm9 an9 cd9 ct9), sl9⟩) (c9 : PySem.W.codeIn K cd9 "with_number" = true) (k9 : PySem.W.keepIn K (.ref f9) = true)
    (a10 : PySem.W.nsIn K mainGlobals "price_share" = some (some (.ref f10))) (l10 : K.lookup f10 = some ⟨oc10, od10, .func (PySem.W.fnOf "price_share" "price_share" (defArgs sPS) (defBody sPS) (defScope sPS) .none kV10 dc10 pm10 an10 cd10 ct10), sl10⟩) (c10 : PySem.W.codeIn K cd10 "price_share" = true) (k10 : PySem.W.keepIn K (.ref f10) = true)
    (a11 : PySem.W.nsIn K mainGlobals "weight_share" = some (some (.ref f11))) (l11 : K.lookup f11 = some ⟨oc11, od11, .func (PySem.W.fnOf "weight_share" "weight_share" (defArgs sWS) (defBody sWS) (defScope sWS) .none kV11 dc11 pm11 an11 cd11 ct11), sl11⟩) (c11 : PySem.W.codeIn K cd11 "weight_share" = true) (k11 : PySem.W.keepIn K (.ref f11) = true)
    (a12 : PySem.W.nsIn K mainGlobals "_law_cell" = some (some (.ref f12))) (l12 : K.lookup f12 = some ⟨oc12, od12, .func (PySem.W.fnOf "_law_cell" "_law_cell" (defArgs sCell) (defBody sCell) (defScope sCell) .none kV12 dc12 pm12 an12 cd12 ct12), sl12⟩) (c12 : PySem.W.codeIn K cd12 "_law_cell" = true) (k12 : PySem.W.keepIn K (.ref f12) = true)
    (a13 : PySem.W.nsIn K mainGlobals "_law_number" = some (some (.ref f13))) (l13 : K.lookup f13 = some ⟨oc13, od13, .func (PySem.W.fnOf "_law_number" "_law_number" (defArgs sNumber) (defBody sNumber) (defScope sNumber) .none kV13 dc13 pm13 an13 cd13 ct13), sl13⟩) (c13 : PySem.W.codeIn K cd13 "_law_number" = true) (k13 : PySem.W.keepIn K (.ref f13) = true)
    (a14 : PySem.W.nsIn K mainGlobals "_law_numbers" = some (some (.ref f14))) (l14 : K.lookup f14 = some ⟨oc14, od14, .func (PySem.W.fnOf "_law_numbers" "_law_numbers" (defArgs sNumbers) (defBody sNumbers) (defScope sNumbers) .none kV14 dc14 pm14 an14 cd14 ct14), sl14⟩) (c14 : PySem.W.codeIn K cd14 "_law_numbers" = true) (k14 : PySem.W.keepIn K (.ref f14) = true)
    (a15 : PySem.W.nsIn K mainGlobals "_law_whole" = some (some (.ref f15))) (l15 : K.lookup f15 = some ⟨oc15, od15, .func (PySem.W.fnOf "_law_whole" "_law_whole" (defArgs sWhole) (defBody sWhole) (defScope sWhole) .none kV15 dc15 pm15 an15 cd15 ct15), sl15⟩) (c15 : PySem.W.codeIn K cd15 "_law_whole" = true) (k15 : PySem.W.keepIn K (.ref f15) = true)
    (a16 : PySem.W.nsIn K mainGlobals "_law_word" = some (some (.ref f16))) (l16 : K.lookup f16 = some ⟨oc16, od16, .func (PySem.W.fnOf "_law_word" "_law_word" (defArgs sWord) (defBody sWord) (defScope sWord) .none kV16 dc16 pm16 an16 cd16 ct16), sl16⟩) (c16 : PySem.W.codeIn K cd16 "_law_word" = true) (k16 : PySem.W.keepIn K (.ref f16) = true)
    (a17 : PySem.W.nsIn K mainGlobals "_law_told" = some (some (.ref f17))) (l17 : K.lookup f17 = some ⟨oc17, od17, .func (PySem.W.fnOf "_law_told" "_law_told" (defArgs sTold) (defBody sTold) (defScope sTold) .none kV17 dc17 pm17 an17 cd17 ct17), sl17⟩) (c17 : PySem.W.codeIn K cd17 "_law_told" = true) (k17 : PySem.W.keepIn K (.ref f17) = true)
    (a18 : PySem.W.nsIn K mainGlobals "_law_due" = some (some (.ref f18))) (l18 : K.lookup f18 = some ⟨oc18, od18, .func (PySem.W.fnOf "_law_due" "_law_due" (defArgs sDue) (defBody sDue) (defScope sDue) .none kV18 dc18 pm18 an18 cd18 ct18), sl18⟩) (c18 : PySem.W.codeIn K cd18 "_law_due" = true) (k18 : PySem.W.keepIn K (.ref f18) = true)
    (a19 : PySem.W.nsIn K mainGlobals "_law_spoilt" = some (some (.ref f19))) (l19 : K.lookup f19 = some ⟨oc19, od19, .func (PySem.W.fnOf "_law_spoilt" "_law_spoilt" (defArgs sSpoilt) (defBody sSpoilt) (defScope sSpoilt) .none kV19 dc19 pm19 an19 cd19 ct19), sl19⟩) (c19 : PySem.W.codeIn K cd19 "_law_spoilt" = true) (k19 : PySem.W.keepIn K (.ref f19) = true)
    (a20 : PySem.W.nsIn K mainGlobals "_law_rises" = some (some (.ref f20))) (l20 : K.lookup f20 = some ⟨oc20, od20, .func (PySem.W.fnOf "_law_rises" "_law_rises" (defArgs sRises) (defBody sRises) (defScope sRises) .none kV20 dc20 pm20 an20 cd20 ct20), sl20⟩) (c20 : PySem.W.codeIn K cd20 "_law_rises" = true) (k20 : PySem.W.keepIn K (.ref f20) = true)
    (a21 : PySem.W.nsIn K mainGlobals "law" = some (some (.ref f21))) (l21 : K.lookup f21 = some ⟨oc21, od21, .func (PySem.W.fnOf "law" "law" (defArgs sLaw) (defBody sLaw) (defScope sLaw) .none kV21 dc21 pm21 an21 cd21 ct21), sl21⟩) (c21 : PySem.W.codeIn K cd21 "law" = true) (k21 : PySem.W.keepIn K (.ref f21) = true)
    (z1 : PySem.W.nsIn K mainGlobals "len" = some none)
    (z2 : PySem.W.nsIn K mainGlobals "range" = some none)
    (z3 : PySem.W.nsIn K mainGlobals "sum" = some none)
    (z4 : PySem.W.nsIn K mainGlobals "zip" = some none)
    (z5 : PySem.W.nsIn K mainGlobals "all" = some none)
    (z6 : PySem.W.nsIn K mainGlobals "tuple" = some none)
    (z7 : PySem.W.nsIn K mainGlobals "list" = some none)
    (z8 : PySem.W.nsIn K mainGlobals "isinstance" = some none)
    (z9 : PySem.W.nsIn K mainGlobals "int" = some none)
    (z10 : PySem.W.nsIn K mainGlobals "bool" = some none)
    (z11 : PySem.W.nsIn K mainGlobals "ValueError" = some none)
    (z12 : PySem.W.nsIn K mainGlobals "enumerate" = some none)
    (z13 : PySem.W.nsIn K mainGlobals "max" = some none)
    {D : Addr} (gD : PySem.W.nsIn K mainGlobals "TollError" = some (some (.ref D)))
    (xD : xcIn K D = true)
    (eD : PySem.W.excIn K D bmVE newVE = true)
    {CB : Addr} (gCB : PySem.W.nsIn K mainGlobals "Unlike" = some (some (.ref CB)))
    (xCB : xcIn K CB = true)
    (eCB : PySem.W.excIn K CB bmVE newVE = true)
    {CT : Addr} (gCT : PySem.W.nsIn K mainGlobals "BadWord" = some (some (.ref CT)))
    (xCT : xcIn K CT = true)
    (eCT : PySem.W.excIn K CT bmVE newVE = true)
    {CN : Addr} (gCN : PySem.W.nsIn K mainGlobals "NoThing" = some (some (.ref CN)))
    (xCN : xcIn K CN = true)
    (eCN : PySem.W.excIn K CN bmVE newVE = true)
    {CP : Addr} (gCP : PySem.W.nsIn K mainGlobals "BadNumber" = some (some (.ref CP)))
    (xCP : xcIn K CP = true)
    (eCP : PySem.W.excIn K CP bmVE newVE = true)
    {CW : Addr} (gCW : PySem.W.nsIn K mainGlobals "Clash" = some (some (.ref CW)))
    (xCW : xcIn K CW = true)
    {CC : Addr} (gCC : PySem.W.nsIn K mainGlobals "NotCheapest" = some (some (.ref CC)))
    (xCC : xcIn K CC = true)
    (eCC : PySem.W.excIn K CC bmVE newVE = true)
    (sCBD : PySem.W.subIn K (.ref CB) (.ref D) = some true)
    (sCTD : PySem.W.subIn K (.ref CT) (.ref D) = some true)
    (sCND : PySem.W.subIn K (.ref CN) (.ref D) = some true)
    (sCBCT : PySem.W.subIn K (.ref CB) (.ref CT) = some false)
    (sCBCN : PySem.W.subIn K (.ref CB) (.ref CN) = some false)
    (sCBCP : PySem.W.subIn K (.ref CB) (.ref CP) = some false)
    (sCBCW : PySem.W.subIn K (.ref CB) (.ref CW) = some false)
    (sCBCC : PySem.W.subIn K (.ref CB) (.ref CC) = some false)
    (sCTCB : PySem.W.subIn K (.ref CT) (.ref CB) = some false)
    (sCTCN : PySem.W.subIn K (.ref CT) (.ref CN) = some false)
    (sCTCP : PySem.W.subIn K (.ref CT) (.ref CP) = some false)
    (sCTCW : PySem.W.subIn K (.ref CT) (.ref CW) = some false)
    (sCTCC : PySem.W.subIn K (.ref CT) (.ref CC) = some false)
    (sCNCB : PySem.W.subIn K (.ref CN) (.ref CB) = some false)
    (sCNCT : PySem.W.subIn K (.ref CN) (.ref CT) = some false)
    (sCNCP : PySem.W.subIn K (.ref CN) (.ref CP) = some false)
    (sCNCW : PySem.W.subIn K (.ref CN) (.ref CW) = some false)
    (sCNCC : PySem.W.subIn K (.ref CN) (.ref CC) = some false) :
    ∃ fd : FuncData, (∀ (s : Shared) (v : Value), BindsTo s fd ⟨[v], []⟩ [("script", v)]) ∧ ∀ base : Heap, K.In base → base.Ns mainGlobals mg → FnOk l.prog w K mg base CX0 6 fa fd ["script"] (spLaw K) := by
  have e := hfa.symm.trans (PySem.W.mg_of X G a21)
  cases e
  have F1 := fun_mk (st := sIs) l1 c1 k1
  have m1 := PySem.W.mg_of X G a1
  have b1 := F1.binds (ps := ["number"]) fun _ _ _ _ _ _ us hl => match us, hl with | [_], _ => rfl
  have F2 := fun_mk (st := sAlone) l2 c2 k2
  have m2 := PySem.W.mg_of X G a2
  have b2 := F2.binds (ps := ["word", "letters"]) fun _ _ _ _ _ _ us hl => match us, hl with | [_, _], _ => rfl
  have F3 := fun_mk (st := sPrice) l3 c3 k3
  have m3 := PySem.W.mg_of X G a3
  have b3 := F3.binds (ps := ["prices", "word"]) fun _ _ _ _ _ _ us hl => match us, hl with | [_, _], _ => rfl
  have F4 := fun_mk (st := sCost) l4 c4 k4
  have m4 := PySem.W.mg_of X G a4
  have b4 := F4.binds (ps := ["prices", "weights", "code"]) fun _ _ _ _ _ _ us hl => match us, hl with | [_, _, _], _ => rfl
  have F5 := fun_mk (st := sPM) l5 c5 k5
  have m5 := PySem.W.mg_of X G a5
  have b5 := F5.binds (ps := ["prices", "letter", "number"]) fun _ _ _ _ _ _ us hl => match us, hl with | [_, _, _], _ => rfl
  have F6 := fun_mk (st := sWM) l6 c6 k6
  have m6 := PySem.W.mg_of X G a6
  have b6 := F6.binds (ps := ["weights", "thing", "number"]) fun _ _ _ _ _ _ us hl => match us, hl with | [_, _, _], _ => rfl
  have F7 := fun_mk (st := sRL) l7 c7 k7
  have m7 := PySem.W.mg_of X G a7
  have b7 := F7.binds (ps := ["prices", "letter"]) fun _ _ _ _ _ _ us hl => match us, hl with | [_, _], _ => rfl
  have F8 := fun_mk (st := sRT) l8 c8 k8
  have m8 := PySem.W.mg_of X G a8
  have b8 := F8.binds (ps := ["weights", "thing"]) fun _ _ _ _ _ _ us hl => match us, hl with | [_, _], _ => rfl
  have F9 := fun_mk (st := sWN) l9 c9 k9
  have m9 := PySem.W.mg_of X G a9
  have b9 := F9.binds (ps := ["numbers", "at", "number"]) fun _ _ _ _ _ _ us hl => match us, hl with | [_, _, _], _ => rfl
  have F10 := fun_mk (st := sPS) l10 c10 k10
  have m10 := PySem.W.mg_of X G a10
  have b10 := F10.binds (ps := ["prices", "weights", "code", "letter"]) fun _ _ _ _ _ _ us hl => match us, hl with | [_, _, _, _], _ => rfl
  have F11 := fun_mk (st := sWS) l11 c11 k11
  have m11 := PySem.W.mg_of X G a11
  have b11 := F11.binds (ps := ["prices", "weights", "code", "thing"]) fun _ _ _ _ _ _ us hl => match us, hl with | [_, _, _, _], _ => rfl
  have F12 := fun_mk (st := sCell) l12 c12 k12
  have m12 := PySem.W.mg_of X G a12
  have b12 := F12.binds (ps := ["script", "k"]) fun _ _ _ _ _ _ us hl => match us, hl with | [_, _], _ => rfl
  have F13 := fun_mk (st := sNumber) l13 c13 k13
  have m13 := PySem.W.mg_of X G a13
  have b13 := F13.binds (ps := ["cell", "way"]) fun _ _ _ _ _ _ us hl => match us, hl with | [_, _], _ => rfl
  have F14 := fun_mk (st := sNumbers) l14 c14 k14
  have m14 := PySem.W.mg_of X G a14
  have b14 := F14.binds (ps := ["script", "at", "many", "way"]) fun _ _ _ _ _ _ us hl => match us, hl with | [_, _, _, _], _ => rfl
  have F15 := fun_mk (st := sWhole) l15 c15 k15
  have m15 := PySem.W.mg_of X G a15
  have b15 := F15.binds (ps := ["found"]) fun _ _ _ _ _ _ us hl => match us, hl with | [_], _ => rfl
  have F16 := fun_mk (st := sWord) l16 c16 k16
  have m16 := PySem.W.mg_of X G a16
  have b16 := F16.binds (ps := ["cell", "letters"]) fun _ _ _ _ _ _ us hl => match us, hl with | [_, _], _ => rfl
  have F17 := fun_mk (st := sTold) l17 c17 k17
  have m17 := PySem.W.mg_of X G a17
  have b17 := F17.binds (ps := ["which", "prices", "weights", "code", "at"]) fun _ _ _ _ _ _ us hl => match us, hl with | [_, _, _, _, _], _ => rfl
  have F18 := fun_mk (st := sDue) l18 c18 k18
  have m18 := PySem.W.mg_of X G a18
  have b18 := F18.binds (ps := ["which", "prices", "weights", "code", "at"]) fun _ _ _ _ _ _ us hl => match us, hl with | [_, _, _, _, _], _ => rfl
  have F19 := fun_mk (st := sSpoilt) l19 c19 k19
  have m19 := PySem.W.mg_of X G a19
  have b19 := F19.binds (ps := ["code", "letters", "cell"]) fun _ _ _ _ _ _ us hl => match us, hl with | [_, _, _], _ => rfl
  have F20 := fun_mk (st := sRises) l20 c20 k20
  have m20 := PySem.W.mg_of X G a20
  have b20 := F20.binds (ps := ["which", "prices", "weights", "code", "at", "number", "share"]) fun _ _ _ _ _ _ us hl => match us, hl with | [_, _, _, _, _, _, _], _ => rfl
  have F21 := fun_mk (st := sLaw) l21 c21 k21
  have m21 := PySem.W.mg_of X G a21
  have B_len := PySem.W.mg_none_of X G z1
  have B_range := PySem.W.mg_none_of X G z2
  have B_sum := PySem.W.mg_none_of X G z3
  have B_zip := PySem.W.mg_none_of X G z4
  have B_all := PySem.W.mg_none_of X G z5
  have B_tuple := PySem.W.mg_none_of X G z6
  have B_list := PySem.W.mg_none_of X G z7
  have B_isinstance := PySem.W.mg_none_of X G z8
  have B_int := PySem.W.mg_none_of X G z9
  have B_bool := PySem.W.mg_none_of X G z10
  have B_ValueError := PySem.W.mg_none_of X G z11
  have B_enumerate := PySem.W.mg_none_of X G z12
  have B_max := PySem.W.mg_none_of X G z13
  refine ⟨PySem.W.fnOf "law" "law" (defArgs sLaw) (defBody sLaw) (defScope sLaw) .none kV21 dc21 pm21 an21 cd21 ct21, fun s v => .of_eq rfl, fun base _ _ => ?_⟩
  have cc : Cl K mg D CB CT CN CP CW CC := ⟨PySem.W.mg_of X G gD, PySem.W.mg_of X G gCB, PySem.W.mg_of X G gCT, PySem.W.mg_of X G gCN, PySem.W.mg_of X G gCP, PySem.W.mg_of X G gCW, PySem.W.mg_of X G gCC, B_ValueError, .of xD, .of xCB, .of xCT, .of xCN, .of xCP, .of xCW, .of xCC, ⟨eCB⟩, ⟨eCT⟩, ⟨eCN⟩, sCBD, sCTD, sCND, sCBCT, sCBCN, sCBCP, sCBCW, sCBCC, sCTCB, sCTCN, sCTCP, sCTCW, sCTCC, sCNCB, sCNCT, sCNCP, sCNCW, sCNCC⟩
  have B1 : Fns l.prog w K mg base ["number"] "is_amount" spIs 1 := ⟨_, _, ok_is F1, b1, k1, m1⟩
  have B2 : Fns l.prog w K mg base ["word", "letters"] "has_letters_alone" spAlone 1 := ⟨_, _, ok_alone F2 B_all, b2, k2, m2⟩
  have B3 : Fns' l.prog w K mg base ["prices", "word"] "word_price" (spPrice CT) 2 := ⟨_, _, ok_price F3 B2 B_len B_sum cc.gT cc.eT, b3, k3, m3⟩
  have B4 : Fns' l.prog w K mg base ["prices", "weights", "code"] "cost" (spCost CB CT) 3 := ⟨_, _, ok_cost F4 B3 B_len B_sum B_zip cc.gB cc.eB, b4, k4, m4⟩
  have B7 : Fns' l.prog w K mg base ["prices", "letter"] "refuse_letter" (spRef CT) 2 := ⟨_, _, (ok_RL F7 B_len cc.gT cc.eT).mono (by decide), b7, k7, m7⟩
  have B8 : Fns' l.prog w K mg base ["weights", "thing"] "refuse_thing" (spRef CN) 2 := ⟨_, _, (ok_RT F8 B_len cc.gN cc.eN).mono (by decide), b8, k8, m8⟩
  have B9 : Fns' l.prog w K mg base ["numbers", "at", "number"] "with_number" (spWN CP) 2 := ⟨_, _, ok_WN F9 B1 cc.gP ⟨eCP⟩, b9, k9, m9⟩
  have B5 : Fns' l.prog w K mg base ["prices", "letter", "number"] "price_moved" (spPM CT CP) 3 := ⟨_, _, ok_PM F5 B7 B9, b5, k5, m5⟩
  have B6 : Fns' l.prog w K mg base ["weights", "thing", "number"] "weight_moved" (spPM CN CP) 3 := ⟨_, _, ok_WM F6 B8 B9, b6, k6, m6⟩
  have B10 : Fns' l.prog w K mg base ["prices", "weights", "code", "letter"] "price_share" (spSh 0 CB CT CN) 4 := ⟨_, _, ok_ps F10 B4 (B7.up (by decide)) B_sum B_zip, b10, k10, m10⟩
  have B11 : Fns' l.prog w K mg base ["prices", "weights", "code", "thing"] "weight_share" (spSh 1 CB CT CN) 4 := ⟨_, _, ok_ws F11 B4 (B8.up (by decide)) (B3.up (by decide)), b11, k11, m11⟩
  have B12 : Fns l.prog w K mg base ["script", "k"] "_law_cell" (spCell K) 1 := ⟨_, _, ok_cell F12 B_len, b12, k12, m12⟩
  have B13 : Fns l.prog w K mg base ["cell", "way"] "_law_number" spNumber 1 := ⟨_, _, ok_number F13, b13, k13, m13⟩
  have B14 : Fns l.prog w K mg base ["script", "at", "many", "way"] "_law_numbers" (spNumbers K) 5 := ⟨_, _, (ok_numbers F14 B12 B13 B_range B_tuple).mono (by decide), b14, k14, m14⟩
  have B15 : Fns l.prog w K mg base ["found"] "_law_whole" spWhole 5 := ⟨_, _, (ok_whole F15 B_isinstance B_int B_bool).mono (by decide), b15, k15, m15⟩
  have B16 : Fns l.prog w K mg base ["cell", "letters"] "_law_word" spWord 5 := ⟨_, _, (ok_word F16 B_range B_tuple).mono (by decide), b16, k16, m16⟩
  have B17 : Fns l.prog w K mg base ["which", "prices", "weights", "code", "at"] "_law_told" spTold 5 := ⟨_, _, ok_told F17 B10 B11 cc B_isinstance B_enumerate, b17, k17, m17⟩
  have B18 : Fns l.prog w K mg base ["which", "prices", "weights", "code", "at"] "_law_due" spTold 5 := ⟨_, _, (ok_due F18 B_len B_sum B_zip).mono (by decide), b18, k18, m18⟩
  have B19 : Fns l.prog w K mg base ["code", "letters", "cell"] "_law_spoilt" spSpoilt 5 := ⟨_, _, (ok_spoilt F19 B_len B_list B_tuple).mono (by decide), b19, k19, m19⟩
  have B20 : Fns l.prog w K mg base ["which", "prices", "weights", "code", "at", "number", "share"] "_law_rises" spRises 5 := ⟨_, _, ok_rises F20 (B4.up (by decide)) (B5.up (by decide)) (B6.up (by decide)), b20, k20, m20⟩
  exact ok_law F21 (B12.up (by decide)) B14 B16 B19 B17 B18 B15 B20 B_len B_range B_enumerate B_max B_tuple
theorem walk {l : PySem.W.OpenLaw} {q : Program} {loose : List Str} {XP : (Str → Option Value) → Heap → Prop} {YP : World → Heap → Prop} {d : DefRec} {K : Params → PySem.W.Frag} (hn : l.most = some 63) (hdf : d.params.defaults = [])
    (hY : ∀ (w : World) (h : Heap), YP w h → (K w.params).In h)
    (F : ∀ (w : World) (mg : Str → Option Value) (fa : Addr) (h : Heap), (K w.params).In h → h.Ns mainGlobals mg → mg d.name = some (.ref fa) →
      ∃ fd : FuncData, (∀ (s : Shared) (u : Value), BindsTo s fd ⟨[u], []⟩ [("script", u)]) ∧ ∀ base : Heap, (K w.params).In base → base.Ns mainGlobals mg → FnOk l.prog w (K w.params) mg base CX0 6 fa fd ["script"] (spLaw (K w.params))) :
    PySem.W.WalkO q loose XP YP l.row.toRowW d [] (fun f vs => PySem.call f vs) :=
  L2.walk_of (n := 63) (k := 6) (x := "script") (CX := fun _ => CX0) (sp := fun w => spLaw (K w.params)) hn (by decide) hdf ⟨rfl, by decide, by decide⟩ hY F (fun _ _ a ns hl _ hS => ⟨a, ns, rfl, hS, hl, fun _ => rfl⟩) fun _ _ _ _ _ z => z
end K62
open PySem PySem.W PyProof.Rows
set_option maxRecDepth 100000 in
set_option maxHeartbeats 0 in
theorem PySem.Challenge.cw_lettertoll_k62_shares_holds : PySem.Challenge.rw_lettertoll_k62_shares.Holds := by
  w_on; o_law; k_head; (case hw => w_witness2)
  k_fill
  refine K62.walk (l := PySem.Challenge.rw_lettertoll_k62_shares) rfl rfl (fun w h Y => PySem.W.kIn_of Y) ?F
  case F =>
    intro w mg fa h KX G hmg
    refine' K62.all_mk KX G hmg ?a1 ?l1 ?c1 ?k1 ?a2 ?l2 ?c2 ?k2 ?a3 ?l3 ?c3 ?k3 ?a4 ?l4 ?c4 ?k4 ?a5 ?l5 ?c5 ?k5 ?a6 ?l6 ?c6 ?k6 ?a7 ?l7 ?c7 ?k7 ?a8 ?l8 ?c8 ?k8 ?a9 ?l9 ?c9 ?k9 ?a10 ?l10 ?c10 ?k10 ?a11 ?l11 ?c11 ?k11 ?a12 ?l12 ?c12 ?k12 ?a13 ?l13 ?c13 ?k13 ?a14 ?l14 ?c14 ?k14 ?a15 ?l15 ?c15 ?k15 ?a16 ?l16 ?c16 ?k16 ?a17 ?l17 ?c17 ?k17 ?a18 ?l18 ?c18 ?k18 ?a19 ?l19 ?c19 ?k19 ?a20 ?l20 ?c20 ?k20 ?a21 ?l21 ?c21 ?k21 ?z1 ?z2 ?z3 ?z4 ?z5 ?z6 ?z7 ?z8 ?z9 ?z10 ?z11 ?z12 ?z13 ?gD ?xD ?eD ?gCB ?xCB ?eCB ?gCT ?xCT ?eCT ?gCN ?xCN ?eCN ?gCP ?xCP ?eCP ?gCW ?xCW ?gCC ?xCC ?eCC ?sCBD ?sCTD ?sCND ?sCBCT ?sCBCN ?sCBCP ?sCBCW ?sCBCC ?sCTCB ?sCTCN ?sCTCP ?sCTCW ?sCTCC ?sCNCB ?sCNCT ?sCNCP ?sCNCW ?sCNCC
    (case a1 => k_is); (case l1 => k_is); (case c1 => k_is); (case k1 => k_is)
    (case a2 => k_is); (case l2 => k_is); (case c2 => k_is); (case k2 => k_is)
    (case a3 => k_is); (case l3 => k_is); (case c3 => k_is); (case k3 => k_is)
    (case a4 => k_is); (case l4 => k_is); (case c4 => k_is); (case k4 => k_is)
    (case a5 => k_is); (case l5 => k_is); (case c5 => k_is); (case k5 => k_is)
    (case a6 => k_is); (case l6 => k_is); (case c6 => k_is); (case k6 => k_is)
    (case a7 => k_is); (case l7 => k_is); (case c7 => k_is); (case k7 => k_is)
    (case a8 => k_is); (case l8 => k_is); (case c8 => k_is); (case k8 => k_is)
    (case a9 => k_is); (case l9 => k_is); (case c9 => k_is); (case k9 => k_is)
    (case a10 => k_is); (case l10 => k_is); (case c10 => k_is); (case k10 => k_is)
    (case a11 => k_is); (case l11 => k_is); (case c11 => k_is); (case k11 => k_is)
    (case a12 => k_is); (case l12 => k_is); (case c12 => k_is); (case k12 => k_is)
    (case a13 => k_is); (case l13 => k_is); (case c13 => k_is); (case k13 => k_is)
    (case a14 => k_is); (case l14 => k_is); (case c14 => k_is); (case k14 => k_is)
    (case a15 => k_is); (case l15 => k_is); (case c15 => k_is); (case k15 => k_is)
    (case a16 => k_is); (case l16 => k_is); (case c16 => k_is); (case k16 => k_is)
    (case a17 => k_is); (case l17 => k_is); (case c17 => k_is); (case k17 => k_is)
    (case a18 => k_is); (case l18 => k_is); (case c18 => k_is); (case k18 => k_is)
    (case a19 => k_is); (case l19 => k_is); (case c19 => k_is); (case k19 => k_is)
    (case a20 => k_is); (case l20 => k_is); (case c20 => k_is); (case k20 => k_is)
    (case a21 => k_is); (case l21 => k_is); (case c21 => k_is); (case k21 => k_is)
    (case z1 => k_is)
    (case z2 => k_is)
    (case z3 => k_is)
    (case z4 => k_is)
    (case z5 => k_is)
    (case z6 => k_is)
    (case z7 => k_is)
    (case z8 => k_is)
    (case z9 => k_is)
    (case z10 => k_is)
    (case z11 => k_is)
    (case z12 => k_is)
    (case z13 => k_is)
    (case gD => k_is)
    (case xD => kernel_rfl)
    (case eD => kernel_rfl)
    (case gCB => k_is)
    (case xCB => kernel_rfl)
    (case eCB => kernel_rfl)
    (case gCT => k_is)
    (case xCT => kernel_rfl)
    (case eCT => kernel_rfl)
    (case gCN => k_is)
    (case xCN => kernel_rfl)
    (case eCN => kernel_rfl)
    (case gCP => k_is)
    (case xCP => kernel_rfl)
    (case eCP => kernel_rfl)
    (case gCW => k_is)
    (case xCW => kernel_rfl)
    (case gCC => k_is)
    (case xCC => kernel_rfl)
    (case eCC => kernel_rfl)
    (case sCBD => k_is)
    (case sCTD => k_is)
    (case sCND => k_is)
    (case sCBCT => k_is)
    (case sCBCN => k_is)
    (case sCBCP => k_is)
    (case sCBCW => k_is)
    (case sCBCC => k_is)
    (case sCTCB => k_is)
    (case sCTCN => k_is)
    (case sCTCP => k_is)
    (case sCTCW => k_is)
    (case sCTCC => k_is)
    (case sCNCB => k_is)
    (case sCNCT => k_is)
    (case sCNCP => k_is)
    (case sCNCW => k_is)
    (case sCNCC => k_is)
