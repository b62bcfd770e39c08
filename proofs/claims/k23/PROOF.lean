import PyProof.Rows.All
import Wide.All
import OpenK.AllK
import Wide.FinOn
import Lean
import PyProof.EqAt
import PyProof.EqKinds
import PyProof.TupleCall
import PyProof.NeKinds
import PyProof.ConsumeWalk
import PyProof.SumAny
import PyProof.Rows.SumGenD
import PyProof.ExcInit
import PyProof.InstStoreFacts
import PyProof.ZipIter
import PyProof.DictWalks
import KE.KSortTup
import KE.KDictList
import PyProof.EnumMake
import KE.IntBitsLaws
import KE.KRevIter
import PyProof.CollectIter
import PySem.Challenge.RW_lettertoll_k23_readers_asked
set_option Elab.async false
set_option linter.all false
set_option maxRecDepth 100000
/-! THE HAND LAYER, for ints, bools, texts, own classes, LISTS and tuples (index, slices, in, append, pop ..), calls, loops. Paste it whole ahead of your own text; what your proof does not reach may be deleted. -/
namespace L2
open PySem PySem.Spec PyProof.Rows

/-- a key: an int or a str -/
abbrev Key := Sum Int Str
def keyIs : Key → Value → Bool
  | .inl k, v => Value.isInt k v
  | .inr x, v => Value.isStrOf x v
def keyH (w : World) : Key → Int
  | .inl k => hashInt k
  | .inr x => hashStr w x
theorem keyIs_shape : ∀ {k : Key} {v : Value}, keyIs k v = true → (∃ i t, k = Sum.inl i ∧ v = Value.int i t) ∨ (∃ x t, k = Sum.inr x ∧ v = Value.str x t)
  | .inl i, v, h => by
    obtain ⟨t, e⟩ := Value.isInt_shape (k := i) (v := v) h
    exact .inl ⟨i, t, rfl, e⟩
  | .inr x, v, h => by
    obtain ⟨t, e⟩ := Value.isStrOf_shape (x := x) (v := v) h
    exact .inr ⟨x, t, rfl, e⟩
theorem keyIs_int (i : Int) (t : Tok) : keyIs (.inl i) (.int i t) = true := by simp [keyIs, Value.isInt]
theorem keyIs_str (x : Str) (t : Tok) : keyIs (.inr x) (.str x t) = true := by simp [keyIs, Value.isStrOf]
theorem key_ll (a b : Int) : decide ((Sum.inl a : Key) = Sum.inl b) = (a == b) := by
  by_cases e : a = b
  · subst e; simp
  · have h : ¬ (Sum.inl a : Key) = Sum.inl b := fun q => e (Sum.inl.inj q)
    rw [decide_eq_false h]
    exact (beq_eq_false_iff_ne.mpr e).symm
theorem key_rr (a b : Str) : decide ((Sum.inr a : Key) = Sum.inr b) = decide (a = b) := by
  by_cases e : a = b
  · subst e; simp
  · have h : ¬ (Sum.inr a : Key) = Sum.inr b := fun q => e (Sum.inr.inj q)
    rw [decide_eq_false h, decide_eq_false e]
theorem key_lr (a : Int) (b : Str) : decide ((Sum.inl a : Key) = Sum.inr b) = false := decide_eq_false (fun q => nomatch q)
theorem key_rl (a : Str) (b : Int) : decide ((Sum.inr a : Key) = Sum.inl b) = false := decide_eq_false (fun q => nomatch q)

def mixKind (prog : Program) (w : World) : PySem.KeyKind prog w Key where
  is := keyIs
  hash := keyH w
  inj := fun v a b ha hb => by
    rcases keyIs_shape ha with ⟨i, t, rfl, rfl⟩ | ⟨x, t, rfl, rfl⟩
    · rcases keyIs_shape hb with ⟨j, u, rfl, e⟩ | ⟨y, u, rfl, e⟩
      · injection e with e1 _; rw [e1]
      · exact nomatch e
    · rcases keyIs_shape hb with ⟨j, u, rfl, e⟩ | ⟨y, u, rfl, e⟩
      · exact nomatch e
      · injection e with e1 _; rw [e1]
  byValue := fun k v h => by
    rcases keyIs_shape h with ⟨i, t, rfl, rfl⟩ | ⟨x, t, rfl, rfl⟩ <;> rfl
  pyHash := fun hv h => by
    rcases keyIs_shape hv with ⟨i, t, rfl, rfl⟩ | ⟨x, t, rfl, rfl⟩
    · exact wpAny_pyHash_int h
    · exact wpAny_pyHash_str h
  eqBool := fun hu hv h => by
    rcases keyIs_shape hu with ⟨i, t, rfl, rfl⟩ | ⟨x, t, rfl, rfl⟩
    · rcases keyIs_shape hv with ⟨j, u, rfl, rfl⟩ | ⟨y, u, rfl, rfl⟩
      · rw [key_ll] at h; exact wpAny_eqBool_int h
      · rw [key_lr] at h; exact SeqAt.EqAt.int_str i t y u _ _ _ _ h
    · rcases keyIs_shape hv with ⟨j, u, rfl, rfl⟩ | ⟨y, u, rfl, rfl⟩
      · rw [key_rl] at h; exact SeqAt.EqAt.str_int x t j u _ _ _ _ h
      · rw [key_rr] at h; exact wpAny_eqBool_str h
  «strs» := fun k x t v h => by
    rcases keyIs_shape h with ⟨i, u, rfl, e⟩ | ⟨y, u, rfl, e⟩
    · exact nomatch e
    · injection e with e1 _
      subst e1
      cases v <;> rfl

theorem mixKind_int (prog : Program) (w : World) (i : Int) (t : Tok) : (mixKind prog w).is (.inl i) (.int i t) = true := keyIs_int i t
theorem mixKind_str (prog : Program) (w : World) (x : Str) (t : Tok) : (mixKind prog w).is (.inr x) (.str x t) = true := keyIs_str x t
end L2

namespace L2
open PySem PySem.Spec PyProof.Rows

/-- a value, without the heap -/
inductive V where
  | non | bl (b : Bool) | int (i : Int) | str (x : Str) | byt (b : Array UInt8) | flt (b : UInt64) | ref (a : Addr) | ty (n : String)
  deriving DecidableEq

def RelV : V → Value → Prop
  | .non, u => u = Value.none
  | .bl b, u => u = Value.bool b
  | .int i, u => ∃ t, u = Value.int i t
  | .str x, u => ∃ t, u = Value.str x t
  | .byt b, u => ∃ t, u = Value.bytes b t
  | .flt b, u => ∃ t, u = Value.float b t
  | .ref a, u => u = Value.ref a
  | .ty n, u => u = Value.type n

abbrev Vals : List V → List Value → Prop := Paired RelV
theorem Vals.length {xs : List V} {us : List Value} (r : Vals xs us) : xs.length = us.length := Paired.length r
theorem Vals.get : ∀ {xs : List V} {us : List Value} {i : Nat} {x : V}, Vals xs us → xs[i]? = some x → ∃ u, us[i]? = some u ∧ RelV x u
  | _, _, _, _, .nil, e => by simp at e
  | _, _, 0, _, .cons r _, e => by simp at e; subst e; exact ⟨_, rfl, r⟩
  | _, _, i + 1, x, .cons _ t, e => by
    obtain ⟨u, h1, h2⟩ := Vals.get (i := i) (x := x) t (by simpa using e)
    exact ⟨u, by simpa using h1, h2⟩
theorem Vals.append : ∀ {xs ys : List V} {us ws : List Value}, Vals xs us → Vals ys ws → Vals (xs ++ ys) (us ++ ws)
  | _, _, _, _, .nil, s => s
  | _, _, _, _, .cons r t, s => .cons r (Vals.append t s)
theorem Vals.take : ∀ {xs : List V} {us : List Value} (n : Nat), Vals xs us → Vals (xs.take n) (us.take n)
  | _, _, 0, _ => .nil
  | _, _, _ + 1, .nil => .nil
  | _, _, n + 1, .cons r t => .cons r (Vals.take n t)
theorem Vals.drop : ∀ {xs : List V} {us : List Value} (n : Nat), Vals xs us → Vals (xs.drop n) (us.drop n)
  | _, _, 0, r => r
  | _, _, _ + 1, .nil => .nil
  | _, _, n + 1, .cons _ t => Vals.drop n t

def RelO : Option V → Option Value → Prop
  | some v, some u => RelV v u
  | none, none => True
  | _, _ => False
def KV {κ : Type} : List (κ × V) → List (κ × Value) → Prop := Paired fun (p : κ × V) (q : κ × Value) => p.1 = q.1 ∧ RelV p.2 q.2

/-- a key of a dict (00_mix): an int or a text -/
def kV : Key → V
  | .inl i => .int i
  | .inr x => .str x

/-- what stands at a tracked address -/
inductive HO where
  /-- a list -/
  | lst (xs : List V)
  /-- a tuple (never changes) -/
  | tup (xs : List V)
  /-- a dict whose keys are ints and texts; one whose keys are tuples of ints and texts (the empty one is both) -/
  | dK (kvs : List (Key × V)) | dT (kvs : List (List Key × V))
  /-- a set of ints: its members, its size -/
  | set (S : Int → Bool) (n : Nat)
  /-- an instance of the class at C, its dict at dx, its attributes -/
  | ins (C dx : Addr) (fs : List (Str × V))
  /-- the dict of the instance at x -/
  | own (x : Addr)
  /-- the dict of an exception -/
  | xd (fs : List (Str × V))
  /-- a bound method, f of x -/
  | met (f x : Addr)
  /-- a range object lo, lo + 1, .. below hi -/
  | rng (lo hi : Int)
  /-- a thing that is known to the object (the script; a dict while a loop walks it): read, never written while it is so -/
  | frz (o : Obj) (u : HO)
  /-- a code object's table -/
  | tbl (ps : Array Value)
  /-- any other thing, by what is true of its one object (a def of one's own: SetO a S n := HO.ext fun h => ..) -/
  | ext (φ : Heap → Prop)

abbrev Hp := Addr → Option HO
def upd (H : Hp) (a : Addr) (o : HO) : Hp := fun b => if b = a then some o else H b
theorem upd_same {H : Hp} {a : Addr} {o : HO} : upd H a o a = some o := by unfold upd; rw [if_pos rfl]
theorem upd_ne {H : Hp} {a b : Addr} {o : HO} (h : b ≠ a) : upd H a o b = H b := by unfold upd; rw [if_neg h]
/-- two objects of different content stand apart -/
theorem ne_of {H : Hp} {a b : Addr} {o u : HO} (h : H a = some o) (h' : H b = some u) (d : o ≠ u) : a ≠ b := by
  intro e; subst e; rw [h] at h'; exact d (Option.some.inj h')
theorem ne_of_none {H : Hp} {a b : Addr} {o : HO} (h : H a = some o) (h' : H b = none) : a ≠ b := by
  intro e; subst e; rw [h] at h'; cases h'

section
variable (P : Program) (w : World)
def ObjOk (H : Hp) (h : Heap) (a : Addr) : HO → Prop
  | .lst xs => xs.length ≤ sizeLine ∧ ∃ (its : List Value) (n : Nat), Vals xs its ∧ h.get? a = some { cls := .type "list", data := .seq its.toArray n }
  | .tup xs => xs.length ≤ sizeLine ∧ ∃ its : List Value, Vals xs its ∧ IsTup h a its.toArray
  | .dK kvs => kvs.length ≤ sizeLine ∧ (a == sysModules) = false ∧ ∃ vs, KV kvs vs ∧ h.DictOf (mixKind P w) a vs
  | .dT kvs => kvs.length ≤ sizeLine ∧ (a == sysModules) = false ∧ ∃ xs : List (List Key × Addr × Value),
      Paired (fun (p : List Key × V) (q : List Key × Addr × Value) => p.1 = q.1 ∧ H q.2.1 = some (.tup (p.1.map kV)) ∧ RelV p.2 q.2.2) kvs xs ∧
      ∃ o es ep, h.get? a = some o ∧ o.ExactDict ∧ o.data = .dict es ep ∧ es.toList = xs.map (entryOfKey (tupleKind (mixKind P w))) ∧ (xs.map (·.1)).Nodup
  | .set S n => h.SetOf (intKind P w) a S n
  | .ins C dx fs => H dx = some (.own a) ∧ fs.length ≤ 1000 ∧ dx ≠ a ∧ h.get? a = some (PySem.W.instObj C dx) ∧
      ∃ mA, h.Ns1 dx mA ∧ (∀ f, RelO (fs.lookup f) (mA f)) ∧ PySem.Within mA (fs.map (·.1))
  | .own _ => ∃ o, h.get? a = some o
  | .xd fs => ∃ mA, h.Ns1 a mA ∧ ∀ f, RelO (fs.lookup f) (mA f)
  | .rng lo hi => ∃ t u v, h.get? a = some { cls := .type "range", data := .fields #[.int lo t, .int hi u, .int 1 v] }
  | .frz o u => h.get? a = some o ∧ ObjOk H h a u
  | .tbl ps => h.get? a = some { cls := .none, data := .fields ps }
  | .met f x => h.get? a = some (PySem.W.methodObj (.ref f) (.ref x))
  | .ext φ => φ h ∧ (∃ o, h.get? a = some o) ∧ ∀ h1 h2 : Heap, φ h1 → (∀ o, h1.get? a = some o → h2.get? a = some o) → φ h2
/-- the abstract heap is held -/
def HOk (H : Hp) (h : Heap) : Prop := ∀ a o, H a = some o → ObjOk P w H h a o
end

section
variable {P : Program} {w : World} {H H' : Hp} {h h' : Heap} {a : Addr} {o : HO}
theorem ObjOk.lt (x : ObjOk P w H h a o) : a < h.objs.size := by
  cases o with
  | lst xs => obtain ⟨_, _, _, _, e⟩ := x; exact Heap.lt_size e
  | tup xs => obtain ⟨_, _, _, p⟩ := x; exact p.lt
  | dK kvs => obtain ⟨_, _, _, _, o, _, _, e, _⟩ := x; exact Heap.lt_size e
  | dT kvs => obtain ⟨_, _, _, _, o, _, _, e, _⟩ := x; exact Heap.lt_size e
  | set S n => obtain ⟨o, _, _, _, e, _⟩ := x; exact Heap.lt_size e
  | ins C dx fs => obtain ⟨_, _, _, e, _⟩ := x; exact Heap.lt_size e
  | own y => obtain ⟨_, e⟩ := x; exact Heap.lt_size e
  | xd fs => obtain ⟨_, ⟨_, _, _, e, _⟩, _⟩ := x; exact Heap.lt_size e
  | rng lo hi => obtain ⟨_, _, _, e⟩ := x; exact Heap.lt_size e
  | frz ob u => obtain ⟨e, _⟩ := x; exact Heap.lt_size e
  | tbl ps => exact Heap.lt_size (show h.get? a = some _ from x)
  | met f y => exact Heap.lt_size (show h.get? a = some _ from x)
  | ext φ => obtain ⟨_, ⟨_, e⟩, _⟩ := x; exact Heap.lt_size e
theorem Paired.mapP {α β : Type} {F G : α → β → Prop} : ∀ {l₁ : List α} {l₂ : List β}, Paired F l₁ l₂ → (∀ a b, F a b → G a b) → Paired G l₁ l₂
  | _, _, .nil, _ => .nil
  | _, _, .cons r t, f => .cons (f _ _ r) (Paired.mapP t f)
/-- what an object's description leans on: its own object, its own dict, the tuples -/
theorem ObjOk.stay (x : ObjOk P w H h a o) (k : ∀ b u, (b = a ∨ H b = some (.own a)) → h.get? b = some u → h'.get? b = some u)
    (ho : ∀ b, H b = some (.own a) → H' b = some (.own a)) (ht : ∀ b xs, H b = some (.tup xs) → H' b = some (.tup xs)) : ObjOk P w H' h' a o := by
  induction o with
  | lst xs => obtain ⟨z, its, n, r, e⟩ := x; exact ⟨z, its, n, r, k _ _ (.inl rfl) e⟩
  | tup xs => obtain ⟨z, its, r, ob, e, c⟩ := x; exact ⟨z, its, r, ob, k _ _ (.inl rfl) e, c⟩
  | dK kvs => obtain ⟨z, y, vs, r, ob, es, ep, e, c⟩ := x; exact ⟨z, y, vs, r, ob, es, ep, k _ _ (.inl rfl) e, c⟩
  | dT kvs =>
    obtain ⟨z, y, xs, r, ob, es, ep, e, c⟩ := x
    exact ⟨z, y, xs, Paired.mapP r fun p q z => ⟨z.1, ht _ _ z.2.1, z.2.2⟩, ob, es, ep, k _ _ (.inl rfl) e, c⟩
  | set S n => obtain ⟨ob, es, ep, t, e, c⟩ := x; exact ⟨ob, es, ep, t, k _ _ (.inl rfl) e, c⟩
  | ins C dx fs =>
    obtain ⟨d, z, ne, e, mA, ⟨od, es, ep, e2, c⟩, r⟩ := x
    exact ⟨ho _ d, z, ne, k _ _ (.inl rfl) e, mA, ⟨od, es, ep, k _ _ (.inr d) e2, c⟩, r⟩
  | own y => obtain ⟨ob, e⟩ := x; exact ⟨ob, k _ _ (.inl rfl) e⟩
  | xd fs => obtain ⟨mA, ⟨od, es, ep, e, c⟩, r⟩ := x; exact ⟨mA, ⟨od, es, ep, k _ _ (.inl rfl) e, c⟩, r⟩
  | rng lo hi => obtain ⟨t, u, v, e⟩ := x; exact ⟨t, u, v, k _ _ (.inl rfl) e⟩
  | frz ob u ih => obtain ⟨e, q⟩ := x; exact ⟨k _ _ (.inl rfl) e, ih q⟩
  | tbl ps =>
    have e : h.get? a = some { cls := .none, data := .fields ps } := x
    show h'.get? a = some { cls := .none, data := .fields ps }
    exact k a _ (.inl rfl) e
  | met f y =>
    have e : h.get? a = some (PySem.W.methodObj (.ref f) (.ref y)) := x
    show h'.get? a = some (PySem.W.methodObj (.ref f) (.ref y))
    exact k a _ (.inl rfl) e
  | ext φ => obtain ⟨p, ⟨o, e⟩, st⟩ := x; exact ⟨st _ _ p fun o q => k _ _ (.inl rfl) q, ⟨o, k _ _ (.inl rfl) e⟩, st⟩
theorem HOk.lt (x : HOk P w H h) (e : H a = some o) : a < h.objs.size := (x a o e).lt
theorem HOk.fresh (x : HOk P w H h) (e : h.objs.size ≤ a) : H a = none := by
  cases q : H a with
  | none => rfl
  | some u => exact absurd (Nat.lt_of_lt_of_le (x.lt q) e) (Nat.lt_irrefl _)
/-- every object of the heap is kept -/
theorem HOk.kept (x : HOk P w H h) (k : ∀ b u, h.get? b = some u → h'.get? b = some u) : HOk P w H h' := fun a o e =>
  (x a o e).stay (fun b u _ q => k b u q) (fun _ q => q) fun _ _ q => q
/-- a new object is laid and tracked -/
theorem HOk.laid (x : HOk P w H h) (k : ∀ b u, h.get? b = some u → h'.get? b = some u) (hp : h.objs.size ≤ a) (new : ObjOk P w (upd H a o) h' a o) : HOk P w (upd H a o) h' := fun b u e => by
  have hn := x.fresh hp
  by_cases hb : b = a
  · subst hb; rw [upd_same] at e; cases e; exact new
  · rw [upd_ne hb] at e
    exact (x b u e).stay (fun c v _ q => k c v q) (fun c q => by rw [upd_ne (ne_of_none q hn)]; exact q) fun c xs q => by rw [upd_ne (ne_of_none q hn)]; exact q
end

/-- what may be read as u: it is u, or a known u -/
def Rd (H : Hp) (a : Addr) (u : HO) : Prop := H a = some u ∨ ∃ o, H a = some (.frz o u)
theorem Rd.ok {P : Program} {w : World} {H : Hp} {h : Heap} {a : Addr} {u : HO} (r : Rd H a u) (x : HOk P w H h) : ObjOk P w H h a u := by
  rcases r with r | ⟨o, r⟩
  · exact x a u r
  · obtain ⟨_, q⟩ := x a _ r
    exact q
/-- what may be written -/
def Mut : Option HO → Prop
  | some (.lst _) => True
  | some (.dK _) => True
  | some (.dT _) => True
  | some (.set _ _) => True
  | some (.ins _ _ _) => True
  | some (.ext _) => True
  | _ => False
section
variable {P : Program} {w : World} {H : Hp} {h h' : Heap} {x e : Addr} {o' : HO}
/-- the object at e is changed: x itself, or the dict of the instance x -/
theorem HOk.write (ok : HOk P w H h) (mu : Mut (H x)) (he : e = x ∨ H e = some (.own x)) (k : ∀ b u, b ≠ e → h.get? b = some u → h'.get? b = some u) (heo : ∃ u, h'.get? e = some u)
    (new : ObjOk P w (upd H x o') h' x o') : HOk P w (upd H x o') h' := fun b u q => by
  have nown : ∀ c y, H c = some (.own y) → c ≠ x := fun c y r z => by subst z; rw [r] at mu; exact mu
  have ntup : ∀ c xs, H c = some (.tup xs) → c ≠ x := fun c xs r z => by subst z; rw [r] at mu; exact mu
  by_cases hb : b = x
  · subst hb; rw [upd_same] at q; cases q; exact new
  · rw [upd_ne hb] at q
    by_cases hbe : b = e
    · have q' : H b = some (.own x) := by
        rcases he with z | z
        · exact absurd (hbe.trans z) hb
        · rw [hbe]; exact z
      rw [q] at q'; cases q'
      obtain ⟨v, hv⟩ := heo
      exact ⟨v, by rw [hbe]; exact hv⟩
    · refine (ok b u q).stay (fun c v hc r => k c v ?_ r) (fun c r => by rw [upd_ne (nown c b r)]; exact r) fun c xs r => by rw [upd_ne (ntup c xs r)]; exact r
      rcases hc with rfl | hc
      · exact hbe
      · rintro rfl
        rcases he with z | z
        · exact nown c b hc z
        · rw [hc] at z; cases z; exact hb rfl
end

/-! ### kept unless tracked; of the frames at fs (the callers') the slots may change (an exception that passes writes there); of the records at ex (iterators) nothing is said -/
structure Un (fs ex : List Addr) (H H' : Hp) (h h' : Heap) : Prop where
  keep : ∀ b o, h.get? b = some o → H b = none → b ∉ fs → b ∉ ex → h'.get? b = some o
  slot : ∀ b o, h.get? b = some o → H b = none → b ∈ fs → b ∉ ex → ∃ sl, h'.get? b = some { o with slots := sl }
  free : ∀ b o, h.get? b = some o → H b = none → b ∉ ex → H' b = none
  there : ∀ b o, h.get? b = some o → b ∉ ex → ∃ o', h'.get? b = some o'
  tups : ∀ b xs, H b = some (.tup xs) → H' b = some (.tup xs)
  frzs : ∀ b o u, H b = some (.frz o u) → H' b = some (.frz o u)
  tbls : ∀ b ps, H b = some (.tbl ps) → ∃ more, H' b = some (.tbl (ps ++ more))
section
variable {fs fs' ex ex' : List Addr} {H H1 H2 : Hp} {h h1 h2 h' : Heap} {a x e : Addr} {o : HO}
theorem Un.any (u : Un fs ex H H1 h h1) {b : Addr} {ob : Obj} (q : h.get? b = some ob) (n : H b = none) (hx : b ∉ ex) : ∃ sl, h1.get? b = some { ob with slots := sl } := by
  by_cases hb : b ∈ fs
  · exact u.slot b ob q n hb hx
  · exact ⟨ob.slots, u.keep b ob q n hb hx⟩
theorem Un.kept (k : ∀ b u, h.get? b = some u → h'.get? b = some u) : Un fs ex H H h h' :=
  ⟨fun b ob q _ _ _ => k b ob q, fun b ob q _ _ _ => ⟨ob.slots, k b ob q⟩, fun _ _ _ n _ => n, fun b ob q _ => ⟨ob, k b ob q⟩, fun _ _ q => q, fun _ _ _ q => q, fun _ ps q => ⟨#[], by rw [q]; simp⟩⟩
theorem Un.refl : Un fs ex H H h h := Un.kept fun _ _ q => q
theorem Un.laid (k : ∀ b u, h.get? b = some u → h'.get? b = some u) (hp : h.objs.size ≤ a) (hn : H a = none) : Un fs ex H (upd H a o) h h' where
  keep := fun b u q _ _ _ => k b u q
  slot := fun b u q _ _ _ => ⟨u.slots, k b u q⟩
  free := fun b u q n _ => by rw [upd_ne (Nat.ne_of_lt (Nat.lt_of_lt_of_le (Heap.lt_size q) hp))]; exact n
  there := fun b u q _ => ⟨u, k b u q⟩
  tups := fun b xs q => by rw [upd_ne (ne_of_none q hn)]; exact q
  frzs := fun b u xs q => by rw [upd_ne (ne_of_none q hn)]; exact q
  tbls := fun b ps q => ⟨#[], by rw [upd_ne (ne_of_none q hn), q]; simp⟩
theorem Un.write (mu : Mut (H x)) (he : e = x ∨ H e = some (.own x)) (k : ∀ b u, b ≠ e → h.get? b = some u → h'.get? b = some u) (heo : ∃ u, h'.get? e = some u) : Un fs ex H (upd H x o) h h' := by
  have hx : ∀ b, H b = none → b ≠ x := fun b n z => by subst z; rw [n] at mu; exact mu
  have hb : ∀ b, H b = none → b ≠ e := fun b n z => by
    subst z
    rcases he with r | r
    · exact hx b n r
    · rw [n] at r; cases r
  have hm : ∀ b u, H b = some u → ¬ Mut (some u) → b ≠ x := fun b u q nm z => by subst z; rw [q] at mu; exact nm mu
  refine ⟨fun b u q n _ _ => k b u (hb b n) q, fun b u q n _ _ => ⟨u.slots, k b u (hb b n) q⟩, fun b u q n _ => by rw [upd_ne (hx b n)]; exact n, fun b u q _ => ?_,
    fun b xs q => by rw [upd_ne (hm b _ q fun z => z)]; exact q, fun b u xs q => by rw [upd_ne (hm b _ q fun z => z)]; exact q, fun b ps q => ⟨#[], by rw [upd_ne (hm b _ q fun z => z), q]; simp⟩⟩
  by_cases hbe : b = e
  · subst hbe; exact heo
  · exact ⟨u, k b u hbe q⟩
end

/-! ### the heap without what is tracked -/
def trk (h : Heap) (H : Hp) : List Addr := (List.range h.objs.size).filter fun a => (H a).isSome
def hidT (h : Heap) (H : Hp) : Heap := PySem.W.hideAll h (trk h H)
theorem hidT_size (h : Heap) (H : Hp) : (hidT h H).objs.size = h.objs.size := PySem.W.hideAll_size _ _
theorem hidT_get {h : Heap} {H : Hp} {b : Addr} {o : Obj} (e : h.get? b = some o) (n : H b = none) : (hidT h H).get? b = some o :=
  PySem.W.hideAll_get _ e fun hm => by
    have q : (H b).isSome = true := (List.mem_filter.mp hm).2
    rw [n] at q; simp at q
theorem of_hidT {h : Heap} {H : Hp} {b : Addr} {o : Obj} (e : (hidT h H).get? b = some o) : h.get? b = some o ∧ H b = none := by
  have e' : h.get? b = some o := PySem.W.of_hideAll (trk h H) e
  refine ⟨e', ?_⟩
  cases q : H b with
  | none => rfl
  | some x =>
    have hm : b ∈ trk h H := List.mem_filter.mpr ⟨List.mem_range.mpr (Heap.lt_size e'), by simp [q]⟩
    have z : (hidT h H).get? b = none := PySem.W.hideAll_none (trk h H) hm
    rw [z] at e; cases e

/-! ### OpenK's ledger, filled with every new object but one -/
def allNews (g h : Heap) (L : Addr) : List (Addr × Obj) := (List.range h.objs.size).filterMap fun a => if a = L ∨ (g.get? a).isSome = true then none else (h.get? a).map fun o => (a, o)
def rest (g h : Heap) (L d : Addr) : List (Addr × Obj) := (allNews g h L).filter fun p => decide (p.1 ≠ d)
end L2

namespace L2
open PySem PySem.Spec PyProof.Rows

/-- the module's facts, over the base: the heap at the law's entry without what is tracked there -/
structure Mod (K : PySem.W.Frag) (mg : Str → Option Value) (base : Heap) : Prop where
  kin : K.In base
  glob : base.Ns mainGlobals mg
  blt : ∃ mb, base.Ns builtinsNs mb ∧ ∀ x : Str, x ≠ "__name__" → mb x = bootBuiltins x
  nolimit : base.NoLimit

/-- the context: a def's body (or a comprehension's block) running. base: fixed through the whole law; s₀, H₀: the entry; outer: the frames whose slots others may change (a def's callers); stack: all frames that run;
   ex: iterators that were made ahead of the entry and are walked here (a comprehension's); fn: the names whose cells were made at the entry (a def: all; a comprehension's block: its own); calm: not within an except suite; pn: pins that every state bears; xe: what is wanted of an exception that leaves the code -/
structure Cx where
  prog : Program
  w : World
  K : PySem.W.Frag
  mg : Str → Option Value
  base : Heap
  A : Around
  N : List Str
  s₀ : Shared
  H₀ : Hp
  env : Env
  outer : List Env
  stack : List Env
  ex : List Addr
  fn : Str → Bool
  calm : Bool
  pn : List (Addr × Obj)
  xe : Value → Shared → Prop
/-- the callers' frames -/
def frs (l : List Env) : List Addr := l.filterMap (·.frame)
abbrev Cx.fs (X : Cx) : List Addr := frs X.outer

def Vis (sc : Scope) (x : Str) : Prop := sc.names.lookup x = some .local ∨ sc.names.lookup x = some .cell ∨ sc.names.lookup x = some .free
def Loc (sc : Scope) (x : Str) : Prop := sc.names.lookup x = some .local ∨ sc.names.lookup x = some .cell
def Look (env : Env) (h : Heap) (m : Str → Option Value) (x : Str) (u : Value) : Prop :=
  (env.kindOf x = some .local ∧ m x = some u) ∨ ((env.kindOf x = some .cell ∨ env.kindOf x = some .free) ∧ ∃ c, env.cells.lookup x = some c ∧ h.IsCell c (some u))

structure Cx.Ok (X : Cx) : Prop where
  mod : Mod X.K X.mg X.base
  kind : X.env.scope.kind = .function
  glob : X.env.globals = mainGlobals
  blt : X.env.builtins = builtinsNs
  above : X.s₀.heap.objs.size ≤ X.env.locals
  inj : ∀ x y c, X.env.cells.lookup x = some c → X.env.cells.lookup y = some c → x = y
  has : ∀ x, (X.env.kindOf x = some .cell ∨ X.env.kindOf x = some .free) → ∃ c, X.env.cells.lookup x = some c
  cab : ∀ x c, X.fn x = true → X.env.cells.lookup x = some c → X.s₀.heap.objs.size ≤ c
  hd : X.calm = true → X.A.handled = none
  frames : X.A.frames = some X.stack
  stk : X.stack = X.outer ∨ (X.stack = X.env :: X.outer ∧ X.env.frame = some X.env.locals)
  exf : ∀ b ∈ X.ex, b ≠ X.env.locals ∧ ∀ x c, X.env.cells.lookup x = some c → c ≠ b
  bs : ∀ b o, X.base.get? b = some o → X.s₀.heap.get? b = some o ∧ X.H₀ b = none
  bsz : X.base.objs.size ≤ X.s₀.heap.objs.size
  noex : ∀ b o, X.base.get? b = some o → b ∉ X.ex
  exfs : ∀ b ∈ X.ex, b ∉ X.fs
  funs : X.s₀.heap.FunFrames X.base X.outer
  frf : ∀ b ∈ X.fs, X.H₀ b = none

structure Inv (X : Cx) (pins : List (Addr × Obj)) (σ : List (Option V)) (H : Hp) (s : Shared) : Prop where
  ok : X.Ok
  os : s.os = X.s₀.os
  bare : AllBare s.gens
  base : Un X.fs X.ex X.H₀ H X.s₀.heap s.heap
  loc : ∃ m, s.heap.Ns X.env.locals m ∧ ∀ (i : Nat) (x : Str) (v : V), X.N[i]? = some x → σ[i]? = some (some v) → Vis X.env.scope x → ∃ u, RelV v u ∧ Look X.env s.heap m x u
  cell : ∀ x c, X.env.cells.lookup x = some c → ∃ v, s.heap.IsCell c v
  free : H X.env.locals = none
  freeC : ∀ x c, X.env.cells.lookup x = some c → H c = none
  pin : ∀ p ∈ X.pn ++ pins, s.heap.get? p.1 = some p.2 ∧ H p.1 = none ∧ p.1 ≠ X.env.locals ∧ p.1 ∉ X.fs ∧ ∀ v, p.2.data ≠ .cell v
  hok : HOk X.prog X.w H s.heap
  len : σ.length = X.N.length

section
variable {X : Cx} {pins : List (Addr × Obj)} {σ : List (Option V)} {H H' : Hp} {s : Shared} {h' : Heap}

theorem Cx.Ok.nofr (ok : X.Ok) {b : Addr} {o : Obj} (e : X.base.get? b = some o) : b ∉ X.fs := fun hb => by
  have := (ok.funs.mem hb).1
  rw [e] at this; cases this
theorem Inv.bs (I : Inv X pins σ H s) : ∀ b o, X.base.get? b = some o → s.heap.get? b = some o ∧ H b = none := fun b o e =>
  ⟨I.base.keep b o (I.ok.bs b o e).1 (I.ok.bs b o e).2 (I.ok.nofr e) (I.ok.noex b o e), I.base.free b o (I.ok.bs b o e).1 (I.ok.bs b o e).2 (I.ok.noex b o e)⟩
theorem Inv.bk (I : Inv X pins σ H s) : ∀ b o, X.base.get? b = some o → s.heap.get? b = some o := fun b o e => (I.bs b o e).1
theorem Inv.mod (I : Inv X pins σ H s) : Mod X.K X.mg X.base := I.ok.mod
theorem Inv.kIn (I : Inv X pins σ H s) : X.K.In s.heap := I.ok.mod.kin.keeps I.bk
/-- the frame over the base: for OpenK's rules (K.In X.base is I.mod.kin) -/
theorem Inv.fr (I : Inv X pins σ H s) : ∃ m, Fr X.base X.env.locals s.heap m :=
  let ⟨m, hn, _⟩ := I.loc
  ⟨m, hn, I.bk, Nat.le_trans I.ok.bsz I.ok.above⟩
theorem Inv.lt (I : Inv X pins σ H s) : X.env.locals < s.heap.objs.size := let ⟨_, hn, _⟩ := I.loc; hn.lt
theorem Inv.sz (I : Inv X pins σ H s) : X.s₀.heap.objs.size ≤ s.heap.objs.size := Nat.le_trans I.ok.above (Nat.le_of_lt I.lt)
theorem Inv.nofs (I : Inv X pins σ H s) {a : Addr} (h : s.heap.objs.size ≤ a) : a ∉ X.fs := fun hb => by
  obtain ⟨_, o, ho, _⟩ := I.ok.funs.mem hb
  exact absurd (Nat.lt_of_lt_of_le (Heap.lt_size ho) (Nat.le_trans I.sz h)) (Nat.lt_irrefl _)
theorem Inv.cne (I : Inv X pins σ H s) : ∀ x c, X.env.cells.lookup x = some c → c ≠ X.env.locals := fun x c e z => by
  obtain ⟨v, o, ho, hd⟩ := I.cell x c e
  obtain ⟨m, ⟨o', es, ep, ho', hd', _⟩, _⟩ := I.loc
  rw [z, ho'] at ho; cases ho; rw [hd'] at hd; cases hd
theorem Inv.funs (I : Inv X pins σ H s) : s.heap.FunFrames X.base X.outer := by
  have all : ∀ (l : List Env), (∀ b ∈ frs l, b ∈ X.fs) → X.s₀.heap.FunFrames X.base l → s.heap.FunFrames X.base l := by
    intro l
    induction l with
    | nil => intro _ _; trivial
    | cons env r ih =>
      intro hs hl
      obtain ⟨hk, ⟨L, o, hf, hn, ho, hd⟩, hr⟩ := hl
      have hL : L ∈ X.fs := hs L (by unfold frs; rw [List.filterMap_cons, hf]; exact List.mem_cons_self)
      obtain ⟨sl, e⟩ := I.base.slot L o ho (I.ok.frf L hL) hL fun z => I.ok.exfs L z hL
      exact ⟨hk, ⟨L, _, hf, hn, e, hd⟩, ih (fun b hb => hs b (by unfold frs; rw [List.filterMap_cons, hf]; exact List.mem_cons_of_mem _ hb)) hr⟩
  exact all X.outer (fun _ hb => hb) I.ok.funs

/-- the frames that run, for a call -/
theorem Inv.stack (I : Inv X pins σ H s) : s.heap.FunFrames X.base X.stack := by
  rcases I.ok.stk with e | ⟨e, hf⟩
  · rw [e]; exact I.funs
  · rw [e]
    obtain ⟨m, hn, _⟩ := I.loc
    refine .cons (by rw [I.ok.kind]; decide) hf hn ?_ I.funs
    exact Heap.get?_none_of_le (Nat.le_trans I.ok.bsz I.ok.above)
theorem Inv.stkSub (I : Inv X pins σ H s) : ∀ b ∈ frs X.stack, b ∈ X.env.locals :: X.fs := fun b hb => by
  rcases I.ok.stk with e | ⟨e, hf⟩
  · rw [e] at hb; exact List.mem_cons_of_mem _ hb
  · rw [e] at hb
    unfold frs at hb
    rw [List.filterMap_cons, hf] at hb
    exact hb
theorem Inv.stkFree (I : Inv X pins σ H s) : ∀ b ∈ frs X.stack, H b = none := fun b hb => by
  rcases List.mem_cons.mp (I.stkSub b hb) with e | hb
  · rw [e]; exact I.free
  · obtain ⟨_, o, ho, _⟩ := I.ok.funs.mem hb
    exact I.base.free b o ho (I.ok.frf b hb) fun z => I.ok.exfs b z hb

/-- THE STEP: the untracked objects but the frame and the records at ch are kept (the callers' frames up to slots), the frame's map is kept, the new abstract heap is held -/
theorem Inv.step {g' : Array GenState} {t' : Nat} {d' : Drawn} {ch : List Addr} (I : Inv X pins σ H s)
    (hch : ∀ b ∈ ch, (b ∈ X.ex ∨ X.s₀.heap.objs.size ≤ b) ∧ b ≠ X.env.locals ∧ (∀ x c, X.env.cells.lookup x = some c → c ≠ b) ∧ ∀ p ∈ X.pn ++ pins, p.1 ≠ b)
    (keep : ∀ b o, b ≠ X.env.locals → b ∉ X.fs → b ∉ ch → s.heap.get? b = some o → H b = none → h'.get? b = some o)
    (slot : ∀ b o, b ≠ X.env.locals → b ∈ X.fs → b ∉ ch → s.heap.get? b = some o → H b = none → ∃ sl, h'.get? b = some { o with slots := sl }) (free : ∀ b o, b ∉ ch → s.heap.get? b = some o → H b = none → H' b = none)
    (there : ∀ b o, b ∉ ch → s.heap.get? b = some o → ∃ o', h'.get? b = some o')
    (tups : ∀ b xs, H b = some (.tup xs) → H' b = some (.tup xs)) (frzs : ∀ b o u, H b = some (.frz o u) → H' b = some (.frz o u)) (tbls : ∀ b ps, H b = some (.tbl ps) → ∃ more, H' b = some (.tbl (ps ++ more)))
    (ns : ∀ m, s.heap.Ns X.env.locals m → h'.Ns X.env.locals m) (hok : HOk X.prog X.w H' h') (hg : AllBare g') :
    Inv X pins σ H' { s with heap := h', gens := g', drawn := d', toks := t' } := by
  have neL : ∀ b o, X.s₀.heap.get? b = some o → b ≠ X.env.locals := fun b o e => Nat.ne_of_lt (Nat.lt_of_lt_of_le (Heap.lt_size e) I.ok.above)
  have neC : ∀ b o, X.s₀.heap.get? b = some o → b ∉ X.ex → b ∉ ch := fun b o e hx hb => by
    rcases (hch b hb).1 with z | z
    · exact hx z
    · exact absurd (Nat.lt_of_lt_of_le (Heap.lt_size e) z) (Nat.lt_irrefl _)
  have cellK : ∀ x c, X.env.cells.lookup x = some c → ∀ v, s.heap.IsCell c v → h'.IsCell c v := fun x c e v ⟨o, ho, hd⟩ => by
    have nch : c ∉ ch := fun z => (hch c z).2.2.1 x c e rfl
    by_cases hc : c ∈ X.fs
    · obtain ⟨sl, q⟩ := slot c o (I.cne x c e) hc nch ho (I.freeC x c e)
      exact ⟨_, q, hd⟩
    · exact ⟨o, keep c o (I.cne x c e) hc nch ho (I.freeC x c e), hd⟩
  refine ⟨I.ok, I.os, hg, ⟨fun b o e n hb hx => ?_, fun b o e n hb hx => ?_, fun b o e n hx => ?_, fun b o e hx => ?_, fun b xs e => tups b xs (I.base.tups b xs e), fun b o xs e => frzs b o xs (I.base.frzs b o xs e), fun b ps e => ?_⟩, ?_, fun x c e => ?_, ?_, fun x c e => ?_, fun p hp => ?_, hok, I.len⟩
  · exact keep b o (neL b o e) hb (neC b o e hx) (I.base.keep b o e n hb hx) (I.base.free b o e n hx)
  · obtain ⟨sl, e1⟩ := I.base.slot b o e n hb hx
    obtain ⟨sl', e2⟩ := slot b _ (neL b o e) hb (neC b o e hx) e1 (I.base.free b o e n hx)
    exact ⟨sl', e2⟩
  · obtain ⟨o', e1⟩ := I.base.there b o e hx
    exact free b o' (neC b o e hx) e1 (I.base.free b o e n hx)
  · obtain ⟨o', e1⟩ := I.base.there b o e hx
    exact there b o' (neC b o e hx) e1
  · obtain ⟨m1, e1⟩ := I.base.tbls b ps e
    obtain ⟨m2, e2⟩ := tbls b _ e1
    exact ⟨m1 ++ m2, by rw [e2, Array.append_assoc]⟩
  · obtain ⟨m, hn, hl⟩ := I.loc
    refine ⟨m, ns m hn, fun i x v e1 e2 e3 => ?_⟩
    obtain ⟨u, r, l⟩ := hl i x v e1 e2 e3
    refine ⟨u, r, ?_⟩
    rcases l with l | ⟨k, c, e, z⟩
    · exact .inl l
    · exact .inr ⟨k, c, e, cellK x c e _ z⟩
  · obtain ⟨v, z⟩ := I.cell x c e
    exact ⟨v, cellK x c e v z⟩
  · obtain ⟨m, ⟨o, _, _, ho, _⟩, _⟩ := I.loc
    exact free _ o (fun z => (hch _ z).2.1 rfl) ho I.free
  · obtain ⟨v, o, ho, hd⟩ := I.cell x c e
    exact free c o (fun z => (hch c z).2.2.1 x c e rfl) ho (I.freeC x c e)
  · obtain ⟨e, n, ne, nf, d⟩ := I.pin p hp
    have nch : p.1 ∉ ch := fun z => (hch p.1 z).2.2.2 p hp rfl
    exact ⟨keep p.1 p.2 ne nf nch e n, free p.1 p.2 nch e n, ne, nf, d⟩
/-- .. where the frame's own object is kept too -/
theorem Inv.un {t' : Nat} (I : Inv X pins σ H s) (u : Un X.fs [] H H' s.heap h') (hok : HOk X.prog X.w H' h') : Inv X pins σ H' { s with heap := h', toks := t' } := by
  obtain ⟨m, ⟨o, es, ep, ho, r⟩, _⟩ := id I.loc
  obtain ⟨sl, hL⟩ := u.any ho I.free (by simp)
  exact I.step (g' := s.gens) (d' := s.drawn) (ch := []) (fun _ z => nomatch z) (fun b o _ hb _ e n => u.keep b o e n hb (by simp)) (fun b o _ hb _ e n => u.slot b o e n hb (by simp)) (fun b o _ e n => u.free b o e n (by simp)) (fun b o _ e => u.there b o e (by simp)) u.tups u.frzs u.tbls (fun m' hm => by
    obtain ⟨o', es', ep', ho', r'⟩ := hm
    rw [ho] at ho'; cases ho'
    exact ⟨_, es', ep', hL, r'⟩) hok I.bare
/-- behind a call (or a comprehension's block): the slots of this frame may have changed too, the records at ch may have turned -/
theorem Inv.call {g' : Array GenState} {t' : Nat} {d' : Drawn} {ch : List Addr} (I : Inv X pins σ H s) (u : Un (frs X.stack) ch H H' s.heap h') (hok : HOk X.prog X.w H' h') (hg : AllBare g')
    (hch : ∀ b ∈ ch, (b ∈ X.ex ∨ X.s₀.heap.objs.size ≤ b) ∧ b ≠ X.env.locals ∧ (∀ x c, X.env.cells.lookup x = some c → c ≠ b) ∧ ∀ p ∈ X.pn ++ pins, p.1 ≠ b) :
    Inv X pins σ H' { s with heap := h', gens := g', drawn := d', toks := t' } := by
  obtain ⟨m, ⟨o, es, ep, ho, r⟩, _⟩ := id I.loc
  obtain ⟨sl, hL⟩ := u.any ho I.free fun z => (hch _ z).2.1 rfl
  exact I.step (ch := ch) hch (fun b o hL hb hc e n => u.keep b o e n (fun z => (List.mem_cons.mp (I.stkSub b z)).elim hL hb) hc) (fun b o _ _ hc e n => u.any e n hc) (fun b o hc e n => u.free b o e n hc) (fun b o hc e => u.there b o e hc) u.tups u.frzs u.tbls (fun m' hm => by
    obtain ⟨o', es', ep', ho', r'⟩ := hm
    rw [ho] at ho'; cases ho'
    exact ⟨_, es', ep', hL, r'⟩) hok hg
/-- an untracked record of ours (an iterator) has turned -/
theorem Inv.turned {t' : Nat} {it : Addr} (I : Inv X pins σ H s) (k : ∀ b o, b ≠ it → s.heap.get? b = some o → h'.get? b = some o) (hn : H it = none) (hL : it ≠ X.env.locals)
    (h1 : it ∈ X.ex ∨ X.s₀.heap.objs.size ≤ it) (h2 : ∀ x c, X.env.cells.lookup x = some c → c ≠ it) (h3 : ∀ p ∈ X.pn ++ pins, p.1 ≠ it) : Inv X pins σ H { s with heap := h', toks := t' } := by
  have nit : ∀ b u, H b = some u → b ≠ it := fun b u e z => by rw [z, hn] at e; cases e
  refine I.step (g' := s.gens) (d' := s.drawn) (ch := [it]) (fun b hb => ?_) (fun b o _ _ hc e _ => k b o (fun z => hc (by simp [z])) e) (fun b o _ _ hc e _ => ⟨o.slots, k b o (fun z => hc (by simp [z])) e⟩) (fun _ _ _ _ n => n)
    (fun b o hc e => ⟨o, k b o (fun z => hc (by simp [z])) e⟩) (fun _ _ e => e) (fun _ _ _ e => e) (fun b ps e => ⟨#[], by rw [e]; simp⟩) (fun m hm => ?_) (fun b u e => ?_) I.bare
  · have e : b = it := by simpa using hb
    subst e
    exact ⟨h1, hL, h2, h3⟩
  · obtain ⟨o, es, ep, ho, r⟩ := hm
    exact ⟨o, es, ep, k _ o (Ne.symm hL) ho, r⟩
  · refine (I.hok b u e).stay (fun c v hc q => k c v ?_ q) (fun _ q => q) fun _ _ q => q
    rcases hc with z | z
    · rw [z]; exact nit b u e
    · exact nit c _ z
theorem Inv.tok (I : Inv X pins σ H s) (t : Nat) : Inv X pins σ H { s with toks := t } := I.un (h' := s.heap) (t' := t) Un.refl I.hok
/-- all objects kept -/
theorem Inv.kept {t' : Nat} (I : Inv X pins σ H s) (k : ∀ b u, s.heap.get? b = some u → h'.get? b = some u) : Inv X pins σ H { s with heap := h', toks := t' } := I.un (Un.kept k) (I.hok.kept k)
/-- a new object laid and tracked -/
theorem Inv.laid {a : Addr} {o : HO} {t' : Nat} (I : Inv X pins σ H s) (k : ∀ b u, s.heap.get? b = some u → h'.get? b = some u) (hp : s.heap.objs.size ≤ a) (new : ObjOk X.prog X.w (upd H a o) h' a o) :
    Inv X pins σ (upd H a o) { s with heap := h', toks := t' } := I.un (Un.laid k hp (I.hok.fresh hp)) (I.hok.laid k hp new)
/-- an object written -/
theorem Inv.write {x e : Addr} {o : HO} {t' : Nat} (I : Inv X pins σ H s) (mu : Mut (H x)) (he : e = x ∨ H e = some (.own x)) (k : ∀ b u, b ≠ e → s.heap.get? b = some u → h'.get? b = some u) (heo : ∃ u, h'.get? e = some u)
    (new : ObjOk X.prog X.w (upd H x o) h' x o) : Inv X pins σ (upd H x o) { s with heap := h', toks := t' } := I.un (Un.write mu he k heo) (I.hok.write mu he k heo new)
/-- forgetting slots, pins -/
theorem Inv.weak {σ' : List (Option V)} (I : Inv X pins σ H s) (hl : σ'.length = σ.length) (w : ∀ (i : Nat) v, σ'[i]? = some (some v) → σ[i]? = some (some v)) : Inv X pins σ' H s :=
  ⟨I.ok, I.os, I.bare, I.base, let ⟨m, hn, hl'⟩ := I.loc; ⟨m, hn, fun i x v e1 e2 e3 => hl' i x v e1 (w i v e2) e3⟩, I.cell, I.free, I.freeC, I.pin, I.hok, hl.trans I.len⟩
theorem Inv.pins_of {pins' : List (Addr × Obj)} (I : Inv X pins σ H s) (h : ∀ p ∈ pins', s.heap.get? p.1 = some p.2 ∧ H p.1 = none ∧ p.1 ≠ X.env.locals ∧ p.1 ∉ X.fs ∧ ∀ v, p.2.data ≠ .cell v) : Inv X pins' σ H s :=
  ⟨I.ok, I.os, I.bare, I.base, I.loc, I.cell, I.free, I.freeC, fun p hp => (List.mem_append.mp hp).elim (fun z => I.pin p (List.mem_append_left _ z)) (h p), I.hok, I.len⟩

theorem nodup_ix {N : List Str} (hN : N.Nodup) {i j : Nat} {x : Str} (a : N[i]? = some x) (b : N[j]? = some x) : i = j := by
  obtain ⟨h1, e1⟩ := List.getElem?_eq_some_iff.mp a
  obtain ⟨h2, e2⟩ := List.getElem?_eq_some_iff.mp b
  exact (List.getElem_inj hN).mp (e1.trans e2.symm)

/-- a name is stored; what changed -/
theorem store_ok2 {M : Model} {A : Around} {E : Value → Shared → Prop} {i : Nat} {x : Str} {v : V} {u : Value} {Q : Unit → Shared → Prop} (I : Inv X pins σ H s) (hN : X.N.Nodup) (hi : X.N[i]? = some x) (hx : Loc X.env.scope x) (r : RelV v u)
    (h : ∀ s', Inv X pins (σ.set i (some v)) H s' → (∃ a, Heap.SameBut a s.heap s'.heap ∧ (a = X.env.locals ∨ X.env.cells.lookup x = some a)) → Q () s') (hf : X.fn x = true ∨ X.env.scope.names.lookup x = some .local := by first | exact .inl rfl | exact .inr rfl | assumption) : wpAny M A (storeName X.env x u) Q E s := by
  obtain ⟨m, hn, hl⟩ := id I.loc
  have hcls : (X.env.scope.kind == .class || (X.env.scope.kind == .module && X.env.locals != X.env.globals)) = false := by rw [I.ok.kind]; rfl
  have hiσ : i < σ.length := by rw [I.len]; exact (List.getElem?_eq_some_iff.mp hi).1
  have cne := I.cne
  have tracked : ∀ {a : Addr} {h' : Heap}, (∃ o, s.heap.get? a = some o ∧ H a = none) → Heap.SameBut a s.heap h' → HOk X.prog X.w H h' := fun {a h'} ha hs b ob e => by
    obtain ⟨_, _, hfree⟩ := ha
    refine (I.hok b ob e).stay (fun c w' hc q => (hs.2 c ?_).trans q) (fun _ q => q) fun _ _ q => q
    rintro rfl
    rcases hc with rfl | hc
    · rw [hfree] at e; cases e
    · rw [hfree] at hc; cases hc
  rcases hx with hk | hk
  · refine wpAny_storeName_local hk hn (fun h' hn' hs => ?_) hcls
    obtain ⟨oL, _, _, hoL, _⟩ := id hn
    refine h _ ⟨I.ok, I.os, I.bare, ⟨fun b o e n hb hx => ?_, fun b o e n hb hx => ?_, I.base.free, fun b o e hx => ?_, I.base.tups, I.base.frzs, I.base.tbls⟩, ⟨_, hn', fun j y v' e1 e2 e3 => ?_⟩, fun y c e => ?_, I.free, I.freeC, fun p hp => ?_, tracked ⟨oL, hoL, I.free⟩ hs, by simpa using I.len⟩ ⟨_, hs, .inl rfl⟩
    · exact (hs.2 b (Nat.ne_of_lt (Nat.lt_of_lt_of_le (Heap.lt_size e) I.ok.above))).trans (I.base.keep b o e n hb hx)
    · obtain ⟨sl, e1⟩ := I.base.slot b o e n hb hx
      exact ⟨sl, (hs.2 b (Nat.ne_of_lt (Nat.lt_of_lt_of_le (Heap.lt_size e) I.ok.above))).trans e1⟩
    · obtain ⟨o', e1⟩ := I.base.there b o e hx
      exact ⟨o', (hs.2 b (Nat.ne_of_lt (Nat.lt_of_lt_of_le (Heap.lt_size e) I.ok.above))).trans e1⟩
    · by_cases hj : j = i
      · subst hj
        rw [hi] at e1; cases e1
        rw [List.getElem?_set_self hiσ] at e2
        cases e2
        exact ⟨u, r, .inl ⟨hk, by simp⟩⟩
      · rw [List.getElem?_set_ne (Ne.symm hj)] at e2
        obtain ⟨u', r', q⟩ := hl j y v' e1 e2 e3
        refine ⟨u', r', ?_⟩
        rcases q with ⟨k, e⟩ | ⟨k, c, e, z⟩
        · refine .inl ⟨k, ?_⟩
          have : y ≠ x := fun e => hj (nodup_ix hN e1 (e ▸ hi))
          simp [this, e]
        · exact .inr ⟨k, c, e, z.sameBut hs (cne y c e)⟩
    · obtain ⟨w', z⟩ := I.cell y c e
      exact ⟨w', z.sameBut hs (cne y c e)⟩
    · obtain ⟨e, n, ne, nf, d⟩ := I.pin p hp
      exact ⟨(hs.2 p.1 ne).trans e, n, ne, nf, d⟩
  · have hfn : X.fn x = true := by
      rcases hf with z | z
      · exact z
      · rw [z] at hk; cases hk
    obtain ⟨c, hc⟩ := I.ok.has x (.inl hk)
    obtain ⟨w', z⟩ := I.cell x c hc
    refine wpAny_storeName_cell I.ok.kind hk hc z (fun h' hc' hs => ?_)
    obtain ⟨oc, hoc, hocd⟩ := id z
    refine h { s with heap := h' } ⟨I.ok, I.os, I.bare, ⟨fun b o e n hb hx => ?_, fun b o e n hb hx => ?_, I.base.free, fun b o e hx => ?_, I.base.tups, I.base.frzs, I.base.tbls⟩, ⟨m, hn.sameBut hs (Ne.symm (cne x c hc)), fun j y v' e1 e2 e3 => ?_⟩, fun y c' e => ?_, I.free, I.freeC, fun p hp => ?_, tracked ⟨oc, hoc, I.freeC x c hc⟩ hs, by simpa using I.len⟩ ⟨c, hs, .inr hc⟩
    · exact (hs.2 b (Nat.ne_of_lt (Nat.lt_of_lt_of_le (Heap.lt_size e) (I.ok.cab x c hfn hc)))).trans (I.base.keep b o e n hb hx)
    · obtain ⟨sl, e1⟩ := I.base.slot b o e n hb hx
      exact ⟨sl, (hs.2 b (Nat.ne_of_lt (Nat.lt_of_lt_of_le (Heap.lt_size e) (I.ok.cab x c hfn hc)))).trans e1⟩
    · obtain ⟨o', e1⟩ := I.base.there b o e hx
      exact ⟨o', (hs.2 b (Nat.ne_of_lt (Nat.lt_of_lt_of_le (Heap.lt_size e) (I.ok.cab x c hfn hc)))).trans e1⟩
    · by_cases hj : j = i
      · subst hj
        rw [hi] at e1; cases e1
        rw [List.getElem?_set_self hiσ] at e2
        cases e2
        exact ⟨u, r, .inr ⟨.inl hk, c, hc, hc'⟩⟩
      · rw [List.getElem?_set_ne (Ne.symm hj)] at e2
        obtain ⟨u', r', q⟩ := hl j y v' e1 e2 e3
        refine ⟨u', r', ?_⟩
        rcases q with q | ⟨k, c', e, z'⟩
        · exact .inl q
        · refine .inr ⟨k, c', e, z'.sameBut hs ?_⟩
          rintro rfl
          exact hj (nodup_ix hN e1 (I.ok.inj _ _ _ e hc ▸ hi))
    · by_cases hcc : c' = c
      · subst hcc; exact ⟨_, hc'⟩
      · obtain ⟨w2, z2⟩ := I.cell y c' e
        exact ⟨w2, z2.sameBut hs hcc⟩
    · obtain ⟨e, n, ne, nf, d⟩ := I.pin p hp
      refine ⟨(hs.2 p.1 ?_).trans e, n, ne, nf, d⟩
      intro q
      rw [q, hoc] at e
      have q' : oc = p.2 := Option.some.inj e
      exact d w' (by rw [← q']; exact hocd)
theorem store_ok {M : Model} {A : Around} {E : Value → Shared → Prop} {i : Nat} {x : Str} {v : V} {u : Value} {Q : Unit → Shared → Prop} (I : Inv X pins σ H s) (hN : X.N.Nodup) (hi : X.N[i]? = some x) (hx : Loc X.env.scope x) (r : RelV v u)
    (h : ∀ s', Inv X pins (σ.set i (some v)) H s' → Q () s') (hf : X.fn x = true ∨ X.env.scope.names.lookup x = some .local := by first | exact .inl rfl | exact .inr rfl | assumption) : wpAny M A (storeName X.env x u) Q E s :=
  store_ok2 I hN hi hx r (fun s' I' _ => h s' I') hf
/-- behind a call or a block, the state as it is -/
theorem Inv.call' {s' : Shared} {ch : List Addr} (I : Inv X pins σ H s) (ho : s'.os = s.os) (u : Un (frs X.stack) ch H H' s.heap s'.heap) (hok : HOk X.prog X.w H' s'.heap) (hg : AllBare s'.gens)
    (hch : ∀ b ∈ ch, (b ∈ X.ex ∨ X.s₀.heap.objs.size ≤ b) ∧ b ≠ X.env.locals ∧ (∀ x c, X.env.cells.lookup x = some c → c ≠ b) ∧ ∀ p ∈ X.pn ++ pins, p.1 ≠ b) : Inv X pins σ H' s' := by
  obtain ⟨h', g', d', t', o'⟩ := s'
  have e : o' = s.os := ho
  subst e
  exact I.call (g' := g') (t' := t') (d' := d') u hok hg hch
end

/-! ### the judgements -/
/-- an exception: its class, its own dict's address (where it has one), the abstract heap behind it -/
abbrev XK := Value → Option Addr → Hp → Prop
abbrev St := List (Option V)
abbrev VK := V → Hp → Prop
/-- an expression's reading; a test's; an argument list's -/
abbrev TE := St → Hp → VK → Prop
abbrev TT := St → Hp → (Bool → Hp → Prop) → Prop
abbrev TA := St → Hp → (List V → Hp → Prop) → Prop
/-- what is wanted behind a statement -/
structure Ends where
  nx : St → Hp → Prop
  rt : VK
  bk : St → Hp → Prop := fun _ _ => False
  ct : St → Hp → Prop := fun _ _ => False
abbrev TS := Ends → St → Hp → Prop

def EP (X : Cx) (pins : List (Addr × Obj)) (σ : St) (Q : VK) (u : Value) (s' : Shared) : Prop := ∃ v H', Inv X pins σ H' s' ∧ RelV v u ∧ Q v H'
def TP (X : Cx) (pins : List (Addr × Obj)) (σ : St) (Q : Bool → Hp → Prop) (b : Bool) (s' : Shared) : Prop := ∃ H', Inv X pins σ H' s' ∧ Q b H'
def AP (X : Cx) (pins : List (Addr × Obj)) (σ : St) (Q : List V → Hp → Prop) (us : List Value) (s' : Shared) : Prop := ∃ vs H', Inv X pins σ H' s' ∧ Vals vs us ∧ Q vs H'
def SP (X : Cx) (pins : List (Addr × Obj)) (D : Ends) (f : Flow) (s' : Shared) : Prop :=
  match f with
  | .next => ∃ σ' H', Inv X pins σ' H' s' ∧ D.nx σ' H'
  | .brk => ∃ σ' H', Inv X pins σ' H' s' ∧ D.bk σ' H'
  | .cont => ∃ σ' H', Inv X pins σ' H' s' ∧ D.ct σ' H'
  | .ret u => ∃ v σ' H', Inv X pins σ' H' s' ∧ RelV v u ∧ D.rt v H'

def PE (X : Cx) (e : Expr) (t : TE) : Prop :=
  ∀ (pins : List (Addr × Obj)) (s : Shared) (σ : St) (H : Hp) (Q : VK), Inv X pins σ H s → t σ H Q → wpAny (model X.prog X.w) X.A (eval e X.env) (EP X pins σ Q) X.xe s
def PT (X : Cx) (e : Expr) (t : TT) : Prop :=
  ∀ (pins : List (Addr × Obj)) (s : Shared) (σ : St) (H : Hp) (Q : Bool → Hp → Prop), Inv X pins σ H s → t σ H Q → wpAny (model X.prog X.w) X.A (isTrue e X.env (eval e X.env)) (TP X pins σ Q) X.xe s
/-- a test whatever its 'whole' is (and, or) -/
def PW (X : Cx) (e : Expr) (t : TT) : Prop :=
  ∀ (whole : Sem Value) (pins : List (Addr × Obj)) (s : Shared) (σ : St) (H : Hp) (Q : Bool → Hp → Prop), Inv X pins σ H s → t σ H Q → wpAny (model X.prog X.w) X.A (isTrue e X.env whole) (TP X pins σ Q) X.xe s
theorem PW.pt {X : Cx} {e : Expr} {t : TT} (h : PW X e t) : PT X e t := h _
/-- an argument list (no star), from the left -/
def PA (X : Cx) (es : List Expr) (t : TA) : Prop :=
  ∀ (pos : Pos) (pins : List (Addr × Obj)) (s : Shared) (σ : St) (H : Hp) (Q : List V → Hp → Prop), Inv X pins σ H s → t σ H Q → wpAny (model X.prog X.w) X.A (spliced (backTo pos (starEach es X.env))) (AP X pins σ Q) X.xe s
def PS (X : Cx) (st : Stmt) (t : TS) : Prop :=
  ∀ (pins : List (Addr × Obj)) (s : Shared) (σ : St) (H : Hp) (D : Ends), Inv X pins σ H s → t D σ H → wpAny (model X.prog X.w) X.A (exec st X.env) (SP X pins D) X.xe s
def PSs (X : Cx) (st : List Stmt) (t : TS) : Prop :=
  ∀ (pins : List (Addr × Obj)) (s : Shared) (σ : St) (H : Hp) (D : Ends), Inv X pins σ H s → t D σ H → wpAny (model X.prog X.w) X.A (execs st X.env) (SP X pins D) X.xe s
/-- weaken the end -/
theorem thn {α : Type} {t : Sem α} {Q Q' : α → Shared → Prop} {M : Model} {A : Around} {E : Value → Shared → Prop} {s : Shared} (h : wpAny M A t Q E s) (hQ : ∀ a s, Q a s → Q' a s) : wpAny M A t Q' E s := wpAny_mono h hQ fun _ _ x => x
end L2

namespace L2
open PySem PySem.Spec PyProof.Rows
section
variable {X : Cx}

/-- two expressions in a row -/
theorem bin {a b : Expr} {ta tb : TE} (ha : PE X a ta) (hb : PE X b tb) {pins : List (Addr × Obj)} {s : Shared} {σ : St} {H : Hp} {R : V → V → Hp → Prop} (I : Inv X pins σ H s) (h : ta σ H fun x H1 => tb σ H1 fun y H2 => R x y H2)
    {α : Type} {Q : α → Shared → Prop} {f : Value → Value → Sem α}
    (hf : ∀ v u s2 x y H2, Inv X pins σ H2 s2 → RelV x v → RelV y u → R x y H2 → wpAny (model X.prog X.w) X.A (f v u) Q X.xe s2) :
    wpAny (model X.prog X.w) X.A (eval a X.env) (fun v s₁ => wpAny (model X.prog X.w) X.A (eval b X.env) (fun u s₂ => wpAny (model X.prog X.w) X.A (f v u) Q X.xe s₂) X.xe s₁) X.xe s := by
  refine thn (ha pins s σ H _ I h) fun v s1 ⟨x, H1, I1, r1, q1⟩ => ?_
  refine thn (hb pins s1 σ H1 _ I1 q1) fun u s2 ⟨y, H2, I2, r2, q2⟩ => ?_
  exact hf v u s2 x y H2 I2 r1 r2 q2

/-! ### names and constants -/
def tVar (i : Nat) : TE := fun σ H Q => ∃ v, σ[i]? = some (some v) ∧ Q v H
def tC (v : V) : TE := fun _ H Q => Q v H
theorem pe_var {i : Nat} {x : Str} {pos : Pos} (hN : X.N[i]? = some x) (hv : Vis X.env.scope x) (hd : (x == ("__debug__" : Str)) = false := by decide) (hcd : (x == ("__classdict__" : Str)) = false := by decide) : PE X (.Name x pos) (tVar i) := by
  intro pins s σ H Q I h
  obtain ⟨v, e, h⟩ := h
  obtain ⟨m, hn, hl⟩ := I.loc
  obtain ⟨u, r, l⟩ := hl i x v hN e hv
  have fin : EP X pins σ Q u s := ⟨v, H, I, r, h⟩
  rcases l with ⟨hk, hm⟩ | ⟨hk, c, hc, hcell⟩
  · exact wpAny_Name (wpAny_loadName_local I.ok.kind hk hn hm fin) hd
  · rcases hk with hk | hk
    · exact wpAny_Name (wpAny_loadName_cell I.ok.kind hk hc hcell fin) hd
    · exact wpAny_Name (wpAny_loadName_free I.ok.kind hk hc hcell fin hcd) hd
theorem pe_int {i j pos} : PE X (.Constant (.int i) j pos) (tC (.int i)) := fun _ _ _ H _ I h => wpAny_Constant_int ⟨.int i, H, I.tok _, ⟨_, rfl⟩, h⟩
theorem pe_bl {b j pos} : PE X (.Constant (.bool b) j pos) (tC (.bl b)) := fun _ _ _ H _ I h => Constant_bool ⟨.bl b, H, I, rfl, h⟩
theorem pe_non {j pos} : PE X (.Constant .none j pos) (tC .non) := fun _ _ _ H _ I h => Constant_none ⟨.non, H, I, rfl, h⟩
theorem pe_str {x j pos} : PE X (.Constant (.str x) j pos) (tC (.str x)) := fun _ _ _ H _ I h => Calls.Constant_str ⟨.str x, H, I.tok _, ⟨_, rfl⟩, h⟩

/-- a global name of the def -/
def Gl (X : Cx) (x : Str) : Prop := X.env.kindOf x = some .globalImplicit
theorem ld_glob {E : Value → Shared → Prop} {pins : List (Addr × Obj)} {s : Shared} {σ : St} {H : Hp} {x : Str} {u : Value} {pos : Pos} {Q : Value → Shared → Prop} (I : Inv X pins σ H s) (hg : Gl X x) (hm : X.mg x = some u) (h : Q u s)
    (hd : (x == ("__debug__" : Str)) = false := by decide) : wpAny (model X.prog X.w) X.A (eval (.Name x pos) X.env) Q E s :=
  Calls.Name_function_global I.ok.kind hg (Calls.loadGlobal_global (by rw [I.ok.glob]; exact I.mod.glob.keeps I.bk) hm h) hd
theorem ld_blt {E : Value → Shared → Prop} {pins : List (Addr × Obj)} {s : Shared} {σ : St} {H : Hp} {x : Str} {u : Value} {pos : Pos} {Q : Value → Shared → Prop} (I : Inv X pins σ H s) (hg : Gl X x) (hm : X.mg x = none) (hv : bootBuiltins x = some u) (h : Q u s)
    (hn : x ≠ "__name__" := by decide) (hd : (x == ("__debug__" : Str)) = false := by decide) : wpAny (model X.prog X.w) X.A (eval (.Name x pos) X.env) Q E s := by
  obtain ⟨mb, h1, h2⟩ := I.mod.blt
  exact Calls.Name_function_global I.ok.kind hg (Calls.loadGlobal_builtin (by rw [I.ok.glob]; exact I.mod.glob.keeps I.bk) hm (by rw [I.ok.blt]; exact h1.keeps I.bk) ((h2 x hn).trans hv) h) hd
/-- a module's constant, a class, a function, as a value -/
theorem pe_glob {x : Str} {v : V} {u : Value} {pos : Pos} (hg : Gl X x) (hm : X.mg x = some u) (r : RelV v u) (hd : (x == ("__debug__" : Str)) = false := by decide) : PE X (.Name x pos) (tC v) :=
  fun _ _ _ H _ I h => ld_glob I hg hm ⟨v, H, I, r, h⟩ hd
theorem pe_bltn {x : Str} {v : V} {u : Value} {pos : Pos} (hg : Gl X x) (hm : X.mg x = none) (hv : bootBuiltins x = some u) (r : RelV v u) (hn : x ≠ "__name__" := by decide) (hd : (x == ("__debug__" : Str)) = false := by decide) : PE X (.Name x pos) (tC v) :=
  fun _ _ _ H _ I h => ld_blt I hg hm hv ⟨v, H, I, r, h⟩ hn hd

/-! ### arithmetic -/
/-- two ints -/
def t2I (ta tb : TE) (k : Int → Int → Hp → Prop) : St → Hp → Prop := fun σ H => ta σ H fun x H1 => tb σ H1 fun y H2 => ∃ i j, x = .int i ∧ y = .int j ∧ k i j H2
def tAdd (ta tb : TE) : TE := fun σ H Q => t2I ta tb (fun i j H2 => Q (.int (i + j)) H2) σ H
def tSub (ta tb : TE) : TE := fun σ H Q => t2I ta tb (fun i j H2 => Q (.int (i - j)) H2) σ H
/-- the left factor below 2^64 -/
def tMul (ta tb : TE) : TE := fun σ H Q => t2I ta tb (fun i j H2 => (-(2 ^ 64) < i ∧ i < 2 ^ 64) ∧ Q (.int (i * j)) H2) σ H
variable {a b : Expr} {ta tb : TE} {pos : Pos}

/-! ### comparisons -/
def PC (X : Cx) (op : CmpOp) (a b : Expr) (t : TE) : Prop :=
  ∀ (pins : List (Addr × Obj)) (s : Shared) (σ : St) (H : Hp) (Q : VK), Inv X pins σ H s → t σ H Q →
    wpAny (model X.prog X.w) X.A (eval a X.env) (fun v s₁ => wpAny (model X.prog X.w) X.A (eval b X.env) (fun u s₂ => wpAny (model X.prog X.w) X.A (compareOp op v u) (EP X pins σ Q) X.xe s₂) X.xe s₁) X.xe s
theorem nobehind (b : Expr) {op : CmpOp} (h : op ≠ .In) (h2 : op ≠ .NotIn) : behindInMarks op b = false := by
  have e1 : (op == CmpOp.In) = false := by cases op <;> first | rfl | exact absurd rfl h
  have e2 : (op == CmpOp.NotIn) = false := by cases op <;> first | rfl | exact absurd rfl h2
  cases b <;> simp [behindInMarks, e1, e2]
def tCmp (p : Int → Int → Bool) (ta tb : TE) : TE := fun σ H Q => t2I ta tb (fun i j H2 => Q (.bl (p i j)) H2) σ H
abbrev tLt : TE → TE → TE := tCmp fun i j => decide (i < j)
abbrev tLe : TE → TE → TE := tCmp fun i j => decide (i ≤ j)
abbrev tGt : TE → TE → TE := tCmp fun i j => decide (j < i)
abbrev tGe : TE → TE → TE := tCmp fun i j => decide (j ≤ i)
abbrev tEqI : TE → TE → TE := tCmp fun i j => decide (i = j)
abbrev tNeI : TE → TE → TE := tCmp fun i j => !decide (i = j)
/-- is None -/
def tIsN (ta : TE) : TE := fun σ H Q => ta σ H fun x H1 => Q (.bl (decide (x = .non))) H1
def tNotN (ta : TE) : TE := fun σ H Q => ta σ H fun x H1 => Q (.bl (!decide (x = .non))) H1
theorem RelV.none_iff {x : V} {v : Value} (r : RelV x v) : (v == Value.none) = decide (x = .non) := by
  cases x with
  | non => cases r; rfl
  | bl _ => cases r; rfl
  | int _ => obtain ⟨t, rfl⟩ := r; rfl
  | str _ => obtain ⟨t, rfl⟩ := r; rfl
  | byt _ => obtain ⟨t, rfl⟩ := r; rfl
  | flt _ => obtain ⟨t, rfl⟩ := r; rfl
  | ref _ => cases r; rfl
  | ty _ => cases r; rfl
theorem pc_isN {j pos'} (ha : PE X a ta) : PC X .Is a (.Constant .none j pos') (tIsN ta) := by
  intro pins s σ H Q I h
  refine thn (ha pins s σ H _ I h) fun v s1 ⟨x, H1, I1, r1, q1⟩ => ?_
  exact Constant_none (is_none_gen ⟨.bl _, H1, I1, by rw [r1.none_iff]; rfl, q1⟩)
/-- a comparison as a value, as a test -/
def tB (t : TE) : TT := fun σ H Q => t σ H fun x H1 => ∃ c, x = .bl c ∧ Q c H1
theorem pt_cmp {op : CmpOp} {t : TE} (h : PC X op a b t) (h1 : behindInMarks op b = false := by first | exact nobehind _ (by decide) (by decide) | rfl) : PT X (.Compare a [op] [b] pos) (tB t) := by
  intro pins s σ H Q I hw
  refine wpAny_isTrue_Compare1 (thn (h pins s σ H _ I hw) fun v s1 h1 => thn h1 fun u s2 h2 => thn h2 fun c s3 ⟨x, H1, I1, r1, q1⟩ => ?_) h1
  obtain ⟨d, rfl, q⟩ := q1
  cases r1
  exact wpAny_truthy_bool ⟨H1, I1, q⟩
/-- an expression whose value is a bool, as a test -/
theorem pt_val {e : Expr} {t : TE} (h : PE X e t) (he : ∀ whole, isTrue e X.env whole = (do let v ← whole; standAt e.pos; holding [v] (truthy v)) := by intro _; rfl) : PT X e (tB t) := by
  intro pins s σ H Q I hw
  refine isTrue_plain (thn (h pins s σ H _ I hw) fun v s1 ⟨x, H1, I1, r1, q1⟩ => ?_) (he _)
  obtain ⟨d, rfl, q⟩ := q1
  cases r1
  exact wpAny_truthy_bool ⟨H1, I1, q⟩

/-! ### and, or, not -/
variable {tA tB' : TT} {rest : List Expr}
def tAnd (t u : TT) : TT := fun σ H Q => t σ H fun c H1 => if c = true then u σ H1 Q else Q false H1
def tOr (t u : TT) : TT := fun σ H Q => t σ H fun c H1 => if c = true then Q true H1 else u σ H1 Q
def tNot (t : TT) : TT := fun σ H Q => t σ H fun c H1 => Q (!c) H1
theorem pw_and1 (ha : PT X a tA) : PW X (.BoolOp .And [a] pos) tA := by
  intro wh pins s σ H Q I h
  refine isTrue_and (thn (ha pins s σ H Q I h) fun c s1 e => ?_)
  cases c with
  | true => exact isTrue_and_nil e
  | false => exact e
theorem pw_or1 (ha : PT X a tA) : PW X (.BoolOp .Or [a] pos) tA := by
  intro wh pins s σ H Q I h
  refine isTrue_or (thn (ha pins s σ H Q I h) fun c s1 e => ?_)
  cases c with
  | false => exact isTrue_or_nil e
  | true => exact e
theorem pw_and (ha : PT X a tA) (hb : PW X (.BoolOp .And (b :: rest) pos) tB') : PW X (.BoolOp .And (a :: b :: rest) pos) (tAnd tA tB') := by
  intro wh pins s σ H Q I h
  refine isTrue_and (thn (ha pins s σ H _ I h) fun c s1 ⟨H1, I1, q1⟩ => ?_)
  cases c with
  | true => exact hb wh pins s1 σ H1 Q I1 q1
  | false => exact ⟨H1, I1, q1⟩
theorem pw_or (ha : PT X a tA) (hb : PW X (.BoolOp .Or (b :: rest) pos) tB') : PW X (.BoolOp .Or (a :: b :: rest) pos) (tOr tA tB') := by
  intro wh pins s σ H Q I h
  refine isTrue_or (thn (ha pins s σ H _ I h) fun c s1 ⟨H1, I1, q1⟩ => ?_)
  cases c with
  | true => exact ⟨H1, I1, q1⟩
  | false => exact hb wh pins s1 σ H1 Q I1 q1
theorem pt_not (ha : PT X a tA) : PT X (.UnaryOp .Not a pos) (tNot tA) := by
  intro pins s σ H Q I h
  exact isTrue_not (ha pins s σ H (fun c H1 => Q (!c) H1) I h)
/-- .. as values (bools) -/
def tAndV (ta tb : TE) : TE := fun σ H Q => ta σ H fun x H1 => ∃ c, x = .bl c ∧ if c = true then tb σ H1 Q else Q (.bl false) H1
def tOrV (ta tb : TE) : TE := fun σ H Q => ta σ H fun x H1 => ∃ c, x = .bl c ∧ if c = true then Q (.bl true) H1 else tb σ H1 Q
def tNotV (ta : TE) : TE := fun σ H Q => ta σ H fun x H1 => ∃ c, x = .bl c ∧ Q (.bl (!c)) H1
theorem pe_one {op} {t : TE} (h : PE X a t) : PE X (.BoolOp op [a] pos) t := fun pins s σ H Q I hw => BoolOp_one (h pins s σ H Q I hw)
theorem pe_and (ha : PE X a ta) (hb : PE X (.BoolOp .And (b :: rest) pos) tb) : PE X (.BoolOp .And (a :: b :: rest) pos) (tAndV ta tb) := by
  intro pins s σ H Q I h
  refine BoolOp_and (thn (ha pins s σ H _ I h) fun v s1 ⟨x, H1, I1, r1, q1⟩ => ?_)
  obtain ⟨c, rfl, q1⟩ := q1
  cases r1
  refine wpAny_truthy_bool ?_
  cases c with
  | true => exact hb pins s1 σ H1 Q I1 q1
  | false => exact ⟨.bl false, H1, I1, rfl, q1⟩
theorem pe_not (ha : PE X a ta) : PE X (.UnaryOp .Not a pos) (tNotV ta) := by
  intro pins s σ H Q I h
  refine UnaryOp_ (thn (ha pins s σ H _ I h) fun v s1 ⟨x, H1, I1, r1, q1⟩ => ?_)
  obtain ⟨c, rfl, q1⟩ := q1
  cases r1
  exact not_of (wpAny_truthy_bool ⟨.bl (!c), H1, I1, rfl, q1⟩)
/-- a if t else b -/
def tIf (t : TT) (ta tb : TE) : TE := fun σ H Q => t σ H fun c H1 => if c = true then ta σ H1 Q else tb σ H1 Q
end
end L2

namespace L2
open PySem PySem.Spec PyProof.Rows

/-! ### a list, a tuple that is read: tracked, frozen, or an object of the module -/
def SqL (K : PySem.W.Frag) (H : Hp) (a : Addr) (xs : List V) : Prop :=
  Rd H a (.lst xs) ∨
    ∃ (o : Obj) (its : Array Value) (n : Nat), K.lookup a = some o ∧ o.cls = .type "list" ∧ o.dict = none ∧ o.data = .seq its n ∧ its.size ≤ sizeLine ∧ Vals xs its.toList
def SqT (K : PySem.W.Frag) (H : Hp) (a : Addr) (xs : List V) : Prop :=
  Rd H a (.tup xs) ∨
    ∃ (o : Obj) (its : Array Value) (n : Nat), K.lookup a = some o ∧ o.cls = .type "tuple" ∧ o.data = .seq its n ∧ its.size ≤ sizeLine ∧ Vals xs its.toList
def absV : Value → Option V
  | .none => some .non
  | .bool b => some (.bl b)
  | .int i _ => some (.int i)
  | .str x _ => some (.str x)
  | .bytes b _ => some (.byt b)
  | .float b _ => some (.flt b)
  | .ref a => some (.ref a)
  | .type n => some (.ty n)
  | _ => none
theorem RelV.abs {x : V} {u : Value} (r : RelV x u) : absV u = some x := by
  cases x with
  | non => cases r; rfl
  | bl _ => cases r; rfl
  | int _ => obtain ⟨t, rfl⟩ := r; rfl
  | str _ => obtain ⟨t, rfl⟩ := r; rfl
  | byt _ => obtain ⟨t, rfl⟩ := r; rfl
  | flt _ => obtain ⟨t, rfl⟩ := r; rfl
  | ref _ => cases r; rfl
  | ty _ => cases r; rfl
theorem RelV.inj {x y : V} {u : Value} (r : RelV x u) (q : RelV y u) : x = y := Option.some.inj (r.abs.symm.trans q.abs)
theorem Vals.inj : ∀ {xs ys : List V} {us : List Value}, Vals xs us → Vals ys us → xs = ys
  | _, _, _, .nil, .nil => rfl
  | _, _, _, .cons r t, .cons r' t' => by rw [r.inj r', Vals.inj t t']
section
variable {X : Cx} {pins : List (Addr × Obj)} {σ : St} {H : Hp} {s : Shared} {a : Addr} {xs ys : List V}
theorem SqL.of {K : PySem.W.Frag} (h : H a = some (.lst xs)) : SqL K H a xs := .inl (.inl h)
theorem SqT.of {K : PySem.W.Frag} (h : H a = some (.tup xs)) : SqT K H a xs := .inl (.inl h)
theorem Inv.list (I : Inv X pins σ H s) (h : SqL X.K H a xs) : ∃ its : List Value, Vals xs its ∧ PlainL s.heap a its.toArray ∧ xs.length ≤ sizeLine := by
  rcases h with h | ⟨o, its, n, hk, hc, hd, hs, hz, r⟩
  · obtain ⟨z, its, n, r, e⟩ := h.ok I.hok
    exact ⟨its, r, ⟨_, n, e, rfl, rfl, rfl⟩, z⟩
  · refine ⟨its.toList, r, ⟨o, n, I.kIn a o hk, hc, hd, by simpa using hs⟩, ?_⟩
    have e := r.length
    simp only [Array.length_toList] at e
    omega
theorem Inv.tuple (I : Inv X pins σ H s) (h : SqT X.K H a xs) : ∃ its : List Value, Vals xs its ∧ IsTup s.heap a its.toArray ∧ xs.length ≤ sizeLine := by
  rcases h with h | ⟨o, its, n, hk, hc, hs, hz, r⟩
  · obtain ⟨z, its, r, p⟩ := h.ok I.hok
    exact ⟨its, r, p, z⟩
  · refine ⟨its.toList, r, ⟨o, I.kIn a o hk, hc, n, by simpa using hs⟩, ?_⟩
    have e := r.length
    simp only [Array.length_toList] at e
    omega
theorem Inv.list_inj (I : Inv X pins σ H s) (h : SqL X.K H a xs) (h' : SqL X.K H a ys) : xs = ys := by
  obtain ⟨its, r, ⟨o, n, e, _, _, d⟩, _⟩ := I.list h
  obtain ⟨its', r', ⟨o', n', e', _, _, d'⟩, _⟩ := I.list h'
  rw [e] at e'; cases e'
  rw [d] at d'
  injection d' with d1 _
  have : its = its' := by simpa using congrArg Array.toList d1
  subst this
  exact r.inj r'
theorem Inv.tuple_inj (I : Inv X pins σ H s) (h : SqT X.K H a xs) (h' : SqT X.K H a ys) : xs = ys := by
  obtain ⟨its, r, ⟨o, e, _, n, d⟩, _⟩ := I.tuple h
  obtain ⟨its', r', ⟨o', e', _, n', d'⟩, _⟩ := I.tuple h'
  rw [e] at e'; cases e'
  rw [d] at d'
  injection d' with d1 _
  have : its = its' := by simpa using congrArg Array.toList d1
  subst this
  exact r.inj r'
end

/-! ### another wish about exceptions -/
abbrev Cx.wish (X : Cx) (E : Value → Shared → Prop) : Cx := { X with xe := E }
/-- no exception leaves -/
abbrev Cx.nox (X : Cx) : Cx := X.wish fun _ _ => False
theorem Cx.Ok.wish {X : Cx} (ok : X.Ok) (E : Value → Shared → Prop) : (X.wish E).Ok :=
  ⟨ok.mod, ok.kind, ok.glob, ok.blt, ok.above, ok.inj, ok.has, ok.cab, ok.hd, ok.frames, ok.stk, ok.exf, ok.bs, ok.bsz, ok.noex, ok.exfs, ok.funs, ok.frf⟩
theorem Cx.Ok.unwish {X : Cx} {E : Value → Shared → Prop} (ok : (X.wish E).Ok) : X.Ok :=
  ⟨ok.mod, ok.kind, ok.glob, ok.blt, ok.above, ok.inj, ok.has, ok.cab, ok.hd, ok.frames, ok.stk, ok.exf, ok.bs, ok.bsz, ok.noex, ok.exfs, ok.funs, ok.frf⟩
section
variable {X : Cx} {pins : List (Addr × Obj)} {σ : St} {H : Hp} {s : Shared} {E : Value → Shared → Prop}
theorem Inv.wish (I : Inv X pins σ H s) (E : Value → Shared → Prop) : Inv (X.wish E) pins σ H s := ⟨I.ok.wish E, I.os, I.bare, I.base, I.loc, I.cell, I.free, I.freeC, I.pin, I.hok, I.len⟩
theorem Inv.unwish (I : Inv (X.wish E) pins σ H s) : Inv X pins σ H s := ⟨I.ok.unwish, I.os, I.bare, I.base, I.loc, I.cell, I.free, I.freeC, I.pin, I.hok, I.len⟩
theorem SP.unwish {D : Ends} {f : Flow} {s' : Shared} (h : SP (X.wish E) pins D f s') : SP X pins D f s' := by
  cases f with
  | next => obtain ⟨σ', H', I, q⟩ := h; exact ⟨σ', H', I.unwish, q⟩
  | brk => obtain ⟨σ', H', I, q⟩ := h; exact ⟨σ', H', I.unwish, q⟩
  | cont => obtain ⟨σ', H', I, q⟩ := h; exact ⟨σ', H', I.unwish, q⟩
  | ret u => obtain ⟨v, σ', H', I, r, q⟩ := h; exact ⟨v, σ', H', I.unwish, r, q⟩
theorem PSs.nox {st : List Stmt} {t : TS} (h : PSs X.nox st t) : PSs X st t := fun pins s σ H D I hw =>
  wpAny_mono (h pins s σ H D (I.wish _) hw) (fun _ _ q => q.unwish) fun _ _ z => False.elim z
end

/-! ### blocks and small statements -/
section
variable {X : Cx} {st : Stmt} {rest : List Stmt} {t u : TS} {e : Expr} {te : TE} {pos : Pos}
def tNext : TS := fun D σ H => D.nx σ H
def tSeq (t u : TS) : TS := fun D σ H => t { D with nx := u D } σ H
theorem pss_nil : PSs X [] tNext := fun _ _ σ H _ I h => wpAny_execs_nil ⟨σ, H, I, h⟩
theorem pss_cons (h1 : PS X st t) (h2 : PSs X rest u) : PSs X (st :: rest) (tSeq t u) := by
  intro pins s σ H D I h
  refine wpAny_execs_cons (thn (h1 pins s σ H { D with nx := u D } I h) fun f s1 q => ?_)
  cases f with
  | next =>
    obtain ⟨σ', H', I', q⟩ := q
    exact h2 pins s1 σ' H' D I' q
  | ret v => exact q
  | brk => exact q
  | cont => exact q
theorem pss_one (h1 : PS X st t) : PSs X [st] t := by
  intro pins s σ H D I h
  refine wpAny_execs_cons (thn (h1 pins s σ H D I h) fun f s1 q => ?_)
  cases f with
  | next => exact wpAny_execs_nil q
  | ret v => exact q
  | brk => exact q
  | cont => exact q
def tBreak : TS := fun D σ H => D.bk σ H
def tCont : TS := fun D σ H => D.ct σ H
/-- in a def's body nothing is shown -/
theorem Inv.quiet {pins : List (Addr × Obj)} {σ : St} {H : Hp} {s : Shared} (I : Inv X pins σ H s) : interactive X.env = false := by simp [interactive, I.ok.kind]
/-- an expression whose value is dropped -/
def tDrop (te : TE) : TS := fun D σ H => te σ H fun _ H1 => D.nx σ H1
theorem ps_expr (he : PE X e te) (hs : swapsWith e none pos.line X.env = pure false := by rfl) : PS X (.Expr e pos) (tDrop te) := by
  intro pins s σ H D I h
  exact wpAny_Expr_any (thn (he pins s σ H _ I h) fun v s1 ⟨x, H1, I1, r1, q1⟩ => ⟨σ, H1, I1, q1⟩) I.quiet hs
def tRet (te : TE) : TS := fun D σ H => te σ H D.rt
theorem ps_ret (he : PE X e te) : PS X (.Return (some e) pos) (tRet te) := by
  intro pins s σ H D I h
  exact wpAny_Return_some (thn (he pins s σ H _ I h) fun v s1 ⟨x, H1, I1, r1, q1⟩ => ⟨x, σ, H1, I1, r1, q1⟩)
def tRetN : TS := fun D _ H => D.rt .non H
def tIfS (c : TT) (t u : TS) : TS := fun D σ H => c σ H fun b H1 => if b = true then t D σ H1 else u D σ H1
theorem ps_if {c : Expr} {a b : List Stmt} {tc : TT} (hc : PT X c tc) (ha : PSs X a t) (hb : PSs X b u) : PS X (.If c a b pos) (tIfS tc t u) := by
  intro pins s σ H D I h
  refine wpAny_If (thn (hc pins s σ H _ I h) fun d s1 ⟨H1, I1, q1⟩ => ?_)
  cases d with
  | true => exact ha pins s1 σ H1 D I1 q1
  | false => exact hb pins s1 σ H1 D I1 q1
/-- code that the proof never comes to -/
def tNever : TS := fun _ _ _ => False
end

/-! ### targets -/
abbrev TG := V → St → Hp → (St → Hp → Prop) → Prop
abbrev TGs := List V → St → Hp → (St → Hp → Prop) → Prop
def PG (X : Cx) (target : Expr) (t : TG) : Prop :=
  ∀ (pins : List (Addr × Obj)) (s : Shared) (σ : St) (H : Hp) (v : V) (u : Value) (Q : St → Hp → Prop), Inv X pins σ H s → RelV v u → t v σ H Q →
    wpAny (model X.prog X.w) X.A (assign target X.env u) (fun _ s' => ∃ σ' H', Inv X pins σ' H' s' ∧ Q σ' H') X.xe s
/-- several targets, one after another -/
def PGs (X : Cx) (ts : List Expr) (t : TGs) : Prop :=
  ∀ (pins : List (Addr × Obj)) (s : Shared) (σ : St) (H : Hp) (vs : List V) (us : List Value) (Q : St → Hp → Prop), Inv X pins σ H s → Vals vs us → t vs σ H Q →
    wpAny (model X.prog X.w) X.A (assignInOrder ((assignEach ts X.env).map (·.2)) us) (fun _ s' => ∃ σ' H', Inv X pins σ' H' s' ∧ Q σ' H') X.xe s
/-- o[i] = v, by values -/
abbrev TSet := V → V → V → Hp → (Hp → Prop) → Prop
def PSet (X : Cx) (t : TSet) : Prop :=
  ∀ (pins : List (Addr × Obj)) (s : Shared) (σ : St) (H : Hp) (o i v : V) (ov iv u : Value) (Q : Hp → Prop), Inv X pins σ H s → RelV o ov → RelV i iv → RelV v u → t o i v H Q →
    wpAny (model X.prog X.w) X.A (setItem ov iv u) (fun _ s' => ∃ H', Inv X pins σ H' s' ∧ Q H') X.xe s
/-- a op= b, by values -/
abbrev TIp := V → V → Hp → VK → Prop
def PIp (X : Cx) (op : Operator) (t : TIp) : Prop :=
  ∀ (pins : List (Addr × Obj)) (s : Shared) (σ : St) (H : Hp) (x y : V) (v u : Value) (Q : VK), Inv X pins σ H s → RelV x v → RelV y u → t x y H Q →
    wpAny (model X.prog X.w) X.A (inplaceOp op v u) (EP X pins σ Q) X.xe s
section
variable {X : Cx} {pos : Pos}
def gName (i : Nat) : TG := fun v σ H Q => Q (σ.set i (some v)) H
theorem pg_name {i : Nat} {x : Str} (hN : X.N.Nodup) (hi : X.N[i]? = some x) (hx : Loc X.env.scope x) (hf : X.fn x = true ∨ X.env.scope.names.lookup x = some .local := by first | exact .inl rfl | exact .inr rfl | assumption) : PG X (.Name x pos) (gName i) := by
  intro pins s σ H v u Q I r h
  exact wpAny_assign_Name (store_ok I hN hi hx r (fun s' I' => ⟨_, H, I', h⟩) hf)
def gNil : TGs := fun vs σ H Q => vs = [] ∧ Q σ H
def gCons (t : TG) (u : TGs) : TGs := fun vs σ H Q => ∃ v r, vs = v :: r ∧ t v σ H fun σ' H' => u r σ' H' Q
theorem pgs_nil : PGs X [] gNil := by
  intro pins s σ H vs us Q I r h
  obtain ⟨e, h⟩ := h
  subst e
  cases r
  exact assignInOrder_nil ⟨σ, H, I, h⟩
theorem pgs_cons {e : Expr} {es : List Expr} {t : TG} {u : TGs} (h1 : PG X e t) (h2 : PGs X es u)
    (hs : (assignEach (e :: es) X.env).map (·.2) = assign e X.env :: (assignEach es X.env).map (·.2) := by rfl) : PGs X (e :: es) (gCons t u) := by
  intro pins s σ H vs us Q I r h
  obtain ⟨v, vr, e1, h⟩ := h
  subst e1
  cases r with
  | cons r rr =>
    rw [hs]
    refine assignInOrder_cons (thn (h1 pins s σ H _ _ _ I r h) fun _ s1 ⟨σ1, H1, I1, q1⟩ => ?_)
    exact h2 pins s1 σ1 H1 _ _ Q I1 rr q1
/-- (a, b, ..) = a tuple of that length -/
def gTup (K : PySem.W.Frag) (n : Nat) (t : TGs) : TG := fun v σ H Q => ∃ a xs, v = .ref a ∧ SqT K H a xs ∧ xs.length = n ∧ t xs σ H Q
theorem pg_tup {es : List Expr} {k : Nat} {t : TGs} {n : Nat} (hc : X.calm = true) (h : PGs X es t)
    (hn : (assignEach es X.env).length = n := by rfl) (hst : (assignEach es X.env).findIdx? (·.1) = none := by rfl) : PG X (.Tuple es k pos) (gTup X.K n t) := by
  intro pins s σ H v u Q I r hw
  obtain ⟨a, xs, e1, hq, hl, hw⟩ := hw
  subst e1
  cases r
  obtain ⟨its, rv, ht, hz⟩ := I.tuple hq
  refine assign_Tuple_tuple (I.ok.hd hc) ht (by simp [hn, ← hl, rv.length]) hst fun h' hx => ?_
  have I1 : Inv X pins σ H { s with heap := h' } := I.kept (t' := s.toks) fun b o e => hx b o (Nat.ne_of_lt (Heap.lt_size e)) e
  exact h pins _ σ H xs _ Q I1 (by simpa using rv) hw
/-- o[i] = .. -/
def gSub (to ti : TE) (t : TSet) : TG := fun v σ H Q => to σ H fun o H1 => ti σ H1 fun i H2 => t o i v H2 fun H3 => Q σ H3
/-- target = value -/
def tAsg (te : TE) (g : TG) : TS := fun D σ H => te σ H fun x H1 => g x σ H1 D.nx
theorem ps_asg {tg e : Expr} {te : TE} {g : TG} (he : PE X e te) (hg : PG X tg g) (hs : swapsWithSole [tg] e pos.line X.env = pure false := by rfl) (hw : swappedStores [tg] e X.env = pure none := by rfl)
    (h1 : (assignEach [tg] X.env).map (·.2) = [assign tg X.env] := by rfl) : PS X (.Assign [tg] e pos) (tAsg te g) := by
  intro pins s σ H D I h
  refine wpAny_Assign_stores (thn (he pins s σ H _ I h) fun v s1 ⟨x, H1, I1, r1, q1⟩ => ?_) hs hw
  rw [h1]
  exact thn (hg pins s1 σ H1 x v _ I1 r1 q1) fun _ s2 q => q
/-- name = value -/
theorem ps_set {i : Nat} {x : Str} {e : Expr} {te : TE} {pos' : Pos} (hN : X.N.Nodup) (hi : X.N[i]? = some x) (hx : Loc X.env.scope x) (he : PE X e te) (hs : swapsWith e (some (.Name x pos')) pos.line X.env = pure false := by rfl) (hf : X.fn x = true ∨ X.env.scope.names.lookup x = some .local := by first | exact .inl rfl | exact .inr rfl | assumption) :
    PS X (.Assign [.Name x pos'] e pos) (tAsg te (gName i)) := by
  intro pins s σ H D I h
  refine wpAny_Assign_Name (thn (he pins s σ H _ I h) fun v s1 ⟨y, H1, I1, r1, q1⟩ => ?_) hs
  exact store_ok I1 hN hi hx r1 (fun s2 I2 => ⟨_, H1, I2, q1⟩) hf
/-- a, b = x, y with plain local names: stored from the right; the pair itself is not tracked (the opening rows as in PyProof/Rows/TupAssign.lean:23) -/
def tPar (i j : Nat) (ta : TA) : TS := fun D σ H => ta σ H fun vs H1 => ∃ v w, vs = [v, w] ∧ D.nx ((σ.set i (some v)).set j (some w)) H1
/-- name op= e -/
def tAug (i : Nat) (te : TE) (ti : TIp) : TS := fun D σ H => ∃ x, σ[i]? = some (some x) ∧ te σ H fun y H1 => ti x y H1 fun z H2 => D.nx (σ.set i (some z)) H2
/-- o[i] op= e -/
def tAugS (to ti te : TE) (tget : V → V → Hp → VK → Prop) (tip : TIp) (tset : TSet) : TS := fun D σ H => to σ H fun o H1 => ti σ H1 fun i H2 => tget o i H2 fun x H3 => te σ H3 fun y H4 => tip x y H4 fun z H5 => tset o i z H5 fun H6 => D.nx σ H6
/-- o[i], by values -/
def PGet (X : Cx) (t : V → V → Hp → VK → Prop) : Prop :=
  ∀ (pins : List (Addr × Obj)) (s : Shared) (σ : St) (H : Hp) (o i : V) (ov iv : Value) (Q : VK), Inv X pins σ H s → RelV o ov → RelV i iv → t o i H Q →
    wpAny (model X.prog X.w) X.A (getItem ov iv) (EP X pins σ Q) X.xe s
/-- ints -/
def ipI (f : Int → Int → Int) : TIp := fun x y H Q => ∃ i j, x = .int i ∧ y = .int j ∧ Q (.int (f i j)) H
end

/-! ### while -/
section
variable {X : Cx} {pos : Pos}
/-- the invariant W with its measure -/
def tWhile (c : TT) (tb : TS) : TS := fun D σ H => ∃ W : Nat → St → Hp → Prop, (∃ m, W m σ H) ∧ ∀ m σ H, W m σ H →
  c σ H fun b H1 => if b = true then ∃ N : St → Hp → Prop, (∀ σ' H', N σ' H' → ∃ m', m' < m ∧ W m' σ' H') ∧ tb { D with nx := N, ct := N, bk := D.nx } σ H1 else D.nx σ H1
end

/-! ### what a loop or a comprehension walks -/
/-- at turn i: it yields x (the heap may grow), or it stops -/
structure It where
  go : Nat → Hp → Prop
  yld : Nat → Hp → V → Hp → Prop
  stop : Nat → Hp → Prop
/-- the iterator's own objects may turn: they are not the frame's, not pinned, younger than the entry (or a comprehension's own) -/
def FpOk (X : Cx) (pins : List (Addr × Obj)) (H : Hp) (b : Addr) : Prop :=
  H b = none ∧ b ≠ X.env.locals ∧ b ∉ X.fs ∧ (b ∈ X.ex ∨ X.s₀.heap.objs.size ≤ b) ∧ (∀ x c, X.env.cells.lookup x = some c → c ≠ b) ∧ ∀ p ∈ X.pn ++ pins, p.1 ≠ b
theorem Inv.fpOk {X : Cx} {pins : List (Addr × Obj)} {σ : St} {H H' : Hp} {s : Shared} {b : Addr} (I : Inv X pins σ H s) (hb : s.heap.objs.size ≤ b) (hn : H' b = none) : FpOk X pins H' b := by
  refine ⟨hn, Nat.ne_of_gt (Nat.lt_of_lt_of_le I.lt hb), I.nofs hb, .inr (Nat.le_trans I.sz hb), fun x c e z => ?_, fun p hp z => ?_⟩
  · obtain ⟨v, q⟩ := I.cell x c e
    exact absurd (Nat.lt_of_lt_of_le q.lt (by rw [z]; exact hb)) (Nat.lt_irrefl _)
  · exact absurd (Nat.lt_of_lt_of_le (Heap.lt_size (I.pin p hp).1) (by rw [z]; exact hb)) (Nat.lt_irrefl _)
structure Turn (P : Program) (w : World) (K : PySem.W.Frag) (tg : Expr) (J : It) (fp : List Addr) (it : Addr) (tn : Nat → Heap → Prop) : Prop where
  mem : it ∈ fp
  obj : ∀ i h, tn i h → ∀ b ∈ fp, ∃ o, h.get? b = some o ∧ ∀ v, o.data ≠ .cell v
  keep : ∀ i h h', tn i h → (∀ b ∈ fp, ∀ o, h.get? b = some o → h'.get? b = some o) → tn i h'
  item : ∀ (X : Cx), X.prog = P → X.w = w → X.K = K → X.calm = true → ∀ (i : Nat) (pins : List (Addr × Obj)) (s : Shared) (σ : St) (H : Hp) (E : Value → Shared → Prop), Inv X pins σ H s → (∀ b ∈ fp, FpOk X pins H b) → tn i s.heap → J.go i H →
    wpAny (model P w) X.A (pyNext (.ref it)) (fun r s1 => ∃ u, r = some u ∧
      wpAny (model P w) X.A (letOwnedTupleGo tg (.ref it) u) (fun _ s2 => ∃ x H', Inv X pins σ H' s2 ∧ RelV x u ∧ J.yld i H x H' ∧ tn (i + 1) s2.heap ∧ ∀ b ∈ fp, H' b = none) E s1) E s
  done : ∀ (X : Cx), X.prog = P → X.w = w → X.K = K → X.calm = true → ∀ (i : Nat) (pins : List (Addr × Obj)) (s : Shared) (σ : St) (H : Hp) (E : Value → Shared → Prop), Inv X pins σ H s → (∀ b ∈ fp, FpOk X pins H b) → tn i s.heap → J.stop i H →
    wpAny (model P w) X.A (pyNext (.ref it)) (fun r s1 => r = none ∧ Inv X pins σ H s1) E s
  self : ∀ (A : Around) (i : Nat) (s : Shared) (Q : Value → Shared → Prop) (E : Value → Shared → Prop), tn i s.heap → Q (.ref it) s → wpAny (model P w) A (pyIter (.ref it)) Q E s
abbrev TI := St → Hp → (It → Hp → Prop) → Prop
/-- an iterator has come -/
def PIE (X : Cx) (pins : List (Addr × Obj)) (σ : St) (tg : Expr) (R : It → Hp → Prop) (itv : Value) (s2 : Shared) : Prop :=
  ∃ (it : Addr) (fp : List Addr) (tn : Nat → Heap → Prop) (J : It) (H' : Hp), itv = .ref it ∧ Inv X pins σ H' s2 ∧ Turn X.prog X.w X.K tg J fp it tn ∧ tn 0 s2.heap ∧ (∀ b ∈ fp, FpOk X pins H' b) ∧ R J H'
def PI (X : Cx) (tg iter : Expr) (wi : TI) : Prop :=
  ∀ (pins : List (Addr × Obj)) (s : Shared) (σ : St) (H : Hp) (R : It → Hp → Prop), Inv X pins σ H s → wi σ H R →
    wpAny (model X.prog X.w) X.A (eval iter X.env) (fun v s1 => wpAny (model X.prog X.w) X.A (pyIter v) (PIE X pins σ tg R) X.xe s1) X.xe s

/-- the step ahead of the store is nothing for an iterator that keeps no tuple -/
theorem go_of {M : Model} {A : Around} {E : Value → Shared → Prop} {s : Shared} {tg : Expr} {it : Addr} {u : Value} {o : Obj} {n : String} {vs : Array Value} {Q : Unit → Shared → Prop} (ho : s.heap.get? it = some o) (hc : o.cls = .type n) (hd : o.data = .fields vs)
    (hn : ["enumerate", "zip", "dict_itemiterator", "dict_reverseitemiterator", "odict_iterator", "itertools.zip_longest", "itertools.pairwise"].contains n = false) (hQ : Q () s) : wpAny M A (letOwnedTupleGo tg (.ref it) u) Q E s := by
  unfold letOwnedTupleGo
  cases tg <;> first
    | exact wpAny_pure hQ
    | (cases u <;> first
        | exact wpAny_pure hQ
        | (refine wpAny_bind (wpAny_load ho ?_)
           rw [hc, hd]
           show wpAny M A (if (["enumerate", "zip", "dict_itemiterator", "dict_reverseitemiterator", "odict_iterator", "itertools.zip_longest", "itertools.pairwise"].contains n && vs[0]? == some (rawInt _)) = true then _ else _) Q E s
           rw [if_neg (by intro h; rw [hn, Bool.false_and] at h; cases h)]
           exact wpAny_pure hQ))

/-- the list at a, as it stands at each turn (a loop may append to it) -/
def Itl (K : PySem.W.Frag) (a : Addr) : It :=
  ⟨fun i H => ∃ xs x, SqL K H a xs ∧ xs[i]? = some x, fun i H x H' => H' = H ∧ ∀ xs, SqL K H a xs → xs[i]? = some x, fun i H => ∃ xs, SqL K H a xs ∧ xs.length ≤ i⟩
def Itt (K : PySem.W.Frag) (a : Addr) : It :=
  ⟨fun i H => ∃ xs x, SqT K H a xs ∧ xs[i]? = some x, fun i H x H' => H' = H ∧ ∀ xs, SqT K H a xs → xs[i]? = some x, fun i H => ∃ xs, SqT K H a xs ∧ xs.length ≤ i⟩
/-- lo, lo + 1, .. (n of them) -/
def Itr (lo : Int) (n : Nat) : It := ⟨fun i _ => i < n, fun i H x H' => H' = H ∧ x = .int (lo + i), fun i _ => n ≤ i⟩
theorem turn_list {P : Program} {w : World} {K : PySem.W.Frag} {tg : Expr} (a it : Addr) : Turn P w K tg (Itl K a) [it] it (fun i h => h.IsListIter it a i) where
  mem := by simp
  obj := fun i h st b hb => by
    have e : b = it := by simpa using hb
    subst e
    obtain ⟨o, e, c, d⟩ := st
    exact ⟨o, e, fun v z => by rw [d] at z; cases z⟩
  keep := fun i h h' st k => st.at fun o e => k it (by simp) o e
  item := by
    intro X hP hw hK hc i pins s σ H E I hf st hg
    subst hP hw hK
    obtain ⟨xs, x, hq, hx⟩ := hg
    obtain ⟨its, rv, p, hz⟩ := I.list hq
    obtain ⟨u, hu, ru⟩ := rv.get hx
    obtain ⟨f0, f1, f2, f3, f4, f5⟩ := hf it (by simp)
    refine wpAny_pyNext_list_item st p.isList (x := u) (by simpa using hu) fun h' st' sb => ?_
    have I1 : Inv X pins σ H { s with heap := h' } := I.turned (t' := s.toks) (fun b o hb e => (sb.2 b hb).trans e) f0 f1 f3 f4 f5
    obtain ⟨o, e, c, d⟩ := id st'
    exact ⟨u, rfl, go_of (s := { s with heap := h' }) e c d (by decide) ⟨x, H, I1, ru, ⟨rfl, fun ys hy => by rw [I.list_inj hy hq]; exact hx⟩, st', fun b hb => (hf b hb).1⟩⟩
  done := by
    intro X hP hw hK hc i pins s σ H E I hf st hg
    subst hP hw hK
    obtain ⟨xs, hq, hx⟩ := hg
    obtain ⟨its, rv, p, hz⟩ := I.list hq
    obtain ⟨f0, f1, f2, f3, f4, f5⟩ := hf it (by simp)
    have hl := rv.length
    exact wpAny_pyNext_list_end (I.ok.hd hc) st p.isList (by simp; omega) fun h' eb => ⟨rfl, I.turned (t' := s.toks) (fun b o hb e => eb b o hb e) f0 f1 f3 f4 f5⟩
  self := fun _ _ _ _ _ st h => wpAny_pyIter_listiter st h
theorem turn_tuple {P : Program} {w : World} {K : PySem.W.Frag} {tg : Expr} (a it : Addr) : Turn P w K tg (Itt K a) [it] it (fun i h => h.IsTupleIter it a i) where
  mem := by simp
  obj := fun i h st b hb => by
    have e : b = it := by simpa using hb
    subst e
    obtain ⟨o, e, c, d⟩ := st
    exact ⟨o, e, fun v z => by rw [d] at z; cases z⟩
  keep := fun i h h' st k => st.at fun o e => k it (by simp) o e
  item := by
    intro X hP hw hK hc i pins s σ H E I hf st hg
    subst hP hw hK
    obtain ⟨xs, x, hq, hx⟩ := hg
    obtain ⟨its, rv, p, hz⟩ := I.tuple hq
    obtain ⟨u, hu, ru⟩ := rv.get hx
    obtain ⟨f0, f1, f2, f3, f4, f5⟩ := hf it (by simp)
    refine wpAny_pyNext_tuple_item st (show s.heap.IsTuple a its.toArray from p) (x := u) (by simpa using hu) fun h' st' sb => ?_
    have I1 : Inv X pins σ H { s with heap := h' } := I.turned (t' := s.toks) (fun b o hb e => (sb.2 b hb).trans e) f0 f1 f3 f4 f5
    obtain ⟨o, e, c, d⟩ := id st'
    exact ⟨u, rfl, go_of (s := { s with heap := h' }) e c d (by decide) ⟨x, H, I1, ru, ⟨rfl, fun ys hy => by rw [I.tuple_inj hy hq]; exact hx⟩, st', fun b hb => (hf b hb).1⟩⟩
  done := by
    intro X hP hw hK hc i pins s σ H E I hf st hg
    subst hP hw hK
    obtain ⟨xs, hq, hx⟩ := hg
    obtain ⟨its, rv, p, hz⟩ := I.tuple hq
    obtain ⟨f0, f1, f2, f3, f4, f5⟩ := hf it (by simp)
    have hl := rv.length
    exact wpAny_pyNext_tuple_end (I.ok.hd hc) st (show s.heap.IsTuple a its.toArray from p) (by simp; omega) fun h' eb => ⟨rfl, I.turned (t' := s.toks) (fun b o hb e => eb b o hb e) f0 f1 f3 f4 f5⟩
  self := fun _ _ _ _ _ st h => wpAny_pyIter_tupleiter st h
theorem turn_range {P : Program} {w : World} {K : PySem.W.Frag} {tg : Expr} (it : Addr) (lo : Int) (n : Nat) : Turn P w K tg (Itr lo n) [it] it (fun i h => IsRangeIter h it (lo + (i : Nat) * 1) ((n : Int) - (i : Nat)) 1) where
  mem := by simp
  obj := fun i h st b hb => by
    have e : b = it := by simpa using hb
    subst e
    exact ⟨_, st, fun v z => by
      have z' : Data.fields _ = Data.cell v := z
      cases z'⟩
  keep := fun i h h' st k => k it (by simp) _ st
  item := by
    intro X hP hw hK hc i pins s σ H E I hf st hg
    subst hP hw hK
    obtain ⟨f0, f1, f2, f3, f4, f5⟩ := hf it (by simp)
    have W := Walks.range (prog := X.prog) (w := X.w) (I.ok.hd hc) it lo 1 n
    refine W.item i s _ _ hg st fun v h' tk hv st' kk => ?_
    obtain ⟨t, rfl⟩ := hv
    have I1 : Inv X pins σ H { s with heap := h', toks := tk } := I.turned (fun b o hb e => kk b o (by simpa using hb) e) f0 f1 f3 f4 f5
    refine ⟨_, rfl, go_of (s := { s with heap := h', toks := tk }) (n := "range_iterator") st' rfl rfl (by decide) ⟨.int (lo + i), H, I1, ⟨t, ?_⟩, ⟨rfl, rfl⟩, st', fun b hb => (hf b hb).1⟩⟩
    rw [Int.mul_one]
  done := by
    intro X hP hw hK hc i pins s σ H E I hf st hg
    subst hP hw hK
    obtain ⟨f0, f1, f2, f3, f4, f5⟩ := hf it (by simp)
    exact wpAny_pyNext_range_end (I.ok.hd hc) st (by have : n ≤ i := hg; omega) fun h' eb => ⟨rfl, I.turned (t' := s.toks) (fun b o hb e => eb b o hb e) f0 f1 f3 f4 f5⟩
  self := fun _ _ _ _ _ st h => wpAny_pyIter_rangeiter st h
end L2

namespace L2
open PySem PySem.Spec PyProof.Rows
section
variable {X : Cx} {tg : Expr}
def iList (K : PySem.W.Frag) (tl : TE) : TI := fun σ H R => tl σ H fun x H1 => ∃ a, x = .ref a ∧ (∃ xs, SqL K H1 a xs) ∧ R (Itl K a) H1
def iTup (K : PySem.W.Frag) (tl : TE) : TI := fun σ H R => tl σ H fun x H1 => ∃ a, x = .ref a ∧ (∃ xs, SqT K H1 a xs) ∧ R (Itt K a) H1
theorem pi_list {l : Expr} {tl : TE} (hl : PE X l tl) : PI X tg l (iList X.K tl) := by
  intro pins s σ H R I h
  refine thn (hl pins s σ H _ I h) fun v s1 ⟨x, H1, I1, r1, q1⟩ => ?_
  obtain ⟨a, e, ⟨xs, hq⟩, q⟩ := q1
  subst e
  cases r1
  obtain ⟨its, rv, p, hz⟩ := I1.list hq
  refine wpAny_pyIter_list p.isList ?_
  refine ⟨s1.heap.objs.size, [s1.heap.objs.size], _, _, H1, rfl, I1.kept (t' := s1.toks) fun b o e => Heap.get?_push_of_some _ e, turn_list a _, ⟨_, Heap.get?_push_size _ rfl, rfl, rfl⟩, fun b hb => ?_, q⟩
  have e : b = s1.heap.objs.size := by simpa using hb
  subst e
  exact I1.fpOk (Nat.le_refl _) (I1.hok.fresh (Nat.le_refl _))
theorem pi_tup {l : Expr} {tl : TE} (hl : PE X l tl) : PI X tg l (iTup X.K tl) := by
  intro pins s σ H R I h
  refine thn (hl pins s σ H _ I h) fun v s1 ⟨x, H1, I1, r1, q1⟩ => ?_
  obtain ⟨a, e, ⟨xs, hq⟩, q⟩ := q1
  subst e
  cases r1
  obtain ⟨its, rv, p, hz⟩ := I1.tuple hq
  refine wpAny_pyIter_tuple (show s1.heap.IsTuple a its.toArray from p) ?_
  refine ⟨s1.heap.objs.size, [s1.heap.objs.size], _, _, H1, rfl, I1.kept (t' := s1.toks) fun b o e => Heap.get?_push_of_some _ e, turn_tuple a _, ⟨_, Heap.get?_push_size _ rfl, rfl, rfl⟩, fun b hb => ?_, q⟩
  have e : b = s1.heap.objs.size := by simpa using hb
  subst e
  exact I1.fpOk (Nat.le_refl _) (I1.hok.fresh (Nat.le_refl _))
/-- a range object just made, walked -/
theorem range_it {pins : List (Addr × Obj)} {σ : St} {H : Hp} {s : Shared} {R : It → Hp → Prop} {E : Value → Shared → Prop} {lo hi : Int} {t u v : Tok} {tk : Nat} (I : Inv X pins σ H s) (h1 : -(2 ^ 62) ≤ lo) (h2 : lo < 2 ^ 62) (h3 : -(2 ^ 62) ≤ hi) (h4 : hi < 2 ^ 62)
    (q : R (Itr lo (hi - lo).toNat) H) : wpAny (model X.prog X.w) X.A (pyIter (.ref s.heap.objs.size)) (PIE X pins σ tg R) E { s with heap := s.heap.push { cls := .type "range", data := .fields #[.int lo t, .int hi u, .int 1 v] }, toks := tk } := by
  refine wpAny_pyIter_range (IsRange.new ..) (small_one h1 h2 h3 h4) ?_
  have I1 : Inv X pins σ H { s with heap := s.heap.push { cls := .type "range", data := .fields #[.int lo t, .int hi u, .int 1 v] }, toks := tk } := I.kept fun b o e => Heap.get?_push_of_some _ e
  refine ⟨(s.heap.push { cls := .type "range", data := .fields #[.int lo t, .int hi u, .int 1 v] }).objs.size, [(s.heap.push { cls := .type "range", data := .fields #[.int lo t, .int hi u, .int 1 v] }).objs.size], _, _, H, rfl,
    I1.kept (t' := tk) fun b o e => Heap.get?_push_of_some _ e, turn_range _ lo (hi - lo).toNat, ?_, fun b hb => ?_, q⟩
  · have e1 : lo + ((0 : Nat) : Int) * 1 = lo := by simp
    have e2 : (((hi - lo).toNat : Nat) : Int) - ((0 : Nat) : Int) = Builtin.Range.rangeSize lo hi 1 := by rw [rangeSize_one]; split <;> omega
    show IsRangeIter _ _ (lo + ((0 : Nat) : Int) * 1) ((((hi - lo).toNat : Nat) : Int) - ((0 : Nat) : Int)) 1
    rw [e1, e2]
    exact Heap.get?_push_size _ rfl
  · have e : b = (s.heap.push { cls := .type "range", data := .fields #[.int lo t, .int hi u, .int 1 v] }).objs.size := by simpa using hb
    subst e
    exact I1.fpOk (Nat.le_refl _) (I1.hok.fresh (Nat.le_refl _))
def iRng1 (ta : TA) : TI := fun σ H R => ta σ H fun vs H1 => ∃ j : Int, vs = [.int j] ∧ -(2 ^ 62) ≤ j ∧ j < 2 ^ 62 ∧ R (Itr 0 j.toNat) H1
def iRng2 (ta : TA) : TI := fun σ H R => ta σ H fun vs H1 => ∃ i j : Int, vs = [.int i, .int j] ∧ (-(2 ^ 62) ≤ i ∧ i < 2 ^ 62 ∧ -(2 ^ 62) ≤ j ∧ j < 2 ^ 62) ∧ R (Itr i (j - i).toNat) H1
theorem pi_range1 {a : Expr} {ta : TA} {p pos : Pos} (hg : Gl X "range") (hm : X.mg "range" = none) (ha : PA X [a] ta) (hs : starEach [a] X.env = [(false, eval a X.env)] := by rfl) : PI X tg (.Call (.Name "range" p) [a] [] pos) (iRng1 ta) := by
  intro pins s σ H R I h
  refine Call_ (ld_blt I hg hm boot_range (PyProof.Rows.callWith_type1 (thn (ha pos pins s σ H _ I h) fun us s1 ⟨vs, H1, I1, r1, q1⟩ => ?_) hs rfl))
  obtain ⟨j, e, q1, q2, q⟩ := q1
  subst e
  cases r1 with
  | cons r rr =>
    cases rr
    obtain ⟨t, rfl⟩ := r
    exact call_range_1 (range_it I1 (by omega) (by omega) q1 q2 (by simpa using q))
theorem pi_range2 {a b : Expr} {ta : TA} {p pos : Pos} (hg : Gl X "range") (hm : X.mg "range" = none) (ha : PA X [a, b] ta) (hs : starEach [a, b] X.env = [(false, eval a X.env), (false, eval b X.env)] := by rfl) (hs2 : starEach [b] X.env = [(false, eval b X.env)] := by rfl) :
    PI X tg (.Call (.Name "range" p) [a, b] [] pos) (iRng2 ta) := by
  intro pins s σ H R I h
  refine Call_ (ld_blt I hg hm boot_range (PyProof.Rows.callWith_type1 (thn (ha pos pins s σ H _ I h) fun us s1 ⟨vs, H1, I1, r1, q1⟩ => ?_) (by rw [hs, hs2]) (by rw [hs2]; rfl)))
  obtain ⟨i, j, e, ⟨q1, q2, q3, q4⟩, q⟩ := q1
  subst e
  cases r1 with
  | cons r rr =>
    cases rr with
    | cons r' rr =>
      cases rr
      obtain ⟨t, rfl⟩ := r
      obtain ⟨t', rfl⟩ := r'
      exact call_range_2 (range_it I1 q1 q2 q3 q4 q)

/-! ### for -/
/-- W: the invariant by the turn and a measure; N: what the body is to reach -/
def tFor (wi : TI) (g : TG) (tb : TS) : TS := fun D σ H => wi σ H fun J H1 => ∃ W : Nat → Nat → St → Hp → Prop, (∃ m, W 0 m σ H1) ∧ ∀ i m σ H, W i m σ H →
  (J.stop i H ∧ D.nx σ H) ∨ (J.go i H ∧ ∃ N : St → Hp → Prop, (∀ σ' H', N σ' H' → ∃ m', m' < m ∧ W (i + 1) m' σ' H') ∧ ∀ x H', J.yld i H x H' → g x σ H' fun σ2 H2 => tb { D with nx := N, ct := N, bk := D.nx } σ2 H2)
/-- the records at fp as they stand -/
def pinsAt (fp : List Addr) (h : Heap) : List (Addr × Obj) := fp.filterMap fun b => (h.get? b).map fun o => (b, o)
theorem mem_pinsAt {fp : List Addr} {h : Heap} {b : Addr} {o : Obj} (hb : b ∈ fp) (e : h.get? b = some o) : (b, o) ∈ pinsAt fp h := List.mem_filterMap.mpr ⟨b, hb, by rw [e]; rfl⟩
theorem of_pinsAt {fp : List Addr} {h : Heap} {p : Addr × Obj} (hp : p ∈ pinsAt fp h) : p.1 ∈ fp ∧ h.get? p.1 = some p.2 := by
  obtain ⟨b, hb, e⟩ := List.mem_filterMap.mp hp
  cases q : h.get? b with
  | none => rw [q] at e; cases e
  | some o =>
    rw [q] at e
    have e' : (b, o) = p := Option.some.inj e
    subst e'
    exact ⟨hb, q⟩
theorem Inv.pinned {pins : List (Addr × Obj)} {σ : St} {H : Hp} {s : Shared} {fp : List Addr} (I : Inv X pins σ H s) (hf : ∀ b ∈ fp, FpOk X pins H b) (ho : ∀ b ∈ fp, ∃ o, s.heap.get? b = some o ∧ ∀ v, o.data ≠ .cell v) : Inv X (pins ++ pinsAt fp s.heap) σ H s :=
  I.pins_of fun p hp => (List.mem_append.mp hp).elim (fun z => I.pin p (List.mem_append_right _ z)) fun z => by
    obtain ⟨hb, e⟩ := of_pinsAt z
    obtain ⟨f0, f1, f2, _⟩ := hf p.1 hb
    obtain ⟨o, e', d⟩ := ho p.1 hb
    rw [e] at e'; cases e'
    exact ⟨e, f0, f1, f2, d⟩
theorem Inv.unpinned {pins pl : List (Addr × Obj)} {σ : St} {H : Hp} {s : Shared} (I : Inv X (pins ++ pl) σ H s) : Inv X pins σ H s := I.pins_of fun p hp => I.pin p (List.mem_append_right _ (List.mem_append_left _ hp))
theorem ps_for {iter : Expr} {body : List Stmt} {wi : TI} {g : TG} {tb : TS} {pos : Pos} (hp : PassesOwn (model X.prog X.w) X.A X.env X.xe) (hc : X.calm = true) (hi : PI X tg iter wi) (hg : PG X tg g) (hb : PSs X body tb)
    (hs : ∀ x, foldedSetIterable iter X.env x = pure x := by intro _; rfl) : PS X (.For tg iter body [] pos) (tFor wi g tb) := by
  intro pins s σ H D I h
  refine wpAny_For (thn (hi pins s σ H _ I h) fun v s1 h1 => thn h1 fun itv s2 h2 => ?_) hs
  obtain ⟨it, fp, tn, J, H2, e, I2, T, st2, f2, W, ⟨m0, w0⟩, turn⟩ := h2
  subst e
  -- what stays true of the iterator's objects through the loop
  have stat : ∀ {H' : Hp}, (∀ b ∈ fp, H' b = none) → ∀ b ∈ fp, FpOk X pins H' b := fun hn b hb => ⟨hn b hb, (f2 b hb).2⟩
  refine codeAny_forLoop_any (fun n s' => ∃ i σ' H', Inv X pins σ' H' s' ∧ tn i s'.heap ∧ (∀ b ∈ fp, H' b = none) ∧ W i n σ' H') ?_ m0 ⟨0, σ, H2, I2, st2, fun b hb => (f2 b hb).1, w0⟩
  rintro n s3 ⟨i, σ3, H3, I3, st3, fr3, w3⟩
  rcases turn i n σ3 H3 w3 with ⟨stop, qn⟩ | ⟨go, N, hN, step⟩
  · refine wpAny_passesOwn hp (thn (T.done X rfl rfl rfl hc i pins s3 σ3 H3 X.xe I3 (stat fr3) st3 stop) fun r s4 ⟨hr, I4⟩ => ?_)
    subst hr
    exact wpAny_execs_nil ⟨σ3, H3, I4, qn⟩
  · refine wpAny_passesOwn hp (thn (T.item X rfl rfl rfl hc i pins s3 σ3 H3 X.xe I3 (stat fr3) st3 go) fun r s4 ⟨u, hr, h4⟩ => ?_)
    subst hr
    refine wpAny_passesOwn hp (thn h4 fun _ s5 ⟨x, H5, I5, r5, y5, st5, fr5⟩ => ?_)
    have I5' := I5.pinned (stat fr5) (T.obj _ _ st5)
    refine wpAny_passesOwn hp (thn (hg _ s5 σ3 H5 x u _ I5' r5 (step x H5 y5)) fun _ s6 ⟨σ6, H6, I6, q6⟩ => ?_)
    refine wpAny_passesOwn hp (thn (hb _ s6 σ6 H6 _ I6 q6) fun f s7 q7 => ?_)
    have again : ∀ {σ7 : St} {H7 : Hp}, Inv X (pins ++ pinsAt fp s5.heap) σ7 H7 s7 → N σ7 H7 → ∃ m, m < n ∧ ∃ i σ' H', Inv X pins σ' H' s7 ∧ tn i s7.heap ∧ (∀ b ∈ fp, H' b = none) ∧ W i m σ' H' := fun {σ7 H7} I7 n7 => by
      obtain ⟨m', hm, w7⟩ := hN σ7 H7 n7
      refine ⟨m', hm, i + 1, σ7, H7, I7.unpinned, T.keep _ _ _ st5 fun b hb o e => (I7.pin (b, o) (List.mem_append_right _ (List.mem_append_right _ (mem_pinsAt hb e)))).1, fun b hb => ?_, w7⟩
      obtain ⟨o, e, d⟩ := T.obj _ _ st5 b hb
      exact (I7.pin (b, o) (List.mem_append_right _ (List.mem_append_right _ (mem_pinsAt hb e)))).2.1
    cases f with
    | next => obtain ⟨σ7, H7, I7, n7⟩ := q7; exact again I7 n7
    | cont => obtain ⟨σ7, H7, I7, n7⟩ := q7; exact again I7 n7
    | brk => obtain ⟨σ7, H7, I7, q7⟩ := q7; exact ⟨σ7, H7, I7.unpinned, q7⟩
    | ret v => obtain ⟨x7, σ7, H7, I7, r7, q7⟩ := q7; exact ⟨x7, σ7, H7, I7.unpinned, r7, q7⟩
end

/-! ### the forms one uses -/
/-- over a list that the body leaves as it is -/
theorem for_list {K : PySem.W.Frag} {a : Addr} {xs : List V} {g : TG} {tb : TS} {D : Ends} {σ : St} {H : Hp} (Pv : Nat → St → Hp → Prop) (h0 : Pv 0 σ H) (hl : ∀ i σ H, i ≤ xs.length → Pv i σ H → SqL K H a xs)
    (hs : ∀ i x σ H, xs[i]? = some x → Pv i σ H → g x σ H fun σ2 H2 => tb { D with nx := Pv (i + 1), ct := Pv (i + 1), bk := D.nx } σ2 H2) (hd : ∀ σ H, Pv xs.length σ H → D.nx σ H) :
    ∃ W : Nat → Nat → St → Hp → Prop, (∃ m, W 0 m σ H) ∧ ∀ i m σ H, W i m σ H →
      ((Itl K a).stop i H ∧ D.nx σ H) ∨ ((Itl K a).go i H ∧ ∃ N : St → Hp → Prop, (∀ σ' H', N σ' H' → ∃ m', m' < m ∧ W (i + 1) m' σ' H') ∧ ∀ x H', (Itl K a).yld i H x H' → g x σ H' fun σ2 H2 => tb { D with nx := N, ct := N, bk := D.nx } σ2 H2) := by
  refine ⟨fun i m σ H => m = xs.length - i ∧ i ≤ xs.length ∧ Pv i σ H, ⟨xs.length, by simp, Nat.zero_le _, h0⟩, ?_⟩
  rintro i m σ H ⟨rfl, hi, p⟩
  have q := hl i σ H hi p
  by_cases hlt : i < xs.length
  · refine .inr ⟨⟨xs, xs[i], q, by simp [hlt]⟩, Pv (i + 1), fun σ' H' p' => ⟨xs.length - (i + 1), by omega, rfl, hlt, p'⟩, fun x H' y => ?_⟩
    obtain ⟨e, y⟩ := y
    subst e
    exact hs i x σ _ (y xs q) p
  · have e : i = xs.length := by omega
    subst e
    exact .inl ⟨⟨xs, q, Nat.le_refl _⟩, hd σ H p⟩
theorem for_tup {K : PySem.W.Frag} {a : Addr} {xs : List V} {g : TG} {tb : TS} {D : Ends} {σ : St} {H : Hp} (Pv : Nat → St → Hp → Prop) (h0 : Pv 0 σ H) (hl : ∀ i σ H, i ≤ xs.length → Pv i σ H → SqT K H a xs)
    (hs : ∀ i x σ H, xs[i]? = some x → Pv i σ H → g x σ H fun σ2 H2 => tb { D with nx := Pv (i + 1), ct := Pv (i + 1), bk := D.nx } σ2 H2) (hd : ∀ σ H, Pv xs.length σ H → D.nx σ H) :
    ∃ W : Nat → Nat → St → Hp → Prop, (∃ m, W 0 m σ H) ∧ ∀ i m σ H, W i m σ H →
      ((Itt K a).stop i H ∧ D.nx σ H) ∨ ((Itt K a).go i H ∧ ∃ N : St → Hp → Prop, (∀ σ' H', N σ' H' → ∃ m', m' < m ∧ W (i + 1) m' σ' H') ∧ ∀ x H', (Itt K a).yld i H x H' → g x σ H' fun σ2 H2 => tb { D with nx := N, ct := N, bk := D.nx } σ2 H2) := by
  refine ⟨fun i m σ H => m = xs.length - i ∧ i ≤ xs.length ∧ Pv i σ H, ⟨xs.length, by simp, Nat.zero_le _, h0⟩, ?_⟩
  rintro i m σ H ⟨rfl, hi, p⟩
  have q := hl i σ H hi p
  by_cases hlt : i < xs.length
  · refine .inr ⟨⟨xs, xs[i], q, by simp [hlt]⟩, Pv (i + 1), fun σ' H' p' => ⟨xs.length - (i + 1), by omega, rfl, hlt, p'⟩, fun x H' y => ?_⟩
    obtain ⟨e, y⟩ := y
    subst e
    exact hs i x σ _ (y xs q) p
  · have e : i = xs.length := by omega
    subst e
    exact .inl ⟨⟨xs, q, Nat.le_refl _⟩, hd σ H p⟩
theorem for_range {lo : Int} {n : Nat} {g : TG} {tb : TS} {D : Ends} {σ : St} {H : Hp} (Pv : Nat → St → Hp → Prop) (h0 : Pv 0 σ H)
    (hs : ∀ i σ H, i < n → Pv i σ H → g (.int (lo + i)) σ H fun σ2 H2 => tb { D with nx := Pv (i + 1), ct := Pv (i + 1), bk := D.nx } σ2 H2) (hd : ∀ σ H, Pv n σ H → D.nx σ H) :
    ∃ W : Nat → Nat → St → Hp → Prop, (∃ m, W 0 m σ H) ∧ ∀ i m σ H, W i m σ H →
      ((Itr lo n).stop i H ∧ D.nx σ H) ∨ ((Itr lo n).go i H ∧ ∃ N : St → Hp → Prop, (∀ σ' H', N σ' H' → ∃ m', m' < m ∧ W (i + 1) m' σ' H') ∧ ∀ x H', (Itr lo n).yld i H x H' → g x σ H' fun σ2 H2 => tb { D with nx := N, ct := N, bk := D.nx } σ2 H2) := by
  refine ⟨fun i m σ H => m = n - i ∧ i ≤ n ∧ Pv i σ H, ⟨n, by simp, Nat.zero_le _, h0⟩, ?_⟩
  rintro i m σ H ⟨rfl, hi, p⟩
  by_cases hlt : i < n
  · refine .inr ⟨hlt, Pv (i + 1), fun σ' H' p' => ⟨n - (i + 1), by omega, rfl, hlt, p'⟩, fun x H' y => ?_⟩
    obtain ⟨e, y⟩ := y
    subst e y
    exact hs i σ _ hlt p
  · have e : i = n := by omega
    subst e
    exact .inl ⟨Nat.le_refl _, hd σ H p⟩
end L2

namespace L2
open PySem PySem.Spec PyProof.Rows

abbrev R2 := V → V → Hp → VK → Prop
/-- a two-place operation on values: f is binaryOp op, inplaceOp op or compareOp op -/
def OpR (X : Cx) (f : Value → Value → Sem Value) (r : R2) : Prop :=
  ∀ (pins : List (Addr × Obj)) (s : Shared) (σ : St) (H : Hp) (x y : V) (v u : Value) (Q : VK), Inv X pins σ H s → RelV x v → RelV y u → r x y H Q →
    wpAny (model X.prog X.w) X.A (f v u) (EP X pins σ Q) X.xe s
/-- a one-place operation -/
def UnR (X : Cx) (f : Value → Sem Value) (r : V → Hp → VK → Prop) : Prop :=
  ∀ (pins : List (Addr × Obj)) (s : Shared) (σ : St) (H : Hp) (x : V) (v : Value) (Q : VK), Inv X pins σ H s → RelV x v → r x H Q →
    wpAny (model X.prog X.w) X.A (f v) (EP X pins σ Q) X.xe s
/-- a call of a value that is known (a builtin, a type) with values -/
def CallR (X : Cx) (f : Value) (r : List V → Hp → VK → Prop) : Prop :=
  ∀ (pins : List (Addr × Obj)) (s : Shared) (σ : St) (H : Hp) (xs : List V) (us : List Value) (Q : VK), Inv X pins σ H s → Vals xs us → r xs H Q →
    wpAny (model X.prog X.w) X.A (call f us) (EP X pins σ Q) X.xe s
/-- a value's truth -/
def TruR (X : Cx) (r : V → Hp → (Bool → Hp → Prop) → Prop) : Prop :=
  ∀ (pins : List (Addr × Obj)) (s : Shared) (σ : St) (H : Hp) (x : V) (v : Value) (Q : Bool → Hp → Prop), Inv X pins σ H s → RelV x v → r x H Q →
    wpAny (model X.prog X.w) X.A (truthy v) (TP X pins σ Q) X.xe s

def tOp (r : R2) (ta tb : TE) : TE := fun σ H Q => ta σ H fun x H1 => tb σ H1 fun y H2 => r x y H2 Q
def tUn (r : V → Hp → VK → Prop) (ta : TE) : TE := fun σ H Q => ta σ H fun x H1 => r x H1 Q
/-- ints in, under C, and a value out -/
def rI (C : Int → Int → Prop) (g : Int → Int → V) : R2 := fun x y H Q => ∃ i j, x = .int i ∧ y = .int j ∧ C i j ∧ Q (g i j) H
def rI0 (g : Int → Int → V) : R2 := fun x y H Q => ∃ i j, x = .int i ∧ y = .int j ∧ Q (g i j) H
def rU (g : Int → V) : V → Hp → VK → Prop := fun x H Q => ∃ i, x = .int i ∧ Q (g i) H

section
variable {X : Cx} {a b c : Expr} {ta tb tc : TE} {pos : Pos}

theorem binT (ha : PE X a ta) (hb : PE X b tb) {pins : List (Addr × Obj)} {s : Shared} {σ : St} {H : Hp} {R : V → V → Hp → Prop} (I : Inv X pins σ H s)
    (h : ta σ H fun x H1 => tb σ H1 fun y H2 => R x y H2) {Q : Value → Shared → Prop} {f : Value → Value → Sem Value}
    (hf : ∀ v u s2 x y H2, Inv X pins σ H2 s2 → RelV x v → RelV y u → R x y H2 → wpAny (model X.prog X.w) X.A (f v u) Q X.xe s2) :
    wpAny (model X.prog X.w) X.A (eval a X.env) (fun v s₁ => wpAny (model X.prog X.w) X.A (eval b X.env) (fun u s₂ => wpAny (model X.prog X.w) X.A (f v u) Q X.xe s₂) X.xe s₁) X.xe s := by
  refine thn (ha pins s σ H _ I h) fun v s1 ⟨x, H1, I1, r1, q1⟩ => ?_
  refine thn (hb pins s1 σ H1 _ I1 q1) fun u s2 ⟨y, H2, I2, r2, q2⟩ => ?_
  exact hf v u s2 x y H2 I2 r1 r2 q2

theorem pe_op {op : Operator} {r : R2} (ho : OpR X (binaryOp op) r) (ha : PE X a ta) (hb : PE X b tb) : PE X (.BinOp a op b pos) (tOp r ta tb) := by
  intro pins s σ H Q I h
  exact wpAny_BinOp (binT ha hb I h fun v u s2 x y H2 I2 rx ry q => ho pins s2 σ H2 x y v u Q I2 rx ry q)
theorem pe_un {op : UnaryOp} {r : V → Hp → VK → Prop} (ho : UnR X (unaryOp op) r) (ha : PE X a ta) : PE X (.UnaryOp op a pos) (tUn r ta) := by
  intro pins s σ H Q I h
  exact UnaryOp_ (thn (ha pins s σ H _ I h) fun v s1 ⟨x, H1, I1, r1, q1⟩ => ho pins s1 σ H1 x v Q I1 r1 q1)

/-! ### ints -/
theorem opI {f : Value → Value → Sem Value} {C : Int → Int → Prop} {g : Int → Int → Int}
    (rule : ∀ (i j : Int) (t u : Tok) (s : Shared) (Q : Value → Shared → Prop) (E : Value → Shared → Prop), C i j → Q (.int (g i j) s.toks) { s with toks := s.toks + 1 } → wpAny (model X.prog X.w) X.A (f (.int i t) (.int j u)) Q E s) :
    OpR X f (rI C fun i j => .int (g i j)) := by
  intro pins s σ H x y v u Q I rx ry h
  obtain ⟨i, j, rfl, rfl, hc, q⟩ := h
  obtain ⟨t, rfl⟩ := rx
  obtain ⟨t', rfl⟩ := ry
  exact rule i j t t' s _ _ hc ⟨.int (g i j), H, I.tok _, ⟨_, rfl⟩, q⟩
theorem opI0 {f : Value → Value → Sem Value} {g : Int → Int → Int}
    (rule : ∀ (i j : Int) (t u : Tok) (s : Shared) (Q : Value → Shared → Prop) (E : Value → Shared → Prop), Q (.int (g i j) s.toks) { s with toks := s.toks + 1 } → wpAny (model X.prog X.w) X.A (f (.int i t) (.int j u)) Q E s) :
    OpR X f (rI0 fun i j => .int (g i j)) := by
  intro pins s σ H x y v u Q I rx ry h
  obtain ⟨i, j, rfl, rfl, q⟩ := h
  obtain ⟨t, rfl⟩ := rx
  obtain ⟨t', rfl⟩ := ry
  exact rule i j t t' s _ _ ⟨.int (g i j), H, I.tok _, ⟨_, rfl⟩, q⟩
theorem opB0 {f : Value → Value → Sem Value} {g : Int → Int → Bool}
    (rule : ∀ (i j : Int) (t u : Tok) (s : Shared) (Q : Value → Shared → Prop) (E : Value → Shared → Prop), Q (.bool (g i j)) s → wpAny (model X.prog X.w) X.A (f (.int i t) (.int j u)) Q E s) :
    OpR X f (rI0 fun i j => .bl (g i j)) := by
  intro pins s σ H x y v u Q I rx ry h
  obtain ⟨i, j, rfl, rfl, q⟩ := h
  obtain ⟨t, rfl⟩ := rx
  obtain ⟨t', rfl⟩ := ry
  exact rule i j t t' s _ _ ⟨.bl (g i j), H, I, rfl, q⟩

def CDiv (i j : Int) : Prop := 0 < j ∧ j < 1073741824
def CDivN (i j : Int) : Prop := j ≠ 0 ∧ j.natAbs < 1073741824
def CPow (i j : Int) : Prop := 0 ≤ j ∧ j ≤ 1000000 ∧ i.natAbs < 2 ^ 64
def CMul (i j : Int) : Prop := (-(2 ^ 64) < i ∧ i < 2 ^ 64) ∨ (-(2 ^ 64) < j ∧ j < 2 ^ 64)

theorem op_add : OpR X (binaryOp .Add) (rI0 fun i j => .int (i + j)) := opI0 fun _ _ _ _ _ _ _ q => add_int q
theorem op_sub : OpR X (binaryOp .Sub) (rI0 fun i j => .int (i - j)) := opI0 fun _ _ _ _ _ _ _ q => sub_int q
/-- // by a positive divisor -/
theorem op_fdiv : OpR X (binaryOp .FloorDiv) (rI CDiv fun i j => .int (i / j)) := opI fun i j _ _ _ _ _ hc q => by
  have h1 : (0 : Int) < j := hc.1
  have h2 : j < 1073741824 := hc.2
  exact floordiv_int (by omega) (by rw [Int.fdiv_eq_ediv_of_nonneg i (by omega)]; exact q) (.inl (PyProof.noPylong_small (by omega)))
/-- % by a positive divisor of any size -/
theorem op_mod : OpR X (binaryOp .Mod) (rI (fun _ j => 0 < j) fun i j => .int (i % j)) := opI fun i j _ _ _ _ _ hc q => by
  have h1 : (0 : Int) < j := hc
  exact mod_int' (by omega) (by rw [Int.fmod_eq_emod_of_nonneg i (by omega)]; exact q)
theorem op_pow : OpR X (binaryOp .Pow) (rI CPow fun i j => .int (i ^ j.toNat)) := opI fun _ _ _ _ _ _ _ hc q => pow_int_small hc.1 hc.2.1 hc.2.2 q


theorem unI {f : Value → Sem Value} {g : Int → Int}
    (rule : ∀ (i : Int) (t : Tok) (s : Shared) (Q : Value → Shared → Prop) (E : Value → Shared → Prop), Q (.int (g i) s.toks) { s with toks := s.toks + 1 } → wpAny (model X.prog X.w) X.A (f (.int i t)) Q E s) :
    UnR X f (rU fun i => .int (g i)) := by
  intro pins s σ H x v Q I rx h
  obtain ⟨i, rfl, q⟩ := h
  obtain ⟨t, rfl⟩ := rx
  exact rule i t s _ _ ⟨.int (g i), H, I.tok _, ⟨_, rfl⟩, q⟩
theorem un_neg : UnR X (unaryOp .USub) (rU fun i => .int (-i)) := unI fun _ _ _ _ _ q => neg_int q

/-! ### bools among ints: n += (a < b) -/
end

/-! ### comparisons -/
/-- the scalars that == tells apart as data does -/
def scal : V → V → Bool
  | .non, .non => true | .non, .int _ => true | .int _, .non => true | .non, .bl _ => true | .bl _, .non => true | .non, .str _ => true | .str _, .non => true
  | .int _, .int _ => true | .bl _, .bl _ => true | .str _, .str _ => true | .byt _, .byt _ => true
  | .int _, .str _ => true | .str _, .int _ => true | .bl _, .str _ => true | .str _, .bl _ => true
  | _, _ => false
def rEq : R2 := fun x y H Q => scal x y = true ∧ Q (.bl (decide (x = y))) H
def rNe : R2 := fun x y H Q => scal x y = true ∧ Q (.bl (!decide (x = y))) H

theorem dec_int {i j : Int} : decide (V.int i = V.int j) = (i == j) := by
  rw [Bool.eq_iff_iff]
  simp
theorem dec_bl {i j : Bool} : decide (V.bl i = V.bl j) = (i == j) := by
  rw [Bool.eq_iff_iff]
  simp
theorem dec_str {i j : Str} : decide (V.str i = V.str j) = (i == j) := by
  rw [Bool.eq_iff_iff]
  simp
theorem dec_byt {i j : Array UInt8} : decide (V.byt i = V.byt j) = (i.toList == j.toList) := by
  rw [Bool.eq_iff_iff]
  cases i
  cases j
  simp

section
variable {X : Cx} {a b c : Expr} {ta tb tc : TE} {pos : Pos}
theorem fin_bl {pins : List (Addr × Obj)} {σ : St} {H : Hp} {s : Shared} {Q : VK} {k k' : Bool} (I : Inv X pins σ H s) (q : Q (.bl k) H) (e : k = k') : EP X pins σ Q (.bool k') s := by
  subst e
  exact ⟨.bl k, H, I, rfl, q⟩
theorem op_eq : OpR X (compareOp .Eq) rEq := by
  intro pins s σ H x y v u Q I rx ry h
  obtain ⟨hs, q⟩ := h
  cases x with
  | non =>
    cases rx
    cases y with
    | non => cases ry; exact PySem.EqNone.eq_none_none (fin_bl I q (by simp))
    | bl j => cases ry; exact PySem.EqNone.eq_none_bool (fin_bl I q (by simp))
    | int j => obtain ⟨t', rfl⟩ := ry; exact PySem.EqNone.eq_none_int (fin_bl I q (by simp))
    | str j => obtain ⟨t', rfl⟩ := ry; exact PySem.EqNone.eq_none_str (fin_bl I q (by simp))
    | _ => exact absurd (show false = true from hs) Bool.false_ne_true
  | bl i =>
    cases rx
    cases y with
    | non => cases ry; exact PySem.EqNone.eq_bool_none (fin_bl I q (by simp))
    | bl j => cases ry; exact eq_bool (fin_bl I q dec_bl)
    | str j => obtain ⟨t', rfl⟩ := ry; exact PySem.EqMixed.eq_bool_str (fin_bl I q (by simp))
    | _ => exact absurd (show false = true from hs) Bool.false_ne_true
  | int i =>
    obtain ⟨t, rfl⟩ := rx
    cases y with
    | non => cases ry; exact PySem.EqNone.eq_int_none (fin_bl I q (by simp))
    | int j => obtain ⟨t', rfl⟩ := ry; exact eq_int (fin_bl I q dec_int)
    | str j => obtain ⟨t', rfl⟩ := ry; exact PySem.EqMixed.eq_int_str (fin_bl I q (by simp))
    | _ => exact absurd (show false = true from hs) Bool.false_ne_true
  | str i =>
    obtain ⟨t, rfl⟩ := rx
    cases y with
    | non => cases ry; exact PySem.EqNone.eq_str_none (fin_bl I q (by simp))
    | bl j => cases ry; exact PySem.EqMixed.eq_str_bool (fin_bl I q (by simp))
    | int j => obtain ⟨t', rfl⟩ := ry; exact PySem.EqMixed.eq_str_int (fin_bl I q (by simp))
    | str j => obtain ⟨t', rfl⟩ := ry; exact eq_str (fin_bl I q dec_str)
    | _ => exact absurd (show false = true from hs) Bool.false_ne_true
  | byt i =>
    obtain ⟨t, rfl⟩ := rx
    cases y with
    | byt j => obtain ⟨t', rfl⟩ := ry; exact PySem.W.eq_bytes (fin_bl I q dec_byt)
    | _ => exact absurd (show false = true from hs) Bool.false_ne_true
  | _ => cases y <;> exact absurd (show false = true from hs) Bool.false_ne_true

theorem op_lt : OpR X (compareOp .Lt) (rI0 fun i j => .bl (decide (i < j))) := opB0 fun _ _ _ _ _ _ _ q => lt_int q
theorem op_le : OpR X (compareOp .LtE) (rI0 fun i j => .bl (decide (i ≤ j))) := opB0 fun _ _ _ _ _ _ _ q => le_int q
theorem op_gt : OpR X (compareOp .Gt) (rI0 fun i j => .bl (decide (j < i))) := opB0 fun _ _ _ _ _ _ _ q => gt_int q

theorem op_notN : OpR X (compareOp .IsNot) (fun x y H Q => y = .non ∧ Q (.bl (!decide (x = .non))) H) := by
  intro pins s σ H x y v u Q I rx ry h
  obtain ⟨rfl, q⟩ := h
  cases ry
  refine isnot_none_gen (fin_bl I q ?_)
  cases x <;> first
    | (cases rx; rfl)
    | (obtain ⟨t, rfl⟩ := rx; rfl)

/-- is, is not of two objects that are tracked lists or instances -/
def isObj : HO → Bool
  | .lst _ => true
  | .ins _ _ _ => true
  | _ => false


theorem nomark (b : Expr) {op : CmpOp} (h : op ≠ .In := by decide) (h2 : op ≠ .NotIn := by decide) : behindInMarks op b = false := by
  have e1 : (op == CmpOp.In) = false := by cases op <;> first | rfl | exact absurd rfl h
  have e2 : (op == CmpOp.NotIn) = false := by cases op <;> first | rfl | exact absurd rfl h2
  cases b <;> simp [behindInMarks, e1, e2]
/-- a comparison as a value; hm: nomark b, or (for in, not in) by with_unfolding_all rfl -/
theorem pe_cmpR {op : CmpOp} {r : R2} (ho : OpR X (compareOp op) r) (ha : PE X a ta) (hb : PE X b tb) (hm : behindInMarks op b = false) : PE X (.Compare a [op] [b] pos) (tOp r ta tb) := by
  intro pins s σ H Q I h
  exact wpAny_Compare1 (binT ha hb I h fun v u s2 x y H2 I2 rx ry q => ho pins s2 σ H2 x y v u Q I2 rx ry q) hm
/-- a reading of a value as a test -/
def tTest (t : TE) : TT := fun σ H Q => t σ H fun x H' => ∃ k, x = .bl k ∧ Q k H'
theorem pt_cmpR {op : CmpOp} {r : R2} (ho : OpR X (compareOp op) r) (ha : PE X a ta) (hb : PE X b tb) (hm : behindInMarks op b = false) : PT X (.Compare a [op] [b] pos) (tTest (tOp r ta tb)) := by
  intro pins s σ H Q I h
  refine wpAny_isTrue_Compare1 (thn (ha pins s σ H _ I h) fun v s1 ⟨x, H1, I1, r1, q1⟩ => thn (hb pins s1 σ H1 _ I1 q1) fun u s2 ⟨y, H2, I2, r2, q2⟩ =>
    thn (ho pins s2 σ H2 x y v u _ I2 r1 r2 q2) fun c s3 ⟨z, H3, I3, r3, k, e, q3⟩ => ?_) hm
  subst e
  cases r3
  exact wpAny_truthy_bool ⟨H3, I3, q3⟩
/-- a op1 b op2 c -/
def tChain (r r' : R2) (ta tb tc : TE) : TE := fun σ H Q => ta σ H fun x H1 => tb σ H1 fun y H2 => r x y H2 fun z H3 => ∃ k, z = .bl k ∧
  (if k = true then tc σ H3 fun w' H4 => r' y w' H4 Q else Q (.bl false) H3)

/-! ### truth -/
/-- a value's truth by the abstract heap -/
def TruV (K : PySem.W.Frag) (x : V) (H : Hp) (k : Bool) : Prop :=
  match x with
  | .non => k = false
  | .bl b => k = b
  | .int i => k = (i != 0)
  | .str y => y.length ≤ sizeLine ∧ k = ((y.length : Int) != 0)
  | .byt y => y.size ≤ sizeLine ∧ k = ((y.size : Int) != 0)
  | .ref p => (∃ xs, SqL K H p xs ∧ k = !xs.isEmpty) ∨ (∃ xs, SqT K H p xs ∧ k = !xs.isEmpty) ∨ ∃ kvs, H p = some (.dK kvs) ∧ k = !kvs.isEmpty
  | _ => False
theorem line63 : (sizeLine : Nat) < 2 ^ 63 := by rw [sizeLine_eq]; decide

/-! ### strs and bytes -/

def PlainIxT (b : Expr) : Prop := ∀ o i, subscripted b false o i = operate [o, i] (getItem o i)

/-! ### scalar builtins, by CallR -/
theorem vals1 {x : V} {us : List Value} (r : Vals [x] us) : ∃ u, us = [u] ∧ RelV x u := by
  cases r with
  | cons r1 r2 => cases r2; exact ⟨_, rfl, r1⟩
theorem call_int1 : CallR X (.type "int") (fun xs H Q => (∃ i, xs = [.int i] ∧ Q (.int i) H) ∨ ∃ k, xs = [.bl k] ∧ Q (.int (if k then 1 else 0)) H) := by
  intro pins s σ H xs us Q I r h
  rcases h with ⟨i, rfl, q⟩ | ⟨k, rfl, q⟩
  · obtain ⟨u, rfl, t, rfl⟩ := vals1 r
    exact call_int_int ⟨.int i, H, I, ⟨_, rfl⟩, q⟩
  · obtain ⟨u, rfl, r1⟩ := vals1 r
    cases r1
    exact call_int_bool ⟨.int (if k then 1 else 0), H, I.tok _, ⟨_, rfl⟩, q⟩
/-- len of a str, a bytes, a list, a tuple -/
def LenV (K : PySem.W.Frag) (x : V) (H : Hp) (n : Nat) : Prop :=
  match x with
  | .str y => y.length ≤ sizeLine ∧ n = y.length
  | .byt y => y.size ≤ sizeLine ∧ n = y.size
  | .ref p => (∃ xs, SqL K H p xs ∧ n = xs.length) ∨ ∃ xs, SqT K H p xs ∧ n = xs.length
  | _ => False
end
end L2

namespace L2
open PySem PySem.Spec PyProof.Rows

/-! ### an instance, its attributes a map -/
structure ObjM (h : Heap) (x dx C : Addr) (mA : Str → Option Value) : Prop where
  obj : h.get? x = some (PySem.W.instObj C dx)
  ns : h.Ns1 dx mA
  ne : dx ≠ x

theorem lookIn_ns {h : Heap} {dx : Addr} {mA : Str → Option Value} (n : h.Ns1 dx mA) : ∃ od, h.get? dx = some od ∧ ∀ name, PySem.W.lookIn name od = some (mA name) := by
  obtain ⟨o, es, ep, ho, hd, hk, _, hm⟩ := n
  refine ⟨o, ho, fun name => ?_⟩
  have e := hm name
  unfold nsFind findBy at e
  rw [← Array.find?_toList] at e
  unfold PySem.W.lookIn
  rw [hd]
  dsimp only
  split
  · rename_i y q
    rw [q] at e
    exact congrArg some e
  · rename_i q
    rw [q] at e
    have a : es.toList.any (·.refKey) = false := by
      rw [List.any_eq_false]
      intro y hy
      obtain ⟨z, t, hkey⟩ := hk y (Array.mem_toList_iff.mp hy)
      simp [DictEntry.refKey, hkey]
    have a' : ¬ es.toList.any (·.refKey) = true := by rw [a]; exact Bool.false_ne_true
    rw [if_neg a']
    exact congrArg some e

theorem ObjM.look {h : Heap} {x dx C : Addr} {mA : Str → Option Value} (I : ObjM h x dx C mA) : ∃ od, PySem.W.InstAt h x (PySem.W.instObj C dx) C (some od) ∧ ∀ name, PySem.W.lookIn name od = some (mA name) :=
  let ⟨od, ho, hl⟩ := lookIn_ns I.ns
  ⟨od, ⟨I.obj, rfl, rfl, ho⟩, hl⟩

section
variable {prog : Program} {w : World} {A : Around} {E : Value → Shared → Prop} {s : Shared} {K : PySem.W.Frag} {x dx C f : Addr} {mA : Str → Option Value} {name : Str} {v : Value}

theorem get_map {expr : Bool} {Q : Value → Shared → Prop} (X : K.In s.heap) (I : ObjM s.heap x dx C mA) (hg : PySem.W.plainGet K C name = true) (hh : PySem.W.hasDictIn K C = true)
    (ha : PySem.W.findIn K (.ref C) name = some none) (hv : mA name = some v) (hv' : PySem.W.handedIn v = true) (h : Q v { s with toks := s.toks + 1 }) :
    wpAny (model prog w) A (getAttr (.ref x) name expr) Q E s := by
  obtain ⟨od, J, hl⟩ := I.look
  exact PySem.W.get_value X J (PySem.W.plainGet_of hg).1 (PySem.W.findObj_own hh ha rfl (by rw [hl, hv])) hv' h


theorem get_meth {pl : Sem Bool} {Q : Value × List Value → Shared → Prop} (X : K.In s.heap) (I : ObjM s.heap x dx C mA) (hg : PySem.W.plainGet K C name = true)
    (hf : PySem.W.findIn K (.ref C) name = some (some (.ref f))) (ht : PySem.W.isFn K (.ref f) = true) (hv : mA name = none) (h : Q (.ref f, [.ref x]) s) :
    wpAny (model prog w) A (getMethod (.ref x) name pl) Q E s := by
  obtain ⟨od, J, hl⟩ := I.look
  exact PySem.W.method_fn X J (PySem.W.plainGet_of hg).1 (PySem.W.plainGet_of hg).2 hf (beq_iff_eq.mp ht) (by show (PySem.W.lookIn name od).map (·.isSome) = some false; rw [hl, hv]; rfl) h

theorem set_map {ns : List Str} {Q : Unit → Shared → Prop} (X : K.In s.heap) (I : ObjM s.heap x dx C mA)
    (hs : PySem.W.findIn K (.ref C) "__setattr__" = some (some (.builtin "object.__setattr__"))) (hp : PySem.W.plainOver K C = true) (ht : PySem.W.takerIn K C name = some none) (hh : PySem.W.hasDictIn K C = true)
    (hw : PySem.Within mA ns) (hsz : ns.length ≤ sizeLine)
    (h : ∀ h', ObjM h' x dx C (fun y => if y = name then some v else mA y) → Heap.SameBut dx s.heap h' → Q () { s with heap := h', toks := s.toks + 2 }) :
    wpAny (model prog w) A (setAttr (.ref x) name v) Q E s := by
  obtain ⟨od, J, hl⟩ := I.look
  refine PySem.W.set_plain X J hs (PySem.W.osa_open (s := { s with toks := s.toks + 1 }) (r := none) X J hp ht fun b => ?_)
  obtain ⟨cd, hc, hd'⟩ := PySem.W.any_some hh
  have hx : s.heap.get? x = some ⟨.ref C, some dx, .plain, #[]⟩ := I.obj
  refine wpAny_bind (wpAny_pure (wpAny_bind (wpAny_bind (wpAny_loadPart hx (wpAny_bind (PySem.W.Looks.here (s := { s with toks := s.toks + 1 }) (PySem.W.looks_clsIn X hc) ?_))))))
  rw [hd']
  refine wpAny_pure (a := some dx) (wpAny_bind (wpAny_pure (wpAny_bind ?_)))
  refine wpAny_nsSet1 (s := { s with toks := s.toks + 1 }) I.ns fun h' hn2 hs2 => ?_
  obtain ⟨oD, esD, epD, hoD, hdD, hcD⟩ := hn2.count (PySem.Within.cons name v hw)
  refine wpAny_bind (wpAny_lookBehind hoD (by rw [hdD]; exact pastItsLine_dict (Nat.le_trans hcD (by rw [List.length_cons]; omega))) ?_)
  exact wpAny_pure (h _ ⟨(hs2.2 _ (Ne.symm I.ne)).trans I.obj, hn2, I.ne⟩ hs2)

/-- C(..): the dict at the heap's end, the instance behind it; then its __init__ -/
theorem make_map {R : Result → Shared → Prop} {vs : List Value} {kw : List (Str × Value)} (X : K.In s.heap) (hm : PySem.W.makesIn K C = true)
    (hi : PySem.W.findIn K (.ref C) "__init__" = some (some (.ref f))) (hf : PySem.W.typeIn K (.ref f) = some (.type "function"))
    (h : codeAny (model prog w) (A.under (.builtin "type.__call__" ⟨.ref C :: vs, kw⟩)) (.call (.ref f) ⟨.ref (s.heap.objs.size + 1) :: vs, kw⟩) (PySem.W.InitBack (s.heap.objs.size + 1) R)
      { s with heap := (s.heap.push PySem.W.emptyDict).push (PySem.W.instObj C s.heap.objs.size) }) :
    codeAny (model prog w) A (.call (.ref C) ⟨vs, kw⟩) R s := by
  obtain ⟨hh, g, d, t, os⟩ := s
  exact PySem.W.make_core (PySem.W.makes_of X hm) (PySem.W.looks_findIn X hi) (fun self => PySem.W.bind_fn X self hf) (.inl rfl) h
end

/-! ### the attributes as a list of pairs -/
def putF (f : Str) (v : V) : List (Str × V) → List (Str × V)
  | [] => [(f, v)]
  | (g, x) :: r => if g = f then (g, v) :: r else (g, x) :: putF f v r
theorem lookup_putF (f g : Str) (v : V) : ∀ fs : List (Str × V), (putF f v fs).lookup g = if g = f then some v else fs.lookup g
  | [] => by
    show List.lookup g [(f, v)] = _
    by_cases h : g = f
    · have hb : (g == f) = true := beq_iff_eq.mpr h
      simp only [List.lookup, hb, if_pos h]
    · have hb : (g == f) = false := beq_eq_false_iff_ne.mpr h
      simp only [List.lookup, hb, if_neg h]
  | (k, x) :: r => by
    have ih := lookup_putF f g v r
    rw [show putF f v ((k, x) :: r) = (if k = f then (k, v) :: r else (k, x) :: putF f v r) from rfl]
    by_cases hk : k = f
    · rw [if_pos hk]
      by_cases h : g = k
      · have hb : (g == k) = true := beq_iff_eq.mpr h
        simp only [List.lookup, hb, if_pos (h.trans hk)]
      · have hb : (g == k) = false := beq_eq_false_iff_ne.mpr h
        simp only [List.lookup, hb, if_neg (fun e : g = f => h (e.trans hk.symm))]
    · rw [if_neg hk]
      by_cases h : g = k
      · have hb : (g == k) = true := beq_iff_eq.mpr h
        simp only [List.lookup, hb, if_neg (fun e : g = f => hk (h.symm.trans e))]
      · have hb : (g == k) = false := beq_eq_false_iff_ne.mpr h
        simp only [List.lookup, hb]
        exact ih
theorem keys_putF (f : Str) (v : V) : ∀ fs : List (Str × V), f ∈ (putF f v fs).map (·.1) ∧ ∀ g, g ∈ fs.map (·.1) → g ∈ (putF f v fs).map (·.1)
  | [] => ⟨by simp [putF], fun g h => by simp at h⟩
  | (k, x) :: r => by
    obtain ⟨i1, i2⟩ := keys_putF f v r
    rw [show putF f v ((k, x) :: r) = (if k = f then (k, v) :: r else (k, x) :: putF f v r) from rfl]
    by_cases hk : k = f
    · rw [if_pos hk]
      subst hk
      exact ⟨by simp, fun g h => by simpa using h⟩
    · rw [if_neg hk]
      refine ⟨?_, fun g h => ?_⟩
      · rw [List.map_cons]
        exact List.mem_cons_of_mem _ i1
      · rw [List.map_cons] at h ⊢
        rcases List.mem_cons.mp h with e | e
        · exact List.mem_cons.mpr (.inl e)
        · exact List.mem_cons_of_mem _ (i2 g e)
theorem length_putF (f : Str) (v : V) : ∀ fs : List (Str × V), (putF f v fs).length ≤ fs.length + 1
  | [] => by simp [putF]
  | (k, x) :: r => by
    have ih := length_putF f v r
    rw [show putF f v ((k, x) :: r) = (if k = f then (k, v) :: r else (k, x) :: putF f v r) from rfl]
    by_cases hk : k = f
    · rw [if_pos hk, List.length_cons, List.length_cons]; omega
    · rw [if_neg hk, List.length_cons, List.length_cons]; omega

theorem RelO.some_of {v : V} {o : Option Value} (r : RelO (some v) o) : ∃ u, o = some u ∧ RelV v u := by
  cases o with
  | none => exact (show False from r).elim
  | some u => exact ⟨u, rfl, r⟩
theorem RelO.none_of {o : Option Value} (r : RelO none o) : o = none := by
  cases o with
  | none => rfl
  | some u => exact (show False from r).elim
theorem handed_of {v : V} {u : Value} (r : RelV v u) : PySem.W.handedIn u = true := by
  cases v with
  | non => cases (show u = Value.none from r); rfl
  | bl b => cases (show u = Value.bool b from r); rfl
  | int i => obtain ⟨t, e⟩ := (show ∃ t, u = Value.int i t from r); cases e; rfl
  | str x => obtain ⟨t, e⟩ := (show ∃ t, u = Value.str x t from r); cases e; rfl
  | byt b => obtain ⟨t, e⟩ := (show ∃ t, u = Value.bytes b t from r); cases e; rfl
  | flt b => obtain ⟨t, e⟩ := (show ∃ t, u = Value.float b t from r); cases e; rfl
  | ref a => cases (show u = Value.ref a from r); rfl
  | ty n => cases (show u = Value.type n from r); rfl

section
variable {P : Program} {w : World} {H H' : Hp} {h h' : Heap} {a C dx : Addr} {fs fs' : List (Str × V)}
theorem ins_get (hok : HOk P w H h) (e : H a = some (.ins C dx fs)) : ∃ mA, ObjM h a dx C mA ∧ (∀ f, RelO (fs.lookup f) (mA f)) ∧ PySem.Within mA (fs.map (·.1)) ∧ fs.length ≤ 1000 ∧ H dx = some (.own a) := by
  obtain ⟨d, z, ne, ob, mA, n, r, q⟩ := (show ObjOk P w H h a (.ins C dx fs) from hok a _ e)
  exact ⟨mA, ⟨ob, n, ne⟩, r, q, z, d⟩
end

/-! ### what of the text a class must have -/
structure Cls (K : PySem.W.Frag) (C : Addr) : Prop where
  pg : PySem.W.plainGet K C Str.empty = true
  hd : PySem.W.hasDictIn K C = true
  po : PySem.W.plainOver K C = true
  sa : PySem.W.findIn K (.ref C) "__setattr__" = some (some (.builtin "object.__setattr__"))
theorem Cls.get {K : PySem.W.Frag} {C : Addr} (c : Cls K C) (f : Str) : PySem.W.plainGet K C f = true := c.pg
/-- no class of it has the name -/
def NoAttr (K : PySem.W.Frag) (C : Addr) (f : Str) : Prop := PySem.W.findIn K (.ref C) f = some none
theorem NoAttr.taker {K : PySem.W.Frag} {C : Addr} {f : Str} (n : NoAttr K C f) : PySem.W.takerIn K C f = some none := by
  unfold PySem.W.takerIn
  rw [show PySem.W.findIn K (.ref C) f = some none from n]
  rfl
/-- a constant of the class -/
structure Con (K : PySem.W.Frag) (C : Addr) (f : Str) (v : V) (u : Value) : Prop where
  at_ : PySem.W.findIn K (.ref C) f = some (some u)
  rel : RelV v u
  get : PySem.W.specialIn K u "__get__" = some none
  cp : PySem.W.copiedNames.contains f = false
/-- a method: a plain def of the class or of one above it -/
structure Meth (K : PySem.W.Frag) (C : Addr) (m : Str) (f : Addr) : Prop where
  at_ : PySem.W.findIn K (.ref C) m = some (some (.ref f))
  fn : PySem.W.isFn K (.ref f) = true
  kp : PySem.W.keepIn K (.ref f) = true

section
variable {X : Cx} {pins : List (Addr × Obj)} {σ : St} {H : Hp} {s : Shared} {a C dx : Addr} {fs : List (Str × V)} {f : Str} {v : V} {A : Around} {E : Value → Shared → Prop}

theorem getattr_ok {b : Bool} {Q : Value → Shared → Prop} (I : Inv X pins σ H s) (e : H a = some (.ins C dx fs)) (c : Cls X.K C) (n : NoAttr X.K C f) (l : fs.lookup f = some v)
    (h : ∀ u s', Inv X pins σ H s' → RelV v u → Q u s') : wpAny (model X.prog X.w) A (getAttr (.ref a) f b) Q E s := by
  obtain ⟨mA, O, r, _, _, _⟩ := ins_get I.hok e
  obtain ⟨u, hu, ru⟩ := RelO.some_of (v := v) (o := mA f) (by rw [← l]; exact r f)
  exact get_map I.kIn O (c.get f) c.hd n hu (handed_of ru) (h u _ (I.tok _) ru)


theorem getmeth_ok {m : Str} {g : Addr} {pl : Sem Bool} {Q : Value × List Value → Shared → Prop} (I : Inv X pins σ H s) (e : H a = some (.ins C dx fs)) (c : Cls X.K C) (k : Meth X.K C m g) (l : fs.lookup m = none)
    (h : Q (.ref g, [.ref a]) s) : wpAny (model X.prog X.w) A (getMethod (.ref a) m pl) Q E s := by
  obtain ⟨mA, O, r, _, _, _⟩ := ins_get I.hok e
  have hn : mA m = none := RelO.none_of (by rw [← l]; exact r m)
  exact get_meth I.kIn O (c.get m) k.at_ k.fn hn h

theorem setattr_ok {y : V} {u : Value} {Q : Unit → Shared → Prop} (I : Inv X pins σ H s) (e : H a = some (.ins C dx fs)) (c : Cls X.K C) (n : NoAttr X.K C f) (hl : fs.length < 1000) (ry : RelV y u)
    (h : ∀ s', Inv X pins σ (upd H a (.ins C dx (putF f y fs))) s' → Q () s') : wpAny (model X.prog X.w) A (setAttr (.ref a) f u) Q E s := by
  obtain ⟨mA, O, r, wi, _, ho⟩ := ins_get I.hok e
  have hz : (fs.map (·.1)).length ≤ sizeLine := by rw [List.length_map, sizeLine_eq]; omega
  refine set_map I.kIn O c.sa c.po n.taker c.hd wi hz fun h' O' sb => h _ ?_
  have hd : ∃ o, h'.get? dx = some o := let ⟨o, _, _, e', _⟩ := O'.ns; ⟨o, e'⟩
  refine I.write (x := a) (e := dx) (by rw [e]; exact True.intro) (.inr ho) (fun b q hb z => (sb.2 b hb).trans z) hd ?_
  refine ⟨by rw [upd_ne O.ne]; exact ho, ?_, O.ne, O'.obj, _, O'.ns, fun g => ?_, fun g hg => ?_⟩
  · have := length_putF f y fs; omega
  · show RelO ((putF f y fs).lookup g) (if g = f then some u else mA g)
    rw [lookup_putF]
    by_cases q : g = f
    · rw [if_pos q, if_pos q]; exact ry
    · rw [if_neg q, if_neg q]; exact r g
  · by_cases q : g = f
    · rw [q]; exact (keys_putF f y fs).1
    · refine (keys_putF f y fs).2 g (wi g fun z => hg ?_)
      show (if g = f then some u else mA g) = none
      rw [if_neg q]; exact z

/-- a new instance, tracked, without attributes -/
theorem Inv.made (I : Inv X pins σ H s) : Inv X pins σ (upd (upd H s.heap.objs.size (.own (s.heap.objs.size + 1))) (s.heap.objs.size + 1) (.ins C s.heap.objs.size []))
    { s with heap := (s.heap.push PySem.W.emptyDict).push (PySem.W.instObj C s.heap.objs.size) } := by
  have e1 : (s.heap.push PySem.W.emptyDict).get? s.heap.objs.size = some PySem.W.emptyDict := Heap.get?_push_size s.heap rfl
  have e2 : ((s.heap.push PySem.W.emptyDict).push (PySem.W.instObj C s.heap.objs.size)).get? (s.heap.objs.size + 1) = some (PySem.W.instObj C s.heap.objs.size) := by
    have := Heap.get?_push_size (s.heap.push PySem.W.emptyDict) (o := PySem.W.instObj C s.heap.objs.size) rfl
    rwa [Heap.size_push] at this
  have e3 : (s.heap.push PySem.W.emptyDict).Ns s.heap.objs.size (fun _ => none) := ⟨PySem.W.emptyDict, #[], _, e1, rfl, (fun e he => absurd he (by simp)), fun _ => rfl⟩
  have I1 := I.laid (a := s.heap.objs.size) (o := .own (s.heap.objs.size + 1)) (h' := s.heap.push PySem.W.emptyDict) (t' := s.toks) (fun b u q => Heap.get?_push_of_some _ q) (Nat.le_refl _) ⟨_, e1⟩
  refine I1.laid (a := s.heap.objs.size + 1) (o := .ins C s.heap.objs.size []) (t' := s.toks) (fun b u q => Heap.get?_push_of_some _ q) (Nat.le_of_eq (Heap.size_push _ _)) ?_
  have ne : s.heap.objs.size ≠ s.heap.objs.size + 1 := Nat.ne_of_lt (Nat.lt_succ_self _)
  refine ⟨by rw [upd_ne ne, upd_same], Nat.zero_le _, ne, e2, fun _ => none, (Heap.Ns1.of_empty e3).at fun o q => Heap.get?_push_of_some _ q, fun _ => True.intro, fun y hy => absurd rfl hy⟩

/-- e.f where nothing but the object is asked: through attributeBase (super) and the last hold -/
theorem attr_of {prog : Program} {w : World} {env : Env} {e : Expr} {f : Str} {pos : Pos} {s : Shared} {Q : Value → Shared → Prop} (hb : attributeBase e f env (eval e env) = eval e env)
    (h : wpAny (model prog w) A (eval e env) (fun o s₁ => wpAny (model prog w) A (getAttr o f true) Q E s₁) E s) : wpAny (model prog w) A (eval (.Attribute e f pos) env) Q E s :=
  Attribute_any_ h (by rw [arm_eval_Attribute, hb])
end

/-! ### readings and rules -/
/-- e.f, an attribute of the instance -/
def tFld (K : PySem.W.Frag) (ta : TE) (f : Str) : TE := fun σ H Q => ta σ H fun x H1 => ∃ a C dx fs v, x = .ref a ∧ H1 a = some (.ins C dx fs) ∧ Cls K C ∧ NoAttr K C f ∧ fs.lookup f = some v ∧ Q v H1
/-- e.f, a constant of the class -/
def tCon (K : PySem.W.Frag) (ta : TE) (f : Str) : TE := fun σ H Q => ta σ H fun x H1 => ∃ a C dx fs v u, x = .ref a ∧ H1 a = some (.ins C dx fs) ∧ Cls K C ∧ Con K C f v u ∧ fs.lookup f = none ∧ Q v H1
/-- e.f = value -/
def sFld (K : PySem.W.Frag) (ta tv : TE) (f : Str) : TS := fun D σ H => tv σ H fun y H1 => ta σ H1 fun x H2 => ∃ a C dx fs, x = .ref a ∧ H2 a = some (.ins C dx fs) ∧ Cls K C ∧ NoAttr K C f ∧ fs.length < 1000 ∧
  D.nx σ (upd H2 a (.ins C dx (putF f y fs)))
/-- an augmented operator on two values -/
def InOp (X : Cx) (op : Operator) (rd : V → V → Hp → VK → Prop) : Prop :=
  ∀ (pins : List (Addr × Obj)) (s : Shared) (σ : St) (H : Hp) (x y : V) (u v : Value) (Q : VK), Inv X pins σ H s → RelV x u → RelV y v → rd x y H Q → wpAny (model X.prog X.w) X.A (inplaceOp op u v) (EP X pins σ Q) X.xe s
/-- e.f op= value -/
def sFldAug (K : PySem.W.Frag) (ta tv : TE) (rd : V → V → Hp → VK → Prop) (f : Str) : TS := fun D σ H => ta σ H fun x H1 => ∃ a C dx fs v, x = .ref a ∧ H1 a = some (.ins C dx fs) ∧ Cls K C ∧ NoAttr K C f ∧ fs.lookup f = some v ∧
  tv σ H1 fun y H2 => rd v y H2 fun z H3 => ∃ dx' fs', H3 a = some (.ins C dx' fs') ∧ fs'.length < 1000 ∧ D.nx σ (upd H3 a (.ins C dx' (putF f z fs')))

section
variable {X : Cx} {o e value : Expr} {f : Str} {pos pos' tpos : Pos} {ta tv : TE}
theorem pe_fld (he : PE X e ta) (hb : attributeBase e f X.env (eval e X.env) = eval e X.env) : PE X (.Attribute e f pos) (tFld X.K ta f) := by
  intro pins s σ H Q I h
  refine attr_of hb (thn (he pins s σ H _ I h) fun u s1 ⟨x, H1, I1, rx, a, C, dx, fs, v, ex, ea, c, n, l, q⟩ => ?_)
  subst ex
  obtain rfl : u = Value.ref a := rx
  exact getattr_ok I1 ea c n l fun u' s2 I2 ru => ⟨v, H1, I2, ru, q⟩
theorem ps_fld (ha : PE X o ta) (hv : PE X value tv) (hs : swapsWith value (some (.Attribute o f pos')) pos.line X.env = pure false) : PS X (.Assign [.Attribute o f pos'] value pos) (sFld X.K ta tv f) := by
  intro pins s σ H D I h
  refine plainObj_wpAny_Assign_Attribute (thn (hv pins s σ H _ I h) fun u s1 ⟨y, H1, I1, ry, q⟩ => thn (ha pins s1 σ H1 _ I1 q) fun ov s2 ⟨x, H2, I2, rx, a, C, dx, fs, ex, ea, c, n, l, q2⟩ => ?_) hs
  subst ex
  obtain rfl : ov = Value.ref a := rx
  exact setattr_ok I2 ea c n l ry fun s3 I3 => ⟨σ, _, I3, q2⟩
def rAdd : V → V → Hp → VK → Prop := fun x y H Q => ∃ i j, x = .int i ∧ y = .int j ∧ Q (.int (i + j)) H
def rSub : V → V → Hp → VK → Prop := fun x y H Q => ∃ i j, x = .int i ∧ y = .int j ∧ Q (.int (i - j)) H

/-- what is between an instance and its method: the tree of a method call -/
theorem methcall_of {pl : Sem Bool} {m : Str} {apos : Pos} {args : List Expr} {pins : List (Addr × Obj)} {s : Shared} {σ : St} {H : Hp} {Q : Value → Shared → Prop} {te : TE} (he : PE X e te) (I : Inv X pins σ H s)
    (h : te σ H fun x H1 => ∃ a C dx fs g, x = .ref a ∧ H1 a = some (.ins C dx fs) ∧ Cls X.K C ∧ Meth X.K C m g ∧ fs.lookup m = none ∧
      ∀ s1, Inv X pins σ H1 s1 → wpAny (model X.prog X.w) X.A (callWith pos (.ref g) [.ref a] (backTo pos (starEach args X.env)) (backToKw pos (keywordEach [] X.env))) Q X.xe s1)
    (ht : eval (.Call (.Attribute e m apos) args [] pos) X.env = (do
      let ov ← eval e X.env
      standAt apos.atName
      let (f, first) ← holding [ov] (getMethod ov m pl)
      callWith pos f first (backTo pos (starEach args X.env)) (backToKw pos (keywordEach [] X.env)))) :
    wpAny (model X.prog X.w) X.A (eval (.Call (.Attribute e m apos) args [] pos) X.env) Q X.xe s := by
  refine PySem.W.methodCall_KW (pl := pl) (thn (he pins s σ H _ I h) fun u s1 ⟨x, H1, I1, rx, a, C, dx, fs, g, ex, ea, c, k, l, q⟩ => ?_) ht
  subst ex
  obtain rfl : u = Value.ref a := rx
  exact getmeth_ok I1 ea c k l (q s1 I1)
end

/-! ### isinstance -/
section
variable {X : Cx} {pins : List (Addr × Obj)} {σ : St} {H : Hp} {s : Shared} {A : Around} {E : Value → Shared → Prop} {Q : Value → Shared → Prop} {c : Value} {b : Bool}
/-- the type of a value, as the fragment's deciders take it; for an instance its class -/
inductive TyOf (K : PySem.W.Frag) (H : Hp) : V → Value → Prop where
  | non : TyOf K H .non (.type "NoneType")
  | bl (x : Bool) : TyOf K H (.bl x) (.type "bool")
  | int (i : Int) : TyOf K H (.int i) (.type "int")
  | str (x : Str) : TyOf K H (.str x) (.type "str")
  | flt (x : UInt64) : TyOf K H (.flt x) (.type "float")
  | lst {a : Addr} {xs : List V} (e : H a = some (.lst xs)) : TyOf K H (.ref a) (.type "list")
  | frz {a : Addr} {o : Obj} {xs : List V} (e : H a = some (.frz o (.lst xs))) : TyOf K H (.ref a) (.type "list")
  | tup {a : Addr} {xs : List V} (e : H a = some (.tup xs)) : TyOf K H (.ref a) (.type "tuple")
  | dK {a : Addr} {kvs : List (Key × V)} (e : H a = some (.dK kvs)) : TyOf K H (.ref a) (.type "dict")
  | dT {a : Addr} {kvs : List (List Key × V)} (e : H a = some (.dT kvs)) : TyOf K H (.ref a) (.type "dict")
  | ins {a C dx : Addr} {fs : List (Str × V)} (e : H a = some (.ins C dx fs)) (cl : Cls K C) (ha : PySem.W.findIn K (.ref C) "__class__" = some (some (.builtin "object.__class__")))
      (hn : PySem.W.specialIn K (.builtin "object.__class__") "__get__" = some (some (.builtin "getset_descriptor.__get__"))) (htk : PySem.W.takesIn K (.builtin "object.__class__") = some true)
      (hm : PySem.W.mroIn K C (.type "object") = some true) : TyOf K H (.ref a) (.ref C)
/-- isinstance(x, c) for one class c, a built-in or an own one: kitOne's answer -/
theorem isinst_ok {x : V} {u t : Value} (I : Inv X pins σ H s) (rx : RelV x u) (ty : TyOf X.K H x t) (e : PySem.W.kitOne X.K t c = some b) (h : ∀ tk, Q (.bool b) { s with toks := tk }) :
    wpAny (model X.prog X.w) A (call (.builtin "isinstance") [u, c]) Q E s := by
  cases ty with
  | non => cases (show u = Value.none from rx); exact PySem.W.kia_one PySem.W.kitx_none I.kIn True.intro e (fun z => nomatch z) h
  | bl y => cases (show u = Value.bool y from rx); exact PySem.W.kia_one PySem.W.kitx_bool I.kIn True.intro e (fun z => nomatch z) h
  | int i => obtain ⟨t, q⟩ := (show ∃ t, u = Value.int i t from rx); cases q; exact PySem.W.kia_one PySem.W.kitx_int I.kIn True.intro e (fun z => nomatch z) h
  | str y => obtain ⟨t, q⟩ := (show ∃ t, u = Value.str y t from rx); cases q; exact PySem.W.kia_one PySem.W.kitx_str I.kIn True.intro e (fun z => nomatch z) h
  | flt y => obtain ⟨t, q⟩ := (show ∃ t, u = Value.float y t from rx); cases q; exact PySem.W.kia_one PySem.W.kitx_float I.kIn True.intro e (fun z => nomatch z) h
  | @lst a xs ea =>
    cases (show u = Value.ref a from rx)
    obtain ⟨_, _, n, _, h1⟩ := (show ObjOk X.prog X.w H s.heap a (.lst xs) from I.hok a _ ea)
    exact PySem.W.kia_one PySem.W.kitx_list I.kIn ⟨_, h1, rfl⟩ e (fun z => nomatch z) h
  | @frz a ob xs ea =>
    cases (show u = Value.ref a from rx)
    obtain ⟨_, _, _, n, _, h1⟩ := (show ObjOk X.prog X.w H s.heap a (.frz ob (.lst xs)) from I.hok a _ ea)
    exact PySem.W.kia_one PySem.W.kitx_list I.kIn ⟨_, h1, rfl⟩ e (fun z => nomatch z) h
  | @tup a xs ea =>
    cases (show u = Value.ref a from rx)
    obtain ⟨_, _, _, p⟩ := (show ObjOk X.prog X.w H s.heap a (.tup xs) from I.hok a _ ea)
    obtain ⟨o, h1, h2, _⟩ := p
    exact PySem.W.kia_one PySem.W.kitx_tuple I.kIn ⟨o, h1, h2⟩ e (fun z => nomatch z) h
  | @dK a kvs ea =>
    cases (show u = Value.ref a from rx)
    obtain ⟨_, _, vs, _, p⟩ := (show ObjOk X.prog X.w H s.heap a (.dK kvs) from I.hok a _ ea)
    obtain ⟨o, es, ep, h1, h2, _⟩ := p
    exact PySem.W.kia_one PySem.W.kitx_dict I.kIn ⟨o, h1, h2.1⟩ e (fun z => nomatch z) h
  | @dT a kvs ea =>
    cases (show u = Value.ref a from rx)
    obtain ⟨_, _, xs, _, o, es, ep, h1, h2, _⟩ := (show ObjOk X.prog X.w H s.heap a (.dT kvs) from I.hok a _ ea)
    exact PySem.W.kia_one PySem.W.kitx_dict I.kIn ⟨o, h1, h2.1⟩ e (fun z => nomatch z) h
  | @ins a C dx fs ea cl ha hn htk hm =>
    cases (show u = Value.ref a from rx)
    obtain ⟨mA, O, _⟩ := ins_get I.hok ea
    obtain ⟨od, J, _⟩ := O.look
    exact PySem.W.kia_one (PySem.W.kitx_own (cl.get _) cl.hd ha hn htk hm) I.kIn J e (fun z => nomatch z) h
end
end L2

namespace L2
open PySem PySem.Spec PyProof.Rows

/-! ### room -/
structure Room (k : Nat) (A : Around) : Prop where
  hd : A.handled = none
  dp : A.depth + 3 * k + 5 < recursionLimit
  un : A.units + 16 * k + 200 < cLine
theorem Room.mono {j k : Nat} {A : Around} (r : Room k A) (h : j ≤ k) : Room j A := ⟨r.hd, by have := r.dp; omega, by have := r.un; omega⟩
theorem Room.deeper {k : Nat} {A : Around} (r : Room (k + 1) A) (env : Env) : Room k (A.deeper env) :=
  ⟨r.hd, by have := r.dp; show A.depth + 1 + 3 * k + 5 < _; omega, by have := r.un; show A.units + 3 + 16 * k + 200 < _; omega⟩
theorem make_depth {A : Around} {C : Addr} {us : List Value} {kw : List (Str × Value)} : (A.under (.builtin "type.__call__" ⟨.ref C :: us, kw⟩)).depth = A.depth + 1 := by
  first | rfl | simp [Around.under, Code.weight, Code.isCreation, Code.isGuard, Code.isCaller, Code.frames, Code.isFrame, guardIds]
theorem make_units {A : Around} {C : Addr} {us : List Value} {kw : List (Str × Value)} : (A.under (.builtin "type.__call__" ⟨.ref C :: us, kw⟩)).units = A.units + 1 := by
  first | rfl | simp [Around.under, Code.cUnits, Code.frames, Code.isFrame]
theorem Room.make {k : Nat} {A : Around} (r : Room (k + 1) A) (C : Addr) (us : List Value) (kw : List (Str × Value)) : Room k (A.under (.builtin "type.__call__" ⟨.ref C :: us, kw⟩)) :=
  ⟨r.hd, by have := r.dp; rw [make_depth]; omega, by have := r.un; rw [make_units]; omega⟩
theorem Room.depth {k : Nat} {A : Around} (r : Room k A) : A.depth < recursionLimit := by have := r.dp; omega
theorem Room.units {k : Nat} {A : Around} (r : Room k A) : A.units + 64 < cLine := by have := r.un; omega

/-! ### argument lists and displays -/
def tNil : TA := fun _ H Q => Q [] H
def tCons (ta : TE) (tr : TA) : TA := fun σ H Q => ta σ H fun x H1 => tr σ H1 fun xs H2 => Q (x :: xs) H2
section
variable {X : Cx} {e : Expr} {es : List Expr} {te : TE} {t : TA} {pos : Pos}
theorem pa_nil : PA X [] tNil := fun _ _ _ _ H Q I h => Calls.spliced_nil ⟨[], H, I, .nil, h⟩
theorem pa_cons (ha : PE X e te) (hr : PA X es t) (hs : starEach (e :: es) X.env = (false, eval e X.env) :: starEach es X.env := by rfl) : PA X (e :: es) (tCons te t) := by
  intro pos pins s σ H Q I h
  rw [hs]
  show wpAny _ _ (spliced ((false, eval e X.env) :: backTo pos (starEach es X.env))) _ _ s
  refine Calls.spliced_cons (thn (ha pins s σ H _ I h) fun u s1 ⟨x, H1, I1, r1, q1⟩ => ?_)
  exact thn (hr pos pins s1 σ H1 _ I1 q1) fun us s2 ⟨xs, H2, I2, r2, q2⟩ => ⟨x :: xs, H2, I2, .cons r1 r2, q2⟩

/-- a tuple, a list of written items -/
def tTup (t : TA) : TE := fun σ H Q => t σ H fun xs H1 => xs.length ≤ sizeLine ∧ ∀ p, H1 p = none → Q (.ref p) (upd H1 p (.tup xs))
def tLst (t : TA) : TE := fun σ H Q => t σ H fun xs H1 => xs.length ≤ sizeLine ∧ ∀ p, H1 p = none → Q (.ref p) (upd H1 p (.lst xs))
theorem pe_tup {x1} (h : PA X es t) : PE X (.Tuple es x1 pos) (tTup t) := by
  intro pins s σ H Q I hq
  refine wpAny_Tuple_spliced (thn (h pos pins s σ H _ I hq) fun us s1 ⟨xs, H1, I1, r, z, q⟩ => ⟨by rw [← r.length]; exact z, ?_⟩)
  have hf : H1 s1.heap.objs.size = none := I1.hok.fresh (Nat.le_refl _)
  refine ⟨.ref s1.heap.objs.size, upd H1 s1.heap.objs.size (.tup xs), I1.laid (t' := s1.toks) (fun b u e => Heap.get?_push_of_some _ e) (Nat.le_refl _) ?_, rfl, q _ hf⟩
  exact ⟨z, us, r, ⟨_, Heap.get?_push_size _ rfl, rfl, _, rfl⟩⟩
theorem pe_lst (h : PA X es t) : PE X (.List es pos) (tLst t) := by
  intro pins s σ H Q I hq
  refine wpAny_List_spliced (thn (h pos pins s σ H _ I hq) fun us s1 ⟨xs, H1, I1, r, z, q⟩ => ⟨by rw [← r.length]; exact z, ?_⟩)
  have hf : H1 s1.heap.objs.size = none := I1.hok.fresh (Nat.le_refl _)
  refine ⟨.ref s1.heap.objs.size, upd H1 s1.heap.objs.size (.lst xs), I1.laid (t' := s1.toks) (fun b u e => Heap.get?_push_of_some _ e) (Nat.le_refl _) ?_, rfl, q _ hf⟩
  exact ⟨z, us, 0, r, Heap.get?_push_size _ rfl⟩
end

/-! ### what a def promises -/
/-- a def's promise: the bound arguments in the parameters' order, the heap, the wanted end, the wanted exception -/
abbrev Sp := List V → Hp → VK → XK → Prop
/-- how an exception lies behind a call (file 08 gives it): the callers' frames, abstract heap and state ahead of the call, the wish, the exception, the state -/
abbrev CXT := List Env → Hp → Shared → XK → Value → Shared → Prop

/-- the state at a call -/
structure Env0 (P : Program) (w : World) (K : PySem.W.Frag) (mg : Str → Option Value) (base : Heap) (A : Around) (outer : List Env) (s : Shared) (H : Hp) : Prop where
  frames : A.frames = some outer
  mod : Mod K mg base
  bs : ∀ b o, base.get? b = some o → s.heap.get? b = some o ∧ H b = none
  bsz : base.objs.size ≤ s.heap.objs.size
  funs : s.heap.FunFrames base outer
  frf : ∀ b ∈ frs outer, H b = none
  hok : HOk P w H s.heap
  bare : AllBare s.gens
/-- a call's end -/
def CE (outer : List Env) (P : Program) (w : World) (H : Hp) (s : Shared) (Q : VK) (u : Value) (s' : Shared) : Prop :=
  ∃ v H', s'.os = s.os ∧ AllBare s'.gens ∧ Un (frs outer) [] H H' s.heap s'.heap ∧ HOk P w H' s'.heap ∧ RelV v u ∧ Q v H'
def CR (CX : CXT) (outer : List Env) (P : Program) (w : World) (H : Hp) (s : Shared) (Q : VK) (E : XK) (r : Result) (s' : Shared) : Prop :=
  match r with
  | .ok (.ret u) => CE outer P w H s Q u s'
  | .ok _ => False
  | .error e => CX outer H s E e s'
structure FnOk (P : Program) (w : World) (K : PySem.W.Frag) (mg : Str → Option Value) (base : Heap) (CX : CXT) (k : Nat) (f : Addr) (fd : FuncData) (ps : List Str) (sp : Sp) : Prop where
  len : ∀ vs H Q E, sp vs H Q E → vs.length = ps.length
  run : ∀ (A : Around) (outer : List Env) (s : Shared) (H : Hp) (args : Args) (us : List Value) (vs : List V) (Q : VK) (E : XK), Room k A → Env0 P w K mg base A outer s H → BindsTo s fd args (ps.zip us) → Vals vs us → sp vs H Q E →
    codeAny (model P w) A (.call (.ref f) args) (CR CX outer P w H s Q E) s
theorem FnOk.mono {P : Program} {w : World} {K : PySem.W.Frag} {mg : Str → Option Value} {base : Heap} {CX : CXT} {j k : Nat} {f : Addr} {fd : FuncData} {ps : List Str} {sp : Sp} (F : FnOk P w K mg base CX j f fd ps sp) (h : j ≤ k) :
    FnOk P w K mg base CX k f fd ps sp := ⟨F.len, fun A outer s H args us vs Q E hr => F.run A outer s H args us vs Q E (hr.mono h)⟩

theorem Env0.make {P : Program} {w : World} {K : PySem.W.Frag} {mg : Str → Option Value} {base : Heap} {A : Around} {outer : List Env} {s : Shared} {H : Hp} (e : Env0 P w K mg base A outer s H) (C : Addr) (us : List Value) (kw : List (Str × Value)) :
    Env0 P w K mg base (A.under (.builtin "type.__call__" ⟨.ref C :: us, kw⟩)) outer s H := ⟨by first | exact e.frames | (simpa [Around.under, Code.envs, Code.isFrame, pushEnvs] using e.frames), e.mod, e.bs, e.bsz, e.funs, e.frf, e.hok, e.bare⟩

section
variable {X : Cx} {pins : List (Addr × Obj)} {σ : St} {H : Hp} {s s' : Shared}
/-- from a body: what a callee wants -/
theorem Inv.env0 (I : Inv X pins σ H s) : Env0 X.prog X.w X.K X.mg X.base X.A X.stack s H :=
  ⟨I.ok.frames, I.ok.mod, I.bs, Nat.le_trans I.ok.bsz I.sz, I.stack, I.stkFree, I.hok, I.bare⟩
/-- behind a call -/
theorem Inv.after {Q : VK} {u : Value} (I : Inv X pins σ H s) (h : CE X.stack X.prog X.w H s Q u s') : EP X pins σ Q u s' := by
  obtain ⟨v, H', os, bare, un, hok, r, q⟩ := h
  obtain ⟨hh, g, d, t, os'⟩ := s'
  obtain rfl : os' = s.os := os
  exact ⟨v, H', I.call (h' := hh) (g' := g) (d' := d) (t' := t) (ch := []) un hok bare (fun b z => absurd z (by simp)), r, q⟩
end

/-! ### calls -/
/-- f(..): the written arguments, then the defaults dvs; E: what is wanted of an exception -/
def tCall (sp : Sp) (dvs : List V) (E : XK) (t : TA) : TE := fun σ H Q => t σ H fun vs H1 => sp (vs ++ dvs) H1 Q E
/-- o.m(..) of an instance of the class at C -/
def tMeth (C : Addr) (m : Str) (sp : Sp) (dvs : List V) (E : XK) (ta : TE) (t : TA) : TE := fun σ H Q => ta σ H fun x H1 => ∃ a dx fs, x = .ref a ∧ H1 a = some (.ins C dx fs) ∧ fs.lookup m = none ∧
  t σ H1 fun vs H2 => sp (x :: (vs ++ dvs)) H2 Q E
/-- C(..): a new instance and its dict, then __init__ -/
def tMake (C : Addr) (sp : Sp) (dvs : List V) (E : XK) (t : TA) : TE := fun σ H Q => t σ H fun vs H1 => ∀ x dx, H1 x = none → H1 dx = none → dx ≠ x →
  sp (.ref x :: (vs ++ dvs)) (upd (upd H1 dx (.own x)) x (.ins C dx [])) (fun v H2 => v = .non ∧ Q (.ref x) H2) E

/-- how the parameters are bound: us the positional arguments, kw the keywords' values by name, ds the defaults that fill up -/
def Binds (K : PySem.W.Frag) (fd : FuncData) (ps : List Str) (ds : List Value) : Prop :=
  ∀ (s : Shared) (us : List Value), K.In s.heap → (us ++ ds).length = ps.length → BindsTo s fd ⟨us, []⟩ (ps.zip (us ++ ds))
/-- every parameter is given -/
theorem Binds.all {K : PySem.W.Frag} {fd : FuncData} {ps : List Str} (h : ∀ us : List Value, us.length = ps.length → bindArgs fd ⟨us, []⟩ = pure (ps.zip us)) : Binds K fd ps [] := fun s us _ hl => by
  rw [List.append_nil] at hl ⊢
  exact .of_eq (h us hl)

/-- an exception of a callee reaches what this body wants of exceptions -/
def Passes (CX : CXT) (X : Cx) (E : XK) : Prop := ∀ (pins : List (Addr × Obj)) (σ : St) (H : Hp) (s : Shared) (e : Value) (s' : Shared), Inv X pins σ H s → CX X.stack H s E e s' → X.xe e s'

section
variable {X : Cx} {CX : CXT} {k : Nat} {f C : Addr} {fd : FuncData} {ps : List Str} {sp : Sp} {dvs : List V} {ds : List Value} {E : XK} {x m : Str} {p pos apos : Pos} {e o : Expr} {es : List Expr} {ta : TE} {t : TA}

/-- the callee runs -/
theorem run_fn {pins : List (Addr × Obj)} {σ : St} {H : Hp} {s : Shared} {Q : VK} {us : List Value} {vs : List V} (F : FnOk X.prog X.w X.K X.mg X.base CX k f fd ps sp) (hr : Room k X.A) (hb : Binds X.K fd ps ds) (hd : Vals dvs ds) (hx : Passes CX X E)
    (I : Inv X pins σ H s) (r : Vals vs us) (h : sp (vs ++ dvs) H Q E) : wpAny (model X.prog X.w) X.A (call (.ref f) us) (EP X pins σ Q) X.xe s := by
  have r2 : Vals (vs ++ dvs) (us ++ ds) := r.append hd
  have hl : (us ++ ds).length = ps.length := by rw [← r2.length]; exact F.len _ _ _ _ h
  refine wpAny_call (codeAny_mono (F.run X.A X.stack s H ⟨us, []⟩ (us ++ ds) (vs ++ dvs) Q E hr I.env0 (hb s us I.kIn hl) r2 h) fun r s' hq => ?_)
  cases r with
  | error e => exact hx pins σ H s e s' I hq
  | ok fl =>
    cases fl with
    | ret u => exact I.after hq
    | next => exact False.elim hq
    | brk => exact False.elim hq
    | cont => exact False.elim hq

theorem pe_call (F : FnOk X.prog X.w X.K X.mg X.base CX k f fd ps sp) (hr : Room k X.A) (hg : Gl X x) (hm : X.mg x = some (.ref f)) (hk : PySem.W.keepIn X.K (.ref f) = true) (hb : Binds X.K fd ps ds) (hd : Vals dvs ds) (hx : Passes CX X E)
    (ha : PA X (e :: es) t) (hdb : (x == ("__debug__" : Str)) = false := by decide) (he : starEach (e :: es) X.env = (false, eval e X.env) :: starEach es X.env := by rfl) (hpl : (backTo pos (starEach es X.env)).any (·.1) = false := by rfl) :
    PE X (.Call (.Name x p) (e :: es) [] pos) (tCall sp dvs E t) := by
  intro pins s σ H Q I h
  refine wpAny_Call_Name_kw (ld_glob I hg hm ?_ hdb)
  refine PySem.W.callWith_K (h₀ := X.base) I.ok.mod.kin hk (thn (ha pos pins s σ H _ I h) fun us s1 ⟨vs, H1, I1, r, q⟩ => ⟨I1.kIn, ?_⟩) he hpl
  exact run_fn F hr hb hd hx I1 r q

/-- o.m() -/
theorem pe_meth0 {pl : Sem Bool} (he : PE X o ta) (c : Cls X.K C) (hm : Meth X.K C m f) (F : FnOk X.prog X.w X.K X.mg X.base CX k f fd ps sp) (hr : Room k X.A) (hb : Binds X.K fd ps ds) (hd : Vals dvs ds) (hx : Passes CX X E)
    (ht : eval (.Call (.Attribute o m apos) [] [] pos) X.env = (do
      let ov ← eval o X.env
      standAt apos.atName
      let (f, first) ← holding [ov] (getMethod ov m pl)
      callWith pos f first (backTo pos (starEach [] X.env)) (backToKw pos (keywordEach [] X.env))) := by rfl) :
    PE X (.Call (.Attribute o m apos) [] [] pos) (tMeth C m sp dvs E ta tNil) := by
  intro pins s σ H Q I h
  refine PySem.W.methodCall_KW (pl := pl) (thn (he pins s σ H _ I h) fun u s1 ⟨x, H1, I1, rx, a, dx, fs, ex, ea, l, q⟩ => ?_) ht
  subst ex
  obtain rfl : u = Value.ref a := rx
  refine getmeth_ok I1 ea c hm l ?_
  exact PySem.W.callWith_K0 (first := [.ref a]) I1.kIn hm.kp (run_fn (us := [.ref a]) (vs := [.ref a]) F hr hb hd hx I1 (.cons rfl .nil) q)

/-- what a class must have to be made -/
structure Mk (K : PySem.W.Frag) (C f : Addr) : Prop where
  makes : PySem.W.makesIn K C = true
  init : PySem.W.findIn K (.ref C) "__init__" = some (some (.ref f))
  fn : PySem.W.isFn K (.ref f) = true
  kp : PySem.W.keepIn K (.ref C) = true

theorem run_make {pins : List (Addr × Obj)} {σ : St} {H : Hp} {s : Shared} {Q : VK} {us : List Value} {vs : List V} (M : Mk X.K C f) (F : FnOk X.prog X.w X.K X.mg X.base CX k f fd ps sp) (hr : Room (k + 1) X.A) (hb : Binds X.K fd ps ds) (hd : Vals dvs ds)
    (hx : Passes CX X E) (I : Inv X pins σ H s) (r : Vals vs us)
    (h : ∀ x dx, H x = none → H dx = none → dx ≠ x → sp (.ref x :: (vs ++ dvs)) (upd (upd H dx (.own x)) x (.ins C dx [])) (fun v H2 => v = .non ∧ Q (.ref x) H2) E) :
    wpAny (model X.prog X.w) X.A (call (.ref C) us) (EP X pins σ Q) X.xe s := by
  have hq := h (s.heap.objs.size + 1) s.heap.objs.size (I.hok.fresh (Nat.le_succ _)) (I.hok.fresh (Nat.le_refl _)) (Nat.ne_of_lt (Nat.lt_succ_self _))
  have I2 := Inv.made (C := C) I
  have r2 : Vals (V.ref (s.heap.objs.size + 1) :: (vs ++ dvs)) (Value.ref (s.heap.objs.size + 1) :: (us ++ ds)) := .cons rfl (r.append hd)
  have hl : (Value.ref (s.heap.objs.size + 1) :: us ++ ds).length = ps.length := by
    have e := r2.length
    rw [F.len _ _ _ _ hq] at e
    exact e.symm
  refine wpAny_call (make_map (f := f) I.kIn M.makes M.init (beq_iff_eq.mp M.fn) (codeAny_mono (F.run _ X.stack _ _ ⟨Value.ref (s.heap.objs.size + 1) :: us, []⟩ (Value.ref (s.heap.objs.size + 1) :: (us ++ ds)) _ _ E (hr.make C us [])
    (I2.env0.make C us []) (hb _ (Value.ref (s.heap.objs.size + 1) :: us) I2.kIn hl) r2 hq) fun r s' hq' => ?_))
  cases r with
  | error e => exact hx pins σ _ _ e s' I2 hq'
  | ok fl =>
    cases fl with
    | ret u =>
      obtain ⟨v, H', I3, rv, ev, q3⟩ := I2.after hq'
      subst ev
      exact ⟨rv, ⟨V.ref (s.heap.objs.size + 1), H', I3, rfl, q3⟩⟩
    | next => exact False.elim hq'
    | brk => exact False.elim hq'
    | cont => exact False.elim hq'
theorem pe_make (M : Mk X.K C f) (F : FnOk X.prog X.w X.K X.mg X.base CX k f fd ps sp) (hr : Room (k + 1) X.A) (hg : Gl X x) (hm : X.mg x = some (.ref C)) (hb : Binds X.K fd ps ds) (hd : Vals dvs ds) (hx : Passes CX X E)
    (ha : PA X (e :: es) t) (hdb : (x == ("__debug__" : Str)) = false := by decide) (he : starEach (e :: es) X.env = (false, eval e X.env) :: starEach es X.env := by rfl) (hpl : (backTo pos (starEach es X.env)).any (·.1) = false := by rfl) :
    PE X (.Call (.Name x p) (e :: es) [] pos) (tMake C sp dvs E t) := by
  intro pins s σ H Q I h
  refine wpAny_Call_Name_kw (ld_glob I hg hm ?_ hdb)
  refine PySem.W.callWith_K (h₀ := X.base) I.ok.mod.kin M.kp (thn (ha pos pins s σ H _ I h) fun us s1 ⟨vs, H1, I1, r, q⟩ => ⟨I1.kIn, ?_⟩) he hpl
  exact run_make M F hr hb hd hx I1 r q
end

/-! ### keywords -/
/-- the values of the keywords, from the left -/
def PK (X : Cx) (kws : List Keyword) (t : TA) : Prop :=
  ∀ (pos : Pos) (pins : List (Addr × Obj)) (s : Shared) (σ : St) (H : Hp) (Q : List V → Hp → Prop), Inv X pins σ H s → t σ H Q → wpAny (model X.prog X.w) X.A (evalAll ((backToKw pos (keywordEach kws X.env)).map (·.2))) (AP X pins σ Q) X.xe s
section
variable {X : Cx} {CX : CXT} {k : Nat} {f C : Addr} {fd : FuncData} {ps ks : List Str} {sp : Sp} {E : XK} {x m : Str} {p pos apos kpos : Pos} {e o : Expr} {es : List Expr} {kws : List Keyword} {te ta : TE} {t tk : TA} {nm : Option Str}

/-- how a call with keywords binds: g puts the positional values us and the keywords' values ws (names ks) in the parameters' order, defaults among them -/
structure KBinds (K : PySem.W.Frag) (fd : FuncData) (ps ks : List Str) (g : List Value → List Value → List Value) (gV : List V → List V → List V) : Prop where
  to : ∀ (s : Shared) (us ws : List Value), K.In s.heap → (g us ws).length = ps.length → BindsTo s fd ⟨us, ks.zip ws⟩ (ps.zip (g us ws))
  rel : ∀ {vs : List V} {us : List Value} {zs : List V} {ws : List Value}, Vals vs us → Vals zs ws → Vals (gV vs zs) (g us ws)
def tCallK (sp : Sp) (gV : List V → List V → List V) (E : XK) (t tk : TA) : TE := fun σ H Q => t σ H fun vs H1 => tk σ H1 fun zs H2 => sp (gV vs zs) H2 Q E
variable {g : List Value → List Value → List Value} {gV : List V → List V → List V}
end

/-! ### a def's body keeps its promise -/
/-- names: the parameters first -/
structure FnScope (N P : List Str) (sc : Scope) : Prop where
  kind : sc.kind = .function
  co : sc.isCoroutine = false
  gen : sc.isGenerator = false
  nd : N.Nodup
  pre : N.take P.length = P
  par : ∀ x ∈ P, sc.names.lookup x = some .local ∨ sc.names.lookup x = some .cell
  nofree : ∀ y ∈ sc.names, y.2 ≠ .free

theorem bindL_out {kindOf : Str → Option NameKind} {x : Str} : ∀ {binds : List (Str × Value)} {m : Str → Option Value}, (∀ v, (x, v) ∉ binds) → bindL kindOf binds m x = m x
  | [], _, _ => rfl
  | (n, v) :: r, m, h => by
    unfold bindL
    rw [bindL_out fun w hw => h w (List.mem_cons_of_mem _ hw)]
    split
    · have : x ≠ n := by rintro rfl; exact h v List.mem_cons_self
      simp [this]
    · rfl
theorem bindC_out {kindOf : Str → Option NameKind} {x : Str} : ∀ {binds : List (Str × Value)} {m : Str → Option Value}, (∀ v, (x, v) ∉ binds) → bindC kindOf binds m x = m x
  | [], _, _ => rfl
  | (n, v) :: r, m, h => by
    unfold bindC
    rw [bindC_out fun w hw => h w (List.mem_cons_of_mem _ hw)]
    split
    · rfl
    · have : x ≠ n := by rintro rfl; exact h v List.mem_cons_self
      simp [this]
theorem bindL_get {kindOf : Str → Option NameKind} {x : Str} {v : Value} : ∀ {P : List Str} {vs : List Value} {i : Nat} {m : Str → Option Value}, P.Nodup → P[i]? = some x → vs[i]? = some v → kindOf x = some .local →
    bindL kindOf (P.zip vs) m x = some v
  | [], _, _, _, _, h, _, _ => by simp at h
  | _ :: _, [], _, _, _, _, h, _ => by simp at h
  | p :: P, w :: vs, 0, m, nd, h1, h2, hk => by
    simp at h1 h2; subst h1; subst h2
    show bindL kindOf ((p, w) :: P.zip vs) m p = _
    unfold bindL
    rw [bindL_out fun v hv => (List.nodup_cons.mp nd).1 (List.of_mem_zip hv).1, if_pos hk]
    simp
  | p :: P, w :: vs, i + 1, m, nd, h1, h2, hk => by
    show bindL kindOf ((p, w) :: P.zip vs) m x = _
    unfold bindL
    exact bindL_get (i := i) (List.nodup_cons.mp nd).2 (by simpa using h1) (by simpa using h2) hk
theorem bindC_get {kindOf : Str → Option NameKind} {x : Str} {v : Value} : ∀ {P : List Str} {vs : List Value} {i : Nat} {m : Str → Option Value}, P.Nodup → P[i]? = some x → vs[i]? = some v → kindOf x ≠ some .local →
    bindC kindOf (P.zip vs) m x = some v
  | [], _, _, _, _, h, _, _ => by simp at h
  | _ :: _, [], _, _, _, _, h, _ => by simp at h
  | p :: P, w :: vs, 0, m, nd, h1, h2, hk => by
    simp at h1 h2; subst h1; subst h2
    show bindC kindOf ((p, w) :: P.zip vs) m p = _
    unfold bindC
    rw [bindC_out fun v hv => (List.nodup_cons.mp nd).1 (List.of_mem_zip hv).1, if_neg hk]
    simp
  | p :: P, w :: vs, i + 1, m, nd, h1, h2, hk => by
    show bindC kindOf ((p, w) :: P.zip vs) m x = _
    unfold bindC
    exact bindC_get (i := i) (List.nodup_cons.mp nd).2 (by simpa using h1) (by simpa using h2) hk

/-- the names' values at the entry -/
def start (N : List Str) (vs : List V) : St := vs.map some ++ List.replicate (N.length - vs.length) none

/-- the context of a def's body, at its entry; an exception leaves the frame, then lies as CX says -/
def cxOf (CX : CXT) (P : Program) (w : World) (K : PySem.W.Frag) (mg : Str → Option Value) (base : Heap) (N : List Str) (qual : Str) (scope : Scope) (f : Addr) (cd : Value) (A : Around) (outer : List Env) (s : Shared) (H : Hp) (E : XK) : Cx where
  prog := P
  w := w
  K := K
  mg := mg
  base := base
  A := A.deeper (envOfC qual scope s.heap.objs.size f cd)
  N := N
  s₀ := s
  H₀ := H
  env := envOfC qual scope s.heap.objs.size f cd
  outer := outer
  stack := envOfC qual scope s.heap.objs.size f cd :: outer
  ex := []
  calm := true
  fn := fun _ => true
  pn := []
  xe := fun e s' => wpAny (model P w) (A.deeper (envOfC qual scope s.heap.objs.size f cd)) (leaving (envOfC qual scope s.heap.objs.size f cd) e) (fun _ s'' => CX outer H s E e s'') (fun e' s'' => CX outer H s E e' s'') s'

theorem cell_has {sc : Scope} {n : Nat} {x : Str} (h : sc.names.lookup x = some .cell) : ∃ c, (cellsFrom n sc.names []).lookup x = some c := by
  have q := PySem.W.cellsFrom_some sc.names n [] (.inl h)
  exact Option.isSome_iff_exists.mp q

theorem inv_start {CX : CXT} {P : Program} {w : World} {K : PySem.W.Frag} {mg : Str → Option Value} {base : Heap} {N ps : List Str} {qual : Str} {scope : Scope} {f : Addr} {cd : Value} {A : Around} {outer : List Env} {s s1 : Shared} {H : Hp} {E : XK} {us : List Value} {vs : List V}
    (S : FnScope N ps scope) (hd : A.handled = none) (e0 : Env0 P w K mg base A outer s H) (hl : vs.length = ps.length) (r : Vals vs us)
    (x : InCallC s s.heap.objs.size (bindL (envOfC qual scope s.heap.objs.size f cd).kindOf (ps.zip us) fun _ => none) (cellsFrom (s.heap.objs.size + 1) scope.names []) (bindC (envOfC qual scope s.heap.objs.size f cd).kindOf (ps.zip us) fun _ => none) s1) :
    Inv (cxOf CX P w K mg base N qual scope f cd A outer s H E) [] (start N vs) H s1 := by
  have hpl : ps.length ≤ N.length := by have := congrArg List.length S.pre; rw [List.length_take] at this; omega
  obtain ⟨h1, tk, rfl, hk⟩ := x.done
  have noA : ∀ b : Addr, b ∉ (cxOf CX P w K mg base N qual scope f cd A outer s H E).ex := fun b z => absurd (show b ∈ ([] : List Addr) from z) (by simp)
  refine ⟨⟨e0.mod, S.kind, rfl, rfl, Nat.le_refl _, fun y z c h1 h2 => ?_, fun y hy => ?_, fun y c _ h => ?_, fun _ => hd, Around.frames_deeper e0.frames, .inr ⟨rfl, rfl⟩, fun b z => absurd z (noA b), e0.bs, e0.bsz, fun b _ _ => noA b, fun b z => absurd z (noA b), e0.funs, e0.frf⟩,
    rfl, e0.bare, Un.kept hk, ⟨_, x.toInCall.ns, fun i y v h1 h2 h3 => ?_⟩, fun y c h => ⟨_, x.cell y c h⟩, e0.hok.fresh (Nat.le_refl _), fun y c h => ?_, fun p hp => absurd (show p ∈ ([] : List (Addr × Obj)) from hp) (by simp), e0.hok.kept hk, ?_⟩
  · exact name_of_addr x.apart (PySem.mem_of_lookup h1) (PySem.mem_of_lookup h2)
  · have hy : scope.names.lookup y = some .cell ∨ scope.names.lookup y = some .free := hy
    rcases hy with hy | hy
    · exact cell_has hy
    · exact absurd rfl (S.nofree _ (PySem.mem_of_lookup hy))
  · exact Nat.le_of_lt (x.above y c (PySem.mem_of_lookup h))
  · have hi : i < vs.length := by
      unfold start at h2
      by_cases hi : i < vs.length
      · exact hi
      · rw [List.getElem?_append_right (by simpa using hi)] at h2
        rw [List.getElem?_replicate] at h2
        split at h2 <;> cases h2
    have ha : vs[i]? = some v := by
      unfold start at h2
      rw [List.getElem?_append_left (by simpa using hi), List.getElem?_map] at h2
      cases e : vs[i]? with
      | none => rw [e] at h2; cases h2
      | some a => rw [e] at h2; cases h2; rfl
    obtain ⟨u, hu, rv⟩ := r.get ha
    have hp : ps[i]? = some y := by
      rw [← S.pre, List.getElem?_take_of_lt (by omega)]; exact h1
    have ndP : ps.Nodup := by rw [← S.pre]; exact S.nd.sublist (List.take_sublist _ _)
    refine ⟨u, rv, ?_⟩
    rcases S.par y (List.mem_of_getElem? hp) with k | k
    · exact .inl ⟨k, bindL_get ndP hp hu k⟩
    · obtain ⟨c, e⟩ := cell_has (n := s.heap.objs.size + 1) k
      refine .inr ⟨.inl k, c, e, ?_⟩
      have q := x.cell y c e
      rw [bindC_get ndP hp hu (by show scope.names.lookup y ≠ _; rw [k]; decide)] at q
      exact q
  · exact e0.hok.fresh (Nat.le_of_lt (x.above y c (PySem.mem_of_lookup h)))
  · unfold start
    show _ = N.length
    rw [List.length_append, List.length_map, List.length_replicate]
    omega

/-- THE RULE: a def (or a method) of the text, by its body. The body's reading t is chosen for each entry; it is run at the parameters' values -/
theorem fn_of {CX : CXT} {P : Program} {w : World} {K : PySem.W.Frag} {mg : Str → Option Value} {base : Heap} {k : Nat} {f : Addr} {name qual : Str} {params : Arguments} {body : List Stmt} {scope : Scope} {dV kV doc pm cdv ct oc : Value} {an od : Option Addr}
    {osl : Array (Option Value)} {N ps : List Str} {sp : Sp} (lk : K.lookup f = some ⟨oc, od, .func (PySem.W.fnOf name qual params body scope dV kV doc pm an cdv ct), osl⟩) (hcd : PySem.W.codeIn K cdv qual = true) (S : FnScope N ps scope)
    (len : ∀ vs H Q E, sp vs H Q E → vs.length = ps.length)
    (hbody : ∀ (A : Around) (outer : List Env) (s : Shared) (H : Hp) (vs : List V) (Q : VK) (E : XK), Room k (A.deeper (envOfC qual scope s.heap.objs.size f cdv)) → sp vs H Q E →
      ∃ t, PSs (cxOf CX P w K mg base N qual scope f cdv A outer s H E) body t ∧ t { nx := fun _ H' => Q .non H', rt := Q } (start N vs) H) :
    FnOk P w K mg base CX (k + 1) f (PySem.W.fnOf name qual params body scope dV kV doc pm an cdv ct) ps sp := by
  refine ⟨len, fun A outer s H args us vs Q E hr e0 hb r hsp => ?_⟩
  have hl := len _ _ _ _ hsp
  have KX : K.In s.heap := e0.mod.kin.keeps fun b o e => (e0.bs b o e).1
  have lim : s.heap.NoLimit := e0.mod.nolimit.keeps fun b o e => (e0.bs b o e).1
  have hkind : ∀ y ∈ ps.zip us, scope.names.lookup y.1 = some .local ∨ (scope.names.lookup y.1 = some .cell ∧ ((cellsFrom (s.heap.objs.size + 1) scope.names []).lookup y.1).isSome = true) := fun ⟨n, v⟩ hy => by
    rcases S.par n (List.of_mem_zip hy).1 with q | q
    · exact .inl q
    · exact .inr ⟨q, PySem.W.cellsFrom_some _ _ _ (.inl q)⟩
  refine codeAny_call_function hr.depth (KX _ _ lk) rfl S.co S.gen rfl (PySem.W.codeRec_of KX hcd) (hb _ _ _ _ ?_)
  refine wpAny_newFunctionEnv_cells S.kind hkind fun env he s1 x => ?_
  subst he
  refine ⟨lim.keeps x.toInCall.keep, codeAny_func ?_⟩
  obtain ⟨t, ht, hq⟩ := hbody A outer s H vs Q E (hr.deeper _) hsp
  have I : Inv (cxOf CX P w K mg base N qual scope f cdv A outer s H E) [] (start N vs) H s1 := inv_start S hr.hd e0 hl r x
  refine wpAny_mono (ht [] s1 (start N vs) H _ I hq) (fun fl s' hs => ?_) fun e s' hs => hs
  have fin : ∀ {σ' : St} {H' : Hp} {v : V} {u : Value}, Inv (cxOf CX P w K mg base N qual scope f cdv A outer s H E) [] σ' H' s' → RelV v u → Q v H' → CE outer P w H s Q u s' :=
    fun {σ' H' v u} J rv q => ⟨v, H', J.os, J.bare, J.base, J.hok, rv, q⟩
  cases fl with
  | ret u =>
    obtain ⟨v, σ', H', J, rv, q⟩ := hs
    exact fin J rv q
  | next =>
    obtain ⟨σ', H', J, q⟩ := hs
    exact fin (v := V.non) (u := Value.none) J rfl q
  | brk =>
    obtain ⟨_, _, _, q⟩ := hs
    exact False.elim q
  | cont =>
    obtain ⟨_, _, _, q⟩ := hs
    exact False.elim q
end L2

namespace L2
open PySem PySem.Spec PyProof.Rows
section
variable {X : Cx} {x : Str} {p pos : Pos} {e : Expr} {es : List Expr} {t : TA} {id T : String} {r : List V → Hp → VK → Prop}

def tCB (r : List V → Hp → VK → Prop) (t : TA) : TE := fun σ H Q => t σ H fun vs H1 => r vs H1 Q
/-- f(e, ..), f a built-in function -/
theorem pe_callB (hc : CallR X (.builtin id) r) (hg : Gl X x) (hm : X.mg x = none) (hv : bootBuiltins x = some (.builtin id)) (ha : PA X (e :: es) t) (hn : x ≠ "__name__" := by decide) (hdb : (x == ("__debug__" : Str)) = false := by decide)
    (he : starEach (e :: es) X.env = (false, eval e X.env) :: starEach es X.env := by rfl) (hpl : (backTo pos (starEach es X.env)).any (·.1) = false := by rfl) : PE X (.Call (.Name x p) (e :: es) [] pos) (tCB r t) := by
  intro pins s σ H Q I h
  refine wpAny_Call_Name_kw (ld_blt I hg hm hv ?_ hn hdb)
  exact PyProof.Rows.callWith_builtin1 (thn (ha pos pins s σ H _ I h) fun us s1 ⟨vs, H1, I1, r1, q1⟩ => hc pins s1 σ H1 vs us Q I1 r1 q1) he hpl
/-- T(e, ..), T a built-in type -/
theorem pe_callTy (hc : CallR X (.type T) r) (hg : Gl X x) (hm : X.mg x = none) (hv : bootBuiltins x = some (.type T)) (ha : PA X (e :: es) t) (hn : x ≠ "__name__" := by decide) (hdb : (x == ("__debug__" : Str)) = false := by decide)
    (he : starEach (e :: es) X.env = (false, eval e X.env) :: starEach es X.env := by rfl) (hpl : (backTo pos (starEach es X.env)).any (·.1) = false := by rfl) : PE X (.Call (.Name x p) (e :: es) [] pos) (tCB r t) := by
  intro pins s σ H Q I h
  refine wpAny_Call_Name_kw (ld_blt I hg hm hv ?_ hn hdb)
  exact PyProof.Rows.callWith_type1 (thn (ha pos pins s σ H _ I h) fun us s1 ⟨vs, H1, I1, r1, q1⟩ => hc pins s1 σ H1 vs us Q I1 r1 q1) he hpl
end
end L2

namespace HT
open PySem PyProof.Rows

/-- t < u of tuples of ints -/
def lexLt : List Int → List Int → Bool
  | [], [] => false
  | [], _ :: _ => true
  | _ :: _, [] => false
  | x :: xs, y :: ys => if x = y then lexLt xs ys else decide (x < y)
theorem lexLt_cons (x y : Int) (xs ys : List Int) : lexLt (x :: xs) (y :: ys) = if x = y then lexLt xs ys else decide (x < y) := rfl
theorem lexLt_nil_nil : lexLt [] [] = false := rfl
theorem lexLt_nil_cons (y : Int) (ys : List Int) : lexLt [] (y :: ys) = true := rfl
theorem lexLt_cons_nil (x : Int) (xs : List Int) : lexLt (x :: xs) [] = false := rfl

theorem eqAt_int (A : Around) (s : Shared) (a : Int) (t : Tok) (c : Int) (u : Tok) : ∃ e, SeqAt.EqAt A s (.int a t) (.int c u) e ∧ (e = true ↔ a = c) :=
  ⟨(a == c), SeqAt.EqAt.int_int a t c u, by simp⟩
theorem rcLt_int (A : Around) (s : Shared) (a : Int) (t : Tok) (c : Int) (u : Tok) (prog : Program) (w : World) (E : Value → Shared → Prop) (Q : Value → Shared → Prop) (h : Q (.bool (decide (a < c))) s) :
    wpAny (model prog w) A (richCompare .Lt (.int a t) (.int c u)) Q E s :=
  (PyProof.Rows.lt_int h : wpAny (model prog w) A (compareOp .Lt (.int a t) (.int c u)) Q E s)

section
open PySem.SeqAt
open PySem.AutoSeq1 (wpAny_loadPart')
open PySem.MeetsSeq PySem.MeetsSeq2 PySem.MeetsSeq3

theorem tuple_lt_ints (l b : Addr) (items items2 : Array Value) (n n2 : Nat) (dd dd2 : Option Addr) (sl sl2 : Array (Option Value)) (ns ms : List Int) (hi : IntsAre items.toList ns) (hj : IntsAre items2.toList ms) :
    Meets (Builtin.«tuple.__lt__» ⟨[.ref l, .ref b], []⟩)
      (fun _ R s => s.heap.get? l = some { cls := .type "tuple", dict := dd, data := .seq items n, slots := sl } ∧ s.heap.get? b = some { cls := .type "tuple", dict := dd2, data := .seq items2 n2, slots := sl2 } ∧
        R (.ok (.ret (.bool (lexLt ns ms)))) s) :=
  .of_wp fun prog w A R s h => by
    obtain ⟨hp, g, d, tk, os⟩ := s; obtain ⟨hl, hb, h⟩ := h
    have f2 := AutoSeq1.sub_tuple_tuple
    have z1 : items.size = ns.length := by rw [← hi.length]; simp
    have z2 : items2.size = ms.length := by rw [← hj.length]; simp
    wp_walk using wpAny_loadPart' hl, wpAny_loadPart' hb, wpAny_forIn_list _ (fun rest b s' => b.1 = none ∧ s' = ⟨hp, g, d, tk, os⟩ ∧ ∃ (vs ws : List Value) (ns' ms' : List Int), rest = vs.zip ws ∧
      IntsAre vs ns' ∧ IntsAre ws ms' ∧ ns'.length + items2.size = ms'.length + items.size ∧ R (.ok (.ret (.bool (lexLt ns' ms')))) ⟨hp, g, d, tk, os⟩) _
    case turn =>
      rintro ⟨y, x⟩ rest b s' ⟨hb', rfl, vs, ws, ns', ms', hz, hvi, hwi, hlen, hR⟩
      cases hvi with
      | nil => rw [List.zip_nil_left] at hz; cases hz
      | cons a t hvi' =>
        cases hwi with
        | nil => rw [List.zip_nil_right] at hz; cases hz
        | cons c u hwi' =>
          rw [List.zip_cons_cons] at hz
          injection hz with hyx hrest
          injection hyx with hy hx
          subst hy hx
          rw [lexLt_cons] at hR
          simp only [List.length_cons] at hlen
          obtain ⟨e, he, hiff⟩ := eqAt_int A.in1 ⟨hp, g, d, tk, os⟩ a t c u
          refine wpAny_bind (he prog w _ _ ?_)
          cases e with
          | true =>
            rw [if_pos (hiff.mp rfl)] at hR
            wp_walk
            exact ⟨rfl, rfl, _, _, _, _, hrest, hvi', hwi', by omega, hR⟩
          | false =>
            rw [if_neg (fun q => absurd (hiff.mpr q) Bool.false_ne_true)] at hR
            have hri := rcLt_int A.in1 ⟨hp, g, d, tk, os⟩ a t c u prog w
            wp_walk using hri
            exact ⟨_, rfl, by simpa using hR⟩
    case fin =>
      rintro ⟨b1, b2⟩ s' ⟨hb', rfl, vs, ws, ns', ms', hz, hvi, hwi, hlen, hR⟩
      simp only at hb'
      subst hb'
      have hv : lexLt ns' ms' = decide (items.size < items2.size) := by
        cases hvi with
        | nil =>
          cases hwi with
          | nil =>
            simp only [List.length_nil] at hlen
            rw [lexLt_nil_nil]
            exact (decide_eq_false (by omega)).symm
          | cons c u hw =>
            simp only [List.length_nil, List.length_cons] at hlen
            rw [lexLt_nil_cons]
            exact (decide_eq_true (by omega)).symm
        | cons a t hv =>
          cases hwi with
          | nil =>
            simp only [List.length_nil, List.length_cons] at hlen
            rw [lexLt_cons_nil]
            exact (decide_eq_false (by omega)).symm
          | cons c u hw =>
            rw [List.zip_cons_cons] at hz
            cases hz
      rw [hv] at hR
      wp_walk
      exact ⟨_, rfl, by simpa [Builtin.Tuple.tupleCompareSizes] using hR⟩
    case h =>
      exact ⟨rfl, rfl, items.toList, items2.toList, ns, ms, rfl, hi, hj, by omega, h⟩
end

section
variable {prog : Program} {w : World} {A : Around} {E : Value → Shared → Prop} {s : Shared}


/-- t + u, t not empty -/
theorem cat_tup {t b : Addr} {vs ws : List Value} {Q : Value → Shared → Prop} (ht : IsTup s.heap t vs.toArray) (hb : IsTup s.heap b ws.toArray) (hv : vs ≠ [])
    (h1 : ws = [] → Q (.ref t) s) (h2 : ws ≠ [] → Q (.ref s.heap.objs.size) { s with heap := s.heap.push { cls := .type "tuple", data := .seq (vs ++ ws).toArray } })
    (hsz : vs.length + ws.length ≤ sizeLine) : wpAny (model prog w) A (binaryOp .Add (.ref t) (.ref b)) Q E s := by
  obtain ⟨⟨cls, dd, data, sl⟩, ho, hc, n, hd⟩ := id ht
  obtain ⟨⟨cls2, dd2, data2, sl2⟩, ho2, hc2, n2, hd2⟩ := id hb
  simp only at hc hd hc2 hd2
  subst hc hd hc2 hd2
  have e : vs.toArray ++ ws.toArray = (vs ++ ws).toArray := by simp
  by_cases hw : ws = []
  · exact concat_meets ⟨_, ho, rfl⟩ ⟨_, ho2, rfl⟩ noFill_tuple_add seq_tuple_add PySem.F.slot_tuple_add PySem.F.entry_tuple_add (PySem.F.args_tuple_add_2 _ _)
      (tuple_addW1 t b vs.toArray ws.toArray n n2 dd dd2 sl sl2 (by simpa using hv) (by simp [hw])) ⟨ho, ho2, h1 hw⟩
  · refine concat_meets ⟨_, ho, rfl⟩ ⟨_, ho2, rfl⟩ noFill_tuple_add seq_tuple_add PySem.F.slot_tuple_add PySem.F.entry_tuple_add (PySem.F.args_tuple_add_2 _ _)
      (tuple_addW2 t b vs.toArray ws.toArray n n2 dd dd2 sl sl2 (by simpa using hv) (by simpa using hw) (by rw [List.size_toArray, List.size_toArray]; exact hsz)) ⟨ho, ho2, ?_⟩
    rw [e]
    exact h2 hw

/-! ### t[a:b], not the whole -/
/-- a slice's bound as a place among n (d where it is left out) -/
def sIx (n d : Nat) : Option Int → Nat
  | none => d
  | some v => if v < 0 then (v + (n : Int)).toNat else min v.toNat n
theorem sIx_none (n d : Nat) : sIx n d none = d := rfl
theorem sIx_nat (n d k : Nat) : sIx n d (some (k : Int)) = min k n := by
  show (if (k : Int) < 0 then ((k : Int) + (n : Int)).toNat else min (k : Int).toNat n) = min k n
  rw [if_neg (by omega), Int.toNat_natCast]
theorem sIx_le (n d : Nat) (hd : d ≤ n) (o : Option Int) : sIx n d o ≤ n := by
  cases o with
  | none => exact hd
  | some v =>
    show (if v < 0 then (v + (n : Int)).toNat else min v.toNat n) ≤ n
    by_cases hv : v < 0
    · rw [if_pos hv]; omega
    · rw [if_neg hv]; exact Nat.min_le_right _ _
theorem clip_eq (v : Int) (n d : Nat) : (if v < 0 then max (v + (n : Int)) 0 else min v (n : Int)) = ((sIx n d (some v) : Nat) : Int) := by
  show (if v < 0 then max (v + (n : Int)) 0 else min v (n : Int)) = (((if v < 0 then (v + (n : Int)).toNat else min v.toNat n) : Nat) : Int)
  by_cases hv : v < 0
  · simp only [if_pos hv]; omega
  · simp only [if_neg hv]; omega
theorem adjust_gen (lo hi : Option Int) (n : Nat) : Builtin.Slice.sliceAdjust lo hi 1 (n : Int) = (((sIx n 0 lo : Nat) : Int), ((sIx n n hi : Nat) : Int)) := by
  have h1 : ¬ ((1 : Int) < 0) := by omega
  unfold Builtin.Slice.sliceAdjust
  simp only [h1, if_false]
  refine Prod.ext ?_ ?_
  · cases lo with
    | none => rfl
    | some v => exact clip_eq v n 0
  · cases hi with
    | none => rfl
    | some v => exact clip_eq v n n
theorem places_gen (i j : Nat) : Builtin.Slice.slicePlaces (i : Int) (j : Int) 1 = j - i := by
  unfold Builtin.Slice.slicePlaces
  have h1 : (1 : Int) > 0 := by omega
  simp only [h1, if_true, Int.ediv_one]
  split <;> omega
theorem slicePart_ {v : Value} {o : Option Int} {Q : Option Int → Shared → Prop} (p : IsPart v o) (h : Q o s) : wpAny (model prog w) A (Builtin.Slice.slicePartIndex v) Q E s := by
  cases p with
  | none => exact slicePart_none h
  | int i t => exact slicePart_int h
theorem sliceApplied_gen {sl : Addr} {vl vu : Value} {lo hi : Option Int} {n : Nat} {Q : Int × Int × Nat → Shared → Prop} (hs : s.heap.IsSliceOf sl vl vu .none) (pl : IsPart vl lo) (pu : IsPart vu hi)
    (h : Q (((sIx n 0 lo : Nat) : Int), 1, sIx n n hi - sIx n 0 lo) s) : wpAny (model prog w) A (Builtin.Slice.sliceApplied (.ref sl) (pure (n : Int))) Q E s := by
  obtain ⟨os, hos, hcs, hds⟩ := id hs
  unfold Builtin.Slice.sliceApplied Builtin.Slice.sliceFields
  refine wpAny_bind (wpAny_bind (wpAny_field hos hds (x := vl) rfl (wpAny_bind (wpAny_field hos hds (x := vu) rfl (wpAny_bind (wpAny_field hos hds (x := .none) rfl (wpAny_pure ?_)))))))
  refine wpAny_bind (slicePart_none ?_)
  show wpAny _ _ (if ((1 : Int) == 0) = true then _ else _) _ _ s
  rw [if_neg (by decide)]
  refine wpAny_bind (slicePart_ pl (wpAny_bind (slicePart_ pu (wpAny_bind (wpAny_pure ?_)))))
  show wpAny _ _ (match Builtin.Slice.sliceAdjust lo hi 1 (n : Int) with | (lo, hi) => pure (lo, (1 : Int), Builtin.Slice.slicePlaces lo hi 1)) _ _ s
  rw [adjust_gen lo hi n]
  show wpAny _ _ (pure (((sIx n 0 lo : Nat) : Int), (1 : Int), Builtin.Slice.slicePlaces ((sIx n 0 lo : Nat) : Int) ((sIx n n hi : Nat) : Int) 1)) _ _ s
  rw [places_gen]
  exact wpAny_pure h
theorem pick_gen (xs : Array Value) (i k : Nat) : ((List.range k).filterMap fun (m : Nat) => xs[((i : Int) + (m : Int) * 1).toNat]?).toArray = ((xs.toList.drop i).take k).toArray := by
  have e : (fun (m : Nat) => xs[((i : Int) + (m : Int) * 1).toNat]?) = fun m => xs[i + m]? := by
    funext m
    have : ((i : Int) + (m : Int) * 1).toNat = i + m := by omega
    rw [this]
  rw [e]
  have := pick_run xs i k
  rw [List.filterMap_map] at this
  have e2 : ((fun x => xs[x]?) ∘ fun x => i + x) = fun m => xs[i + m]? := rfl
  rw [e2] at this
  rw [this]

theorem getItem_tuple_cut {t sl : Addr} {items : Array Value} {vl vu : Value} {lo hi : Option Int} {Q : Value → Shared → Prop} (ht : IsTup s.heap t items) (hs : s.heap.IsSliceOf sl vl vu .none) (pl : IsPart vl lo) (pu : IsPart vu hi)
    (hw : ¬ (sIx items.size 0 lo = 0 ∧ sIx items.size items.size hi = items.size))
    (h : Q (.ref s.heap.objs.size) { s with heap := s.heap.push { cls := .type "tuple", data := .seq ((items.toList.drop (sIx items.size 0 lo)).take (sIx items.size items.size hi - sIx items.size 0 lo)).toArray } })
    (hsz : items.size ≤ sizeLine) : wpAny (model prog w) A (getItem (.ref t) (.ref sl)) Q E s := by
  have htake : sizeOk (.seq ((items.toList.drop (sIx items.size 0 lo)).take (sIx items.size items.size hi - sIx items.size 0 lo)).toArray) := by
    show ((items.toList.drop (sIx items.size 0 lo)).take (sIx items.size items.size hi - sIx items.size 0 lo)).toArray.size ≤ sizeLine
    rw [List.size_toArray, List.length_take, List.length_drop, Array.length_toList]
    omega
  have hj : sIx items.size items.size hi ≤ items.size := sIx_le _ _ (Nat.le_refl _) hi
  obtain ⟨os, hos, hcs, hds⟩ := id hs
  have hTs : s.TypeIs (.ref sl) "slice" := ⟨os, hos, hcs⟩
  unfold getItem
  try with_reducible refine wpAny_holding ?_
  first | refine wpAny_bind (wpAny_pure ?_) | skip
  refine wpAny_bind (wpAny_sequenceKey ht.typeIs (by decide) ?_)
  refine wpAny_bind (wpAny_callSpecial?_slot (name := Str.ofString "__getitem__") ht.typeIs PyProof.Rows.slot_tuple_getitem
    (wpAny_call_entry PyProof.Rows.slot_tuple_getitem ht.typeIs entry_tuple_getitem ?_ (args_tuple_getitem _ _)))
  show wpAny _ _ (Builtin.Tuple.tupleItemsOf (.ref t) >>= _) _ _ s
  refine wpAny_bind (tupleItemsOf_ ht ?_)
  refine wpAny_bind (wpAny_typeOf hTs ?_)
  rw [if_pos (by decide)]
  refine wpAny_bind (sliceApplied_gen hs pl pu ?_)
  have hno : ¬ ((((sIx items.size 0 lo : Nat) : Int) == 0 && (1 : Int) == 1 && (sIx items.size items.size hi - sIx items.size 0 lo) == items.size) = true) := by
    intro q
    rw [Bool.and_eq_true, Bool.and_eq_true] at q
    have q1 : ((sIx items.size 0 lo : Nat) : Int) = 0 := eq_of_beq q.1.1
    have q2 : sIx items.size items.size hi - sIx items.size 0 lo = items.size := eq_of_beq q.2
    exact hw ⟨by omega, by omega⟩
  show wpAny _ _ (if (((sIx items.size 0 lo : Nat) : Int) == 0 && (1 : Int) == 1 && (sIx items.size items.size hi - sIx items.size 0 lo) == items.size) = true then _ else _) _ _ s
  rw [if_neg hno, pick_gen]
  first
    | exact wpAny_bind (m := Builtin.Tuple.tupleExact _) (wpAny_newObj_type (wpAny_pure ⟨_, rfl, wpAny_pure h⟩) htake)
    | exact wpAny_bind (m := Builtin.Tuple.tupleExact _) (wpAny_newObj_type (wpAny_bind (wpAny_pure (wpAny_pure ⟨_, rfl, wpAny_pure h⟩))) htake)
    | exact wpAny_bind (wpAny_bind (m := Builtin.Tuple.tupleExact _) (wpAny_newObj_type (wpAny_pure (wpAny_pure ⟨_, rfl, wpAny_pure h⟩)) htake))
    | exact wpAny_bind (wpAny_bind (m := Builtin.Tuple.tupleExact _) (wpAny_newObj_type (wpAny_pure ⟨_, rfl, wpAny_pure h⟩) htake))
end
end HT

namespace L2
open PySem PySem.Spec PyProof.Rows

/-! ### the parts of a slice -/
abbrev TO := St → Hp → (Option Int → Hp → Prop) → Prop
/-- a slice's part (left out, or an int) -/
def PO (X : Cx) (e : Option Expr) (t : TO) : Prop :=
  ∀ (pins : List (Addr × Obj)) (s : Shared) (σ : St) (H : Hp) (Q : Option Int → Hp → Prop), Inv X pins σ H s → t σ H Q →
    wpAny (model X.prog X.w) X.A (evalPart e X.env) (fun u s' => ∃ o H', Inv X pins σ H' s' ∧ IsPart u o ∧ Q o H') X.xe s
def tNoPart : TO := fun _ H Q => Q none H
def tPart (t : TE) : TO := fun σ H Q => t σ H fun x H1 => ∃ i, x = .int i ∧ Q (some i) H1


section
variable {X : Cx} {e : Expr} {te : TE} {lo hi : Option Expr} {tl th : TO} {pos p2 : Pos}

theorem po_none : PO X none tNoPart := by
  intro pins s σ H Q I h
  rw [evalPart_none]
  exact wpAny_pure ⟨none, H, I, .none, h⟩
theorem po_some (h : PE X e te) : PO X (some e) (tPart te) := by
  intro pins s σ H Q I hw
  rw [evalPart_some]
  refine thn (h pins s σ H _ I hw) fun u s1 ⟨x, H1, I1, r1, q1⟩ => ?_
  obtain ⟨i, rfl, q⟩ := q1
  obtain ⟨t, rfl⟩ := r1
  exact ⟨some i, H1, I1, .int i t, q⟩

/-- what a slice of a value is, by values: the slice object stands at sl -/
def SlR (X : Cx) (r : V → Option Int → Option Int → Hp → VK → Prop) : Prop :=
  ∀ (pins : List (Addr × Obj)) (s : Shared) (σ : St) (H : Hp) (x : V) (v vl vu : Value) (lo hi : Option Int) (sl : Addr) (Q : VK), Inv X pins σ H s → RelV x v → s.heap.IsSliceOf sl vl vu .none → IsPart vl lo → IsPart vu hi → r x lo hi H Q →
    ∃ T id, typeLookup (.type T) "__getitem__" = pure (some (.builtin id)) ∧ s.TypeIs v T ∧ wpAny (model X.prog X.w) X.A (getItem v (.ref sl)) (EP X pins σ Q) X.xe s
def tSl (r : V → Option Int → Option Int → Hp → VK → Prop) (te : TE) (tl th : TO) : TE := fun σ H Q => te σ H fun x H1 => tl σ H1 fun l H2 => th σ H2 fun u H3 => r x l u H3 Q
/-- a[lo:hi], any a -/
theorem pe_slice {r : V → Option Int → Option Int → Hp → VK → Prop} (hr : SlR X r) (he : PE X e te) (hl : PO X lo tl) (hu : PO X hi th) : PE X (.Subscript e (.Slice lo hi none p2) pos) (tSl r te tl th) := by
  intro pins s σ H Q I h
  refine Subscript_ (thn (he pins s σ H _ I h) fun v s1 ⟨x, H1, I1, r1, q1⟩ => ?_)
  refine wpAny_Slice (thn (hl pins s1 σ H1 _ I1 q1) fun vl s2 ⟨l, H2, I2, pl, q2⟩ => thn (hu pins s2 σ H2 _ I2 q2) fun vu s3 ⟨u, H3, I3, pu, q3⟩ => ?_)
  rw [evalPart_none]
  refine wpAny_pure ?_
  have I4 : Inv X pins σ H3 { s3 with heap := s3.heap.push { cls := .type "slice", data := .fields #[vl, vu, .none] } } := I3.kept (t' := s3.toks) fun b ob q => Heap.get?_push_of_some _ q
  obtain ⟨T, id, hT, ht, hg⟩ := hr pins { s3 with heap := s3.heap.push { cls := .type "slice", data := .fields #[vl, vu, .none] } } σ H3 x v vl vu l u s3.heap.objs.size Q I4 r1 (Heap.IsSliceOf.new ..) pl pu q3
  show wpAny (model X.prog X.w) X.A (subscriptTail e (.Slice lo hi none p2) v (.ref s3.heap.objs.size)) (EP X pins σ Q) X.xe { s3 with heap := s3.heap.push { cls := .type "slice", data := .fields #[vl, vu, .none] } }
  exact tail_any (ops := [.ref s3.heap.objs.size, v]) ht hT hg (by with_unfolding_all rfl)

/-- the items of xs[lo:hi] -/
def cutV (xs : List V) (lo hi : Option Int) : List V := (xs.drop (HT.sIx xs.length 0 lo)).take (HT.sIx xs.length xs.length hi - HT.sIx xs.length 0 lo)
theorem cutV_length (xs : List V) (lo hi : Option Int) : (cutV xs lo hi).length ≤ xs.length := by
  unfold cutV
  rw [List.length_take, List.length_drop]
  omega
/-- t[lo:hi], not the whole of it (the whole would be t itself) -/
def rSlT (K : PySem.W.Frag) : V → Option Int → Option Int → Hp → VK → Prop := fun x lo hi H Q => ∃ a xs, x = .ref a ∧ SqT K H a xs ∧
  ¬ (HT.sIx xs.length 0 lo = 0 ∧ HT.sIx xs.length xs.length hi = xs.length) ∧ ∀ p, H p = none → Q (.ref p) (upd H p (.tup (cutV xs lo hi)))
theorem sl_tup : SlR X (rSlT X.K) := by
  intro pins s σ H x v vl vu lo hi sl Q I rx hs pl pu h
  obtain ⟨a, xs, rfl, hx, hw, q⟩ := h
  cases rx
  obtain ⟨its, r, ht, hz⟩ := I.tuple hx
  have hlen : its.toArray.size = xs.length := by rw [List.size_toArray]; exact r.length.symm
  refine ⟨"tuple", _, PyProof.Rows.slot_tuple_getitem.lookup, ht.typeIs, ?_⟩
  refine HT.getItem_tuple_cut ht hs pl pu (by rw [hlen]; exact hw) ?_ (by rw [hlen]; exact hz)
  rw [hlen]
  refine ⟨.ref s.heap.objs.size, _, I.laid (t' := s.toks) (o := .tup (cutV xs lo hi)) (fun b ob q => Heap.get?_push_of_some _ q) (Nat.le_refl _) ?_, rfl, q _ (I.hok.fresh (Nat.le_refl _))⟩
  exact ⟨Nat.le_trans (cutV_length xs lo hi) hz, _, (r.drop (HT.sIx xs.length 0 lo)).take (HT.sIx xs.length xs.length hi - HT.sIx xs.length 0 lo), IsTup.new _ _⟩

/-! ### t < u, t + u -/
def rLtT (K : PySem.W.Frag) : R2 := fun x y H Q => ∃ a b ns ms, x = .ref a ∧ y = .ref b ∧ SqT K H a (ns.map V.int) ∧ SqT K H b (ms.map V.int) ∧ Q (.bl (HT.lexLt ns ms)) H
/-- t + u, t not empty: u empty gives t itself -/
def rCatT (K : PySem.W.Frag) : R2 := fun x y H Q => ∃ a b xs ys, x = .ref a ∧ y = .ref b ∧ SqT K H a xs ∧ SqT K H b ys ∧ xs ≠ [] ∧ xs.length + ys.length ≤ sizeLine ∧
  (ys = [] → Q (.ref a) H) ∧ (ys ≠ [] → ∀ p, H p = none → Q (.ref p) (upd H p (.tup (xs ++ ys))))
theorem Vals.nil_iff {xs : List V} {us : List Value} (r : Vals xs us) : us = [] ↔ xs = [] := by
  cases r with
  | nil => simp
  | cons _ _ => simp
theorem op_catT : OpR X (binaryOp .Add) (rCatT X.K) := by
  intro pins s σ H x y v u Q I rx ry h
  obtain ⟨a, b, xs, ys, rfl, rfl, ha, hb, hx, hz, q1, q2⟩ := h
  cases rx
  cases ry
  obtain ⟨its, r1, p1, _⟩ := I.tuple ha
  obtain ⟨its2, r2, p2, _⟩ := I.tuple hb
  refine HT.cat_tup p1 p2 (fun z => hx (r1.nil_iff.mp z)) (fun z => ⟨.ref a, H, I, rfl, q1 (r2.nil_iff.mp z)⟩) (fun z => ?_) (by rw [← r1.length, ← r2.length]; exact hz)
  refine ⟨.ref s.heap.objs.size, _, I.laid (t' := s.toks) (o := .tup (xs ++ ys)) (fun b ob q => Heap.get?_push_of_some _ q) (Nat.le_refl _) ?_, rfl, q2 (fun w => z (r2.nil_iff.mpr w)) _ (I.hok.fresh (Nat.le_refl _))⟩
  exact ⟨by rw [List.length_append]; exact hz, _, r1.append r2, IsTup.new _ _⟩
end
end L2

namespace L2
open PySem PySem.Spec PyProof.Rows

/-! ### places -/
/-- the place that an index of any sign means -/
def ixN (n : Nat) (i : Int) : Option Nat := if 0 ≤ i then (if i < n then some i.toNat else none) else if -(n : Int) ≤ i then some (i + n).toNat else none
def atI {α : Type} (xs : List α) (i : Int) : Option α := (ixN xs.length i).bind fun j => xs[j]?
theorem ixN_seq {n : Nat} {i : Int} {j : Nat} (h : ixN n i = some j) : seqIndex? i n = some j ∧ j < n ∧ -(n : Int) ≤ i ∧ i < n := by
  unfold ixN at h
  by_cases h0 : 0 ≤ i
  · rw [if_pos h0] at h
    by_cases h1 : i < n
    · rw [if_pos h1] at h
      have e : i.toNat = j := Option.some.inj h
      exact ⟨by rw [seqIndex_of h0 h1, e], by omega, by omega, h1⟩
    · rw [if_neg h1] at h; cases h
  · rw [if_neg h0] at h
    by_cases h1 : -(n : Int) ≤ i
    · rw [if_pos h1] at h
      have e : (i + n).toNat = j := Option.some.inj h
      exact ⟨by rw [seqIndex_neg (by omega) h1, e], by omega, h1, by omega⟩
    · rw [if_neg h1] at h; cases h
theorem atI_get {α : Type} {xs : List α} {i : Int} {v : α} (h : atI xs i = some v) : ∃ j, seqIndex? i xs.length = some j ∧ xs[j]? = some v ∧ j < xs.length ∧ -(xs.length : Int) ≤ i ∧ i < xs.length := by
  unfold atI at h
  cases e : ixN xs.length i with
  | none => rw [e] at h; cases h
  | some j =>
    rw [e] at h
    obtain ⟨h1, h2, h3, h4⟩ := ixN_seq e
    exact ⟨j, h1, h, h2, h3, h4⟩
theorem atI_nat {α : Type} {xs : List α} {j : Nat} {v : α} (h : xs[j]? = some v) : atI xs (j : Int) = some v := by
  have hj : j < xs.length := (List.getElem?_eq_some_iff.mp h).1
  have e : ixN xs.length (j : Int) = some j := by
    unfold ixN
    rw [if_pos (by omega), if_pos (by omega)]; simp
  unfold atI; rw [e]; exact h
theorem atI_last {α : Type} (xs : List α) (v : α) : atI (xs ++ [v]) (-1) = some v := by
  have hl : (xs ++ [v]).length = xs.length + 1 := by simp
  have e : ixN (xs ++ [v]).length (-1) = some xs.length := by
    unfold ixN
    rw [hl, if_neg (by decide), if_pos (by omega)]
    congr 1
    omega
  unfold atI
  rw [e]
  show (xs ++ [v])[xs.length]? = some v
  simp

/-! ### what may be subscripted -/
/-- what stands as an index of a plain subscript -/
def PlainIx (b : Expr) : Prop := ∀ o i, subscripted b false o i = operate [o, i] (getItem o i)
/-- a subscript by values -/
def IxR (X : Cx) (r : R2) : Prop :=
  ∀ (value slice : Expr) (pins : List (Addr × Obj)) (s : Shared) (σ : St) (H : Hp) (x y : V) (v u : Value) (Q : VK), Inv X pins σ H s → RelV x v → RelV y u → r x y H Q →
    subscripted slice false v u = operate [v, u] (getItem v u) → wpAny (model X.prog X.w) X.A (subscriptTail value slice v u) (EP X pins σ Q) X.xe s
/-- a call of a builtin's method by values: the receiver, the arguments -/
def MtR (X : Cx) (id : String) (r : V → List V → Hp → VK → Prop) : Prop :=
  ∀ (pins : List (Addr × Obj)) (s : Shared) (σ : St) (H : Hp) (x : V) (xs : List V) (v : Value) (us : List Value) (Q : VK), Inv X pins σ H s → RelV x v → Vals xs us → r x xs H Q →
    wpAny (model X.prog X.w) X.A (call (.builtin id) (v :: us)) (EP X pins σ Q) X.xe s
section
variable {X : Cx} {a b : Expr} {ta tb : TE} {pos : Pos}
/-- a[b] -/
theorem pe_ix {r : R2} (hr : IxR X r) (ha : PE X a ta) (hb : PE X b tb) (hs : PlainIx b) : PE X (.Subscript a b pos) (tOp r ta tb) := by
  intro pins s σ H Q I h
  exact Subscript_ (binT ha hb I h fun v u s2 x y H2 I2 rx ry q => hr a b pins s2 σ H2 x y v u Q I2 rx ry q (hs _ _))

def rIxL (K : PySem.W.Frag) : R2 := fun x y H Q => ∃ p xs i v, x = .ref p ∧ y = .int i ∧ SqL K H p xs ∧ atI xs i = some v ∧ Q v H
def rIxT (K : PySem.W.Frag) : R2 := fun x y H Q => ∃ p xs i v, x = .ref p ∧ y = .int i ∧ SqT K H p xs ∧ atI xs i = some v ∧ Q v H
def rIxS : R2 := fun x y H Q => ∃ z i c, x = .str z ∧ y = .int i ∧ z.length ≤ sizeLine ∧ atI z.cps.toList i = some c ∧ Q (.str ⟨#[c]⟩) H
theorem ix_list : IxR X (rIxL X.K) := by
  intro value slice pins s σ H x y v u Q I rx ry h hs
  obtain ⟨p, xs, i, z, rfl, rfl, hq, he, q⟩ := h
  cases rx
  obtain ⟨t, rfl⟩ := ry
  obtain ⟨its, r, pl, hz⟩ := I.list hq
  obtain ⟨j, h1, h2, h3, h4, h5⟩ := atI_get he
  obtain ⟨w, ew, rw'⟩ := r.get h2
  have hl := r.length
  have hn := line63
  have fin : EP X pins σ Q w s := ⟨z, H, I, rw', q⟩
  by_cases h0 : 0 ≤ i
  · have hj : i.toNat = j := by
      rw [seqIndex_of h0 h5] at h1
      exact Option.some.inj h1
    exact item_listR pl.isList h0 (by omega) (by rw [hj]; simpa using ew) fin hs
  · have hj : (i + (its.toArray.size : Int)).toNat = j := by
      rw [seqIndex_neg (by omega) h4] at h1
      rw [List.size_toArray, ← hl]
      exact Option.some.inj h1
    exact subscriptTail_builtinR (x := w) pl.isList.typeIs slot_list_getitem.lookup
      (wpAny_getItem_list_neg (Q := fun r s' => r = w ∧ EP X pins σ Q r s') pl.isList (by omega) (by rw [List.size_toArray] <;> omega) (by omega) (by rw [hj]; simpa using ew) ⟨rfl, fin⟩) hs
theorem ix_tup : IxR X (rIxT X.K) := by
  intro value slice pins s σ H x y v u Q I rx ry h hs
  obtain ⟨p, xs, i, z, rfl, rfl, hq, he, q⟩ := h
  cases rx
  obtain ⟨t, rfl⟩ := ry
  obtain ⟨its, r, pl, hz⟩ := I.tuple hq
  obtain ⟨j, h1, h2, h3, h4, h5⟩ := atI_get he
  obtain ⟨w, ew, rw'⟩ := r.get h2
  have hl := r.length
  have hn := line63
  have fin : EP X pins σ Q w s := ⟨z, H, I, rw', q⟩
  exact subscriptTail_builtinR (x := w) pl.typeIs slot_tuple_getitem.lookup
    (getItem_tuple (j := j) (Q := fun r s' => r = w ∧ EP X pins σ Q r s') pl (by omega) (by omega) (by rw [List.size_toArray, ← hl]; exact h1) (by simpa using ew) ⟨rfl, fin⟩) hs
/-- list, tuple or str -/
def rIx (K : PySem.W.Frag) : R2 := fun x y H Q => rIxL K x y H Q ∨ rIxT K x y H Q ∨ rIxS x y H Q

/-! ### xs[i] = v, any sign -/
def rSetL : V → V → V → Hp → (Hp → Prop) → Prop := fun o i v H Q => ∃ p xs k j, o = .ref p ∧ i = .int k ∧ H p = some (.lst xs) ∧ ixN xs.length k = some j ∧ Q (upd H p (.lst (xs.set j v)))

/-! ### slices -/
theorem slice_bounds (lo hi : Option Int) (n : Nat) : (sliceBounds lo hi none n).1 = ((HT.sIx n 0 lo : Nat) : Int) ∧ (sliceBounds lo hi none n).2.1 = ((HT.sIx n n hi : Nat) : Int) ∧ (sliceBounds lo hi none n).2.2 = 1 := by
  refine ⟨?_, ?_, rfl⟩
  · cases lo with
    | none => simp [sliceBounds, HT.sIx]
    | some i =>
      simp only [sliceBounds, HT.sIx, Option.getD_none, show (1 : Int) > 0 by decide, if_true]
      by_cases h : i < 0
      · simp only [h, if_true] <;> omega
      · simp only [h, if_false] <;> omega
  · cases hi with
    | none => simp [sliceBounds, HT.sIx]
    | some i =>
      simp only [sliceBounds, HT.sIx, Option.getD_none, show (1 : Int) > 0 by decide, if_true]
      by_cases h : i < 0
      · simp only [h, if_true] <;> omega
      · simp only [h, if_false] <;> omega
theorem slicePick_cut (its : List Value) (lo hi : Option Int) : slicePick its.toArray lo hi none = ((its.drop (HT.sIx its.length 0 lo)).take (HT.sIx its.length its.length hi - HT.sIx its.length 0 lo)).toArray := by
  obtain ⟨h1, h2, h3⟩ := slice_bounds lo hi its.toArray.size
  unfold slicePick
  rw [h1, h2, h3]
  simp only [sliceRange_one, pick_run, List.size_toArray] <;> rfl
/-- xs[lo:hi] of a list: a new list -/
def rSlL (K : PySem.W.Frag) : V → Option Int → Option Int → Hp → VK → Prop := fun x lo hi H Q => ∃ a xs, x = .ref a ∧ SqL K H a xs ∧ ∀ p, H p = none → Q (.ref p) (upd H p (.lst (cutV xs lo hi)))
theorem sl_list : SlR X (rSlL X.K) := by
  intro pins s σ H x v vl vu lo hi sl Q I rx hs pl pu h
  obtain ⟨a, xs, rfl, hx, q⟩ := h
  cases rx
  obtain ⟨its, r, ht, hz⟩ := I.list hx
  have hlen := r.length
  refine ⟨"list", _, slot_list_getitem.lookup, ht.isList.typeIs, ?_⟩
  refine wpAny_getItem_list_slice ht.isList hs pl pu .none (by simp) ?_ (by rw [List.size_toArray] <;> omega)
  rw [slicePick_cut, ← hlen]
  refine ⟨.ref s.heap.objs.size, _, I.laid (t' := s.toks) (o := .lst (cutV xs lo hi)) (fun b ob q => Heap.get?_push_of_some _ q) (Nat.le_refl _) ?_, rfl, q _ (I.hok.fresh (Nat.le_refl _))⟩
  exact ⟨Nat.le_trans (cutV_length xs lo hi) hz, _, 0, (r.drop (HT.sIx xs.length 0 lo)).take (HT.sIx xs.length xs.length hi - HT.sIx xs.length 0 lo), Heap.get?_push_size _ rfl⟩

/-! ### in, not in: flat items -/
def flatV : V → Bool
  | .non => true
  | .bl _ => true
  | .int _ => true
  | .str _ => true
  | _ => false
/-- == of flat values -/
def eqV : V → V → Bool
  | .non, .non => true
  | .bl a, .bl b => a == b
  | .bl a, .int b => (if a then 1 else 0) == b
  | .int a, .bl b => a == (if b then 1 else 0)
  | .int a, .int b => a == b
  | .str a, .str b => a == b
  | _, _ => false
/-- the items' answers, read off the values (a value's own answer does not lean on its token) -/
def eqU (x : V) (u : Value) : Bool := match u with
  | .none => eqV .non x
  | .bool b => eqV (.bl b) x
  | .int i _ => eqV (.int i) x
  | .str z _ => eqV (.str z) x
  | _ => false
def inV (x : V) (xs : List V) : Bool := xs.any fun y => eqV y x
/-- x in a list or tuple of flat items -/
def rIn (K : PySem.W.Frag) (neg : Bool) : R2 := fun x y H Q => ∃ p xs, y = .ref p ∧ (SqL K H p xs ∨ SqT K H p xs) ∧ flatV x = true ∧ xs.all flatV = true ∧ Q (.bl (if neg then !inV x xs else inV x xs)) H

/-! ### len, list(x), tuple(x) of any list or tuple that is read -/
theorem call_len_seq : CallR X (.builtin "len") (fun xs H Q => ∃ p ys, xs = [.ref p] ∧ (SqL X.K H p ys ∨ SqT X.K H p ys) ∧ Q (.int ys.length) H) := by
  intro pins s σ H xs us Q I r h
  obtain ⟨p, ys, rfl, hq, q⟩ := h
  obtain ⟨u, rfl, rx⟩ := vals1 r
  cases rx
  have hn := line63
  rcases hq with hq | hq
  · obtain ⟨its, r', pl, hz⟩ := I.list hq
    have hlen := r'.length
    exact Calls.call_len_list pl.isList (by simp only [List.size_toArray] <;> omega) ⟨.int ys.length, H, I.tok _, ⟨s.toks + 1, by rw [List.size_toArray, hlen]⟩, q⟩
  · obtain ⟨its, r', pl, hz⟩ := I.tuple hq
    have hlen := r'.length
    exact len_tuple pl (by simp only [List.size_toArray] <;> omega) ⟨.int ys.length, H, I.tok _, ⟨s.toks + 1, by rw [List.size_toArray, hlen]⟩, q⟩
theorem call_list_of : CallR X (.type "list") (fun xs H Q => ∃ p ys, xs = [.ref p] ∧ (SqL X.K H p ys ∨ SqT X.K H p ys) ∧ ∀ l, H l = none → Q (.ref l) (upd H l (.lst ys))) := by
  intro pins s σ H xs us Q I r h
  obtain ⟨p, ys, rfl, hq, q⟩ := h
  obtain ⟨u, rfl, rx⟩ := vals1 r
  cases rx
  have fin : ∀ (its : List Value), Vals ys its → ys.length ≤ sizeLine → ∀ (h' : Heap) (c' : Nat), (∀ b o', s.heap.get? b = some o' → h'.get? b = some o') →
      h'.get? s.heap.objs.size = some { cls := .type "list", dict := none, data := .seq its.toArray c', slots := #[] } → EP X pins σ Q (.ref s.heap.objs.size) { s with heap := h' } := fun its r' hz h' c' kp e =>
    ⟨.ref s.heap.objs.size, _, I.laid (t' := s.toks) kp (Nat.le_refl _) (show ObjOk X.prog X.w _ h' _ (.lst ys) from ⟨hz, its, c', r', e⟩), rfl, q _ (I.hok.fresh (Nat.le_refl _))⟩
  rcases hq with hq | hq
  · obtain ⟨its, r', pl, hz⟩ := I.list hq
    have hlen := r'.length
    obtain ⟨o, ho, hc, n, hd⟩ := pl.isList
    exact call_list_seq p (.inl rfl) ho hc hd (fun h' c' kp e => fin its r' hz h' c' kp e) (by simp only [List.size_toArray] <;> omega)
  · obtain ⟨its, r', pl, hz⟩ := I.tuple hq
    have hlen := r'.length
    obtain ⟨o, ho, hc, n, hd⟩ := pl
    exact call_list_seq p (.inr rfl) ho hc hd (fun h' c' kp e => fin its r' hz h' c' kp e) (by simp only [List.size_toArray] <;> omega)
theorem call_tuple_of : CallR X (.type "tuple") (fun xs H Q => ∃ p ys, xs = [.ref p] ∧ ((SqL X.K H p ys ∧ ∀ l, H l = none → Q (.ref l) (upd H l (.tup ys))) ∨ (SqT X.K H p ys ∧ Q (.ref p) H))) := by
  intro pins s σ H xs us Q I r h
  obtain ⟨p, ys, rfl, h⟩ := h
  obtain ⟨u, rfl, rx⟩ := vals1 r
  cases rx
  rcases h with ⟨hq, q⟩ | ⟨hq, q⟩
  · obtain ⟨its, r', pl, hz⟩ := I.list hq
    have hlen := r'.length
    refine call_tuple_list pl.isList (fun h' kp => ?_) (by simp only [List.size_toArray] <;> omega)
    have I1 : Inv X pins σ H { s with heap := h' } := I.kept (t' := s.toks) kp
    have I2 : Inv X pins σ (upd H h'.objs.size (.tup ys)) { s with heap := h'.push { cls := .type "tuple", data := .seq its.toArray } } :=
      I1.laid (t' := s.toks) (fun b o e => Heap.get?_push_of_some _ e) (Nat.le_refl _) (show ObjOk X.prog X.w _ _ _ (.tup ys) from ⟨hz, its, r', IsTup.new _ _⟩)
    exact ⟨.ref h'.objs.size, _, I2, rfl, q _ (I1.hok.fresh (Nat.le_refl _))⟩
  · obtain ⟨its, r', pl, hz⟩ := I.tuple hq
    exact call_tuple_same pl ⟨.ref p, H, I, rfl, q⟩

/-! ### the call of a builtin's method: o.m(..) -/
/-- the value is of that builtin type -/
def tyV (K : PySem.W.Frag) (T : String) (x : V) (H : Hp) : Prop := match x with
  | .str _ => T = "str"
  | .int _ => T = "int"
  | .ref p => (T = "list" ∧ ∃ xs, SqL K H p xs) ∨ (T = "tuple" ∧ ∃ o, K.lookup p = some o ∧ o.cls = .type "tuple" ∧ o.dict = none) ∨
      (T = "dict" ∧ ((∃ kvs, H p = some (.dK kvs)) ∨ ∃ kvs, H p = some (.dT kvs))) ∨ (T = "set" ∧ ∃ S n, H p = some (.set S n))
  | _ => False
theorem tyV_is {pins : List (Addr × Obj)} {σ : St} {H : Hp} {s : Shared} {T : String} {x : V} {v : Value} (I : Inv X pins σ H s) (r : RelV x v) (ty : tyV X.K T x H) :
    s.TypeIs v T ∧ ∀ a, v = .ref a → ∃ ob, s.heap.get? a = some ob ∧ ob.dict = none := by
  cases x with
  | str z =>
    obtain ⟨t, rfl⟩ := r
    cases (show T = "str" from ty)
    exact ⟨typeIs_str s z t, fun _ e => nomatch e⟩
  | int i =>
    obtain ⟨t, rfl⟩ := r
    cases (show T = "int" from ty)
    exact ⟨typeIs_int s i t, fun _ e => nomatch e⟩
  | ref p =>
    cases r
    rcases ty with ⟨rfl, xs, hq⟩ | ⟨rfl, o, hk, hc, hd⟩ | ⟨rfl, hk⟩ | ⟨rfl, S, n, hk⟩
    · obtain ⟨its, _, pl, _⟩ := I.list hq
      refine ⟨pl.isList.typeIs, fun a e => ?_⟩
      cases e
      obtain ⟨o, n, e, c, hd, _⟩ := pl
      exact ⟨o, e, hd⟩
    · refine ⟨⟨o, I.kIn p o hk, hc⟩, fun a e => ?_⟩
      cases e
      exact ⟨o, I.kIn _ o hk, hd⟩
    · have z : ∃ o, s.heap.get? p = some o ∧ o.ExactDict := by
        rcases hk with ⟨kvs, hk⟩ | ⟨kvs, hk⟩
        · obtain ⟨_, _, _, _, o, _, _, e, ex, _⟩ := I.hok p _ hk
          exact ⟨o, e, ex⟩
        · obtain ⟨_, _, _, _, o, _, _, e, ex, _⟩ := I.hok p _ hk
          exact ⟨o, e, ex⟩
      obtain ⟨o, e, ex⟩ := z
      refine ⟨⟨o, e, ex.1⟩, fun a e2 => ?_⟩
      cases e2
      exact ⟨o, e, ex.2.1⟩
    · obtain ⟨o, _, _, _, e, ex, _⟩ := I.hok p _ hk
      refine ⟨⟨o, e, ex.1⟩, fun a e2 => ?_⟩
      cases e2
      exact ⟨o, e, ex.2.1⟩
  | _ => exact False.elim ty
def tBM0 (K : PySem.W.Frag) (T : String) (r : V → List V → Hp → VK → Prop) (to : TE) : TE := fun σ H Q => to σ H fun x H1 => tyV K T x H1 ∧ r x [] H1 Q
def tBM (K : PySem.W.Frag) (T : String) (r : V → List V → Hp → VK → Prop) (to : TE) (t : TA) : TE := fun σ H Q => to σ H fun x H1 => tyV K T x H1 ∧ t σ H1 fun xs H2 => r x xs H2 Q
variable {o e : Expr} {es : List Expr} {to : TE} {t : TA} {name : Str} {apos cpos : Pos} {T id : String} {r : V → List V → Hp → VK → Prop}
theorem pe_bm0 (pa : PlainAttrs T) (slot : Slot T name id) (hty : typeOf (.builtin id) = pure (.type "method_descriptor")) (hm : MtR X id r) (ho : PE X o to)
    (hbase : attributeBase o name X.env (eval o X.env) = eval o X.env := by rfl) (hline : (apos.endLine == cpos.line) = true := by rfl) : PE X (.Call (.Attribute o name apos) [] [] cpos) (tBM0 X.K T r to) := by
  intro pins s σ H Q I h
  refine wpAny_Call_method0_late hbase hline (thn (ho pins s σ H _ I h) fun v s1 ⟨x, H1, I1, r1, ty, q1⟩ => ?_)
  obtain ⟨h1, h2⟩ := tyV_is I1 r1 ty
  exact ⟨T, id, pa, slot, hty, h1, h2, Calls.callWith_builtin rfl (PySem.evalArgs_none (hm pins s1 σ H1 x [] v [] Q I1 r1 .nil q1))⟩
theorem pe_bm (pa : PlainAttrs T) (slot : Slot T name id) (hty : typeOf (.builtin id) = pure (.type "method_descriptor")) (hm : MtR X id r) (ho : PE X o to) (ha : PA X (e :: es) t)
    (hbase : attributeBase o name X.env (eval o X.env) = eval o X.env := by rfl)
    (hfew : ((backTo cpos (starEach (e :: es) X.env)).all (fun x => !x.1) && (backToKw cpos (keywordEach [] X.env)).all (fun x => x.1.isSome)
      && decide ((e :: es).length + ([] : List Keyword).length + (if ([] : List Keyword).isEmpty then 0 else 1) < 30)) = true := by rfl)
    (hline : (apos.endLine == cpos.line) = true := by rfl) (hs : starEach (e :: es) X.env = (false, eval e X.env) :: starEach es X.env := by rfl) (hplain : (backTo cpos (starEach es X.env)).any (·.1) = false := by rfl) :
    PE X (.Call (.Attribute o name apos) (e :: es) [] cpos) (tBM X.K T r to t) := by
  intro pins s σ H Q I h
  refine wpAny_Call_method_late hbase hfew hline rfl (thn (ho pins s σ H _ I h) fun v s1 ⟨x, H1, I1, r1, ty, q1⟩ => ?_)
  obtain ⟨h1, h2⟩ := tyV_is I1 r1 ty
  refine ⟨T, id, pa, slot, hty, h1, h2, ?_⟩
  have hA := ha cpos pins s1 σ H1 _ I1 q1
  rw [hs] at hA ⊢
  refine Calls.callWith_builtin (by show (false || (backTo cpos (starEach es X.env)).any (·.1)) = false; rw [hplain] <;> rfl) (Calls.evalArgs_plain ?_)
  exact thn hA fun us s2 ⟨vs, H2, I2, r2, q2⟩ => hm pins s2 σ H2 x vs v us Q I2 r1 r2 q2
/- xs.append(e), list.index on a module's tuple .. are MtR facts of 06m -/
end
end L2

namespace L2
open PySem PySem.Spec PyProof.Rows

def MtM (X : Cx) (id : String) (r : V → List V → Hp → VK → Prop) : Prop :=
  ∀ (pins : List (Addr × Obj)) (s : Shared) (σ : St) (H : Hp) (x : V) (xs : List V) (v : Value) (us : List Value) (Q : VK), Inv X pins σ H s → RelV x v → Vals xs us → r x xs H Q →
    wpAny (model X.prog X.w) X.A (call (.builtin id) (v :: us)) (EP X pins σ Q) X.xe s

/-! ### lists of values -/
theorem Vals.one : ∀ {x : V} {us : List Value}, Vals [x] us → ∃ u, us = [u] ∧ RelV x u
  | _, _, .cons r .nil => ⟨_, rfl, r⟩
theorem Vals.two : ∀ {x y : V} {us : List Value}, Vals [x, y] us → ∃ u v, us = [u, v] ∧ RelV x u ∧ RelV y v
  | _, _, _, .cons r (.cons q .nil) => ⟨_, _, rfl, r, q⟩
theorem Vals.zero : ∀ {us : List Value}, Vals [] us → us = []
  | _, .nil => rfl
theorem Vals.dropLast {xs : List V} {us : List Value} (h : Vals xs us) : Vals xs.dropLast us.dropLast := by
  induction h with
  | nil => exact .nil
  | cons r t ih =>
    cases t with
    | nil => exact .nil
    | cons q t' => exact .cons r ih
theorem erase_last {α : Type} (l : List α) : l.eraseIdx (l.length - 1) = l.dropLast := by
  induction l with
  | nil => rfl
  | cons a r ih =>
    cases r with
    | nil => rfl
    | cons b r =>
      have e : (a :: b :: r).length - 1 = ((b :: r).length - 1) + 1 := by
        have h1 : (a :: b :: r).length = r.length + 2 := rfl
        have h2 : (b :: r).length = r.length + 1 := rfl
        omega
      rw [e, List.eraseIdx_cons_succ, ih]
      all_goals rfl

section
variable {X : Cx} {pins : List (Addr × Obj)} {σ : St} {H : Hp} {s : Shared} {l b : Addr} {xs ys zs : List V}

/-! ### the two steps: a tracked list is rewritten, a new list is laid -/
theorem Inv.lset {its its' : List Value} {n : Nat} {f : Array Value → Array Value} {t' : Nat} (I : Inv X pins σ H s) (hH : H l = some (.lst xs))
    (e : s.heap.get? l = some { cls := .type "list", data := .seq its.toArray n }) (hf : f its.toArray = its'.toArray) (hv : Vals ys its') (hz : ys.length ≤ sizeLine) :
    Inv X pins σ (upd H l (.lst ys)) { s with heap := s.heap.update l (Obj.mapSeq f), toks := t' } := by
  have q := PySem.IsL.update e f
  rw [hf] at q
  refine I.write (x := l) (e := l) (by rw [hH]; exact trivial) (.inl rfl) (fun b' u hb hu => (Heap.get?_update_other s.heap (Obj.mapSeq f) (Ne.symm hb)).trans hu) ⟨_, q⟩ ?_
  exact ⟨hz, its', _, hv, q⟩
theorem Inv.lnew {its : List Value} {t' : Nat} (I : Inv X pins σ H s) (hv : Vals ys its) (hz : ys.length ≤ sizeLine) :
    Inv X pins σ (upd H s.heap.objs.size (.lst ys)) { s with heap := s.heap.push { cls := .type "list", data := .seq its.toArray }, toks := t' } :=
  I.laid (fun _ _ q => Heap.get?_push_of_some _ q) (Nat.le_refl _) ⟨hz, its, 0, hv, Heap.get?_push_size _ rfl⟩
theorem Inv.fresh (I : Inv X pins σ H s) : H s.heap.objs.size = none := I.hok.fresh (Nat.le_refl _)
theorem Inv.lstM (I : Inv X pins σ H s) (hH : H l = some (.lst xs)) : xs.length ≤ sizeLine ∧ ∃ (its : List Value) (n : Nat), Vals xs its ∧ xs.length = its.length ∧ s.heap.get? l = some { cls := .type "list", data := .seq its.toArray n } := by
  obtain ⟨z, its, n, r, e⟩ := I.hok l _ hH
  exact ⟨z, its, n, r, r.length, e⟩

theorem notLongL {n : Nat} (h : n ≤ sizeLine) : Builtin.List.listTooLong n = false := by
  unfold Builtin.List.listTooLong
  exact decide_eq_false (by omega)
end

section
variable {X : Cx}

/-! ### methods -/
def rAppend : V → List V → Hp → VK → Prop := fun x vs H Q => ∃ l xs y, x = .ref l ∧ vs = [y] ∧ H l = some (.lst xs) ∧ xs.length < sizeLine ∧ Q .non (upd H l (.lst (xs ++ [y])))
theorem mt_append : MtM X "list.append" rAppend := by
  intro pins s σ H x vs v us Q I rx rv h
  obtain ⟨l, xs, y, rfl, rfl, hH, hz, q⟩ := h
  cases rx
  obtain ⟨u, rfl, ru⟩ := rv.one
  obtain ⟨z, its, n, r, hl, e⟩ := I.lstM hH
  refine call_meets F.slot_list_append ⟨_, e, rfl⟩ F.entry_list_append (F.args_list_append_2 _ _) (PySem.list_append l its.toArray n u (by rw [List.size_toArray]; omega)) ⟨e, ?_⟩
  refine ⟨.non, _, I.lset (its' := its ++ [u]) hH e (by simp) (r.append (.cons ru .nil)) ?_, rfl, q⟩
  rw [List.length_append, List.length_singleton]
  omega

def rExtend : V → List V → Hp → VK → Prop := fun x vs H Q => ∃ l b xs zs, x = .ref l ∧ vs = [.ref b] ∧ H l = some (.lst xs) ∧ H b = some (.lst zs) ∧ xs.length + zs.length ≤ sizeLine ∧ Q .non (upd H l (.lst (xs ++ zs)))
theorem mt_extend : MtM X "list.extend" rExtend := by
  intro pins s σ H x vs v us Q I rx rv h
  obtain ⟨l, b, xs, zs, rfl, rfl, hH, hB, hz, q⟩ := h
  cases rx
  obtain ⟨u, rfl, ru⟩ := rv.one
  cases ru
  obtain ⟨z, its, n, r, hl, e⟩ := I.lstM hH
  obtain ⟨z2, its2, n2, r2, hl2, e2⟩ := I.lstM hB
  have hsz : its.toArray.size + its2.toArray.size ≤ sizeLine := by rw [List.size_toArray, List.size_toArray]; omega
  have hlong : ¬ (!its.toArray.isEmpty && Builtin.List.listTooLong (its.toArray.size + its2.toArray.size)) = true := by
    rw [notLongL hsz, Bool.and_false]
    exact Bool.false_ne_true
  refine call_meets F.slot_list_extend ⟨_, e, rfl⟩ F.entry_list_extend (F.args_list_extend_2 _ _)
    (AutoSeq1.list_extend_list_list_0 l its.toArray n b its2.toArray n2 hlong (by rw [List.size_toArray]; omega) (by omega)) ⟨e, e2, ?_⟩
  refine ⟨.non, _, I.lset (its' := its ++ its2) hH e (by simp) (r.append r2) ?_, rfl, q⟩
  rw [List.length_append]
  omega

def rPop : V → List V → Hp → VK → Prop := fun x vs H Q => ∃ l xs y, x = .ref l ∧ vs = [] ∧ H l = some (.lst xs) ∧ xs[xs.length - 1]? = some y ∧ Q y (upd H l (.lst xs.dropLast))
theorem mt_pop : MtM X "list.pop" rPop := by
  intro pins s σ H x vs v us Q I rx rv h
  obtain ⟨l, xs, y, rfl, rfl, hH, hy, q⟩ := h
  cases rx
  have hus := rv.zero
  subst hus
  obtain ⟨z, its, n, r, hl, e⟩ := I.lstM hH
  obtain ⟨u, hu, ru⟩ := r.get hy
  have hy' : its.toArray[its.toArray.size - 1]? = some u := by
    show its.toArray[its.length - 1]? = some u
    rw [← Array.getElem?_toList, ← hl]
    exact hu
  refine call_meets F.slot_list_pop ⟨_, e, rfl⟩ F.entry_list_pop (F.args_list_pop_1 _) (MeetsSeq.list_pop_last l its.toArray n u hy' (by rw [List.size_toArray]; omega)) ⟨e, ?_⟩
  refine ⟨y, _, I.lset (its' := its.dropLast) hH e ?_ r.dropLast ?_, ru, q⟩
  · show its.toArray.eraseIdxIfInBounds (its.toArray.size - 1) = its.dropLast.toArray
    rw [List.size_toArray, List.eraseIdxIfInBounds_toArray, erase_last]
  · rw [List.length_dropLast]
    omega

def rPopAt : V → List V → Hp → VK → Prop := fun x vs H Q => ∃ l xs i k y, x = .ref l ∧ vs = [.int i] ∧ H l = some (.lst xs) ∧ -(2 ^ 63) ≤ i ∧ i < 2 ^ 63 ∧ seqIndex? i xs.length = some k ∧ xs[k]? = some y ∧ Q y (upd H l (.lst (xs.eraseIdx k)))

def rReverse : V → List V → Hp → VK → Prop := fun x vs H Q => ∃ l xs, x = .ref l ∧ vs = [] ∧ H l = some (.lst xs) ∧ Q .non (upd H l (.lst xs.reverse))

def rClear : V → List V → Hp → VK → Prop := fun x vs H Q => ∃ l xs, x = .ref l ∧ vs = [] ∧ H l = some (.lst xs) ∧ Q .non (upd H l (.lst []))

/-! ### list + list, list += list, list * int -/
def rCat : R2 := fun x y H Q => ∃ l b xs zs, x = .ref l ∧ y = .ref b ∧ H l = some (.lst xs) ∧ H b = some (.lst zs) ∧ xs.length + zs.length ≤ sizeLine ∧ ∀ p, H p = none → Q (.ref p) (upd H p (.lst (xs ++ zs)))
theorem op_cat : OpR X (binaryOp .Add) rCat := by
  intro pins s σ H x y v u Q I rx ry h
  obtain ⟨l, b, xs, zs, rfl, rfl, hH, hB, hz, q⟩ := h
  cases rx
  cases ry
  obtain ⟨z, its, n, r, hl, e⟩ := I.lstM hH
  obtain ⟨z2, its2, n2, r2, hl2, e2⟩ := I.lstM hB
  refine PySem.P.add_list e e2 ?_ (by rw [List.size_toArray, List.size_toArray]; omega)
  have ea : its.toArray ++ its2.toArray = (its ++ its2).toArray := by simp
  rw [ea]
  exact ⟨.ref _, _, I.lnew (t' := s.toks) (r.append r2) (by rw [List.length_append]; omega), rfl, q _ I.fresh⟩
/-- a list times an int (a negative one is nothing) -/
def rRep : R2 := fun x y H Q => ∃ l k xs, x = .ref l ∧ y = .int k ∧ H l = some (.lst xs) ∧ -(2 ^ 63) ≤ k ∧ k < 2 ^ 63 ∧ xs.length * k.toNat ≤ sizeLine ∧
  ∀ p, H p = none → Q (.ref p) (upd H p (.lst (List.replicate k.toNat xs).flatten))

/-! ### del xs[i] -/
end

/-! ### xs[a:b] = ys -/
section
variable {prog : Program} {w : World} {A : Around} {E : Value → Shared → Prop} {s : Shared}
end

section
variable {X : Cx}
end
end L2

namespace Att
open PySem PySem.W PySem.Calls PyProof.Rows

/-! ### the script -/
theorem ints_of_wellAll {P : Params} {h : Heap} : ∀ (ns : List Int) (vs : List Value), WellAll P h vs (ns.map WData.int) → IntsAre vs ns := by
  intro ns
  induction ns with
  | nil =>
    intro vs w
    rw [List.map_nil] at w
    cases w
    exact .nil
  | cons n ns ih =>
    intro vs w
    rw [List.map_cons] at w
    cases w with
    | cons a b =>
      cases a
      exact .cons _ _ (ih _ b)

theorem script_of {l : OpenLaw} {n : Nat} (hn : l.most = some n) {P : Params} {h : Heap} {args : List WData} {vals : List Value}
    (hpre : l.row.toRowW.claim.pre args = true) (hwl : WellAll P h vals args) :
    ∃ a vs ns, vals = [Value.ref a] ∧ args = [WData.list (ns.map WData.int)] ∧ h.get? a = some { cls := .type "list", data := .seq vs.toArray } ∧ IntsAre vs ns ∧ ns.length ≤ n := by
  have hsh : WShape.hasAll [] args [.list .int] = true := (pre_splitW hpre).1
  have hc : l.pre.holds [] { args := args } = true := (pre_splitW hpre).2
  obtain ⟨d, r, rfl, h1, h2⟩ := hasAllW_cons hsh
  obtain rfl := hasAllW_nil h2
  obtain ⟨xs, rfl, h3⟩ := hasW_list h1
  obtain ⟨ns, rfl⟩ := items_int h3
  have hlen : ns.length ≤ n := by
    unfold OpenLaw.pre at hc
    have h4 : (WTm.not (.lt (.lit (.int (n : Int))) (.len (.arg 0)))).holds [] { args := [.list (ns.map .int)] } = true := by
      have h4 := (holds_andW hc).1
      rw [hn] at h4
      exact h4
    have h5 := condW_of h4 (w_not (w_lt w_lit (w_len_list (w_arg rfl))))
    rw [List.length_map] at h5
    refine Nat.le_of_not_lt fun q => ?_
    have q' : (n : Int) < ((ns.length : Nat) : Int) := by omega
    first
      | (rw [decide_eq_true q'] at h5; exact absurd h5 (by decide))
      | (simp at h5; omega)
  cases hwl with
  | cons w1 w2 =>
    cases w2
    cases w1 with
    | list ho hall => exact ⟨_, _, ns, rfl, rfl, ho, ints_of_wellAll ns _ hall, hlen⟩

theorem post_true (l : OpenLaw) (args : List WData) : l.row.toRowW.claim.post args (.bool true) args = true :=
  postW_of (r := l.row.toRowW) (X := (true == true))
    (show WShape.has [] (.bool true) .bool = true by first | rfl | decide | simp [WShape.has, WShape.arms, WShape.armsAll])
    (show (WTm.eq .res (.lit (.bool true))).value [] { args := args, res := some (.bool true), after := args } = some (.bool (true == true)) from w_eq_bool (w_res rfl) w_lit) rfl

/-! ### the attachment: holds_open's last premise (the goal 'hc' behind k_head) from a wpAny of the law's body -/

/-- the same from a codeAny of the CALL (for a layer whose function contracts speak of calls) -/
theorem attach_call {l : OpenLaw} {n : Nat} {q : Program} {loose : List Str} {XP : (Str → Option Value) → Heap → Prop} {YP : World → Heap → Prop} {d : DefRec}
    (hn : l.most = some n) (hdf : d.params.defaults = [])
    (call : ∀ (w : World) (s₀ s₁ : Shared) (mg mb : Str → Option Value) (fa : Addr) (o : Obj) (pm cd doc : Value) (a : Addr) (vs : List Value) (ns : List Int),
      Ground q loose [] XP w s₀ mg mb s₁.heap → YP w s₁.heap →
      s₁.heap.get? fa = some o → o.data = .func (docDef d.name d.params d.body d.scope pm cd doc) → s₁.heap.CodeRec cd d.name → mg d.name = some (.ref fa) →
      s₁.heap.get? a = some { cls := .type "list", data := .seq vs.toArray } → IntsAre vs ns → ns.length ≤ n → s₁.gens = #[] →
      codeAny (model l.prog w) callerA (.call (.ref fa) ⟨[.ref a], []⟩) (fun r s' => r = .ok (.ret (.bool true)) ∧ OldK s₁.heap s'.heap ∧ s'.os = s₁.os ∧ AllBare s'.gens) s₁) :
    WalkO q loose XP YP l.row.toRowW d [] (fun f vs => PySem.call f vs) := by
  intro w s₀ s₁ mg mb G Y fa o pm cd doc dV kV ho hd hcd hD hmg hg args vals as hpre hlay hrd hwl hlo
  obtain rfl : dV = .none := Dflts.none hD hdf
  obtain rfl : kV = .none := Dflts.noKw hD
  obtain ⟨a, vs, ns, rfl, rfl, hobj, hints, hlen⟩ := script_of hn hpre hwl
  refine enter_call (codeAny_mono (call w s₀ s₁ mg mb fa o pm cd doc a vs ns G Y ho (fd_plain hd) hcd hmg hobj hints hlen hg) fun r s' hq => ?_)
  obtain ⟨rfl, h2, h3, h4⟩ := hq
  exact ⟨.inl ⟨.bool true, .bool true, [], rfl, fun _ => rfl, .bool true, post_true l _, fun _ => ⟨List.Pairwise.nil, fun _ hm => (nomatch hm)⟩⟩, h2, h3, h4⟩


/-! ### rules over ANY heap (no ledger) from facts about the written part K: the library's own take a ledger (News) for what they write -/
section
variable {prog : Program} {w : World} {A : Around} {E : Value → Shared → Prop} {s : Shared} {K : Frag}





/-! the whole heap as the ledger: makes every rule that writes through a ledger a rule over any heap -/
def noObjs (h : Heap) : Heap := { h with objs := #[] }
def ledger (h : Heap) (L d : Addr) : List (Addr × Obj) := (List.range h.objs.size).filterMap fun a => if a = L ∨ a = d then none else (h.get? a).map fun o => (a, o)

end
end Att

namespace L2
open PySem PySem.Spec PyProof.Rows

theorem vals_ints : ∀ {vs : List Value} {ns : List Int}, IntsAre vs ns → Vals (ns.map V.int) vs
  | _, _, .nil => .nil
  | _, _, .cons n t h => .cons ⟨t, rfl⟩ (vals_ints h)

/-- nothing is tracked but the script, known to the object (or it is an object of the module) -/
def Only (H : Hp) : Prop := ∀ b, H b = none ∨ ∃ o xs, H b = some (.frz o (.lst xs))

/-- THE HEAD: the law's promise, at the heap behind the top. F, the promise of the law's def, may use that base is part of the heap (so K.In base, base.Ns mainGlobals mg stand in Mod) -/
theorem law_call {P : Program} {w : World} {K : PySem.W.Frag} {mg mb : Str → Option Value} {CX : CXT} {k : Nat} {fa a : Addr} {fd : FuncData} {x : Str} {sp : Sp} {s₁ : Shared} {vs : List Value} {ns : List Int}
    (KX : K.In s₁.heap) (hns : s₁.heap.Ns mainGlobals mg) (hb : s₁.heap.Ns builtinsNs mb) (hbb : ∀ x : Str, x ≠ "__name__" → mb x = bootBuiltins x) (hlim : s₁.heap.NoLimit) (hg : s₁.gens = #[])
    (ha : s₁.heap.get? a = some { cls := .type "list", data := .seq vs.toArray }) (hi : IntsAre vs ns) (hl : ns.length ≤ sizeLine) (hr : Room k callerA)
    (F : ∀ base : Heap, K.In base → base.Ns mainGlobals mg → FnOk P w K mg base CX k fa fd [x] sp) (hbind : ∀ (s : Shared) (u : Value), BindsTo s fd ⟨[u], []⟩ [(x, u)])
    (hsp : ∀ H : Hp, Only H → SqL K H a (ns.map V.int) → sp [.ref a] H (fun v _ => v = .bl true) fun _ _ _ => False)
    (hCX : ∀ H e s', CX [] H s₁ (fun _ _ _ => False) e s' → False) :
    codeAny (model P w) callerA (.call (.ref fa) ⟨[.ref a], []⟩) (fun r s' => r = .ok (.ret (.bool true)) ∧ OldK s₁.heap s'.heap ∧ s'.os = s₁.os ∧ AllBare s'.gens) s₁ := by
  have rv := vals_ints hi
  have lenV := hi.length
  -- from an abstract heap in which nothing but the script may be tracked
  have core : ∀ H : Hp, Only H → SqL K H a (ns.map V.int) → HOk P w H s₁.heap → (∀ b, H b ≠ none → b = a) → (H a ≠ none → K.lookup a = none) →
      codeAny (model P w) callerA (.call (.ref fa) ⟨[.ref a], []⟩) (fun r s' => r = .ok (.ret (.bool true)) ∧ OldK s₁.heap s'.heap ∧ s'.os = s₁.os ∧ AllBare s'.gens) s₁ := by
    intro H hO hS hok hA hK
    have base_of : ∀ {b : Addr} {o : Obj}, s₁.heap.get? b = some o → H b = none → (hidT s₁.heap H).get? b = some o := fun e n => hidT_get e n
    have noA : ∀ {b : Addr} {o : Obj} {es : Array DictEntry} {ep : Nat}, s₁.heap.get? b = some o → o.data = .dict es ep → H b = none := fun {b o es ep} e d => by
      cases q : H b with
      | none => rfl
      | some u =>
        have e' : b = a := hA b (by rw [q]; simp)
        subst e'
        rw [ha] at e; cases e
        have d' : Data.seq vs.toArray _ = Data.dict es ep := d
        cases d'
    have nsK : ∀ {b : Addr} {m : Str → Option Value}, s₁.heap.Ns b m → (hidT s₁.heap H).Ns b m := fun {b m} ⟨o, es, ep, e, d, r⟩ => ⟨o, es, ep, base_of e (noA e d), d, r⟩
    have hKb : K.In (hidT s₁.heap H) := fun b o e => base_of (KX b o e) (by
      cases q : H b with
      | none => rfl
      | some u =>
        have e' : b = a := hA b (by rw [q]; simp)
        subst e'
        rw [hK (by rw [q]; simp)] at e; cases e)
    have hM : Mod K mg (hidT s₁.heap H) := ⟨hKb, nsK hns, ⟨mb, nsK hb, hbb⟩, let ⟨mc, h1, h2⟩ := hlim; ⟨mc, nsK h1, h2⟩⟩
    have e0 : Env0 P w K mg (hidT s₁.heap H) callerA [] s₁ H := ⟨rfl, hM, fun b o e => of_hidT e, Nat.le_of_eq (hidT_size _ _), trivial, fun b hb => absurd (show b ∈ ([] : List Addr) from hb) (by simp), hok, .of_eq hg⟩
    refine codeAny_mono ((F _ hKb (nsK hns)).run callerA [] s₁ H ⟨[.ref a], []⟩ [.ref a] [.ref a] _ _ hr e0 (hbind s₁ (.ref a)) (.cons rfl .nil) (hsp H hO hS)) fun r s' h => ?_
    cases r with
    | error e => exact (hCX H e s' h).elim
    | ok fl =>
      cases fl with
      | next => exact False.elim h
      | brk => exact False.elim h
      | cont => exact False.elim h
      | ret u =>
        obtain ⟨v, H', os, bare, un, hok', r', q⟩ := h
        have q' : v = .bl true := q
        subst q'
        obtain rfl : u = Value.bool true := r'
        refine ⟨rfl, OldK.of_keep fun b o e => ?_, os, bare⟩
        cases q : H b with
        | none => exact un.keep b o e q (by intro z; exact absurd (show b ∈ ([] : List Addr) from z) (by simp)) (by simp)
        | some u =>
          rcases hO b with z | ⟨ob, xs, z⟩
          · rw [q] at z; cases z
          · have z2 := un.frzs b ob _ z
            obtain ⟨e1, _⟩ := hok b _ z
            obtain ⟨e2, _⟩ := hok' b _ z2
            rw [e] at e1; cases e1
            exact e2
  cases hk : K.lookup a with
  | some o =>
    -- the script is one of the module's own objects
    have e := KX a o hk
    rw [ha] at e
    cases e
    refine core (fun _ => none) (fun _ => .inl rfl) (.inr ⟨_, vs.toArray, _, hk, rfl, rfl, rfl, by rw [List.size_toArray, lenV]; exact hl, by simpa using rv⟩) (fun b u z => by have z' : (none : Option HO) = some u := z; cases z') (fun b z => absurd rfl z) fun z => absurd rfl z
  | none =>
    refine core (fun b => if b = a then some (.frz { cls := .type "list", data := .seq vs.toArray } (.lst (ns.map V.int))) else none) (fun b => ?_) (.inl (.inr ⟨{ cls := .type "list", data := .seq vs.toArray }, if_pos rfl⟩)) (fun b u z => ?_) (fun b z => ?_) fun _ => hk
    · by_cases hb : b = a
      · exact .inr ⟨_, _, if_pos hb⟩
      · exact .inl (if_neg hb)
    · by_cases hb : b = a
      · have z' := (if_pos hb).symm.trans z
        cases z'
        subst hb
        exact ⟨ha, by rw [List.length_map]; exact hl, vs, _, rv, ha⟩
      · have z' := (if_neg hb).symm.trans z
        cases z'
    · by_cases hb : b = a
      · exact hb
      · exact absurd (if_neg hb) z
end L2

namespace L2
open PySem PySem.Spec PyProof.Rows

abbrev KOf {K : PySem.W.Frag} {h : Heap} (_ : K.In h) : PySem.W.Frag := K

/-- the goal that k_head leaves (case hc), from the law's promise. F gives the function object fd (K's own) once, then the promise over every base -/
theorem walk_of {l : PySem.W.OpenLaw} {n k : Nat} {q : Program} {loose : List Str} {XP : (Str → Option Value) → Heap → Prop} {YP : World → Heap → Prop} {d : DefRec} {K : Params → PySem.W.Frag} {CX : World → CXT} {sp : World → Sp} {x : Str}
    (hn : l.most = some n) (hn2 : n ≤ sizeLine) (hdf : d.params.defaults = []) (hr : Room k callerA)
    (hY : ∀ (w : World) (h : Heap), YP w h → (K w.params).In h)
    (F : ∀ (w : World) (mg : Str → Option Value) (fa : Addr) (h : Heap), (K w.params).In h → h.Ns mainGlobals mg → mg d.name = some (.ref fa) →
      ∃ fd : FuncData, (∀ (s : Shared) (u : Value), BindsTo s fd ⟨[u], []⟩ [(x, u)]) ∧
        ∀ base : Heap, (K w.params).In base → base.Ns mainGlobals mg → FnOk l.prog w (K w.params) mg base (CX w) k fa fd [x] (sp w))
    (hsp : ∀ (w : World) (H : Hp) (a : Addr) (ns : List Int), ns.length ≤ n → Only H → SqL (K w.params) H a (ns.map V.int) → sp w [.ref a] H (fun v _ => v = .bl true) fun _ _ _ => False)
    (hCX : ∀ (w : World) (H : Hp) (s : Shared) (e : Value) (s' : Shared), CX w [] H s (fun _ _ _ => False) e s' → False) :
    PySem.W.WalkO q loose XP YP l.row.toRowW d [] (fun f vs => PySem.call f vs) := by
  refine Att.attach_call hn hdf fun w s₀ s₁ mg mb fa o pm cd doc a vs ns G Y ho hd hcd hmg hobj hints hlen hg => ?_
  have KX := hY w _ Y
  obtain ⟨fd, hb, hF⟩ := F w mg fa _ KX G.T.g hmg
  exact law_call KX G.T.g G.T.b G.T.builtins G.T.nolimit hg hobj hints (Nat.le_trans hlen hn2) hr hF hb (fun H hO hS => hsp w H a ns hlen hO hS) fun H e s' => hCX w H s₁ e s'
end L2

/- THE LAST THEOREM (shape; LID, My.* are yours):
   My.Adr: a structure of the addresses that your layer names (classes, functions); My.Txt K t: a structure (Prop) of the equations over K;
   My.txt_mk : {K} {implicit addresses ..} (e1 : nsIn K mainGlobals "law" = some (some (.ref f))) (e2 : K.lookup f = some ⟨oc, od, .func (fnOf "law" "law" params body scope dV kV doc pm an cdv ct), sl⟩) (e3 : codeIn K cdv "law" = true) .. : ∃ t, My.Txt K t

set_option maxRecDepth 100000 in
set_option maxHeartbeats 0 in
theorem PySem.Challenge.cw_LID_holds : PySem.Challenge.rw_LID.Holds := by
  w_on; o_law; k_head; (case hw => w_witness2)
  k_fill
  refine L2.walk_of (l := PySem.Challenge.rw_LID) (n := 63) (k := 40) (x := "script") (CX := fun w => ..) (sp := fun _ => My.sp_law) rfl (by decide) rfl ⟨rfl, by decide, by decide⟩ (fun w h Y => PySem.W.kIn_of Y) ?F ?S ?C
  case F =>
    intro w mg fa h KX G hmg
    have T : ∃ t, My.Txt (L2.KOf KX) t := by
      dsimp only [L2.KOf]                          -- K must stand as «<heap const> w.params» for k_is
      refine' My.txt_mk ?e1 ?e2 ?e3 ..
      (case e1 => PySem.W.k_is)                    -- in the order: a name -> its address -> its object -> its parts
      (case e2 => PySem.W.k_is)
      ..
    obtain ⟨t, T⟩ := T
    have e0 := hmg.symm.trans (PySem.W.mg_of KX G T.law)
    cases e0                                       -- fa is the law's own address
    exact ⟨_, fun s u => .of_eq rfl, fun base kb nb => My.law_fn T kb nb⟩     -- if «.of_eq rfl» comes too early: refine' ⟨_, ?b, fun base kb nb => My.law_fn T kb nb⟩; exact fun s u => .of_eq rfl
  case S => exact fun w H a ns hl hO hS => ..
  case C => exact ..
(the tactic k_is has no namespace: write k_is) -/

/-! SHORT WORDS over the layer: a def of the text, its body, what a loop and a test want. -/
namespace L2
open PySem PySem.Spec PyProof.Rows

/-! ### the text by places -/
/-- the j-th statement of a class's body -/
def inClass (s : Stmt) (j : Nat) : Stmt := match s with
  | .ClassDef _ _ _ body _ _ _ _ _ _ _ => body.getD j (.Pass ⟨0, 0, 0, 0⟩)
  | _ => .Pass ⟨0, 0, 0, 0⟩
def defArgs (s : Stmt) : Arguments := match s with
  | .FunctionDef _ a _ _ _ _ _ _ _ _ => a
  | _ => { posonlyargs := [], args := [], vararg := none, kwonlyargs := [], kw_defaults := [], kwarg := none, defaults := [] }
def defBody (s : Stmt) : List Stmt := match s with
  | .FunctionDef _ _ b _ _ _ _ _ _ _ => b
  | _ => []
def defScope (s : Stmt) : Scope := match s with
  | .FunctionDef _ _ _ _ _ _ sc _ _ _ => sc
  | _ => { kind := .function, names := [], isGenerator := false, isCoroutine := false }

/-! ### no exception leaves a def -/
abbrev CX0 : CXT := fun _ _ _ _ _ _ => False
abbrev E0 : XK := fun _ _ _ => False
theorem pass0 {X : Cx} : Passes CX0 X E0 := fun _ _ _ _ _ _ _ h => h.elim

/-! ### a def (or method) of the text as it stands behind the top -/
structure Fun (K : PySem.W.Frag) (x qual : Str) (st : Stmt) (f : Addr) (fd : FuncData) : Prop where
  ex : ∃ (oc : Value) (od : Option Addr) (kV doc pm : Value) (an : Option Addr) (cdv ct : Value) (osl : Array (Option Value)),
    fd = PySem.W.fnOf x qual (defArgs st) (defBody st) (defScope st) .none kV doc pm an cdv ct ∧ K.lookup f = some ⟨oc, od, .func fd, osl⟩ ∧ PySem.W.codeIn K cdv qual = true
  kp : PySem.W.keepIn K (.ref f) = true
section
variable {P : Program} {w : World} {K : PySem.W.Frag} {mg : Str → Option Value} {base : Heap}
/-- THE RULE for a def: its body as a term of rules, and the reading of that term -/
theorem Fun.ok {x qual : Str} {st : Stmt} {f : Addr} {fd : FuncData} {N ps : List Str} {k : Nat} {sp : Sp} (F : Fun K x qual st f fd) (S : FnScope N ps (defScope st)) (len : ∀ vs H Q E, sp vs H Q E → vs.length = ps.length)
    (hbody : ∀ (cdv : Value) (A : Around) (outer : List Env) (s : Shared) (H : Hp) (vs : List V) (Q : VK) (E : XK), Room k (A.deeper (envOfC qual (defScope st) s.heap.objs.size f cdv)) → sp vs H Q E →
      ∃ t, PSs (cxOf CX0 P w K mg base N qual (defScope st) f cdv A outer s H E).nox (defBody st) t ∧ t { nx := fun _ H' => Q .non H', rt := Q } (start N vs) H) : FnOk P w K mg base CX0 (k + 1) f fd ps sp := by
  obtain ⟨oc, od, kV, doc, pm, an, cdv, ct, osl, rfl, lk, hcd⟩ := F.ex
  refine fn_of lk hcd S len fun A outer s H vs Q E hr hsp => ?_
  obtain ⟨t, h, q⟩ := hbody cdv A outer s H vs Q E hr hsp
  exact ⟨t, h.nox, q⟩
/-- how its arguments bind (no defaults): h is «fun _ _ _ _ _ _ us hl => match us, hl with | [_, _], _ => rfl», one _ a parameter -/
theorem Fun.binds {x qual : Str} {st : Stmt} {f : Addr} {fd : FuncData} {ps : List Str} (F : Fun K x qual st f fd)
    (h : ∀ (kV doc pm : Value) (an : Option Addr) (cdv ct : Value) (us : List Value), us.length = ps.length → bindArgs (PySem.W.fnOf x qual (defArgs st) (defBody st) (defScope st) .none kV doc pm an cdv ct) ⟨us, []⟩ = pure (ps.zip us)) : Binds K fd ps [] := by
  obtain ⟨oc, od, kV, doc, pm, an, cdv, ct, osl, rfl, lk, hcd⟩ := F.ex
  exact .all (h kV doc pm an cdv ct)
theorem fun_mk {x qual : Str} {st : Stmt} {f : Addr} {oc : Value} {od an : Option Addr} {osl : Array (Option Value)} {kV doc pm cdv ct : Value} (l : K.lookup f = some ⟨oc, od, .func (PySem.W.fnOf x qual (defArgs st) (defBody st) (defScope st) .none kV doc pm an cdv ct), osl⟩)
    (c : PySem.W.codeIn K cdv qual = true) (k : PySem.W.keepIn K (.ref f) = true) : Fun K x qual st f (PySem.W.fnOf x qual (defArgs st) (defBody st) (defScope st) .none kV doc pm an cdv ct) := ⟨⟨oc, od, kV, doc, pm, an, cdv, ct, osl, rfl, l, c⟩, k⟩
end
theorem small1000 {n : Nat} (h : n ≤ 1000) : n < sizeLine := Nat.lt_of_le_of_lt h (by decide)

/-! ### expressions in short: the name that stands in the i-th slot -/
section
variable {X : Cx}
theorem pv (i : Nat) {x : Str} {pos : Pos} (hN : X.N[i]? = some x := by rfl) (hv : Vis X.env.scope x := by first | exact Or.inl rfl | exact Or.inr (Or.inl rfl) | exact Or.inr (Or.inr rfl)) (hd : (x == ("__debug__" : Str)) = false := by decide)
    (hcd : (x == ("__classdict__" : Str)) = false := by decide) : PE X (.Name x pos) (tVar i) := pe_var hN hv hd hcd
end

/-! ### tests -/
theorem iteF {A B : Prop} (h : B) : if false = true then A else B := by
  rw [if_neg Bool.false_ne_true]
  exact h
theorem iteT {A B : Prop} (h : A) : if true = true then A else B := by
  rw [if_pos rfl]
  exact h
theorem ite2 {c A B : Prop} [Decidable c] (h1 : c → A) (h2 : ¬ c → B) : if c then A else B := by
  by_cases h : c
  · rw [if_pos h]
    exact h1 h
  · rw [if_neg h]
    exact h2 h
theorem iteNS {c A B : Prop} [Decidable c] (hc : c) (h : B) : if (!decide c) = true then A else B := by
  rw [decide_eq_true hc]
  exact iteF h

/-! ### heaps -/
/-- all that was tracked is as it was -/
def Same (H H' : Hp) : Prop := ∀ b o, H b = some o → H' b = some o
theorem Same.refl (H : Hp) : Same H H := fun _ _ h => h
theorem Same.trans {H H1 H2 : Hp} (a : Same H H1) (b : Same H1 H2) : Same H H2 := fun c o h => b c o (a c o h)
theorem Same.free {H H' : Hp} (e : Same H H') {l : Addr} (h : H' l = Option.none) : H l = Option.none := by
  cases q : H l with
  | none => rfl
  | some o =>
    rw [e l o q] at h
    cases h
theorem Same.seq {K : PySem.W.Frag} {H H' : Hp} {a : Addr} {xs : List V} (e : Same H H') (h : SqL K H a xs) : SqL K H' a xs := by
  rcases h with (h | ⟨o, h⟩) | h
  · exact .inl (.inl (e _ _ h))
  · exact .inl (.inr ⟨o, e _ _ h⟩)
  · exact .inr h

end L2
set_option Elab.async false
set_option linter.all false
set_option maxRecDepth 100000
namespace L2
open PySem PySem.Spec PyProof.Rows

/-! A list comprehension with one clause: the loop that fills the list. -/
section
variable {prog : Program} {w : World} {A : Around} {R : Result → Shared → Prop} {s : Shared}
abbrev testsOf (cs : List Expr) (en : Env) : Sem Bool :=
  forIn cs true fun c r => if r = true then do let ok ← isTrue c en (eval c en); pure (ForInStep.yield ok) else pure (ForInStep.yield r)
theorem comp_turns {elt tg iter : Expr} {cs : List Expr} {scope : Scope} {pos : Pos} {it acc : Value} {en : Env} {EE : Value → Shared → Prop} (hE : EE = notedBy (model prog w) A en fun e s' => R (.error e) s') (J : Nat → Shared → Prop)
    (turn : ∀ n s, J n s → wpAny (model prog w) A (pyNext it) (fun r s1 => match r with
      | none => R (.ok .next) s1
      | some v => wpAny (model prog w) A (letOwnedTupleGo tg it v) (fun _ sg => wpAny (model prog w) A (assign tg en v) (fun _ s2 => wpAny (model prog w) A (testsOf cs en) (fun ok s3 =>
          if ok = true then wpAny (model prog w) A (eval elt en) (fun y s4 => wpAny (model prog w) A (call (.builtin "list.append") [acc, y]) (fun _ s5 => ∃ m, m < n ∧ J m s5) EE s4) EE s3
          else ∃ m, m < n ∧ J m s3) EE s2) EE sg) EE s1) EE s)
    (n : Nat) (h : J n s) : codeAny (model prog w) A (.compLoop (.ListComp elt [⟨tg, iter, cs, 0⟩] scope pos) 0 it acc en) R s := by
  subst hE
  refine codeAny_loop rfl J (fun n s hJ => ?_) n h
  show wpAny _ A (Sem.onRaise (compTurn (.ListComp elt [⟨tg, iter, cs, 0⟩] scope pos) 0 it acc en) (fun x => do noteFrame x en; theTreesLotGoes x)) _ _ s
  refine wpAny_noted ?_
  rw [compTurn_list]
  refine wpAny_bind (wpAny_standAt (wpAny_bind (thn (turn n s hJ) fun r s1 q1 => ?_)))
  cases r with
  | none => exact wpAny_pure q1
  | some v =>
    refine wpAny_bind (thn q1 fun _ sg qg => wpAny_bind (thn qg fun _ s2 q2 => wpAny_bind (thn q2 fun ok s3 q3 => ?_)))
    cases ok with
    | false => exact wpAny_pure ⟨rfl, q3⟩
    | true => exact wpAny_bind (wpAny_bind (thn q3 fun y s4 q4 => wpAny_bind (thn q4 fun _ s5 q5 => wpAny_pure (wpAny_pure ⟨rfl, q5⟩))))
end

/-! the tests of the clause: none or one -/
def PTs (X : Cx) (cs : List Expr) (t : TT) : Prop :=
  ∀ (pins : List (Addr × Obj)) (s : Shared) (σ : St) (H : Hp) (Q : Bool → Hp → Prop), Inv X pins σ H s → t σ H Q → wpAny (model X.prog X.w) X.A (testsOf cs X.env) (TP X pins σ Q) X.xe s
def tTrue : TT := fun _ H Q => Q true H
theorem pts_nil {X : Cx} : PTs X [] tTrue := fun _ _ _ H _ I h => wpAny_tests_nil ⟨H, I, h⟩
theorem pts_one {X : Cx} {c : Expr} {t : TT} (h : PT X c t) : PTs X [c] t := fun pins s σ H Q I q => wpAny_tests_one (h pins s σ H Q I q)

/-! the cells that the block takes over -/
theorem closure_list {en : Env} : ∀ (names : List (Str × NameKind)) (acc : List (Str × Addr)), (∀ y, (y, NameKind.free) ∈ names → ∃ c, en.cells.lookup y = some c) →
    (∀ y c, acc.lookup y = some c → en.cells.lookup y = some c) →
    ∃ cl, (forIn (m := Sem) names acc fun p cs => if (p.2 == .free) = true then (do let a ← cellOf en p.1; pure (ForInStep.yield ((p.1, a) :: cs))) else pure (ForInStep.yield cs)) = pure cl ∧
      (∀ y c, cl.lookup y = some c → en.cells.lookup y = some c) ∧ (∀ y, ((y, NameKind.free) ∈ names ∨ ∃ c, acc.lookup y = some c) → ∃ c, cl.lookup y = some c)
  | [], acc, _, h2 => ⟨acc, rfl, h2, fun y h => h.elim (fun z => by simp at z) id⟩
  | (n, k) :: r, acc, h1, h2 => by
    by_cases hk : k = .free
    · subst hk
      obtain ⟨c, hc⟩ := h1 n (by simp)
      obtain ⟨cl, e, a, b⟩ := closure_list r ((n, c) :: acc) (fun y hy => h1 y (List.mem_cons_of_mem _ hy)) (fun y d hd => by
        rw [List.lookup_cons] at hd
        by_cases hy : y = n
        · subst hy; simp at hd; subst hd; exact hc
        · have : (y == n) = false := by simpa using hy
          rw [this] at hd; exact h2 y d hd)
      refine ⟨cl, ?_, a, fun y hy => b y ?_⟩
      · rw [List.forIn_cons]
        have e1 : cellOf en n = pure c := by unfold cellOf; rw [hc]
        simp only [beq_self_eq_true, if_true, e1, pure_bind]
        exact e
      · rcases hy with hy | ⟨d, hd⟩
        · rcases List.mem_cons.mp hy with z | z
          · cases z; exact .inr ⟨c, by simp⟩
          · exact .inl z
        · by_cases hy : y = n
          · subst hy; exact .inr ⟨c, by simp⟩
          · have : (y == n) = false := by simpa using hy
            exact .inr ⟨d, by rw [List.lookup_cons, this]; exact hd⟩
    · have hb : (k == NameKind.free) = false := by simpa using hk
      obtain ⟨cl, e, a, b⟩ := closure_list r acc (fun y hy => h1 y (List.mem_cons_of_mem _ hy)) h2
      refine ⟨cl, ?_, a, fun y hy => b y ?_⟩
      · rw [List.forIn_cons]
        simp only [hb, Bool.false_eq_true, if_false, pure_bind]
        exact e
      · rcases hy with hy | hy
        · rcases List.mem_cons.mp hy with z | z
          · cases z; exact absurd rfl hk
          · exact .inl z
        · exact .inr hy
theorem closure_of {scope : Scope} {en : Env} (h1 : ∀ y, (y, NameKind.free) ∈ scope.names → ∃ c, en.cells.lookup y = some c) :
    ∃ cl, closureFor scope en = pure cl ∧ (∀ y c, cl.lookup y = some c → en.cells.lookup y = some c) ∧ (∀ y, (y, NameKind.free) ∈ scope.names → ∃ c, cl.lookup y = some c) := by
  obtain ⟨cl, e, a, b⟩ := closure_list (en := en) scope.names [] h1 (fun y c h => by simp at h)
  refine ⟨cl, ?_, a, fun y hy => b y (.inl hy)⟩
  have q := congrArg (fun t : Sem (List (Str × Addr)) => t >>= fun c => pure c) e
  exact q
end L2
set_option Elab.async false
set_option linter.all false
set_option maxRecDepth 100000
namespace L2
open PySem PySem.Spec PyProof.Rows

/-! the context of a comprehension's block: C its names, s0 and H0 the state with the list laid, fp the iterator's objects -/
def xeC (X : Cx) (en : Env) (C : Addr) : Value → Shared → Prop :=
  notedBy (model X.prog X.w) X.A en fun e s' => compPost (model X.prog X.w) X.A X.xe none (fun _ _ => False) Value.none C (.error e) s'
def cxC (X : Cx) (scope : Scope) (cl : List (Str × Addr)) (C : Addr) (s0 : Shared) (H0 : Hp) (fp : List Addr) (N : List Str) : Cx where
  prog := X.prog
  w := X.w
  K := X.K
  mg := X.mg
  base := X.base
  A := X.A
  N := N
  s₀ := s0
  H₀ := H0
  env := compEnvC scope cl C X.env
  outer := X.stack
  stack := X.stack
  ex := fp
  fn := fun _ => false
  calm := X.calm
  pn := []
  xe := xeC X (compEnvC scope cl C X.env) C

/-! what the block's scope must be: no cells of its own; each free name a cell of the def's; M: the def's names as the block sees them, place by place -/
structure CompScope (scope : Scope) (en : Env) (N M : List Str) : Prop where
  kind : scope.kind = .function
  nocell : ∀ y ∈ scope.names, y.2 ≠ .cell
  locs : ∀ y ∈ scope.names, y.2 = .local → scope.names.lookup y.1 = some .local
  free : ∀ y, (y, NameKind.free) ∈ scope.names → en.kindOf y = some .cell ∨ en.kindOf y = some .free
  len : M.length = N.length
  same : ∀ (j : Nat) (y : Str), M[j]? = some y → Vis (relabel scope en) y → N[j]? = some y ∧ (y, NameKind.free) ∈ scope.names ∧ (relabel scope en).names.lookup y ≠ some .local
  relab : ∀ y, ((relabel scope en).names.lookup y = some .cell ∨ (relabel scope en).names.lookup y = some .free) → (y, NameKind.free) ∈ scope.names

/-! k names of its own -/
def tComp (k : Nat) (wi : TI) (g : TG) (tc : TT) (te : TE) : TE := fun σ H Q => wi σ H fun J H1 => ∀ d, H1 d = none → ∃ W : Nat → Nat → Hp → Prop, (∃ m, W 0 m (upd H1 d (.lst []))) ∧ ∀ i m H, W i m H →
  (J.stop i H ∧ Q (.ref d) H) ∨ (J.go i H ∧ ∃ N : Hp → Prop, (∀ H', N H' → ∃ m', m' < m ∧ W (i + 1) m' H') ∧ ∀ x H', J.yld i H x H' → g x (List.replicate k none ++ σ) H' fun σ2 H2 =>
    tc σ2 H2 fun b H3 => if b = true then te σ2 H3 fun y H4 => ∃ ys, H4 d = some (.lst ys) ∧ ys.length < sizeLine ∧ N (upd H4 d (.lst (ys ++ [y]))) else N H3)

/-! what is wanted at the end of the block: the names' dict at C goes -/
structure Gone (X : Cx) (pins : List (Addr × Obj)) (H : Hp) (C : Addr) : Prop where
  no : H C = none
  ne : C ≠ X.env.locals
  yg : X.s₀.heap.objs.size ≤ C
  cl : ∀ x c, X.env.cells.lookup x = some c → c ≠ C
  pn : ∀ p ∈ X.pn ++ pins, p.1 ≠ C
theorem Inv.gone {X : Cx} {pins : List (Addr × Obj)} {σ : St} {H : Hp} {s : Shared} {C : Addr} {h' : Heap} (I : Inv X pins σ H s) (g : Gone X pins H C) (hs : Heap.SameBut C s.heap h') : Inv X pins σ H { s with heap := h' } :=
  I.turned (t' := s.toks) (it := C) (fun b o hb e => hs.extBut b o hb e) g.no g.ne (.inr g.yg) g.cl g.pn

/-! from the block's state back to the def's -/
structure Back (X Y : Cx) (pins : List (Addr × Obj)) (σ : St) (fp : List Addr) (C : Addr) (s3 : Shared) (H3 : Hp) : Prop where
  i0 : Inv X pins σ H3 s3
  fp : ∀ b ∈ fp, (b ∈ X.ex ∨ X.s₀.heap.objs.size ≤ b) ∧ b ≠ X.env.locals ∧ (∀ x c, X.env.cells.lookup x = some c → c ≠ b) ∧ ∀ p ∈ X.pn ++ pins, p.1 ≠ b
  inv : ∀ (pins' : List (Addr × Obj)) (σ' : St) (H' : Hp) (s' : Shared), Inv Y pins' σ' H' s' → Inv X pins σ H' s' ∧ Gone X pins H' C
theorem comp_run {X : Cx} {elt tg iter : Expr} {cs : List Expr} {scope : Scope} {pos : Pos} {wi : TI} {g : TG} {tc : TT} {te : TE} {xs M : List Str} {use : Option (Value → Sem Unit)} {RR : Value → Shared → Prop} (hc : X.calm = true) (S : CompScope scope X.env X.N M) (hi : PI X tg iter wi)
    (hin : ∀ (cl : List (Str × Addr)) (C : Addr) (s0 : Shared) (H0 : Hp) (fp : List Addr) (pins : List (Addr × Obj)) (σ : St), Back X (cxC X scope cl C s0 H0 fp (xs ++ M)) pins σ fp C s0 H0 → PG (cxC X scope cl C s0 H0 fp (xs ++ M)) tg g ∧ PTs (cxC X scope cl C s0 H0 fp (xs ++ M)) cs tc ∧ PE (cxC X scope cl C s0 H0 fp (xs ++ M)) elt te)
    (hg : ∀ v σ H Q, g v (List.replicate xs.length none ++ σ) H Q → g v (List.replicate xs.length none ++ σ) H fun σ2 H2 => (∃ l : St, l.length = xs.length ∧ σ2 = l ++ σ) ∧ Q σ2 H2)
    (hs : ∀ x, foldedSetIterable iter X.env x = pure x) (pins : List (Addr × Obj)) (s : Shared) (σ : St) (H : Hp) (Q : VK) (I : Inv X pins σ H s) (h : tComp xs.length wi g tc te σ H Q)
    (fin : ∀ (d C : Addr) (s6 : Shared) (H6 : Hp) (m : Str → Option Value), Q (.ref d) H6 → Inv X pins σ H6 s6 → s6.heap.Ns C m → Gone X pins H6 C → compPost (model X.prog X.w) X.A X.xe use RR (.ref d) C (.ok .next) s6) :
    wpAny (model X.prog X.w) X.A (comprehension (.ListComp elt [⟨tg, iter, cs, 0⟩] scope pos) scope X.env (firstIterPos [⟨tg, iter, cs, 0⟩] pos) (newList []) false (eval iter X.env) use) RR X.xe s := by
  obtain ⟨cl, hcl, cl1, cl2⟩ := closure_of (scope := scope) (en := X.env) fun y hy => I.ok.has y (S.free y hy)
  refine wpAny_comprehension_free (use := use) rfl hs hcl S.kind S.locs (thn (hi pins s σ H _ I h) fun v s1 h1 => thn h1 fun itv s2 h2 => ?_)
  obtain ⟨it, fp, tn, J, H2, e, I2, T, st2, f2, h3⟩ := h2
  subst e
  have hf : H2 s2.heap.objs.size = none := I2.fresh
  obtain ⟨W, ⟨m0, w0⟩, turn⟩ := h3 _ hf
  refine wpAny_newObj_type (wpAny_newFunctionEnv S.nocell (by intro y hy; simp at hy) (fun h4 hns hsb => ?_) S.kind)
  have I3 : Inv X pins σ (upd H2 s2.heap.objs.size (.lst [])) { s2 with heap := s2.heap.push { cls := .type "list", data := .seq ([] : List Value).toArray } } := I2.lnew (ys := []) (its := []) (t' := s2.toks) .nil (Nat.zero_le _)
  generalize hs3 : ({ s2 with heap := s2.heap.push { cls := .type "list", data := .seq ([] : List Value).toArray } } : Shared) = s3 at I3
  generalize hH3 : upd H2 s2.heap.objs.size (.lst []) = H3 at I3 w0
  have e3 : s2.heap.push { cls := .type "list", dict := none, data := .seq ([] : List Value).toArray } = s3.heap := by rw [← hs3]
  dsimp only at hns hsb ⊢
  rw [e3] at hns hsb
  have old : ∀ b o, s3.heap.get? b = some o → h4.get? b = some o := fun b o e => hsb.extBut b o (Nat.ne_of_lt (Heap.lt_size e)) (Heap.get?_push_of_some _ e)
  have keep2 : ∀ b o, s2.heap.get? b = some o → s3.heap.get? b = some o := fun b o e => by rw [← e3]; exact Heap.get?_push_of_some _ e
  have lt3 : ∀ b ∈ fp, b < s3.heap.objs.size := fun b hb => by
    obtain ⟨o, e, _⟩ := T.obj _ _ st2 b hb
    exact Heap.lt_size (keep2 b o e)
  have n3 : ∀ b ∈ fp, H3 b = none := fun b hb => by
    obtain ⟨o, e, _⟩ := T.obj _ _ st2 b hb
    rw [← hH3, upd_ne (Nat.ne_of_lt (Heap.lt_size e))]
    exact (f2 b hb).1
  have st4 : tn 0 h4 := T.keep _ _ _ st2 fun b _ o e => old b o (keep2 b o e)
  let Y : Cx := cxC X scope cl s3.heap.objs.size s3 H3 fp (xs ++ M)
  have relab : ∀ y, ((relabel scope X.env).names.lookup y = some .cell ∨ (relabel scope X.env).names.lookup y = some .free) → ∃ c, cl.lookup y = some c := fun y hy => cl2 y (S.relab y hy)
  have Yok : Y.Ok := by
    refine ⟨I3.ok.mod, S.kind, I3.ok.glob, I3.ok.blt, Nat.le_refl _, fun y z c h1 h2 => I3.ok.inj y z c (cl1 y c h1) (cl1 z c h2), fun y hy => relab y hy, fun _ _ h _ => absurd (show false = true from h) (by decide), I3.ok.hd, I3.ok.frames, .inl rfl,
      fun b hb => ⟨Nat.ne_of_lt (lt3 b hb), fun y c e => (f2 b hb).2.2.2.2.1 y c (cl1 y c e)⟩, I3.bs, Nat.le_trans I3.ok.bsz I3.sz, fun b o e hb => ?_, fun b hb z => ?_, I3.stack, I3.stkFree⟩
    · rcases (f2 b hb).2.2.2.1 with z | z
      · exact I3.ok.noex b o e z
      · exact absurd (Nat.lt_of_lt_of_le (Heap.lt_size e) (Nat.le_trans I3.ok.bsz z)) (Nat.lt_irrefl _)
    · rcases List.mem_cons.mp (I3.stkSub b z) with z | z
      · exact (f2 b hb).2.1 z
      · exact (f2 b hb).2.2.1 z
  have cells4 : ∀ y c, cl.lookup y = some c → ∀ v, s3.heap.IsCell c v → h4.IsCell c v := fun y c _ v ⟨o, ho, hd⟩ => ⟨o, old c o ho, hd⟩
  have IY : ∀ t', Inv Y [] (List.replicate xs.length none ++ σ) H3 { s3 with heap := h4, toks := t' } := fun t' => by
    refine ⟨Yok, rfl, I3.bare, Un.kept old, ⟨_, hns, fun i y v e1 e2 e3 => ?_⟩, fun y c e => ?_, I3.hok.fresh (Nat.le_refl _), fun y c e => I3.freeC y c (cl1 y c e), fun p hp => absurd (show p ∈ ([] : List (Addr × Obj)) from hp) (by simp), I3.hok.kept old, ?_⟩
    · by_cases hi : i < xs.length
      · rw [List.getElem?_append_left (by simpa using hi), List.getElem?_replicate] at e2
        split at e2 <;> cases e2
      · obtain ⟨j, rfl⟩ : ∃ j, i = xs.length + j := ⟨i - xs.length, by omega⟩
        have e1' : M[j]? = some y := by
          have q : (xs ++ M)[xs.length + j]? = some y := e1
          rw [List.getElem?_append_right (Nat.le_add_right _ _)] at q
          simpa using q
        have e2' : σ[j]? = some (some v) := by
          rw [List.getElem?_append_right (by simp)] at e2
          simpa using e2
        obtain ⟨a1, a2, a3⟩ := S.same j y e1' e3
        have vis : Vis X.env.scope y := by
          rcases S.free y a2 with z | z
          · exact .inr (.inl z)
          · exact .inr (.inr z)
        obtain ⟨m, _, hl⟩ := I3.loc
        obtain ⟨u, r, l⟩ := hl j y v a1 e2' vis
        refine ⟨u, r, ?_⟩
        have kk : Y.env.kindOf y = some .cell ∨ Y.env.kindOf y = some .free := by
          rcases e3 with z | z | z
          · exact absurd z a3
          · exact .inl z
          · exact .inr z
        rcases l with ⟨k1, _⟩ | ⟨_, c, ec, ic⟩
        · rcases S.free y a2 with z | z
          · rw [z] at k1; cases k1
          · rw [z] at k1; cases k1
        · obtain ⟨c', ec'⟩ := cl2 y a2
          have := cl1 y c' ec'
          rw [ec] at this
          cases this
          exact .inr ⟨kk, c, ec', cells4 y c ec' _ ic⟩
    · obtain ⟨v, z⟩ := I3.cell y c (cl1 y c e)
      exact ⟨v, cells4 y c e v z⟩
    · show (List.replicate xs.length none ++ σ).length = (xs ++ M).length
      rw [List.length_append, List.length_append, List.length_replicate, S.len, I3.len]
  have stat : ∀ {pl : List (Addr × Obj)} {H' : Hp}, (∀ p ∈ pl, p.1 ∉ fp) → (∀ b ∈ fp, H' b = none) → ∀ b ∈ fp, FpOk Y pl H' b := fun hp hn b hb =>
    ⟨hn b hb, Nat.ne_of_lt (lt3 b hb), Yok.exfs b hb, .inl hb, fun y c e => (f2 b hb).2.2.2.2.1 y c (cl1 y c e), fun p hp' z => hp p (by simpa [Y, cxC] using hp') (z ▸ hb)⟩
  have bk : Back X Y pins σ fp s3.heap.objs.size s3 H3 := by
    refine ⟨I3, fun b hb => ⟨(f2 b hb).2.2.2.1, (f2 b hb).2.1, (f2 b hb).2.2.2.2.1, (f2 b hb).2.2.2.2.2⟩, fun pins' σ' H' s' J => ⟨?_, ?_⟩⟩
    · exact I3.call' (ch := fp) J.os J.base J.hok J.bare fun b hb => ⟨(f2 b hb).2.2.2.1, (f2 b hb).2.1, (f2 b hb).2.2.2.2.1, (f2 b hb).2.2.2.2.2⟩
    · refine ⟨J.free, Nat.ne_of_gt I3.lt, I3.sz, fun y c e z => ?_, fun p hp z => ?_⟩
      · obtain ⟨v, q⟩ := I3.cell y c e
        have := q.lt
        rw [z] at this
        exact Nat.lt_irrefl _ this
      · have := Heap.lt_size (I3.pin p hp).1
        rw [z] at this
        exact Nat.lt_irrefl _ this
  obtain ⟨hG, hT, hE⟩ := hin cl s3.heap.objs.size s3 H3 fp pins σ bk
  have loop : ∀ t', codeAny (model X.prog X.w) X.A (.compLoop (.ListComp elt [⟨tg, iter, cs, 0⟩] scope pos) 0 (.ref it) (.ref s2.heap.objs.size) Y.env) (compPost (model X.prog X.w) X.A X.xe use RR (.ref s2.heap.objs.size) s3.heap.objs.size) { s3 with heap := h4, toks := t' } := by
    intro t'
    refine comp_turns (EE := Y.xe) (by cases use <;> rfl) (fun n s' => ∃ i H', Inv Y [] (List.replicate xs.length none ++ σ) H' s' ∧ tn i s'.heap ∧ (∀ b ∈ fp, H' b = none) ∧ W i n H') ?_ m0 ⟨0, H3, IY t', st4, n3, w0⟩
    rintro n s5 ⟨i, H5, I5, st5, fr5, w5⟩
    rcases turn i n H5 w5 with ⟨stop, qn⟩ | ⟨go, N, hN, step⟩
    · refine thn (T.done Y rfl rfl rfl hc i [] s5 (List.replicate xs.length none ++ σ) H5 _ I5 (stat (by simp) fr5) st5 stop) fun r s6 ⟨hr, I6⟩ => ?_
      subst hr
      obtain ⟨m6, hn6, _⟩ := I6.loc
      have I8 : Inv X pins σ H5 s6 := I3.call' (ch := fp) I6.os I6.base I6.hok I6.bare fun b hb => ⟨(f2 b hb).2.2.2.1, (f2 b hb).2.1, (f2 b hb).2.2.2.2.1, (f2 b hb).2.2.2.2.2⟩
      have lt8 : X.env.locals < s3.heap.objs.size := I3.lt
      refine fin _ _ s6 H5 m6 qn I8 hn6 ⟨I6.free, Nat.ne_of_gt lt8, I3.sz, fun y c e z => ?_, fun p hp z => ?_⟩
      · obtain ⟨v, q⟩ := I3.cell y c e
        have := q.lt
        rw [z] at this
        exact Nat.lt_irrefl _ this
      · have := Heap.lt_size (I3.pin p hp).1
        rw [z] at this
        exact Nat.lt_irrefl _ this
    · refine thn (T.item Y rfl rfl rfl hc i [] s5 (List.replicate xs.length none ++ σ) H5 _ I5 (stat (by simp) fr5) st5 go) fun r s6 ⟨u, hr, h6⟩ => ?_
      subst hr
      refine thn h6 fun _ s7 ⟨x7, H7, I7, r7, y7, st7, fr7⟩ => ?_
      have I7' := I7.pinned (stat (by simp) fr7) (T.obj _ _ st7)
      have again : ∀ {σ8 : St} {H8 : Hp} {s8 : Shared}, (∃ l : St, l.length = xs.length ∧ σ8 = l ++ σ) → Inv Y ([] ++ pinsAt fp s7.heap) σ8 H8 s8 → N H8 → ∃ m, m < n ∧ ∃ i H', Inv Y [] (List.replicate xs.length none ++ σ) H' s8 ∧ tn i s8.heap ∧ (∀ b ∈ fp, H' b = none) ∧ W i m H' := fun {σ8 H8 s8} l8 I8 n8 => by
        obtain ⟨m', hm, w8⟩ := hN H8 n8
        obtain ⟨l, ll, rfl⟩ := l8
        have pin8 : ∀ b ∈ fp, ∀ o, s7.heap.get? b = some o → s8.heap.get? b = some o ∧ H8 b = none := fun b hb o e => by
          have z := I8.pin (b, o) (List.mem_append_right _ (List.mem_append_right _ (mem_pinsAt hb e)))
          exact ⟨z.1, z.2.1⟩
        refine ⟨m', hm, i + 1, H8, I8.unpinned.weak (by simp [ll]) (fun j v e => ?_), T.keep _ _ _ st7 fun b hb o e => (pin8 b hb o e).1, fun b hb => ?_, w8⟩
        · by_cases hj : j < xs.length
          · rw [List.getElem?_append_left (by simpa using hj), List.getElem?_replicate] at e
            split at e <;> cases e
          · rw [List.getElem?_append_right (by simpa using hj)] at e
            rw [List.getElem?_append_right (by omega), ll]
            simpa using e
        · obtain ⟨o, e, _⟩ := T.obj _ _ st7 b hb
          exact (pin8 b hb o e).2
      refine thn (hG _ s7 (List.replicate xs.length none ++ σ) H7 x7 u _ I7' r7 (hg _ _ _ _ (step x7 H7 y7))) fun _ s8 ⟨σ8, H8, I8, l8, q8⟩ => ?_
      refine thn (hT _ s8 σ8 H8 _ I8 q8) fun ok s9 ⟨H9, I9, q9⟩ => ?_
      cases ok with
      | false => exact again l8 I9 q9
      | true =>
        refine thn (hE _ s9 σ8 H9 _ I9 q9) fun y s10 ⟨y10, H10, I10, r10, ys, hd, hl, n10⟩ => ?_
        refine thn (mt_append _ s10 σ8 H10 (.ref s2.heap.objs.size) [y10] (.ref s2.heap.objs.size) [y] (fun _ H' => N H') I10 rfl (.cons r10 .nil) ⟨_, ys, y10, rfl, rfl, hd, hl, n10⟩) fun _ s11 ⟨_, H11, I11, _, n11⟩ => ?_
        exact again l8 I11 n11
  refine codeAny_compStart_list (loop _) (T.self _ 0 _ _ _ st4 (loop _))

theorem pe_comp {X : Cx} {elt tg iter : Expr} {cs : List Expr} {scope : Scope} {pos : Pos} {wi : TI} {g : TG} {tc : TT} {te : TE} {xs M : List Str} (hc : X.calm = true) (S : CompScope scope X.env X.N M) (hi : PI X tg iter wi)
    (hin : ∀ (cl : List (Str × Addr)) (C : Addr) (s0 : Shared) (H0 : Hp) (fp : List Addr), PG (cxC X scope cl C s0 H0 fp (xs ++ M)) tg g ∧ PTs (cxC X scope cl C s0 H0 fp (xs ++ M)) cs tc ∧ PE (cxC X scope cl C s0 H0 fp (xs ++ M)) elt te)
    (hg : ∀ v σ H Q, g v (List.replicate xs.length none ++ σ) H Q → g v (List.replicate xs.length none ++ σ) H fun σ2 H2 => (∃ l : St, l.length = xs.length ∧ σ2 = l ++ σ) ∧ Q σ2 H2)
    (hs : ∀ x, foldedSetIterable iter X.env x = pure x := by intro _; rfl) : PE X (.ListComp elt [⟨tg, iter, cs, 0⟩] scope pos) (tComp xs.length wi g tc te) := by
  intro pins s σ H Q I h
  rw [eval_ListComp]
  exact comp_run (use := none) hc S hi (fun cl C s0 H0 fp _ _ _ => hin cl C s0 H0 fp) hg hs pins s σ H Q I h fun d C s6 H6 m q I6 hn gn => ⟨m, hn, fun h' hs' => ⟨.ref d, H6, I6.gone gn hs', rfl, q⟩⟩
/-! name = [..], on one row: the name is stored ahead of the block's end -/
theorem ps_comp {X : Cx} {elt tg iter : Expr} {cs : List Expr} {scope : Scope} {pos pos' spos : Pos} {wi : TI} {g : TG} {tc : TT} {te : TE} {xs M : List Str} {i : Nat} {x : Str} (hc : X.calm = true) (S : CompScope scope X.env X.N M) (hi : PI X tg iter wi)
    (hin : ∀ (cl : List (Str × Addr)) (C : Addr) (s0 : Shared) (H0 : Hp) (fp : List Addr), PG (cxC X scope cl C s0 H0 fp (xs ++ M)) tg g ∧ PTs (cxC X scope cl C s0 H0 fp (xs ++ M)) cs tc ∧ PE (cxC X scope cl C s0 H0 fp (xs ++ M)) elt te)
    (hg : ∀ v σ H Q, g v (List.replicate xs.length none ++ σ) H Q → g v (List.replicate xs.length none ++ σ) H fun σ2 H2 => (∃ l : St, l.length = xs.length ∧ σ2 = l ++ σ) ∧ Q σ2 H2)
    (hN : X.N.Nodup) (hix : X.N[i]? = some x) (hx : X.env.scope.names.lookup x = some .local) (hw : swapsWith (.ListComp elt [⟨tg, iter, cs, 0⟩] scope pos) (some (.Name x pos')) spos.line X.env = pure true)
    (hs : ∀ x, foldedSetIterable iter X.env x = pure x := by intro _; rfl) : PS X (.Assign [.Name x pos'] (.ListComp elt [⟨tg, iter, cs, 0⟩] scope pos) spos) (tAsg (tComp xs.length wi g tc te) (gName i)) := by
  intro pins s σ H D I h
  rw [exec_Assign_Name_used _ _ _ _ hw]
  refine wpAny_bind (wpAny_standAt (wpAny_bind ?_))
  show wpAny _ X.A (comprehension (.ListComp elt [⟨tg, iter, cs, 0⟩] scope pos) scope X.env _ (newList []) false (eval iter X.env) (some (assign (.Name x pos') X.env)) >>= fun _ => pure ()) _ _ s
  refine wpAny_bind (thn (comp_run (use := some (assign (.Name x pos') X.env)) (RR := fun _ s' => SP X pins D .next s') hc S hi (fun cl C s0 H0 fp _ _ _ => hin cl C s0 H0 fp) hg hs pins s σ H _ I h fun d C s6 H6 m q I6 hn gn => ?_) fun _ s' hq => wpAny_pure (wpAny_pure hq))
  show wpAny _ X.A (assign (.Name x pos') X.env (.ref d)) _ _ s6
  refine wpAny_assign_Name (store_ok2 I6 hN hix (.inl hx) (v := .ref d) rfl (fun s7 I7 ch => ?_) (.inr hx))
  obtain ⟨a, hsb, ha⟩ := ch
  have ne : C ≠ a := by
    rcases ha with z | z
    · rw [z]; exact gn.ne
    · exact fun z' => gn.cl x a z z'.symm
  exact ⟨m, hn.sameBut hsb ne, fun h' hs' => ⟨_, H6, I7.gone gn hs', q⟩⟩
/-! the same, with the way back -/
theorem pe_compB {X : Cx} {elt tg iter : Expr} {cs : List Expr} {scope : Scope} {pos : Pos} {wi : TI} {g : TG} {tc : TT} {te : TE} {xs M : List Str} (hc : X.calm = true) (S : CompScope scope X.env X.N M) (hi : PI X tg iter wi)
    (hin : ∀ (cl : List (Str × Addr)) (C : Addr) (s0 : Shared) (H0 : Hp) (fp : List Addr) (pins : List (Addr × Obj)) (σ : St), Back X (cxC X scope cl C s0 H0 fp (xs ++ M)) pins σ fp C s0 H0 → PG (cxC X scope cl C s0 H0 fp (xs ++ M)) tg g ∧ PTs (cxC X scope cl C s0 H0 fp (xs ++ M)) cs tc ∧ PE (cxC X scope cl C s0 H0 fp (xs ++ M)) elt te)
    (hg : ∀ v σ H Q, g v (List.replicate xs.length none ++ σ) H Q → g v (List.replicate xs.length none ++ σ) H fun σ2 H2 => (∃ l : St, l.length = xs.length ∧ σ2 = l ++ σ) ∧ Q σ2 H2)
    (hs : ∀ x, foldedSetIterable iter X.env x = pure x := by intro _; rfl) : PE X (.ListComp elt [⟨tg, iter, cs, 0⟩] scope pos) (tComp xs.length wi g tc te) := by
  intro pins s σ H Q I h
  rw [eval_ListComp]
  exact comp_run (use := none) hc S hi hin hg hs pins s σ H Q I h fun d C s6 H6 m q I6 hn gn => ⟨m, hn, fun h' hs' => ⟨.ref d, H6, I6.gone gn hs', rfl, q⟩⟩
end L2
set_option Elab.async false
set_option linter.all false
set_option maxRecDepth 100000
namespace L2
open PySem PySem.Spec PyProof.Rows

/-! ### data that == compares: R x d says that the value x bears the datum d -/
structure EqK {α : Type} [DecidableEq α] (H : Hp) (s : Shared) (n : Nat) (R : V → α → Prop) : Prop where
  inj : ∀ x a b, R x a → R x b → a = b
  eq : ∀ (A : Around) (x y : V) (a b : α) (u v : Value), A.units + n < cLine → R x a → R y b → RelV x u → RelV y v → SeqAt.EqAt A s u v (decide (a = b))

def RInt (x : V) (i : Int) : Prop := x = .int i
def RBl (x : V) (b : Bool) : Prop := x = .bl b
def RTup {α : Type} (H : Hp) (R : V → α → Prop) (x : V) (ds : List α) : Prop := ∃ a xs, x = .ref a ∧ H a = some (.tup xs) ∧ Paired R xs ds
def RLst {α : Type} (H : Hp) (R : V → α → Prop) (x : V) (ds : List α) : Prop := ∃ a xs, x = .ref a ∧ H a = some (.lst xs) ∧ Paired R xs ds
def ROpt {α : Type} (R : V → α → Prop) (x : V) : Option α → Prop
  | none => x = .non
  | some d => R x d ∧ ∃ a, x = .ref a

theorem all_eq {α : Type} [DecidableEq α] : ∀ (as bs : List α) (e : Nat → Bool), (∀ j x y, as[j]? = some x → bs[j]? = some y → e j = decide (x = y)) →
    ((List.range (min as.length bs.length)).all e && as.length == bs.length) = decide (as = bs) := by
  intro as bs e h
  rw [Bool.eq_iff_iff]
  simp only [Bool.and_eq_true, List.all_eq_true, List.mem_range, beq_iff_eq, decide_eq_true_eq]
  constructor
  · rintro ⟨h1, h2⟩
    refine List.ext_getElem? fun j => ?_
    by_cases hj : j < as.length
    · have e1 : as[j]? = some as[j] := List.getElem?_eq_getElem hj
      have e2 : bs[j]? = some (bs[j]'(by omega)) := List.getElem?_eq_getElem (by omega)
      have q := h1 j (by omega)
      rw [h j _ _ e1 e2] at q
      rw [e1, e2, of_decide_eq_true q]
    · rw [List.getElem?_eq_none (by omega), List.getElem?_eq_none (by omega)]
  · rintro rfl
    refine ⟨fun j hj => ?_, rfl⟩
    have hj : j < as.length := by omega
    have e1 : as[j]? = some as[j] := List.getElem?_eq_getElem hj
    rw [h j _ _ e1 e1]
    simp
theorem Paired.right_of {α β : Type} {R : α → β → Prop} : ∀ {xs : List α} {ds : List β}, Paired R xs ds → ∀ (j : Nat) (x : α), xs[j]? = some x → ∃ d, ds[j]? = some d ∧ R x d
  | _, _, .nil, j, x, e => by simp at e
  | _, _, .cons r t, 0, x, e => by simp at e; subst e; exact ⟨_, rfl, r⟩
  | _, _, .cons r t, j + 1, x, e => by
    obtain ⟨d, e1, e2⟩ := Paired.right_of t j x (by simpa using e)
    exact ⟨d, by simpa using e1, e2⟩
theorem Paired.inj {α β : Type} {R : α → β → Prop} (h : ∀ x a b, R x a → R x b → a = b) : ∀ {xs : List α} {ds es : List β}, Paired R xs ds → Paired R xs es → ds = es
  | _, _, _, .nil, .nil => rfl
  | _, _, _, .cons r t, .cons r' t' => by rw [h _ _ _ r r', Paired.inj h t t']
theorem Paired.ints : ∀ ns : List Int, Paired RInt (ns.map V.int) ns
  | [] => .nil
  | n :: ns => .cons rfl (Paired.ints ns)
theorem Paired.ofInts : ∀ {xs : List V} {ns : List Int}, Paired RInt xs ns → xs = ns.map V.int
  | _, _, .nil => rfl
  | _, _, .cons r t => by rw [show _ = _ from r, Paired.ofInts t]; rfl
theorem rtup_ints {H : Hp} {a : Addr} {ns : List Int} (h : H a = some (.tup (ns.map V.int))) : RTup H RInt (.ref a) ns := ⟨a, _, rfl, h, Paired.ints ns⟩

section
variable {α : Type} [DecidableEq α] {P : Program} {w : World} {H : Hp} {s : Shared} {n : Nat} {R : V → α → Prop} {A : Around}
theorem EqK.int : EqK H s n RInt := ⟨fun x a b h1 h2 => by unfold RInt at *; rw [h1] at h2; cases h2; rfl, fun A x y a b u v _ h1 h2 r1 r2 => by
  unfold RInt at *
  subst h1 h2
  obtain ⟨t, rfl⟩ := r1
  obtain ⟨t', rfl⟩ := r2
  have q := SeqAt.EqAt.int_int (A := A) (s := s) a t b t'
  rw [Bool.beq_eq_decide_eq] at q
  exact q⟩
/-! the items of two sequences -/
theorem items_eq (K : EqK H s n R) {xs ys : List V} {ds es : List α} {its its2 : List Value} (p1 : Paired R xs ds) (p2 : Paired R ys es) (v1 : Vals xs its) (v2 : Vals ys its2) (hA : A.units + n < cLine) :
    ∃ e : Nat → Bool, (∀ j (h1 : j < its.toArray.size) (h2 : j < its2.toArray.size), SeqAt.EqAt A s its.toArray[j] its2.toArray[j] (e j)) ∧ ((List.range (min its.toArray.size its2.toArray.size)).all e && its.toArray.size == its2.toArray.size) = decide (ds = es) := by
  have l1 : its.toArray.size = ds.length := by rw [List.size_toArray, ← v1.length]; exact p1.length
  have l2 : its2.toArray.size = es.length := by rw [List.size_toArray, ← v2.length]; exact p2.length
  refine ⟨fun j => match ds[j]?, es[j]? with | some d, some e => decide (d = e) | _, _ => true, fun j h1 h2 => ?_, ?_⟩
  · have hx : xs[j]? = some (xs[j]'(by rw [v1.length]; simpa using h1)) := List.getElem?_eq_getElem _
    have hy : ys[j]? = some (ys[j]'(by rw [v2.length]; simpa using h2)) := List.getElem?_eq_getElem _
    obtain ⟨d, e1, r1⟩ := Paired.right_of p1 j _ hx
    obtain ⟨e, e2, r2⟩ := Paired.right_of p2 j _ hy
    obtain ⟨u, e3, r3⟩ := v1.get hx
    obtain ⟨v, e4, r4⟩ := v2.get hy
    have q3 : its.toArray[j] = u := by
      have := (List.getElem?_eq_some_iff.mp e3).2
      simpa using this
    have q4 : its2.toArray[j] = v := by
      have := (List.getElem?_eq_some_iff.mp e4).2
      simpa using this
    simp only [e1, e2, q3, q4]
    exact K.eq A _ _ d e u v hA r1 r2 r3 r4
  · rw [l1, l2]
    exact all_eq ds es _ fun j x y h1 h2 => by simp only [h1, h2]
theorem rc_tups (K : EqK H s n R) (ok : HOk P w H s.heap) {a b : Addr} {xs ys : List V} {ds es : List α} (ha : H a = some (.tup xs)) (hb : H b = some (.tup ys)) (p1 : Paired R xs ds) (p2 : Paired R ys es) (hA : A.units + (n + 1) < cLine) :
    SeqAt.RcAt A s (.ref a) (.ref b) (decide (ds = es)) := by
  obtain ⟨_, its, v1, t1⟩ := ok a _ ha
  obtain ⟨_, its2, v2, t2⟩ := ok b _ hb
  obtain ⟨e, h1, h2⟩ := items_eq (A := A.in1) K p1 p2 v1 v2 (by show A.units + 1 + n < cLine; omega)
  rw [← h2]
  exact SeqAt.RcAt.tuples t1 t2 (by omega) h1
theorem isL_of {h : Heap} {a : Addr} {its : List Value} {k : Nat} (e : h.get? a = some { cls := .type "list", data := .seq its.toArray k }) : h.IsList a its.toArray := ⟨_, e, rfl, _, rfl⟩
theorem rc_lsts (K : EqK H s n R) (ok : HOk P w H s.heap) {a b : Addr} {xs ys : List V} {ds es : List α} (ha : H a = some (.lst xs)) (hb : H b = some (.lst ys)) (p1 : Paired R xs ds) (p2 : Paired R ys es) (hA : A.units + (n + 1) < cLine) :
    SeqAt.RcAt A s (.ref a) (.ref b) (decide (ds = es)) := by
  obtain ⟨_, its, k1, v1, t1⟩ := ok a _ ha
  obtain ⟨_, its2, k2, v2, t2⟩ := ok b _ hb
  obtain ⟨e, h1, h2⟩ := items_eq (A := A.in1) K p1 p2 v1 v2 (by show A.units + 1 + n < cLine; omega)
  by_cases hz : its.toArray.size = its2.toArray.size
  · have q := SeqAt.RcAt.lists (isL_of t1) (isL_of t2) hz (show A.units < cLine by omega) h1
    have z : (List.range its.toArray.size).all e = decide (ds = es) := by
      rw [← h2, ← hz]
      simp
    rw [z] at q
    exact q
  · have q := SeqAt.RcAt.lists_lengths (A := A) (isL_of t1) (isL_of t2) (by simpa using hz) (show A.units < cLine by omega)
    have z : false = decide (ds = es) := by
      rw [← h2]
      have : (its.toArray.size == its2.toArray.size) = false := by simpa using hz
      rw [this, Bool.and_false]
    rw [z] at q
    exact q
theorem rn_lsts (K : EqK H s n R) (ok : HOk P w H s.heap) {a b : Addr} {xs ys : List V} {ds es : List α} (ha : H a = some (.lst xs)) (hb : H b = some (.lst ys)) (p1 : Paired R xs ds) (p2 : Paired R ys es) (hA : A.units + (n + 1) < cLine) :
    SeqAt.RcNeAt A s (.ref a) (.ref b) (!decide (ds = es)) := by
  obtain ⟨_, its, k1, v1, t1⟩ := ok a _ ha
  obtain ⟨_, its2, k2, v2, t2⟩ := ok b _ hb
  obtain ⟨e, h1, h2⟩ := items_eq (A := A.in1) K p1 p2 v1 v2 (by show A.units + 1 + n < cLine; omega)
  by_cases hz : its.toArray.size = its2.toArray.size
  · have q := SeqAt.RcNeAt.lists (isL_of t1) (isL_of t2) hz (show A.units < cLine by omega) h1
    have z : (List.range its.toArray.size).all e = decide (ds = es) := by
      rw [← h2, ← hz]
      simp
    rw [z] at q
    exact q
  · have q := SeqAt.RcNeAt.lists_lengths (A := A) (isL_of t1) (isL_of t2) (by simpa using hz) (show A.units < cLine by omega)
    have z : false = decide (ds = es) := by
      rw [← h2]
      have : (its.toArray.size == its2.toArray.size) = false := by simpa using hz
      rw [this, Bool.and_false]
    rw [← z]
    exact q
theorem EqK.tup (K : EqK H s n R) (ok : HOk P w H s.heap) : EqK H s (n + 1) (RTup H R) := by
  refine ⟨fun x a b h1 h2 => ?_, fun A x y a b u v hA h1 h2 r1 r2 => ?_⟩
  · obtain ⟨c, xs, rfl, e1, p1⟩ := h1
    obtain ⟨c', xs', z, e2, p2⟩ := h2
    cases z
    rw [e1] at e2; cases e2
    exact Paired.inj K.inj p1 p2
  · obtain ⟨c, xs, rfl, e1, p1⟩ := h1
    obtain ⟨c', xs', rfl, e2, p2⟩ := h2
    cases r1; cases r2
    by_cases hc : c = c'
    · subst hc
      rw [e1] at e2; cases e2
      have := Paired.inj K.inj p1 p2
      subst this
      rw [decide_eq_true rfl]
      exact SeqAt.EqAt.same _
    · exact SeqAt.EqAt.of_refs hc (rc_tups K ok e1 e2 p1 p2 hA)
end

/-! ### the operators ==, != on two tuples, two lists -/
section
variable {X : Cx} {α : Type} [DecidableEq α]
def rEqTI : R2 := fun x y H Q => ∃ ns ms, RTup H RInt x ns ∧ RTup H RInt y ms ∧ Q (.bl (decide (ns = ms))) H
theorem op_eqTI (hu : X.A.units + 4 < cLine) : OpR X (compareOp .Eq) rEqTI := by
  intro pins s σ H x y v u Q I rx ry h
  obtain ⟨ns, ms, ⟨a, xs, rfl, e1, p1⟩, ⟨b, ys, rfl, e2, p2⟩, q⟩ := h
  cases rx; cases ry
  exact rc_tups (A := X.A) (n := 0) EqK.int I.hok e1 e2 p1 p2 (by omega) _ _ _ _ ⟨.bl _, H, I, rfl, q⟩
def rNeTI : R2 := fun x y H Q => ∃ ns ms, RTup H RInt x ns ∧ RTup H RInt y ms ∧ Q (.bl (!decide (ns = ms))) H
end

/-! ### isinstance(x, T), T a built-in type -/
def rIsi (K : PySem.W.Frag) : List V → Hp → VK → Prop := fun xs H Q => ∃ x t T b, xs = [x, .ty T] ∧ TyOf K H x t ∧ PySem.W.kitOne K t (.type T) = some b ∧ Q (.bl b) H
theorem call_isi {X : Cx} : CallR X (.builtin "isinstance") (rIsi X.K) := by
  intro pins s σ H xs us Q I r h
  obtain ⟨x, t, T, b, rfl, ty, e, q⟩ := h
  obtain ⟨u, v, rfl, r1, r2⟩ := r.two
  cases r2
  exact isinst_ok I r1 ty e fun tk => ⟨.bl b, H, I.tok tk, rfl, q⟩

/-! ### slices and sums of tuples, whatever they are: some tuple with these items -/
def rSlG : V → Option Int → Option Int → Hp → VK → Prop := fun x lo hi H Q => ∃ a xs, x = .ref a ∧ H a = some (.tup xs) ∧ ∀ p H', Same H H' → H' p = some (.tup (cutV xs lo hi)) → Q (.ref p) H'
theorem sixAll {n : Nat} {α : Type} (xs : List α) (lo hi : Option Int) (h1 : HT.sIx xs.length 0 lo = 0) (h2 : HT.sIx xs.length xs.length hi = xs.length) : (xs.drop (HT.sIx xs.length 0 lo)).take (HT.sIx xs.length xs.length hi - HT.sIx xs.length 0 lo) = xs := by
  rw [h1, h2]; simp
theorem same_newO {H : Hp} {p : Addr} (h : H p = none) (o : HO) : Same H (upd H p o) := fun b u q => by rw [upd_ne (ne_of_none q h)]; exact q
theorem whole_tuple {prog : Program} {w : World} {A : Around} {E : Value → Shared → Prop} {s : Shared} {t sl : Addr} {items : Array Value} {vl vu : Value} {lo hi : Option Int} {Q : Value → Shared → Prop} (ht : IsTup s.heap t items) (hs : s.heap.IsSliceOf sl vl vu .none) (pl : IsPart vl lo) (pu : IsPart vu hi)
    (h1 : HT.sIx items.size 0 lo = 0) (h2 : HT.sIx items.size items.size hi = items.size) (h : Q (.ref t) s) : wpAny (model prog w) A (getItem (.ref t) (.ref sl)) Q E s := by
  obtain ⟨os, hos, hcs, hds⟩ := id hs
  have hTs : s.TypeIs (.ref sl) "slice" := ⟨os, hos, hcs⟩
  unfold getItem
  try with_reducible refine wpAny_holding ?_
  first | refine wpAny_bind (wpAny_pure ?_) | skip
  refine wpAny_bind (wpAny_sequenceKey ht.typeIs (by decide) ?_)
  refine wpAny_bind (wpAny_callSpecial?_slot (name := Str.ofString "__getitem__") ht.typeIs PyProof.Rows.slot_tuple_getitem
    (wpAny_call_entry PyProof.Rows.slot_tuple_getitem ht.typeIs entry_tuple_getitem ?_ (args_tuple_getitem _ _)))
  show wpAny _ _ (Builtin.Tuple.tupleItemsOf (.ref t) >>= _) _ _ s
  refine wpAny_bind (tupleItemsOf_ ht ?_)
  refine wpAny_bind (wpAny_typeOf hTs ?_)
  rw [if_pos (by decide)]
  refine wpAny_bind (HT.sliceApplied_gen hs pl pu ?_)
  rw [h1, h2]
  show wpAny _ _ (if (((0 : Nat) : Int) == 0 && (1 : Int) == 1 && (items.size - 0) == items.size) = true then _ else _) _ _ s
  rw [if_pos (by simp)]
  unfold Builtin.Tuple.tupleIsExact
  refine wpAny_bind (wpAny_bind (wpAny_typeOf ht.typeIs (wpAny_pure ?_)))
  rw [if_pos (by decide)]
  first
    | exact wpAny_bind (wpAny_rule (wpAny_bind (wpAny_pure (wpAny_pure ⟨_, rfl, wpAny_pure h⟩))))
    | exact wpAny_bind (wpAny_rule (wpAny_pure ⟨_, rfl, wpAny_pure h⟩))
    | exact wpAny_bind (wpAny_bind (wpAny_rule (wpAny_pure ⟨_, rfl, wpAny_pure h⟩)))
theorem sl_tupG {X : Cx} : SlR X rSlG := by
  intro pins s σ H x v vl vu lo hi sl Q I rx hs pl pu h
  obtain ⟨a, xs, rfl, hx, q⟩ := h
  by_cases hw : HT.sIx xs.length 0 lo = 0 ∧ HT.sIx xs.length xs.length hi = xs.length
  · cases rx
    obtain ⟨hz, its, r, ht⟩ := I.hok a _ hx
    have hlen : its.toArray.size = xs.length := by rw [List.size_toArray]; exact r.length.symm
    refine ⟨"tuple", _, PyProof.Rows.slot_tuple_getitem.lookup, ht.typeIs, ?_⟩
    refine whole_tuple ht hs pl pu (by rw [hlen]; exact hw.1) (by rw [hlen]; exact hw.2) ⟨.ref a, H, I, rfl, q a H (Same.refl H) ?_⟩
    unfold cutV
    rw [sixAll (n := 0) xs lo hi hw.1 hw.2]
    exact hx
  · exact sl_tup pins s σ H (.ref a) v vl vu lo hi sl Q I rx hs pl pu ⟨a, xs, rfl, .inl (.inl hx), hw, fun p hp => q p _ (same_newO hp _) upd_same⟩
def rCatG : R2 := fun x y H Q => ∃ a b xs ys, x = .ref a ∧ y = .ref b ∧ H a = some (.tup xs) ∧ H b = some (.tup ys) ∧ xs.length + ys.length ≤ sizeLine ∧ ∀ p H', Same H H' → H' p = some (.tup (xs ++ ys)) → Q (.ref p) H'
theorem op_catG {X : Cx} : OpR X (binaryOp .Add) rCatG := by
  intro pins s σ H x y v u Q I rx ry h
  obtain ⟨a, b, xs, ys, rfl, rfl, ha, hb, hz, q⟩ := h
  by_cases hx : xs = []
  · subst hx
    cases rx; cases ry
    obtain ⟨_, its, r1, p1⟩ := I.hok a _ ha
    obtain ⟨_, its2, r2, p2⟩ := I.hok b _ hb
    have e0 : its = [] := r1.nil_iff.mpr rfl
    subst e0
    obtain ⟨⟨cls, dd, data, sl⟩, ho, hc, n, hd⟩ := id p1
    obtain ⟨⟨cls2, dd2, data2, sl2⟩, ho2, hc2, n2, hd2⟩ := id p2
    simp only at hc hd hc2 hd2
    subst hc hd hc2 hd2
    exact concat_meets ⟨_, ho, rfl⟩ ⟨_, ho2, rfl⟩ noFill_tuple_add seq_tuple_add PySem.F.slot_tuple_add PySem.F.entry_tuple_add (PySem.F.args_tuple_add_2 _ _)
      (tuple_addW0 a b ([] : List Value).toArray its2.toArray n n2 dd dd2 sl sl2 (by simp)) ⟨ho, ho2, ⟨.ref b, H, I, rfl, q b H (Same.refl H) (by simpa using hb)⟩⟩
  · exact op_catT pins s σ H (.ref a) (.ref b) v u Q I rx ry ⟨a, b, xs, ys, rfl, rfl, .inl (.inl ha), .inl (.inl hb), hx, hz, fun z => q a H (Same.refl H) (by rw [z, List.append_nil]; exact ha), fun _ p hp => q p _ (same_newO hp _) upd_same⟩

/-! ### all(list of bools) -/
def rAll : List V → Hp → VK → Prop := fun xs H Q => ∃ (a : Addr) (bs : List Bool), xs = [.ref a] ∧ H a = some (.lst (bs.map V.bl)) ∧ Q (.bl (bs.all id)) H
theorem vals_bls : ∀ {bs : List Bool} {us : List Value}, Vals (bs.map V.bl) us → us = bs.map Value.bool := by
  intro bs
  induction bs with
  | nil => intro us r; rw [List.map_nil] at r; cases r; rfl
  | cons b bs ih =>
    intro us r
    rw [List.map_cons] at r
    cases r with
    | cons r1 r2 => rw [ih r2, show _ = Value.bool b from r1]; rfl
theorem all_range (bs : List Bool) : (List.range bs.length).all (fun i => bs.getD i true) = bs.all id := by
  rw [Bool.eq_iff_iff]
  simp only [List.all_eq_true, List.mem_range, id]
  constructor
  · intro h b hb
    obtain ⟨i, hi, rfl⟩ := List.mem_iff_getElem.mp hb
    have q := h i hi
    rwa [List.getD_eq_getElem?_getD, List.getElem?_eq_getElem hi] at q
  · intro h i hi
    rw [List.getD_eq_getElem?_getD, List.getElem?_eq_getElem hi]
    exact h _ (List.getElem_mem hi)
theorem call_all {X : Cx} (hc : X.calm = true) : CallR X (.builtin "all") rAll := by
  intro pins s σ H xs us Q I r h
  obtain ⟨a, bs, rfl, ha, q⟩ := h
  obtain ⟨u, rfl, ru⟩ := vals1 r
  cases ru
  obtain ⟨hz, its, n, v, e⟩ := I.hok a _ ha
  have ei := vals_bls v
  subst ei
  refine call_all_walk (wpAny_pyIter_list (isL_of e) ?_)
  have hlt := Heap.lt_size e
  refine ⟨s.heap.objs.size, _, _, _, _, _, fun i => bs.getD i true, rfl, Walks.list (A := X.A.in1) (by show X.A.handled = none; exact I.ok.hd hc) s.heap.objs.size a (Nat.ne_of_lt hlt) (bs.map Value.bool).toArray, ⟨⟨_, Heap.get?_push_size _ rfl, rfl, rfl⟩, isL_of (Heap.get?_push_of_some _ e)⟩, ?_, fun h' tk hk => ?_⟩
  · intro i v s' Q' E' hv hq
    simp only [List.getElem?_toArray, List.getElem?_map] at hv
    cases hb : bs[i]? with
    | none => rw [hb] at hv; cases hv
    | some b =>
      rw [hb] at hv; cases hv
      have hq' : Q' (bs.getD i true) s' := hq
      rw [List.getD_eq_getElem?_getD, hb] at hq'
      exact wpAny_truthy_bool hq'
  · have e1 : (bs.map Value.bool).toArray.size = bs.length := by simp
    rw [e1, all_range]
    exact ⟨.bl _, H, I.kept (h' := h') (t' := tk) (fun b o eo => hk b o (by simp; exact Nat.ne_of_lt (Heap.lt_size eo)) (Heap.get?_push_of_some _ eo)), rfl, q⟩

/-! ### sum(list of ints) -/
def rSum : List V → Hp → VK → Prop := fun xs H Q => ∃ (a : Addr) (ns : List Int), xs = [.ref a] ∧ H a = some (.lst (ns.map V.int)) ∧ Q (.int ns.sum) H
end L2
set_option Elab.async false
set_option linter.all false
set_option maxRecDepth 100000
namespace L2
open PySem PySem.Spec PyProof.Rows

theorem lookup_relabel (scope : Scope) (en : Env) (y : Str) : (relabel scope en).names.lookup y = (scope.names.lookup y).map fun k => if (k == NameKind.free && en.scope.kind == .function && en.kindOf y == some .cell) = true then .cell else k := by
  show List.lookup y (scope.names.map fun (n, k) => if (k == NameKind.free && en.scope.kind == .function && en.kindOf n == some .cell) = true then (n, NameKind.cell) else (n, k)) = _
  generalize scope.names = l
  induction l with
  | nil => rfl
  | cons p r ih =>
    obtain ⟨n, k⟩ := p
    rw [List.map_cons]
    by_cases hy : y = n
    · subst hy
      show List.lookup y ((if (k == NameKind.free && en.scope.kind == .function && en.kindOf y == some .cell) = true then (y, NameKind.cell) else (y, k)) :: _) = _
      by_cases hc : (k == NameKind.free && en.scope.kind == .function && en.kindOf y == some .cell) = true
      · rw [if_pos hc, List.lookup_cons, List.lookup_cons, beq_self_eq_true]
        show some NameKind.cell = some (if _ then _ else _)
        rw [if_pos hc]
      · rw [if_neg hc, List.lookup_cons, List.lookup_cons, beq_self_eq_true]
        show some k = some (if _ then _ else _)
        rw [if_neg hc]
    · have hb : (y == n) = false := by simpa using hy
      show List.lookup y ((if (k == NameKind.free && en.scope.kind == .function && en.kindOf n == some .cell) = true then (n, NameKind.cell) else (n, k)) :: _) = _
      by_cases hc : (k == NameKind.free && en.scope.kind == .function && en.kindOf n == some .cell) = true
      · rw [if_pos hc, List.lookup_cons, List.lookup_cons, hb]; exact ih
      · rw [if_neg hc, List.lookup_cons, List.lookup_cons, hb]; exact ih
/-! what a look at the two scopes decides -/
def okPair (scope : Scope) (p : Str × Str) : Bool := match scope.names.lookup p.1 with
  | none => true
  | some .free => p.1 == p.2
  | some .local => false
  | some .cell => false
  | some _ => true
theorem CompScope.of' {scope : Scope} {en : Env} {N M : List Str} (sc : Scope) (N₀ : List Str) (hsc : en.scope = sc) (hN : N = N₀) (kind : scope.kind = .function) (nocell : ∀ y ∈ scope.names, y.2 ≠ .cell) (locs : ∀ y ∈ scope.names, y.2 = .local → scope.names.lookup y.1 = some .local)
    (free : ∀ y ∈ scope.names, y.2 = .free → sc.names.lookup y.1 = some .cell ∨ sc.names.lookup y.1 = some .free) (len : M.length = N₀.length) (same : ((M.zip N₀).all (okPair scope)) = true) : CompScope scope en N M := by
  subst hsc hN
  refine ⟨kind, nocell, locs, fun y hy => free _ hy rfl, len, fun j y e v => ?_, fun y h => ?_⟩
  · have hj : j < N.length := by rw [← len]; exact (List.getElem?_eq_some_iff.mp e).1
    have e2 : N[j]? = some N[j] := List.getElem?_eq_getElem hj
    have hm : (y, N[j]) ∈ M.zip N := by
      refine List.mem_iff_getElem?.mpr ⟨j, ?_⟩
      rw [List.getElem?_zip_eq_some]
      exact ⟨e, e2⟩
    have q := List.all_eq_true.mp same _ hm
    unfold okPair at q
    unfold Vis at v
    rw [lookup_relabel] at v ⊢
    cases hl : scope.names.lookup y with
    | none => rw [hl] at v; simp at v
    | some k =>
      rw [hl] at v q
      simp only [Option.map_some] at v ⊢
      cases k with
      | free =>
        have z : y = N[j] := by simpa using q
        refine ⟨by rw [e2, ← z], PySem.mem_of_lookup hl, ?_⟩
        split <;> simp
      | «local» => simp at q
      | cell => simp at q
      | _ => simp at v
  · rw [lookup_relabel] at h
    cases hl : scope.names.lookup y with
    | none => rw [hl] at h; simp at h
    | some k =>
      rw [hl] at h
      have hm := PySem.mem_of_lookup hl
      simp only [Option.map_some] at h
      cases k with
      | free => exact hm
      | cell => exact absurd rfl (nocell _ hm)
      | _ => simp at h
theorem CompScope.of {scope : Scope} {en : Env} {N M : List Str} (sc : Scope) (N₀ : List Str) (hsc : en.scope = sc) (hN : N = N₀) (kind : scope.kind = .function) (nocell : ∀ y ∈ scope.names, y.2 ≠ .cell) (locs : ∀ y ∈ scope.names, y.2 = .local → scope.names.lookup y.1 = some .local)
    (free : ∀ y ∈ scope.names, y.2 = .free → sc.names.lookup y.1 = some .cell ∨ sc.names.lookup y.1 = some .free) (len : M.length = N₀.length) (same : ((M.zip N₀).all (okPair scope)) = true) : CompScope scope en N M := CompScope.of' sc N₀ hsc hN kind nocell locs free len same
/-! a comprehension within a comprehension: what it takes from outside, the outer one takes too -/
/-! one name of its own -/
theorem hg_one {v : V} {σ : St} {H : Hp} {Q : St → Hp → Prop} (h : gName 0 v (List.replicate 1 none ++ σ) H Q) : gName 0 v (List.replicate 1 none ++ σ) H fun σ2 H2 => (∃ l : St, l.length = 1 ∧ σ2 = l ++ σ) ∧ Q σ2 H2 :=
  ⟨⟨[some v], rfl, rfl⟩, h⟩

/-! what a comprehension over a range, a list, a tuple wants: Pv i ys H: behind i turns the list at d holds ys -/
theorem comp_range {lo : Int} {n : Nat} {k : Nat} {g : TG} {tc : TT} {te : TE} {σ : St} {H : Hp} {Q : VK} {d : Addr} (Pv : Nat → Hp → Prop) (h0 : Pv 0 (upd H d (.lst [])))
    (hs : ∀ i H, i < n → Pv i H → g (.int (lo + i)) (List.replicate k none ++ σ) H fun σ2 H2 => tc σ2 H2 fun b H3 => if b = true then te σ2 H3 fun y H4 => ∃ ys, H4 d = some (.lst ys) ∧ ys.length < sizeLine ∧ Pv (i + 1) (upd H4 d (.lst (ys ++ [y]))) else Pv (i + 1) H3)
    (hd : ∀ H, Pv n H → Q (.ref d) H) :
    ∃ W : Nat → Nat → Hp → Prop, (∃ m, W 0 m (upd H d (.lst []))) ∧ ∀ i m H, W i m H →
      ((Itr lo n).stop i H ∧ Q (.ref d) H) ∨ ((Itr lo n).go i H ∧ ∃ N : Hp → Prop, (∀ H', N H' → ∃ m', m' < m ∧ W (i + 1) m' H') ∧ ∀ x H', (Itr lo n).yld i H x H' → g x (List.replicate k none ++ σ) H' fun σ2 H2 =>
        tc σ2 H2 fun b H3 => if b = true then te σ2 H3 fun y H4 => ∃ ys, H4 d = some (.lst ys) ∧ ys.length < sizeLine ∧ N (upd H4 d (.lst (ys ++ [y]))) else N H3) := by
  refine ⟨fun i m H => m = n - i ∧ i ≤ n ∧ Pv i H, ⟨n, by simp, Nat.zero_le _, h0⟩, ?_⟩
  rintro i m H ⟨rfl, hi, p⟩
  by_cases hlt : i < n
  · refine .inr ⟨hlt, Pv (i + 1), fun H' p' => ⟨n - (i + 1), by omega, rfl, hlt, p'⟩, fun x H' y => ?_⟩
    obtain ⟨e, y⟩ := y
    subst e y
    exact hs i _ hlt p
  · have e : i = n := by omega
    subst e
    exact .inl ⟨Nat.le_refl _, hd H p⟩
theorem comp_tup {K : PySem.W.Frag} {a : Addr} {xs : List V} {k : Nat} {g : TG} {tc : TT} {te : TE} {σ : St} {H : Hp} {Q : VK} {d : Addr} (Pv : Nat → Hp → Prop) (h0 : Pv 0 (upd H d (.lst []))) (hl : ∀ i H, i ≤ xs.length → Pv i H → SqT K H a xs)
    (hs : ∀ i x H, xs[i]? = some x → Pv i H → g x (List.replicate k none ++ σ) H fun σ2 H2 => tc σ2 H2 fun b H3 => if b = true then te σ2 H3 fun y H4 => ∃ ys, H4 d = some (.lst ys) ∧ ys.length < sizeLine ∧ Pv (i + 1) (upd H4 d (.lst (ys ++ [y]))) else Pv (i + 1) H3)
    (hd : ∀ H, Pv xs.length H → Q (.ref d) H) :
    ∃ W : Nat → Nat → Hp → Prop, (∃ m, W 0 m (upd H d (.lst []))) ∧ ∀ i m H, W i m H →
      ((Itt K a).stop i H ∧ Q (.ref d) H) ∨ ((Itt K a).go i H ∧ ∃ N : Hp → Prop, (∀ H', N H' → ∃ m', m' < m ∧ W (i + 1) m' H') ∧ ∀ x H', (Itt K a).yld i H x H' → g x (List.replicate k none ++ σ) H' fun σ2 H2 =>
        tc σ2 H2 fun b H3 => if b = true then te σ2 H3 fun y H4 => ∃ ys, H4 d = some (.lst ys) ∧ ys.length < sizeLine ∧ N (upd H4 d (.lst (ys ++ [y]))) else N H3) := by
  refine ⟨fun i m H => m = xs.length - i ∧ i ≤ xs.length ∧ Pv i H, ⟨xs.length, by simp, Nat.zero_le _, h0⟩, ?_⟩
  rintro i m H ⟨rfl, hi, p⟩
  have q := hl i H hi p
  by_cases hlt : i < xs.length
  · refine .inr ⟨⟨xs, xs[i], q, by simp [hlt]⟩, Pv (i + 1), fun H' p' => ⟨xs.length - (i + 1), by omega, rfl, hlt, p'⟩, fun x H' y => ?_⟩
    obtain ⟨e, y⟩ := y
    subst e
    exact hs i x _ (y xs q) p
  · have e : i = xs.length := by omega
    subst e
    exact .inl ⟨⟨xs, q, Nat.le_refl _⟩, hd H p⟩
theorem comp_list {K : PySem.W.Frag} {a : Addr} {xs : List V} {k : Nat} {g : TG} {tc : TT} {te : TE} {σ : St} {H : Hp} {Q : VK} {d : Addr} (Pv : Nat → Hp → Prop) (h0 : Pv 0 (upd H d (.lst []))) (hl : ∀ i H, i ≤ xs.length → Pv i H → SqL K H a xs)
    (hs : ∀ i x H, xs[i]? = some x → Pv i H → g x (List.replicate k none ++ σ) H fun σ2 H2 => tc σ2 H2 fun b H3 => if b = true then te σ2 H3 fun y H4 => ∃ ys, H4 d = some (.lst ys) ∧ ys.length < sizeLine ∧ Pv (i + 1) (upd H4 d (.lst (ys ++ [y]))) else Pv (i + 1) H3)
    (hd : ∀ H, Pv xs.length H → Q (.ref d) H) :
    ∃ W : Nat → Nat → Hp → Prop, (∃ m, W 0 m (upd H d (.lst []))) ∧ ∀ i m H, W i m H →
      ((Itl K a).stop i H ∧ Q (.ref d) H) ∨ ((Itl K a).go i H ∧ ∃ N : Hp → Prop, (∀ H', N H' → ∃ m', m' < m ∧ W (i + 1) m' H') ∧ ∀ x H', (Itl K a).yld i H x H' → g x (List.replicate k none ++ σ) H' fun σ2 H2 =>
        tc σ2 H2 fun b H3 => if b = true then te σ2 H3 fun y H4 => ∃ ys, H4 d = some (.lst ys) ∧ ys.length < sizeLine ∧ N (upd H4 d (.lst (ys ++ [y]))) else N H3) := by
  refine ⟨fun i m H => m = xs.length - i ∧ i ≤ xs.length ∧ Pv i H, ⟨xs.length, by simp, Nat.zero_le _, h0⟩, ?_⟩
  rintro i m H ⟨rfl, hi, p⟩
  have q := hl i H hi p
  by_cases hlt : i < xs.length
  · refine .inr ⟨⟨xs, xs[i], q, by simp [hlt]⟩, Pv (i + 1), fun H' p' => ⟨xs.length - (i + 1), by omega, rfl, hlt, p'⟩, fun x H' y => ?_⟩
    obtain ⟨e, y⟩ := y
    subst e
    exact hs i x _ (y xs q) p
  · have e : i = xs.length := by omega
    subst e
    exact .inl ⟨⟨xs, q, Nat.le_refl _⟩, hd H p⟩
/-! built-in names and types -/
theorem b_isi : bootBuiltins "isinstance" = some (.builtin "isinstance") := by decide +kernel
theorem b_all : bootBuiltins "all" = some (.builtin "all") := by decide +kernel
theorem b_int : bootBuiltins "int" = some (.type "int") := by decide +kernel
theorem b_bool : bootBuiltins "bool" = some (.type "bool") := by decide +kernel
theorem b_list : bootBuiltins "list" = some (.type "list") := by decide +kernel
theorem b_tuple : bootBuiltins "tuple" = some (.type "tuple") := by decide +kernel
theorem kit_int_int (K : PySem.W.Frag) : PySem.W.kitOne K (.type "int") (.type "int") = some true := by rfl
theorem kit_int_bool (K : PySem.W.Frag) : PySem.W.kitOne K (.type "int") (.type "bool") = some false := by rfl
theorem kit_tuple_tuple (K : PySem.W.Frag) : PySem.W.kitOne K (.type "tuple") (.type "tuple") = some true := by rfl
theorem kit_list_list (K : PySem.W.Frag) : PySem.W.kitOne K (.type "list") (.type "list") = some true := by rfl

/-! ### readings in short, for one name of its own -/
theorem PE.imp {X : Cx} {e : Expr} {t t' : TE} (h : PE X e t) (hi : ∀ σ H Q, t' σ H Q → t σ H Q) : PE X e t' := fun pins s σ H Q I q => h pins s σ H Q I (hi σ H Q q)
/-! one turn with the item x: Z is what is wanted behind it -/
def turnC (tc : TT) (te : TE) (σ : St) (d : Addr) (x : V) (H : Hp) (Z : Hp → Prop) : Prop :=
  tc (some x :: σ) H fun b H3 => if b = true then te (some x :: σ) H3 fun y H4 => ∃ ys, H4 d = some (.lst ys) ∧ ys.length < sizeLine ∧ Z (upd H4 d (.lst (ys ++ [y]))) else Z H3
def tCompR1 (ta : TA) (tc : TT) (te : TE) : TE := fun σ H Q => ta σ H fun vs H1 => ∃ j : Int, vs = [.int j] ∧ -(2 ^ 62) ≤ j ∧ j < 2 ^ 62 ∧ ∀ d, H1 d = none →
  ∃ Pv : Nat → Hp → Prop, Pv 0 (upd H1 d (.lst [])) ∧ (∀ i H, i < j.toNat → Pv i H → turnC tc te σ d (.int (0 + i)) H (Pv (i + 1))) ∧ ∀ H, Pv j.toNat H → Q (.ref d) H
def tCompR2 (ta : TA) (tc : TT) (te : TE) : TE := fun σ H Q => ta σ H fun vs H1 => ∃ lo hi : Int, vs = [.int lo, .int hi] ∧ (-(2 ^ 62) ≤ lo ∧ lo < 2 ^ 62 ∧ -(2 ^ 62) ≤ hi ∧ hi < 2 ^ 62) ∧ ∀ d, H1 d = none →
  ∃ Pv : Nat → Hp → Prop, Pv 0 (upd H1 d (.lst [])) ∧ (∀ i H, i < (hi - lo).toNat → Pv i H → turnC tc te σ d (.int (lo + i)) H (Pv (i + 1))) ∧ ∀ H, Pv (hi - lo).toNat H → Q (.ref d) H
def tCompL (K : PySem.W.Frag) (tl : TE) (tc : TT) (te : TE) : TE := fun σ H Q => tl σ H fun v H1 => ∃ a xs, v = .ref a ∧ SqL K H1 a xs ∧ ∀ d, H1 d = none →
  ∃ Pv : Nat → Hp → Prop, Pv 0 (upd H1 d (.lst [])) ∧ (∀ i H, i ≤ xs.length → Pv i H → SqL K H a xs) ∧ (∀ i x H, xs[i]? = some x → Pv i H → turnC tc te σ d x H (Pv (i + 1))) ∧ ∀ H, Pv xs.length H → Q (.ref d) H
def tCompT (K : PySem.W.Frag) (tl : TE) (tc : TT) (te : TE) : TE := fun σ H Q => tl σ H fun v H1 => ∃ a xs, v = .ref a ∧ SqT K H1 a xs ∧ ∀ d, H1 d = none →
  ∃ Pv : Nat → Hp → Prop, Pv 0 (upd H1 d (.lst [])) ∧ (∀ i H, i ≤ xs.length → Pv i H → SqT K H a xs) ∧ (∀ i x H, xs[i]? = some x → Pv i H → turnC tc te σ d x H (Pv (i + 1))) ∧ ∀ H, Pv xs.length H → Q (.ref d) H
/-! the list, the tuple at hand: what the reading of an expression gives may be any; mono: a reading asks no more of a weaker end -/
def MonoE (t : TE) : Prop := ∀ σ H (Q Q' : VK), (∀ v H1, Q v H1 → Q' v H1) → t σ H Q → t σ H Q'
def MonoA (t : TA) : Prop := ∀ σ H (Q Q' : List V → Hp → Prop), (∀ v H1, Q v H1 → Q' v H1) → t σ H Q → t σ H Q'
section
variable {X : Cx} {elt iter : Expr} {tg : Str} {tp : Pos} {cs : List Expr} {scope : Scope} {pos : Pos} {tc : TT} {te : TE} {M : List Str}
abbrev Inner (X : Cx) (scope : Scope) (tg : Str) (M : List Str) (cs : List Expr) (elt : Expr) (tc : TT) (te : TE) : Prop :=
  ∀ (cl : List (Str × Addr)) (C : Addr) (s0 : Shared) (H0 : Hp) (fp : List Addr), PTs (cxC X scope cl C s0 H0 fp (tg :: M)) cs tc ∧ PE (cxC X scope cl C s0 H0 fp (tg :: M)) elt te
theorem pe_compG {wi : TI} {t : TE} (hc : X.calm = true) (S : CompScope scope X.env X.N M) (nd : (tg :: M).Nodup) (hl : scope.names.lookup tg = some .local) (hi : PI X (.Name tg tp) iter wi) (hin : Inner X scope tg M cs elt tc te)
    (ht : ∀ σ H Q, t σ H Q → tComp 1 wi (gName 0) tc te σ H Q) (hs : ∀ x, foldedSetIterable iter X.env x = pure x) : PE X (.ListComp elt [⟨.Name tg tp, iter, cs, 0⟩] scope pos) t := by
  have hx : (relabel scope X.env).names.lookup tg = some .local := by
    rw [lookup_relabel, hl]
    rfl
  exact PE.imp (pe_comp (xs := [tg]) (M := M) hc S hi (fun cl C s0 H0 fp => ⟨pg_name (i := 0) nd rfl (Or.inl hx) (Or.inr hx), hin cl C s0 H0 fp⟩) (fun v σ H Q h => hg_one h) hs) ht
theorem pe_compL {tl : TE} (hc : X.calm = true) (S : CompScope scope X.env X.N M) (nd : (tg :: M).Nodup) (hl : scope.names.lookup tg = some .local) (hi : PE X iter tl) (mo : MonoE tl)
    (hin : Inner X scope tg M cs elt tc te) (hf : ∀ x, foldedSetIterable iter X.env x = pure x := by intro _; rfl) : PE X (.ListComp elt [⟨.Name tg tp, iter, cs, 0⟩] scope pos) (tCompL X.K tl tc te) := by
  refine pe_compG hc S nd hl (pi_list hi) hin (fun σ H Q h => ?_) hf
  refine mo σ H _ _ (fun v H1 q => ?_) h
  obtain ⟨a, xs, e, j1, q⟩ := q
  refine ⟨a, e, ⟨xs, j1⟩, fun d hd => ?_⟩
  obtain ⟨Pv, h0, hl, hs, hd⟩ := q d hd
  exact comp_list (k := 1) (g := gName 0) Pv h0 hl hs hd

theorem ps_compG {wi : TI} {t : TE} {i : Nat} {x : Str} {pos1 spos : Pos} (hc : X.calm = true) (S : CompScope scope X.env X.N M) (nd : (tg :: M).Nodup) (hl : scope.names.lookup tg = some .local) (hi : PI X (.Name tg tp) iter wi) (hin : Inner X scope tg M cs elt tc te)
    (ht : ∀ σ H Q, t σ H Q → tComp 1 wi (gName 0) tc te σ H Q) (hN : X.N.Nodup) (hix : X.N[i]? = some x) (hx : X.env.scope.names.lookup x = some .local) (hw : swapsWith (.ListComp elt [⟨.Name tg tp, iter, cs, 0⟩] scope pos) (some (.Name x pos1)) spos.line X.env = pure true) (hs : ∀ x, foldedSetIterable iter X.env x = pure x) :
    PS X (.Assign [.Name x pos1] (.ListComp elt [⟨.Name tg tp, iter, cs, 0⟩] scope pos) spos) (tAsg t (gName i)) := by
  have hx' : (relabel scope X.env).names.lookup tg = some .local := by
    rw [lookup_relabel, hl]
    rfl
  intro pins s σ H D I h
  exact ps_comp (xs := [tg]) (M := M) hc S hi (fun cl C s0 H0 fp => ⟨pg_name (i := 0) nd rfl (Or.inl hx') (Or.inr hx'), hin cl C s0 H0 fp⟩) (fun v σ H Q h => hg_one h) hN hix hx hw hs pins s σ H D I (ht _ _ _ h)
theorem ps_compR1 {a : Expr} {ta : TA} {p pos' pos1 spos : Pos} {i : Nat} {x : Str} (hN : X.N.Nodup) (hix : X.N[i]? = some x) (hx : X.env.scope.names.lookup x = some .local) (hc : X.calm = true) (S : CompScope scope X.env X.N M) (nd : (tg :: M).Nodup) (hl : scope.names.lookup tg = some .local) (hg : Gl X "range") (hm : X.mg "range" = none) (ha : PA X [a] ta) (mo : MonoA ta)
    (hin : Inner X scope tg M cs elt tc te) (hw : swapsWith (.ListComp elt [⟨.Name tg tp, .Call (.Name "range" p) [a] [] pos', cs, 0⟩] scope pos) (some (.Name x pos1)) spos.line X.env = pure true := by rfl)
    (hs : starEach [a] X.env = [(false, eval a X.env)] := by rfl) (hf : ∀ x, foldedSetIterable (.Call (.Name "range" p) [a] [] pos') X.env x = pure x := by intro _; rfl) :
    PS X (.Assign [.Name x pos1] (.ListComp elt [⟨.Name tg tp, .Call (.Name "range" p) [a] [] pos', cs, 0⟩] scope pos) spos) (tAsg (tCompR1 ta tc te) (gName i)) := by
  refine ps_compG hc S nd hl (pi_range1 hg hm ha hs) hin (fun σ H Q h => ?_) hN hix hx hw hf
  refine mo σ H _ _ (fun vs H1 q => ?_) h
  obtain ⟨j, e, j1, j2, q⟩ := q
  refine ⟨j, e, j1, j2, fun d hd => ?_⟩
  obtain ⟨Pv, h0, hs, hd⟩ := q d hd
  exact comp_range (k := 1) (g := gName 0) Pv h0 hs hd
end
theorem turn_all {te : TE} {σ : St} {d : Addr} {x : V} {H : Hp} {Z : Hp → Prop} (h : te (some x :: σ) H fun y H4 => ∃ ys, H4 d = some (.lst ys) ∧ ys.length < sizeLine ∧ Z (upd H4 d (.lst (ys ++ [y])))) : turnC tTrue te σ d x H Z := by
  unfold turnC tTrue
  exact iteT h
/-! readings that are monotone -/
theorem mo_var {i : Nat} : MonoE (tVar i) := fun _ _ _ _ h ⟨v, e, q⟩ => ⟨v, e, h _ _ q⟩
theorem mo_nil : MonoA tNil := fun _ _ _ _ h q => h _ _ q
theorem mo_cons {te : TE} {ta : TA} (h1 : MonoE te) (h2 : MonoA ta) : MonoA (tCons te ta) := fun σ H Q Q' h q => h1 σ H _ _ (fun v H1 q1 => h2 σ H1 _ _ (fun vs H2 q2 => h _ _ q2) q1) q
end L2
set_option Elab.async false
set_option linter.all false
set_option maxRecDepth 100000
namespace L2
open PySem PySem.Spec PyProof.Rows

/-! ### words and lists of words -/
abbrev TW (H : Hp) (a : Addr) (ns : List Int) : Prop := H a = some (.tup (ns.map V.int))
abbrev Wd (H : Hp) (x : V) (w : List Int) : Prop := RTup H RInt x w
abbrev Ws (H : Hp) (xs : List V) (ws : List (List Int)) : Prop := Paired (RTup H RInt) xs ws
theorem Wd.ti {H : Hp} {x : V} {w : List Int} (h : Wd H x w) : ∃ a, x = .ref a ∧ TW H a w := by
  obtain ⟨a, xs, rfl, e, p⟩ := h
  exact ⟨a, rfl, by show H a = _; rw [e, Paired.ofInts p]⟩
theorem Wd.of {H : Hp} {a : Addr} {w : List Int} (h : TW H a w) : Wd H (.ref a) w := rtup_ints h
theorem Wd.same {H H' : Hp} {x : V} {w : List Int} (sm : Same H H') (h : Wd H x w) : Wd H' x w := by
  obtain ⟨a, xs, rfl, e, p⟩ := h
  exact ⟨a, xs, rfl, sm _ _ e, p⟩
theorem Ws.same {H H' : Hp} {xs : List V} {ws : List (List Int)} (sm : Same H H') (h : Ws H xs ws) : Ws H' xs ws := Paired.mapP h fun _ _ q => Wd.same sm q
section
variable {α β : Type} {R : α → β → Prop}
theorem Paired.takeP : ∀ {xs : List α} {ds : List β} (n : Nat), Paired R xs ds → Paired R (xs.take n) (ds.take n)
  | _, _, 0, _ => by rw [List.take_zero, List.take_zero]; exact .nil
  | _, _, _ + 1, .nil => .nil
  | _, _, n + 1, .cons r t => .cons r (Paired.takeP n t)
theorem Paired.dropP : ∀ {xs : List α} {ds : List β} (n : Nat), Paired R xs ds → Paired R (xs.drop n) (ds.drop n)
  | _, _, 0, r => r
  | _, _, _ + 1, .nil => .nil
  | _, _, n + 1, .cons _ t => Paired.dropP n t
theorem Paired.appendP : ∀ {xs ys : List α} {ds es : List β}, Paired R xs ds → Paired R ys es → Paired R (xs ++ ys) (ds ++ es)
  | _, _, _, _, .nil, s => s
  | _, _, _, _, .cons r t, s => .cons r (Paired.appendP t s)
theorem Paired.left_of : ∀ {xs : List α} {ds : List β}, Paired R xs ds → ∀ (j : Nat) (d : β), ds[j]? = some d → ∃ x, xs[j]? = some x ∧ R x d
  | _, _, .nil, j, x, e => by simp at e
  | _, _, .cons r t, 0, x, e => by simp at e; subst e; exact ⟨_, rfl, r⟩
  | _, _, .cons r t, j + 1, x, e => by
    obtain ⟨d, e1, e2⟩ := Paired.left_of t j x (by simpa using e)
    exact ⟨d, by simpa using e1, e2⟩
theorem Paired.oneP {a : α} {b : β} (r : R a b) : Paired R [a] [b] := .cons r .nil
end
theorem at_nat {xs : List V} {i : Nat} {x : V} (h : xs[i]? = some x) : atI xs (i : Int) = some x := atI_nat h
theorem at_int {ns : List Int} {k : Nat} {x : Int} (h : ns[k]? = some x) : atI (ns.map V.int) (k : Int) = some (.int x) := atI_nat (by rw [List.getElem?_map, h]; rfl)
theorem at_of {xs : List V} {i : Int} (h0 : 0 ≤ i) (h1 : i < (xs.length : Int)) : ∃ x, xs[i.toNat]? = some x ∧ atI xs i = some x := by
  obtain ⟨n, rfl⟩ : ∃ n : Nat, i = n := ⟨i.toNat, by omega⟩
  have : n < xs.length := by omega
  exact ⟨xs[n], List.getElem?_eq_getElem this, atI_nat (List.getElem?_eq_getElem this)⟩
theorem hu4 {A : Around} {k : Nat} (hr : Room k A) : A.units + 4 < cLine := by have := hr.units; omega
theorem small {n : Nat} (h : n ≤ 1000) : n ≤ sizeLine := Nat.le_of_lt (small1000 h)
theorem cut_to (xs : List V) (n : Nat) : cutV xs none (some (n : Int)) = xs.take n := by
  unfold cutV
  rw [HT.sIx_nat, HT.sIx_none]
  simp [List.take_eq_take_iff]
theorem cut_from (xs : List V) (n : Nat) : cutV xs (some (n : Int)) none = xs.drop n := by
  unfold cutV
  rw [HT.sIx_nat, HT.sIx_none]
  by_cases h : n ≤ xs.length
  · rw [Nat.min_eq_left h]
    exact List.take_of_length_le (by rw [List.length_drop]; omega)
  · rw [Nat.min_eq_right (by omega), List.drop_eq_nil_of_le (Nat.le_refl _), List.drop_eq_nil_of_le (by omega)]
    simp
theorem cutLit (xs : List V) (i : Int) (h : 0 ≤ i) : cutV xs none (some i) = xs.take i.toNat := by
  obtain ⟨n, rfl⟩ : ∃ n : Nat, i = n := ⟨i.toNat, by omega⟩
  rw [cut_to]; rfl
theorem cutFrom (xs : List V) (i : Int) (h : 0 ≤ i) : cutV xs (some i) none = xs.drop i.toNat := by
  obtain ⟨n, rfl⟩ : ∃ n : Nat, i = n := ⟨i.toNat, by omega⟩
  rw [cut_from]; rfl
theorem cut_sub (xs : List V) (lo hi : Option Int) : ∃ a b, cutV xs lo hi = (xs.drop a).take b := ⟨_, _, rfl⟩
theorem same_upd {H H1 : Hp} {d : Addr} {o : HO} (h : H d = none) (sm : Same H H1) : Same H (upd H1 d o) := fun b u q => by rw [upd_ne (ne_of_none q h)]; exact sm b u q
theorem cuts_ints (ns : List Int) (lo hi : Option Int) : ∃ ms : List Int, cutV (ns.map V.int) lo hi = ms.map V.int ∧ ms.length ≤ ns.length := by
  obtain ⟨a, b, e⟩ := cut_sub (ns.map V.int) lo hi
  exact ⟨(ns.drop a).take b, by rw [e, List.map_take, List.map_drop], by rw [List.length_take, List.length_drop]; omega⟩
/-! functions by their promises, with all that a call of them wants -/
structure Fns (P : Program) (w : World) (K : PySem.W.Frag) (mg : Str → Option Value) (base : Heap) (ps : List Str) (name : Str) (sp : Sp) (k : Nat) where
  g : Addr
  gd : FuncData
  ok : FnOk P w K mg base CX0 k g gd ps sp
  b : Binds K gd ps []
  kp : PySem.W.keepIn K (.ref g) = true
  m : mg name = some (.ref g)
def Fns.up {P : Program} {w : World} {K : PySem.W.Frag} {mg : Str → Option Value} {base : Heap} {ps : List Str} {name : Str} {sp : Sp} {j k : Nat} (f : Fns P w K mg base ps name sp j) (h : j ≤ k) : Fns P w K mg base ps name sp k := ⟨f.g, f.gd, f.ok.mono h, f.b, f.kp, f.m⟩

/-! None or a tuple of ints, compared by != : the same on both sides -/
def rNeO : R2 := fun x y H Q => ∃ o : Option (List Int), ROpt (RTup H RInt) x o ∧ ROpt (RTup H RInt) y o ∧ Q (.bl false) H
/-! tuples, lists of words compared -/
def rNeTW : R2 := fun x y H Q => ∃ a b xs ys ws vs, x = .ref a ∧ y = .ref b ∧ H a = some (.tup xs) ∧ H b = some (.tup ys) ∧ Ws H xs ws ∧ Ws H ys vs ∧ Q (.bl (!decide (ws = vs))) H
end L2
set_option Elab.async false
set_option linter.all false
set_option maxRecDepth 100000
namespace L2
open PySem PySem.Spec PyProof.Rows
/-! a word between: what holds behind a statement, whichever way it went -/
def tMid (t : TS) : TS := fun D σ H => ∃ Mid : St → Hp → Prop, t { D with nx := Mid } σ H ∧ ∀ σ' H', Mid σ' H' → D.nx σ' H'
theorem ps_mid {X : Cx} {st : Stmt} {t : TS} (h : PS X st t) : PS X st (tMid t) := by
  intro pins s σ H D I ⟨Mid, h1, h2⟩
  refine thn (h pins s σ H _ I h1) fun fl s' q => ?_
  cases fl with
  | next => obtain ⟨σ', H', I', m⟩ := q; exact ⟨σ', H', I', h2 _ _ m⟩
  | brk => exact q
  | cont => exact q
  | ret u => exact q
def eMid (t : TE) : TE := fun σ H Q => ∃ Mid : V → Hp → Prop, t σ H Mid ∧ ∀ v H', Mid v H' → Q v H'
theorem at6 {i : Nat} (h : i < 6) : ∃ v, atI [V.int 1, V.int 2, V.int 4, V.int 8, V.int 16, V.int 32] (i : Int) = some (.int v) ∧ 0 < v ∧ v ≤ 32 := by
  match i, h with
  | 0, _ => exact ⟨1, rfl, by decide, by decide⟩
  | 1, _ => exact ⟨2, rfl, by decide, by decide⟩
  | 2, _ => exact ⟨4, rfl, by decide, by decide⟩
  | 3, _ => exact ⟨8, rfl, by decide, by decide⟩
  | 4, _ => exact ⟨16, rfl, by decide, by decide⟩
  | 5, _ => exact ⟨32, rfl, by decide, by decide⟩
/-! words of letters below a number, not long -/
structure Wok (b : Int) (m : Nat) (ws : List (List Int)) : Prop where
  len : ∀ w ∈ ws, w.length ≤ m
  let' : ∀ w ∈ ws, ∀ x ∈ w, 0 ≤ x ∧ x < b
theorem Wok.sub {b : Int} {m : Nat} {ws vs : List (List Int)} (h : Wok b m ws) (s : ∀ w ∈ vs, w ∈ ws) : Wok b m vs := ⟨fun w hw => h.len w (s w hw), fun w hw => h.let' w (s w hw)⟩
theorem Wok.app {b : Int} {m : Nat} {ws vs : List (List Int)} (h : Wok b m ws) (h' : Wok b m vs) : Wok b m (ws ++ vs) :=
  ⟨fun w hw => (List.mem_append.mp hw).elim (h.len w) (h'.len w), fun w hw => (List.mem_append.mp hw).elim (h.let' w) (h'.let' w)⟩
/-! the rules with the fragment named: within a comprehension's block the reading may not speak of the block -/
theorem ixL {X : Cx} (K : PySem.W.Frag) (h : X.K = K := by rfl) : IxR X (rIxL K) := by subst h; exact ix_list
theorem ixT {X : Cx} (K : PySem.W.Frag) (h : X.K = K := by rfl) : IxR X (rIxT K) := by subst h; exact ix_tup
def rLen (K : PySem.W.Frag) : List V → Hp → VK → Prop := fun xs H Q => ∃ p ys, xs = [.ref p] ∧ (SqL K H p ys ∨ SqT K H p ys) ∧ Q (.int ys.length) H
def rTupleOf (K : PySem.W.Frag) : List V → Hp → VK → Prop := fun xs H Q => ∃ p ys, xs = [.ref p] ∧ ((SqL K H p ys ∧ ∀ l, H l = none → Q (.ref l) (upd H l (.tup ys))) ∨ (SqT K H p ys ∧ Q (.ref p) H))
/-! a list that is written leaves the words as they are -/
theorem Wd.upd {H : Hp} {l : Addr} {ls ls' : List V} {x : V} {w : List Int} (hl : H l = some (.lst ls)) (h : Wd H x w) : Wd (upd H l (.lst ls')) x w := by
  obtain ⟨a, xs, rfl, e, p⟩ := h
  exact ⟨a, xs, rfl, by rw [upd_ne (ne_of e hl (by intro z; cases z))]; exact e, p⟩
theorem Ws.upd {H : Hp} {l : Addr} {ls ls' xs : List V} {ws : List (List Int)} (hl : H l = some (.lst ls)) (h : Ws H xs ws) : Ws (upd H l (.lst ls')) xs ws := Paired.mapP h fun _ _ q => Wd.upd hl q
section
variable {X : Cx} {elt iter : Expr} {tg : Str} {tp : Pos} {cs : List Expr} {scope : Scope} {pos : Pos} {tc : TT} {te : TE} {M : List Str}
end
end L2
set_option Elab.async false
set_option linter.all false
set_option maxRecDepth 100000
namespace L2
open PySem PySem.Spec PyProof.Rows

/-! ### exceptions: the object at e (its class, its dict, the head of its traceback), the traceback's entry at T -/
def ExcAt (h : Heap) (e : Addr) (cls : Value) (od : Option Addr) (hd : Value) : Prop := ∃ oe vs, h.get? e = some oe ∧ oe.cls = cls ∧ oe.dict = od ∧ oe.data = .fields vs ∧ vs[1]? = some hd
def TbAt (h : Heap) (T : Addr) (fl : Value) : Prop := ∃ oT ts, h.get? T = some oT ∧ oT.data = .fields ts ∧ ts[3]? = some fl
/-! from h to h' the objects at S may have changed, of those at fs the slots -/
def Mv (S fs : List Addr) (h h' : Heap) : Prop := ∀ b o, h.get? b = some o → b ∉ S → (b ∉ fs → h'.get? b = some o) ∧ ∃ sl, h'.get? b = some { o with slots := sl }
section
variable {S S' fs : List Addr} {h h1 h2 : Heap}
theorem Mv.trans (a : Mv S fs h h1) (b : Mv S fs h1 h2) : Mv S fs h h2 := fun c o e n => by
  obtain ⟨k, sl, e1⟩ := a c o e n
  obtain ⟨_, sl2, e2⟩ := b c _ e1 n
  exact ⟨fun nf => (b c o (k nf) n).1 nf, sl2, e2⟩
theorem Mv.mono (a : Mv S fs h h1) (hs : ∀ b ∈ S, b ∈ S') : Mv S' fs h h1 := fun b o e n => a b o e fun z => n (hs b z)
theorem Mv.frames (a : Mv S fs h h1) {base : Heap} {l : List Env} (hl : h.FunFrames base l) (hS : ∀ b ∈ S, ∀ o, h.get? b = some o → ∃ vs, o.data = .fields vs) : h1.FunFrames base l :=
  hl.of_keeps fun b o hb hn => by
    obtain ⟨_, sl, e⟩ := a b o hb fun z => by
      obtain ⟨vs, q⟩ := hS b z o hb
      exact hn vs q
    exact ⟨_, e, rfl⟩
end
theorem dict_mapFields (f : Array Value → Array Value) (o : Obj) : (Obj.mapFields f o).dict = o.dict := by
  obtain ⟨c, d, dt, sl⟩ := o
  cases dt <;> rfl
section
variable {M : Model} {A : Around} {E : Value → Shared → Prop} {s : Shared} {env : Env} {outer : List Env} {base : Heap} {L e T : Addr} {cls hd fl head : Value} {od : Option Addr} {S : List Addr} {Q : Unit → Shared → Prop}
theorem entry_add {hadNext : Bool} (hfr : A.frames = some (env :: outer)) (hl : s.heap.FunFrames base (env :: outer)) (hf : env.frame = some L) (x : ExcAt s.heap e cls od hd)
    (h : ∀ h' T, Mv [e] (frs (env :: outer)) s.heap h' → s.heap.objs.size ≤ T → T ≠ e → ExcAt h' e cls od (.ref T) → TbAt h' T (rawInt L) → Q () { s with heap := h' }) :
    wpAny M A (do let a ← frameOf env; let pl ← entryPlaceOf L hadNext; let b ← EntryCells.newEntry head a .none (rawInt L) .none pl; setField (.ref e) 1 b) Q E s := by
  obtain ⟨oe, vs, he, hc, hdd, hd1, h1⟩ := x
  have hsz : 1 < vs.size := (Array.getElem?_eq_some_iff.mp h1).1
  have ne : e ∉ frs (env :: outer) := fun hm => by
    obtain ⟨_, o, ho, hn⟩ := hl.mem hm
    rw [he] at ho
    cases ho
    exact hn vs hd1
  refine wpAny_bind (wpAny_frameOf_fun hfr hl hf fun g so => ?_)
  refine wpAny_bind (wpAny_entryPlaceOf fun pl hp => ?_)
  unfold EntryCells.newEntry newFields
  refine wpAny_bind (wpAny_newObj_type ?_ (hp.sizeOk5 _ _ _ _ _))
  have e1 : g.get? e = some oe := (so.2.1 e ne).trans he
  have hTe : g.objs.size ≠ e := Nat.ne_of_gt (Heap.lt_size e1)
  have t3 : ([head, .ref L, .none, rawInt L, .none] ++ (if pl.isEmpty then List.replicate 6 Value.none else pl)).toArray[3]? = some (rawInt L) := by simp
  generalize ([head, .ref L, .none, rawInt L, .none] ++ (if pl.isEmpty then List.replicate 6 Value.none else pl)).toArray = ts at t3 ⊢
  have e2 := Heap.get?_push_of_some (h := g) { cls := .type "traceback", dict := none, data := .fields ts } e1
  refine wpAny_setField e2 hd1 hsz (h _ g.objs.size (fun b o hb hn => ?_) (by rw [so.1]; exact Nat.le_refl _) hTe ?_ ?_)
  · have hbe : b ≠ e := fun z => hn (by rw [z]; exact List.mem_cons_self)
    have mv : ∀ o', g.get? b = some o' → ((g.push { cls := .type "traceback", dict := none, data := .fields ts }).update e (Obj.mapFields (·.setIfInBounds 1 (Value.ref g.objs.size)))).get? b = some o' := fun o' q => by
      rw [Heap.get?_update_other _ _ (Ne.symm hbe)]
      exact Heap.get?_push_of_some _ q
    obtain ⟨sl, q⟩ := so.2.2 b o hb
    exact ⟨fun nf => mv o ((so.2.1 b nf).trans hb), sl, mv _ q⟩
  · exact ⟨_, _, Heap.get?_update_self _ e2 (Obj.isFreed_of_fields (Obj.data_mapFields hd1 _)), (Obj.cls_mapFields _ _).trans hc, (dict_mapFields _ _).trans hdd, Obj.data_mapFields hd1 _, by simp [hsz]⟩
  · refine ⟨{ cls := .type "traceback", dict := none, data := .fields ts }, ts, ?_, rfl, t3⟩
    rw [Heap.get?_update_other _ _ (Ne.symm hTe)]
    exact Heap.get?_push_size g rfl
/-! not in flight: no traceback yet, or one whose head says so; S: the addresses that may change -/
def Loose (h : Heap) (e : Addr) (cls : Value) (od : Option Addr) (S : List Addr) : Prop :=
  e ∈ S ∧ (∀ b ∈ S, ∀ o, h.get? b = some o → ∃ vs, o.data = .fields vs) ∧ ∃ hd, ExcAt h e cls od hd ∧ (hd = .none ∨ ∃ T, T ∈ S ∧ hd = .ref T ∧ T ≠ e ∧ TbAt h T .none)
theorem tb_set {x : Value} (t : TbAt s.heap T fl) (h : ∀ h', h'.objs.size = s.heap.objs.size → TbAt h' T x → (∀ b, b ≠ T → h'.get? b = s.heap.get? b) → Q () { s with heap := h' }) : wpAny M A (setField (.ref T) 3 x) Q E s := by
  obtain ⟨oT, ts, hT, hdT, h3⟩ := t
  have hsz : 3 < ts.size := (Array.getElem?_eq_some_iff.mp h3).1
  exact wpAny_setField hT hdT hsz (h _ (Heap.size_after_update ..) ⟨_, _, Heap.get?_update_self _ hT (Obj.isFreed_of_fields (Obj.data_mapFields hdT _)), Obj.data_mapFields hdT _, by simp [hsz]⟩ fun b hb => Heap.get?_update_other _ _ (Ne.symm hb))
theorem ExcAt.other {h h' : Heap} (x : ExcAt h e cls od hd) (k : h'.get? e = h.get? e) : ExcAt h' e cls od hd := by
  obtain ⟨oe, vs, he, r⟩ := x
  exact ⟨oe, vs, k.trans he, r⟩
theorem note_ex (hfr : A.frames = some (env :: outer)) (hl : s.heap.FunFrames base (env :: outer)) (hf : env.frame = some L) (lo : Loose s.heap e cls od S)
    (h : ∀ h' T, Mv S (frs (env :: outer)) s.heap h' → s.heap.objs.size ≤ T → T ≠ e → ExcAt h' e cls od (.ref T) → TbAt h' T (rawInt L) → Q () { s with heap := h' }) : wpAny M A (noteFrame (.ref e) env) Q E s := by
  obtain ⟨heS, hSf, hd, x, hh⟩ := lo
  unfold noteFrame
  simp only [hf]
  obtain ⟨oe, vs, he, hc, hdd, hd1, h1⟩ := id x
  refine wpAny_bind (wpAny_field he hd1 h1 ?_)
  rcases hh with rfl | ⟨T, hTS, rfl, hTe, tb⟩
  · rw [if_neg (by decide)]
    exact entry_add hfr hl hf x fun h' T m hs hT x' t' => h h' T (m.mono fun b hb => by rw [List.mem_singleton.mp hb]; exact heS) hs hT x' t'
  · rw [if_pos (show (Value.ref T != Value.none) = true from by simp)]
    obtain ⟨oT, ts, hT, hdT, h3⟩ := id tb
    refine wpAny_bind (wpAny_field hT hdT h3 ?_)
    rw [if_neg (show ¬ ((Value.none == rawInt L) = true) from by simp [rawInt])]
    refine wpAny_bind (tb_set tb fun g m1 t1 k1 => ?_)
    have m2 : Mv S (frs (env :: outer)) s.heap g := fun b o hb hn => by
      have hbT : b ≠ T := fun z => hn (by rw [z]; exact hTS)
      have q := (k1 b hbT).trans hb
      exact ⟨fun _ => q, o.slots, q⟩
    refine entry_add (s := { s with heap := g }) hfr (m2.frames hl hSf) hf (x.other (k1 e (Ne.symm hTe))) fun h' T' m hs hT' x' t' => ?_
    exact h h' T' (m2.trans (m.mono fun b hb => by rw [List.mem_singleton.mp hb]; exact heS)) (by rw [← m1]; exact hs) hT' x' t'
theorem flight_ex (x : ExcAt s.heap e cls od (.ref T)) (t : TbAt s.heap T fl) (hTe : T ≠ e) (h : ∀ h', h'.objs.size = s.heap.objs.size → ExcAt h' e cls od (.ref T) → TbAt h' T .none → (∀ b, b ≠ T → h'.get? b = s.heap.get? b) → Q () { s with heap := h' }) :
    wpAny M A (setFlight (.ref e) none) Q E s := by
  obtain ⟨oe, vs, he, hc, hdd, hd1, h1⟩ := id x
  unfold setFlight
  refine wpAny_bind (wpAny_field he hd1 h1 ?_)
  rw [if_pos (show (Value.ref T != Value.none) = true from by simp)]
  exact tb_set t fun g m1 t1 k1 => h g m1 (x.other (k1 e (Ne.symm hTe))) t1 k1
/-! noted in this frame and landed (what a def's end does, what a try does): the head at T is new -/
theorem loose_of {h : Heap} (x : ExcAt h e cls od (.ref T)) (t : TbAt h T .none) (hT : T ≠ e) : Loose h e cls od [T, e] := by
  refine ⟨List.mem_cons_of_mem _ List.mem_cons_self, fun b hb o ho => ?_, .ref T, x, .inr ⟨T, List.mem_cons_self, rfl, hT, t⟩⟩
  rcases List.mem_cons.mp hb with hb | hb
  · obtain ⟨oT, ts, q, hd, _⟩ := t
    rw [hb, q] at ho
    cases ho
    exact ⟨ts, hd⟩
  · obtain ⟨oe, vs, q, _, _, hd, _⟩ := x
    rw [List.mem_singleton.mp hb, q] at ho
    cases ho
    exact ⟨vs, hd⟩
theorem land_ex (hfr : A.frames = some (env :: outer)) (hl : s.heap.FunFrames base (env :: outer)) (hf : env.frame = some L) (lo : Loose s.heap e cls od S)
    (h : ∀ h' T, Mv S (frs (env :: outer)) s.heap h' → s.heap.objs.size ≤ T → T ≠ e → ExcAt h' e cls od (.ref T) → TbAt h' T .none → Q () { s with heap := h' }) :
    wpAny M A (noteFrame (.ref e) env) (fun _ s1 => wpAny M A (setFlight (.ref e) none) Q E s1) E s := by
  refine note_ex hfr hl hf lo fun g T m hs hT x t => ?_
  refine flight_ex (s := { s with heap := g }) x t hT fun h' m1 x' t' k1 => ?_
  have mm : Mv S (frs (env :: outer)) s.heap h' := fun b o hb hn => by
    have hbT : b ≠ T := Nat.ne_of_lt (Nat.lt_of_lt_of_le (Heap.lt_size hb) hs)
    obtain ⟨q1, sl, q2⟩ := m b o hb hn
    exact ⟨fun nf => (k1 b hbT).trans (q1 nf), sl, (k1 b hbT).trans q2⟩
  exact h h' T mm hs hT x' t'
theorem leave_ex (hfr : A.frames = some (env :: outer)) (hl : s.heap.FunFrames base (env :: outer)) (hf : env.frame = some L) (lo : Loose s.heap e cls od S)
    (h : ∀ h' T, Mv S (frs (env :: outer)) s.heap h' → s.heap.objs.size ≤ T → Loose h' e cls od [T, e] → Q () { s with heap := h' }) : wpAny M A (leaving env (.ref e)) Q E s := by
  unfold leaving
  exact wpAny_bind (land_ex hfr hl hf lo fun h' T m hs hT x t => h h' T m hs (loose_of x t hT))
end

/-! ### the abstract state while an exception is on its way -/
theorem ObjOk.obj {P : Program} {w : World} {H : Hp} {h : Heap} {a : Addr} {o : HO} (x : ObjOk P w H h a o) : ∃ ob, h.get? a = some ob := by
  cases o with
  | lst xs => obtain ⟨_, _, _, _, e⟩ := x; exact ⟨_, e⟩
  | tup xs => obtain ⟨_, _, _, ob, e, _⟩ := x; exact ⟨_, e⟩
  | dK kvs => obtain ⟨_, _, _, _, ob, _, _, e, _⟩ := x; exact ⟨_, e⟩
  | dT kvs => obtain ⟨_, _, _, _, ob, _, _, e, _⟩ := x; exact ⟨_, e⟩
  | set S n => obtain ⟨ob, _, _, _, e, _⟩ := x; exact ⟨_, e⟩
  | ins C dx fs => obtain ⟨_, _, _, e, _⟩ := x; exact ⟨_, e⟩
  | own y => exact x
  | xd fs => obtain ⟨_, ⟨ob, _, _, e, _⟩, _⟩ := x; exact ⟨_, e⟩
  | rng lo hi => obtain ⟨_, _, _, e⟩ := x; exact ⟨_, e⟩
  | frz ob u => obtain ⟨e, _⟩ := x; exact ⟨_, e⟩
  | tbl ps => exact ⟨_, show h.get? a = some _ from x⟩
  | met f y => exact ⟨_, show h.get? a = some _ from x⟩
  | ext φ => obtain ⟨_, e, _⟩ := x; exact e
theorem HOk.none_of {P : Program} {w : World} {H : Hp} {h : Heap} (x : HOk P w H h) {a : Addr} (n : h.get? a = none) : H a = none := by
  cases e : H a with
  | none => rfl
  | some o =>
    obtain ⟨ob, q⟩ := (x a o e).obj
    rw [n] at q
    cases q
section
variable {X : Cx} {pins : List (Addr × Obj)} {σ : St} {H H' : Hp} {s : Shared} {h' : Heap} {b : Addr} {S : List Addr}
def Off (X : Cx) (pins : List (Addr × Obj)) (b : Addr) : Prop :=
  (∀ o, X.s₀.heap.get? b = some o → b ∈ X.ex) ∧ b ≠ X.env.locals ∧ (∀ x c, X.env.cells.lookup x = some c → c ≠ b) ∧ ∀ p ∈ X.pn ++ pins, p.1 ≠ b
theorem Inv.off (I : Inv X pins σ H s) (n : s.heap.get? b = none) : Off X pins b := by
  refine ⟨fun o e => ?_, fun z => ?_, fun x c e z => ?_, fun p hp z => ?_⟩
  · by_cases hx : b ∈ X.ex
    · exact hx
    · obtain ⟨o', e'⟩ := I.base.there b o e hx
      rw [n] at e'
      cases e'
  · obtain ⟨m, ⟨o, _, _, ho, _⟩, _⟩ := I.loc
    rw [z, ho] at n
    cases n
  · obtain ⟨v, o, ho, _⟩ := I.cell x c e
    rw [z, n] at ho
    cases ho
  · have q := (I.pin p hp).1
    rw [z, n] at q
    cases q
theorem Inv.moved {t' : Nat} (I : Inv X pins σ H s) (m : Mv S (frs X.stack) s.heap h') (hS : ∀ b ∈ S, Off X pins b ∧ H b = none) : Inv X pins σ H { s with heap := h', toks := t' } := by
  have neL : ∀ b o, X.s₀.heap.get? b = some o → b ≠ X.env.locals := fun b o e => Nat.ne_of_lt (Nat.lt_of_lt_of_le (Heap.lt_size e) I.ok.above)
  have nS : ∀ b o, X.s₀.heap.get? b = some o → b ∉ X.ex → b ∉ S := fun b o e hx z => hx ((hS b z).1.1 o e)
  have nst : ∀ b, b ≠ X.env.locals → b ∉ X.fs → b ∉ frs X.stack := fun b h1 h2 z => (List.mem_cons.mp (I.stkSub b z)).elim h1 h2
  have cellM : ∀ x c, X.env.cells.lookup x = some c → ∀ v, s.heap.IsCell c v → h'.IsCell c v := fun x c e v ⟨o, ho, hd⟩ => by
    obtain ⟨_, sl, q⟩ := m c o ho fun z => (hS c z).1.2.2.1 x c e rfl
    exact ⟨_, q, hd⟩
  refine ⟨I.ok, I.os, I.bare, ⟨fun b o e n hb hx => ?_, fun b o e n hb hx => ?_, I.base.free, fun b o e hx => ?_, I.base.tups, I.base.frzs, I.base.tbls⟩, ?_, fun x c e => ?_, I.free, I.freeC, fun p hp => ?_, fun b u e => ?_, I.len⟩
  · exact (m b o (I.base.keep b o e n hb hx) (nS b o e hx)).1 (nst b (neL b o e) hb)
  · obtain ⟨sl, e1⟩ := I.base.slot b o e n hb hx
    obtain ⟨_, sl', e2⟩ := m b _ e1 (nS b o e hx)
    exact ⟨sl', e2⟩
  · obtain ⟨o', e1⟩ := I.base.there b o e hx
    obtain ⟨_, sl, e2⟩ := m b _ e1 (nS b o e hx)
    exact ⟨_, e2⟩
  · obtain ⟨mm, hn, hl⟩ := I.loc
    refine ⟨mm, ?_, fun i x v e1 e2 e3 => ?_⟩
    · obtain ⟨o, es, ep, ho, r⟩ := hn
      obtain ⟨_, sl, q⟩ := m _ o ho fun z => (hS _ z).1.2.1 rfl
      exact ⟨_, es, ep, q, r⟩
    · obtain ⟨u, r, l⟩ := hl i x v e1 e2 e3
      refine ⟨u, r, ?_⟩
      rcases l with l | ⟨k, c, e, z⟩
      · exact .inl l
      · exact .inr ⟨k, c, e, cellM x c e _ z⟩
  · obtain ⟨v, z⟩ := I.cell x c e
    exact ⟨v, cellM x c e v z⟩
  · obtain ⟨e, n, ne, nf, d⟩ := I.pin p hp
    exact ⟨(m _ _ e fun z => (hS _ z).1.2.2.2 p hp rfl).1 (nst _ ne nf), n, ne, nf, d⟩
  · refine (I.hok b u e).stay (fun c v hc q => ?_) (fun _ q => q) fun _ _ q => q
    have ht : H c ≠ none := by
      rcases hc with rfl | hc
      · rw [e]; exact fun z => nomatch z
      · rw [hc]; exact fun z => nomatch z
    exact (m c v q fun z => ht (hS c z).2).1 fun z => ht (I.stkFree c z)
/-! an object that stood there untracked is tracked -/
theorem Inv.track {φ : Heap → Prop} (I : Inv X pins σ H s) (ob : Off X pins b) (n : H b = none) (hφ : φ s.heap) (ho : ∃ o, s.heap.get? b = some o) (st : ∀ h1 h2 : Heap, φ h1 → (∀ o, h1.get? b = some o → h2.get? b = some o) → φ h2)
    (nf : b ∉ X.fs) : Inv X pins σ (upd H b (.ext φ)) s := by
  refine ⟨I.ok, I.os, I.bare, ⟨I.base.keep, I.base.slot, fun c o e n' hx => ?_, I.base.there, fun c xs e => ?_, fun c o u e => ?_, fun c ps e => ?_⟩, I.loc, I.cell, ?_, fun x c e => ?_, fun p hp => ?_, fun c u e => ?_, I.len⟩
  · have hcb : c ≠ b := fun z => by
      subst z
      exact hx (ob.1 o e)
    rw [upd_ne hcb]
    exact I.base.free c o e n' hx
  · rw [upd_ne (ne_of_none (I.base.tups c xs e) n)]
    exact I.base.tups c xs e
  · rw [upd_ne (ne_of_none (I.base.frzs c o u e) n)]
    exact I.base.frzs c o u e
  · obtain ⟨more, q⟩ := I.base.tbls c ps e
    exact ⟨more, by rw [upd_ne (ne_of_none q n)]; exact q⟩
  · rw [upd_ne (Ne.symm ob.2.1)]
    exact I.free
  · rw [upd_ne (ob.2.2.1 x c e)]
    exact I.freeC x c e
  · obtain ⟨e, n', ne, nf', d⟩ := I.pin p hp
    exact ⟨e, by rw [upd_ne (ob.2.2.2 p hp)]; exact n', ne, nf', d⟩
  · by_cases hc : c = b
    · subst hc
      rw [upd_same] at e
      cases e
      exact ⟨hφ, ho, st⟩
    · rw [upd_ne hc] at e
      refine (I.hok c u e).stay (fun _ _ _ q => q) (fun d r => ?_) fun d xs r => ?_
      · rw [upd_ne (ne_of_none r n)]; exact r
      · rw [upd_ne (ne_of_none r n)]; exact r
end
/-! how an exception lies behind a call -/
def CXF (P : Program) (w : World) : CXT := fun outer H s E e s' => ∃ (ea : Addr) (cls : Value) (od : Option Addr) (S : List Addr) (H' : Hp), e = .ref ea ∧ s'.os = s.os ∧ AllBare s'.gens ∧
  Un (frs outer) [] H H' s.heap s'.heap ∧ HOk P w H' s'.heap ∧ Loose s'.heap ea cls od S ∧ (∀ b ∈ S, s.heap.get? b = none ∧ H' b = none) ∧ E cls od H'
section
variable {P : Program} {w : World} {K : PySem.W.Frag} {mg : Str → Option Value} {base : Heap} {N : List Str} {qual : Str} {scope : Scope} {f : Addr} {cd : Value} {A : Around} {outer : List Env} {s₀ : Shared} {H₀ : Hp} {E : XK}
theorem takes_def : Passes (CXF P w) (cxOf (CXF P w) P w K mg base N qual scope f cd A outer s₀ H₀ E) E := by
  intro pins σ H s e s' I h
  obtain ⟨ea, cls, od, S, H', rfl, os, bare, un, hok, lo, hS, q⟩ := h
  have I1 := I.call' (ch := []) os un hok bare (fun b z => absurd z (by simp))
  show wpAny _ _ (leaving _ (.ref ea)) _ _ s'
  refine leave_ex I.ok.frames I1.stack rfl lo fun h' T m hs lo' => ?_
  have I2 : Inv _ pins σ H' { s' with heap := h', toks := s'.toks } := I1.moved (S := S) m fun b hb => ⟨I.off (hS b hb).1, (hS b hb).2⟩
  have out : ∀ b, Off (cxOf (CXF P w) P w K mg base N qual scope f cd A outer s₀ H₀ E) pins b → s₀.heap.get? b = none := fun b ob => by
    cases e : s₀.heap.get? b with
    | none => rfl
    | some o => exact absurd (ob.1 o e) (by show b ∉ ([] : List Addr); simp)
  refine ⟨ea, cls, od, [T, ea], H', rfl, I2.os, I2.bare, I2.base, I2.hok, lo', fun b hb => ?_, q⟩
  rcases List.mem_cons.mp hb with rfl | hb
  · exact ⟨out _ (I1.off (Heap.get?_none_of_le hs)), I1.hok.fresh hs⟩
  · rw [List.mem_singleton.mp hb]
    exact ⟨out _ (I.off (hS ea lo.1).1), (hS ea lo.1).2⟩
/-! the rule for a def out of which exceptions may come -/
theorem Fun.okF {x qual : Str} {st : Stmt} {f : Addr} {fd : FuncData} {N ps : List Str} {k : Nat} {sp : Sp} (F : Fun K x qual st f fd) (S : FnScope N ps (defScope st)) (len : ∀ vs H Q E, sp vs H Q E → vs.length = ps.length)
    (hbody : ∀ (cdv : Value) (A : Around) (outer : List Env) (s : Shared) (H : Hp) (vs : List V) (Q : VK) (E : XK), Room k (A.deeper (envOfC qual (defScope st) s.heap.objs.size f cdv)) → sp vs H Q E →
      ∃ t, PSs (cxOf (CXF P w) P w K mg base N qual (defScope st) f cdv A outer s H E) (defBody st) t ∧ t { nx := fun _ H' => Q .non H', rt := Q } (start N vs) H) : FnOk P w K mg base (CXF P w) (k + 1) f fd ps sp := by
  obtain ⟨oc, od, kV, doc, pm, an, cdv, ct, osl, rfl, lk, hcd⟩ := F.ex
  exact fn_of lk hcd S len fun A outer s H vs Q E hr hsp => hbody cdv A outer s H vs Q E hr hsp
end
/-! a class of refusals of the text: under ValueError, no __init__ of its own -/
abbrev bmVE : List Value := [.type "ValueError", .type "Exception", .type "BaseException", .type "object"]
abbrev newVE : String := "ValueError.__new__"
structure Ecl (K : PySem.W.Frag) (C : Addr) : Prop where
  ex : PySem.W.excIn K C bmVE newVE = true
theorem Ecl.obj {K : PySem.W.Frag} {C : Addr} (c : Ecl K C) {h : Heap} (X : K.In h) : ∃ bm N nm q bs hdct sn sub ab col dd k0 k1 k2 k3 k5 mN, h.get? C = some (excClassObj nm q C N bs bm hdct sn sub ab col dd k0 k1 k2 k3 k5 newVE) ∧ h.Ns N mN ∧ mN "__init__" = none ∧ OwnTail h bmVE bm := by
  have q := c.ex
  unfold PySem.W.excIn at q
  split at q
  · rename_i dd cd sl ho
    split at q
    · rename_i C' bm k0 k1 k2 k3 n k5 hm hs
      simp only [Bool.and_eq_true, beq_iff_eq, Bool.not_eq_true'] at q
      obtain ⟨⟨⟨⟨⟨rfl, rfl⟩, hdel⟩, ht⟩, hok⟩, hni⟩ := q
      obtain ⟨nm, bs, mro, ns, qn, hd, sn, sub, ab, col, del⟩ := cd
      dsimp only at hm hdel hok hni
      subst hm hdel
      obtain ⟨l⟩ := sl
      have hl : l = [k0, k1, k2, k3, some (.builtin newVE), k5] := hs
      subst hl
      exact ⟨bm, ns, nm, qn, bs, hd, sn, sub, ab, col, dd, k0, k1, k2, k3, k5, _, X _ _ ho, .of_isNs (PySem.W.isNs_of_in X hok), PySem.W.nsMap_none_of_in X hok hni, PySem.W.tail_of_in X ht⟩
    · cases q
  · cases q
/-! raise C(..) -/
def tRaise (C : Addr) (E : XK) (ta : TA) : TS := fun _ σ H => ta σ H fun vs H1 => vs.length ≤ 1000 ∧ E (.ref C) none H1
theorem ps_raise {X : Cx} {E : XK} {x : Str} {C : Addr} {np cpos pos : Pos} {e : Expr} {es : List Expr} {ta : TA} (hx : Passes (CXF X.prog X.w) X E) (hc : X.calm = true) (hg : Gl X x) (hm : X.mg x = some (.ref C)) (hcl : Ecl X.K C) (ha : PA X (e :: es) ta)
    (hdb : (x == ("__debug__" : Str)) = false := by decide) (he : starEach (e :: es) X.env = (false, eval e X.env) :: starEach es X.env := by rfl) (hpl : (backTo cpos (starEach (e :: es) X.env)).any (·.1) = false := by rfl) :
    PS X (.Raise (some (.Call (.Name x np) (e :: es) [] cpos)) none pos) (tRaise C E ta) := by
  intro pins s σ H D I h
  obtain ⟨bm, N, nm, q, bs, hdct, sn, sub, ab, col, dd, k0, k1, k2, k3, k5, mN, hC, hN, hni, T⟩ := hcl.obj I.ok.mod.kin
  refine wpAny_Raise_call_subT (C := C) (nm := nm) (q := q) (N := N) (bs := bs) (bm := bm) (hdct := hdct) (sn := sn) (sub := sub) (ab := ab) (col := col) (dd := dd) (k0 := k0) (k1 := k1) (k2 := k2) (k3 := k3) (k5 := k5) PySem.F.excBase_ValueError (T.hasType (by decide +kernel)) (I.ok.hd hc) hpl hni (ld_glob I hg hm ⟨rfl, ?_⟩ hdb)
  have ha' := ha cpos pins s σ H _ I h
  rw [he] at ha' ⊢
  refine Calls.evalArgs_plain (thn ha' fun us s1 ⟨vs, H1, I1, r, hl, q⟩ => ?_)
  have kb := I1.bk
  refine ⟨rfl, ?_, kb _ _ hC, hN.keeps kb, T.keeps kb, fun h' ea me => ?_⟩
  · show us.length ≤ sizeLine
    rw [← r.length]
    exact small hl
  · refine hx pins σ H1 s1 (.ref ea) _ I1 ⟨ea, .ref C, none, [ea], H1, rfl, rfl, I1.bare, Un.kept me.keeps, I1.hok.kept me.keeps, ?_, fun b hb => ?_, q⟩
    · obtain ⟨t, ht, _, _⟩ := me.there
      refine ⟨List.mem_cons_self, fun b hb o ho => ?_, .none, ⟨_, _, ht, rfl, rfl, rfl, rfl⟩, .inl rfl⟩
      rw [List.mem_singleton.mp hb, ht] at ho
      cases ho
      exact ⟨_, rfl⟩
    · rw [List.mem_singleton.mp hb]
      exact ⟨me.new, I1.hok.none_of me.new⟩

/-! ### try: .. except C as n: .. -/
abbrev Cx.tryx (X : Cx) (pn : List (Addr × Obj)) (xe : Value → Shared → Prop) : Cx := { X with pn := pn, xe := xe }
abbrev Cx.hand (X : Cx) (ea : Addr) : Cx := { X with A := X.A.mark (some (.ref ea)), calm := false, xe := fun _ _ => False }
section
variable {X : Cx} {pins pins' : List (Addr × Obj)} {σ : St} {H : Hp} {s : Shared} {h' : Heap} {ea : Addr} {xe : Value → Shared → Prop}
theorem Inv.tryx (I : Inv X pins σ H s) (xe : Value → Shared → Prop) : Inv (X.tryx (X.pn ++ pins) xe) [] σ H s :=
  ⟨⟨I.ok.mod, I.ok.kind, I.ok.glob, I.ok.blt, I.ok.above, I.ok.inj, I.ok.has, I.ok.cab, I.ok.hd, I.ok.frames, I.ok.stk, I.ok.exf, I.ok.bs, I.ok.bsz, I.ok.noex, I.ok.exfs, I.ok.funs, I.ok.frf⟩, I.os, I.bare, I.base, I.loc, I.cell, I.free, I.freeC,
    fun p hp => I.pin p (by rw [List.append_nil] at hp; exact hp), I.hok, I.len⟩
theorem Inv.untryx (ok : X.Ok) (I : Inv (X.tryx (X.pn ++ pins) xe) pins' σ H s) : Inv X pins σ H s :=
  ⟨ok, I.os, I.bare, I.base, I.loc, I.cell, I.free, I.freeC, fun p hp => I.pin p (List.mem_append_left _ hp), I.hok, I.len⟩
theorem Inv.hand (I : Inv X pins σ H s) (ea : Addr) : Inv (X.hand ea) pins σ H s :=
  ⟨⟨I.ok.mod, I.ok.kind, I.ok.glob, I.ok.blt, I.ok.above, I.ok.inj, I.ok.has, I.ok.cab, fun z => absurd (show false = true from z) (by decide), I.ok.frames, I.ok.stk, I.ok.exf, I.ok.bs, I.ok.bsz, I.ok.noex, I.ok.exfs, I.ok.funs, I.ok.frf⟩, I.os, I.bare, I.base, I.loc, I.cell, I.free, I.freeC, I.pin, I.hok, I.len⟩
theorem Inv.unhand (ok : X.Ok) (I : Inv (X.hand ea) pins σ H s) : Inv X pins σ H s := ⟨ok, I.os, I.bare, I.base, I.loc, I.cell, I.free, I.freeC, I.pin, I.hok, I.len⟩
/-! a name goes -/
theorem Inv.unbind {i : Nat} {n : Str} {m : Str → Option Value} {v : Option Value} {t' : Nat} (I : Inv X pins σ H s) (hN : X.N.Nodup) (hi : X.N[i]? = some n)
    (hm : ∀ (i : Nat) (x : Str) (v : V), X.N[i]? = some x → σ[i]? = some (some v) → Vis X.env.scope x → ∃ u, RelV v u ∧ Look X.env s.heap m x u)
    (hns : h'.Ns X.env.locals (fun x => if x = n then v else m x)) (hs : Heap.SameBut X.env.locals s.heap h') : Inv X pins (σ.set i none) H { s with heap := h', toks := t' } := by
  have k : ∀ b o, b ≠ X.env.locals → s.heap.get? b = some o → h'.get? b = some o := fun b o ne e => (hs.2 b ne).trans e
  have neL : ∀ b o, X.s₀.heap.get? b = some o → b ≠ X.env.locals := fun b o e => Nat.ne_of_lt (Nat.lt_of_lt_of_le (Heap.lt_size e) I.ok.above)
  have cellM : ∀ x c, X.env.cells.lookup x = some c → ∀ v, s.heap.IsCell c v → h'.IsCell c v := fun x c e v ⟨o, ho, hd⟩ => ⟨o, k c o (I.cne x c e) ho, hd⟩
  refine ⟨I.ok, I.os, I.bare, ⟨fun b o e n hb hx => ?_, fun b o e n hb hx => ?_, I.base.free, fun b o e hx => ?_, I.base.tups, I.base.frzs, I.base.tbls⟩, ⟨_, hns, fun j x w e1 e2 e3 => ?_⟩, fun x c e => ?_, I.free, I.freeC, fun p hp => ?_, fun b u e => ?_, ?_⟩
  · exact k b o (neL b o e) (I.base.keep b o e n hb hx)
  · obtain ⟨sl, q⟩ := I.base.slot b o e n hb hx
    exact ⟨sl, k b _ (neL b o e) q⟩
  · obtain ⟨o', q⟩ := I.base.there b o e hx
    exact ⟨o', k b _ (neL b o e) q⟩
  · have hji : j ≠ i := fun z => by
      subst z
      rw [List.getElem?_set] at e2
      split at e2
      · split at e2 <;> cases e2
      · contradiction
    rw [List.getElem?_set_ne (Ne.symm hji)] at e2
    have hxn : x ≠ n := fun z => hji (nodup_ix hN (z ▸ e1) hi)
    obtain ⟨u, r, l⟩ := hm j x w e1 e2 e3
    refine ⟨u, r, ?_⟩
    rcases l with ⟨l1, l2⟩ | ⟨l1, c, e, z⟩
    · exact .inl ⟨l1, by show (if x = n then v else m x) = some u; rw [if_neg hxn]; exact l2⟩
    · exact .inr ⟨l1, c, e, cellM x c e _ z⟩
  · obtain ⟨v, z⟩ := I.cell x c e
    exact ⟨v, cellM x c e v z⟩
  · obtain ⟨e, n', ne, nf, d⟩ := I.pin p hp
    exact ⟨k _ _ ne e, n', ne, nf, d⟩
  · refine (I.hok b u e).stay (fun c v hc q => k c v (fun z => ?_) q) (fun _ q => q) fun _ _ q => q
    rcases hc with rfl | hc
    · rw [z, I.free] at e; cases e
    · rw [z, I.free] at hc; cases hc
  · rw [List.length_set]
    exact I.len
end
/-! a tracked exception -/
def excO (ea C : Addr) (od : Option Addr) : HO := .ext fun h => ∃ oe vs, h.get? ea = some oe ∧ oe.cls = .ref C ∧ oe.dict = od ∧ oe.data = .fields vs
/-! a class by which one catches -/
structure Hcl (K : PySem.W.Frag) (D : Addr) : Prop where
  ty : PySem.W.typeIn K (.ref D) = some (.type "type")
  cl : (PySem.W.clsIn K D).isSome = true
  be : PySem.W.subIn K (.ref D) (.type "BaseException") = some true
theorem exc_matches {K : PySem.W.Frag} {M : Model} {A : Around} {E : Value → Shared → Prop} {s : Shared} {ea C D : Addr} {oe : Obj} {Q : Bool → Shared → Prop} (X : K.In s.heap) (he : s.heap.get? ea = some oe) (hc : oe.cls = .ref C) (hD : Hcl K D)
    (sb : PySem.W.subIn K (.ref C) (.ref D) = some true) (h : Q true s) : wpAny M A (excMatches (.ref ea) (.ref D)) Q E s := by
  obtain ⟨hp, g, d, tk, os⟩ := s
  have L1 : PySem.W.Looks M hp (typeOf (.ref D)) (.type "type") := PySem.W.looks_typeIn X hD.ty
  have L2 : PySem.W.Looks M hp (isType (.ref D)) true := by
    have q := hD.cl
    unfold PySem.W.clsIn at q
    split at q
    · rename_i ho
      intro A' Q' E' s' k q
      unfold isType loadHead
      exact wpAny_bind (wpAny_loadPart (k _ _ (X _ _ ho)) (wpAny_pure q))
    · cases q
  have L3 : PySem.W.Looks M hp (isSubtype (.ref D) (.type "BaseException")) true := PySem.W.looks_subIn X hD.be
  have L4 : PySem.W.Looks M hp (isSubtype (.ref C) (.ref D)) true := PySem.W.looks_subIn X sb
  have L5 : PySem.W.Looks M hp (typeOf (.ref ea)) (.ref C) := hc ▸ (PySem.W.Looks.ld he).andThen .now
  have L6 : PySem.W.Looks M hp (isSubtype (.type "type") (.type "tuple")) false := .of_pure tc_notTuple
  unfold excMatches isInstance
  repeat (first | with_reducible refine PySem.W.Looks.at (by assumption) ?_ | wp_step)
  exact h
end L2
set_option Elab.async false
set_option linter.all false
set_option maxRecDepth 100000
namespace L2
open PySem PySem.Spec PyProof.Rows

/-! ### a call out of which an exception may come, within a try: what is wanted of it may speak of the names -/
def PassesS (X : Cx) (Ex : St → XK) : Prop := ∀ (pins : List (Addr × Obj)) (σ : St) (H : Hp) (s : Shared) (e : Value) (s' : Shared), Inv X pins σ H s → CXF X.prog X.w X.stack H s (Ex σ) e s' → X.xe e s'
def tCallX (sp : Sp) (Ex : St → XK) (t : TA) : TE := fun σ H Q => t σ H fun vs H1 => sp vs H1 Q (Ex σ)

/-! ### try: body except c as n: suite -/
def tTry (K : PySem.W.Frag) (D : Addr) (i : Nat) (tb : (St → XK) → TS) (ts : TS) : TS := fun G σ H => tb (fun σ' cls od H' => ∃ C, cls = .ref C ∧ PySem.W.subIn K (.ref C) (.ref D) = some true ∧
  ∀ ea, H' ea = none → ts { G with nx := fun σ2 H2 => G.nx (σ2.set i none) H2, bk := fun _ _ => False, ct := fun _ _ => False } (σ'.set i (some (.ref ea))) (upd H' ea (excO ea C od))) G σ H
theorem ps_try {X : Cx} {body suite : List Stmt} {b₀ : Stmt} {c n : Str} {D : Addr} {i : Nat} {np hpos pos : Pos} {tb : (St → XK) → TS} {ts : TS} (hc : X.calm = true) (hfrm : X.stack = X.env :: X.outer ∧ X.env.frame = some X.env.locals)
    (hb : ∀ (pn : List (Addr × Obj)) (xe : Value → Shared → Prop) (Ex : St → XK), PassesS (X.tryx pn xe) Ex → PSs (X.tryx pn xe) body (tb Ex)) (hs : ∀ ea, PSs (X.hand ea) (b₀ :: suite) ts)
    (hN : X.N.Nodup) (hi : X.N[i]? = some n) (hn : X.env.scope.names.lookup n = some .local) (hg : Gl X c) (hm : X.mg c = some (.ref D)) (hD : Hcl X.K D) (hdb : (c == ("__debug__" : Str)) = false := by decide) :
    PS X (.Try body [.ExceptHandler (some (.Name c np)) (some n) (b₀ :: suite) hpos] [] [] pos) (tTry X.K D i tb ts) := by
  intro pins s σ H G I h
  refine wpAny_Try_except ?_
  refine wpAny_mono (hb (X.pn ++ pins) (fun e s₁ => wpAny (model X.prog X.w) X.A (noteFrame e X.env) (fun _ s₂ => wpAny (model X.prog X.w) X.A (setFlight e none) (fun _ s₃ =>
      wpAny (model X.prog X.w) X.A (handleBy e X.env [.ExceptHandler (some (.Name c np)) (some n) (b₀ :: suite) hpos]) (SP X pins G) X.xe s₃) X.xe s₂) X.xe s₁) _ ?_ [] s σ H G (I.tryx _) h) (fun fl s1 q => ?_) fun _ _ z => z
  · intro pins' σ1 H1 s1 e s' I1 hx
    obtain ⟨ea, cls, od, S, H', rfl, os, bare, un, hok, lo, hS, C, rfl, sb, q⟩ := hx
    have J1 : Inv X pins σ1 H1 s1 := I1.untryx I.ok
    have J2 : Inv X pins σ1 H' s' := J1.call' (ch := []) os un hok bare (fun b z => absurd z (by simp))
    show wpAny _ _ (noteFrame (.ref ea) X.env) _ _ s'
    have st := J2.stack
    rw [hfrm.1] at st
    have hfr := I.ok.frames
    rw [hfrm.1] at hfr
    refine land_ex hfr st hfrm.2 lo fun h3 T m3 hs3 hT x3 t3 => ?_
    rw [← hfrm.1] at m3
    have J3 : Inv X pins σ1 H' { s' with heap := h3, toks := s'.toks } := J2.moved (S := S) m3 fun b hb => ⟨J1.off (hS b hb).1, (hS b hb).2⟩
    have oE := J1.off (hS ea lo.1).1
    have nE := (hS ea lo.1).2
    obtain ⟨oe, vs, he, hcls, hdd, hd1, h1⟩ := id x3
    refine wpAny_handleBy_cons (codeAny_handlers_test ?_) (by intro z; cases z)
    refine ld_glob (X := X.hand ea) (J3.hand ea) hg hm ?_ hdb
    refine exc_matches (K := X.K) J3.kIn he hcls hD sb (codeAny_handlers_suite_as ?_)
    refine flight_ex (s := { s' with heap := h3, toks := s'.toks }) x3 t3 hT fun h4 m4 x4 t4 k4 => ?_
    have J4 : Inv X pins σ1 H' { s' with heap := h4, toks := s'.toks } := J3.moved (S := [T]) (fun b o hb hn => by
      have hbT : b ≠ T := fun z => hn (by rw [z]; exact List.mem_cons_self)
      have z := (k4 b hbT).trans hb
      exact ⟨fun _ => z, o.slots, z⟩) fun b hb => by
        rw [List.mem_singleton.mp hb]
        exact ⟨J2.off (Heap.get?_none_of_le hs3), J2.hok.fresh hs3⟩
    have nf : ea ∉ X.fs := fun z => by
      obtain ⟨_, o, ho, _⟩ := I.ok.funs.mem z
      exact I.ok.exfs ea (oE.1 o ho) z
    obtain ⟨oe4, vs4, he4, hcls4, hdd4, hd14, h14⟩ := id x4
    have J5 : Inv X pins σ1 (upd H' ea (excO ea C od)) { s' with heap := h4, toks := s'.toks } := J4.track oE nE ⟨oe4, vs4, he4, hcls4, hdd4, hd14⟩ ⟨oe4, he4⟩ (fun g1 g2 ⟨o, v, q1, q2⟩ k => ⟨o, v, k o q1, q2⟩) nf
    refine store_ok2 (X := X.hand ea) (J5.hand ea) hN hi (.inl hn) (v := .ref ea) rfl (fun s6 J6 _ => ?_) (.inr hn)
    refine wpAny_mono (hs ea pins s6 _ _ _ J6 (q ea nE)) (fun f s7 z => ?_) fun _ _ z => z.elim
    have fin : ∀ {σ7 : St} {H7 : Hp} {R : Shared → Prop}, Inv (X.hand ea) pins σ7 H7 s7 → (∀ s8, Inv X pins (σ7.set i none) H7 s8 → R s8) → wpAny (model X.prog X.w) X.A (do bindName X.env n .none; unbindBehindTheSuite X.env n hpos) (fun _ s8 => R s8) X.xe s7 := fun {σ7 H7 R} J7 k => by
      have J7' := J7.unhand I.ok
      obtain ⟨m, hn7, hl7⟩ := id J7'.loc
      exact wpAny_nameGoes_keeps hn hn7 (by rw [I.ok.kind]; rfl) fun h' v hns hsb => k _ (J7'.unbind hN hi hl7 hns hsb)
    cases f with
    | next =>
      obtain ⟨σ7, H7, J7, z⟩ := z
      exact fin (R := SP X pins G .next) J7 fun s8 J8 => ⟨_, H7, J8, z⟩
    | brk =>
      obtain ⟨σ7, H7, J7, z⟩ := z
      exact z.elim
    | cont =>
      obtain ⟨σ7, H7, J7, z⟩ := z
      exact z.elim
    | ret u =>
      obtain ⟨v, σ7, H7, J7, r, z⟩ := z
      exact fin (R := SP X pins G (.ret u)) J7 fun s8 J8 => ⟨v, _, H7, J8, r, z⟩
  · cases fl with
    | next =>
      obtain ⟨σ', H', J, z⟩ := q
      exact wpAny_execs_nil ⟨σ', H', J.untryx I.ok, z⟩
    | brk =>
      obtain ⟨σ', H', J, z⟩ := q
      exact ⟨σ', H', J.untryx I.ok, z⟩
    | cont =>
      obtain ⟨σ', H', J, z⟩ := q
      exact ⟨σ', H', J.untryx I.ok, z⟩
    | ret u =>
      obtain ⟨v, σ', H', J, r, z⟩ := q
      exact ⟨v, σ', H', J.untryx I.ok, r, z⟩
/-! a word between, behind a test -/
def tMidT (t : TT) : TT := fun σ H Q => ∃ Mid : Bool → Hp → Prop, t σ H Mid ∧ ∀ b H', Mid b H' → Q b H'
end L2
set_option Elab.async false
set_option linter.all false
set_option maxRecDepth 100000
namespace L2
open PySem PySem.Spec PyProof.Rows

/-! ### attributes of an exception of a class of the text; isinstance of it -/
structure Ek (K : PySem.W.Frag) (C : Addr) : Prop where
  cl : (PySem.W.clsIn K C).isSome = true
  ga : PySem.W.findIn K (.ref C) "__getattribute__" = some (some (.builtin "BaseException.__getattribute__"))
  gt : PySem.W.findIn K (.ref C) "__getattr__" = some none
  ca : PySem.W.findIn K (.ref C) "__class__" = some (some (.builtin "object.__class__"))
  be : PySem.W.subIn K (.ref C) (.type "BaseException") = some true
  ob : PySem.W.mroIn K C (.type "object") = some true
  cg : PySem.W.specialIn K (.builtin "object.__class__") "__get__" = some (some (.builtin "getset_descriptor.__get__"))
  ct : PySem.W.takesIn K (.builtin "object.__class__") = some true
section
variable {K : PySem.W.Frag} {prog : Program} {w : World} {A : Around} {E : Value → Shared → Prop} {s : Shared} {x C : Addr} {ox : Obj} {od : Option Obj} {name : Str} {tk : Tok}
theorem exc_check {M : Model} {nv : Value} {Q : Unit → Shared → Prop} (X : K.In s.heap) (I : PySem.W.InstAt s.heap x ox C od) (G : Ek K C) (h : Q () s) : wpAny M A (checkBuiltinCall "BaseException.__getattribute__" ⟨[.ref x, nv], []⟩) Q E s := by
  obtain ⟨hp, g, d, t, os⟩ := s
  have hk : builtinKind "BaseException.__getattribute__" = some .slot := by decide +kernel
  have hsplit : splitId "BaseException.__getattribute__" = some ("BaseException", "__getattribute__") := by decide +kernel
  have L0 := I.type (M := M)
  have L1 : PySem.W.Looks M hp (isSubtype (.ref C) (.type "BaseException")) true := PySem.W.looks_subIn X G.be
  have ha := PySem.F.args_bexc_ga (.ref x) nv
  simp only [checkBuiltinCall, hk, hsplit]
  refine wpAny_bind ?_
  unfold isInstance
  repeat (first | with_reducible refine PySem.W.Looks.at (by assumption) ?_ | wp_step)
  exact h
theorem exc_by {fill expr : Bool} {Q : Value → Shared → Prop} (X : K.In s.heap) (I : PySem.W.InstAt s.heap x ox C od) (G : Ek K C)
    (h : wpAny (model prog w) A.in1 (Builtin.«object.__getattribute__» ⟨[.ref x, .str name tk], []⟩) (fun fin s' => match fin with | .done (.ret v) => PySem.W.handedIn v = true ∧ Q v s' | .again c' => c'.quiet = true ∧ codeAny (model prog w) A c' (fun r s'' => match r with | .ok (.ret v) => PySem.W.handedIn v = true ∧ Q v s'' | _ => False) s' | _ => False) (fun _ _ => False) s) :
    wpAny (model prog w) A (getAttrBy (.ref x) (.str name tk) fill expr) Q E s := by
  obtain ⟨hp, g, d, t, os⟩ := s
  have L0 := I.type (M := model prog w)
  have L1 : PySem.W.Looks (model prog w) hp (typeLookup (.ref C) "__getattribute__") (some (.builtin "BaseException.__getattribute__")) := PySem.W.looks_findIn X G.ga
  have L2 : PySem.W.Looks (model prog w) hp (typeLookup (.ref C) "__getattr__") none := PySem.W.looks_findIn X G.gt
  have f3 := PySem.F.attr_ValueError.ga.bind (.ref x)
  unfold getAttrBy
  refine wpAny_holding (wpAny_bind (L0.at (wpAny_bind (L1.at ?_))))
  show wpAny _ _ (if (onTheHeap (.ref C) && Value.builtin "BaseException.__getattribute__" == .builtin "object.__getattribute__") = true then _ else _) _ _ _
  have hb : (onTheHeap (Value.ref C) && Value.builtin "BaseException.__getattribute__" == Value.builtin "object.__getattribute__") = false := by
    show (true && Value.builtin "BaseException.__getattribute__" == Value.builtin "object.__getattribute__") = false
    decide +kernel
  rw [hb, if_neg Bool.false_ne_true]
  unfold getAttrByItsOwn
  refine wpAny_bind ?_
  show wpAny _ _ (typeLookup (.ref C) "__getattr__") _ _ _
  refine L2.at ?_
  refine wpAny_bind (wpAny_attempt (wpAny_holding ?_))
  unfold callGetattribute
  rw [if_neg (by cases expr <;> decide)]
  unfold boundAndCalled
  refine wpAny_bind (wpAny_of_eq f3 ?_)
  show wpAny _ _ (call (.builtin "BaseException.__getattribute__") [.ref x, .str name tk]) _ _ _
  refine wpAny_call (codeAny_call_builtin PySem.F.attr_ValueError.ga.plain PySem.F.entry_bexc_ga (exc_check X I G ?_))
  refine wpAny_mono h (fun fin s' z => ?_) fun _ _ z => z.elim
  rcases fin with fl | c'
  · cases fl with
    | ret v =>
      obtain ⟨z1, z2⟩ := z
      show wpAny _ _ (handedOut v) _ _ _
      exact PySem.W.handed_on z1 z2
    | _ => exact z.elim
  · refine ⟨z.1, codeAny_mono z.2 fun r s'' y => ?_⟩
    rcases r with _ | fl
    · exact y.elim
    · cases fl with
      | ret v =>
        obtain ⟨z1, z2⟩ := y
        show wpAny _ _ (handedOut v) _ _ _
        exact PySem.W.handed_on z1 z2
      | _ => exact y.elim
theorem exc_class {Q : Option Value → Shared → Prop} (X : K.In s.heap) (I : PySem.W.InstAt s.heap x ox C od) (G : Ek K C) (h : Q (some (.ref C)) { s with toks := s.toks + 1 }) : wpAny (model prog w) A (getAttr? (.ref x) "__class__") Q E s := by
  obtain ⟨hp, g, d, t, os⟩ := s
  have hf : PySem.W.findObj K C od "__class__" = some (.bind (.builtin "getset_descriptor.__get__") (.builtin "object.__class__")) := by
    obtain ⟨cd, hc⟩ := Option.isSome_iff_exists.mp G.cl
    unfold PySem.W.findObj
    rw [hc, Option.bind_some, G.ca, Option.bind_some]
    simp [G.cg, G.ct]
  have L0 := I.type (M := model prog w)
  have L1 := PySem.W.looks_find (M := model prog w) X I hf
  unfold getAttr? getAttrBy?
  refine wpAny_bind (wpAny_mkText (wpAny_bind (wpAny_attempt ?_)))
  refine exc_by (s := ⟨hp, g, d, t + 1, os⟩) X I G ?_
  unfold Builtin.«object.__getattribute__»
  repeat (first | with_reducible refine PySem.W.Looks.at (by assumption) ?_ | wp_step)
  exact PySem.W.class_get (s := ⟨hp, g, d, t + 1, os⟩) X I G.ob (wpAny_pure ⟨rfl, wpAny_pure h⟩)
end
/-! all that is asked of a class of refusals, as one answer -/
def xcIn (K : PySem.W.Frag) (C : Addr) : Bool :=
  PySem.W.typeIn K (.ref C) == some (.type "type") && (PySem.W.clsIn K C).isSome && PySem.W.subIn K (.ref C) (.type "BaseException") == some true &&
  PySem.W.findIn K (.ref C) "__getattribute__" == some (some (.builtin "BaseException.__getattribute__")) && PySem.W.findIn K (.ref C) "__getattr__" == some none && PySem.W.findIn K (.ref C) "__class__" == some (some (.builtin "object.__class__")) &&
  PySem.W.mroIn K C (.type "object") == some true && PySem.W.specialIn K (.builtin "object.__class__") "__get__" == some (some (.builtin "getset_descriptor.__get__")) && PySem.W.takesIn K (.builtin "object.__class__") == some true &&
  PySem.W.subIn K (.ref C) (.ref C) == some true && PySem.W.subIn K (.ref C) (.type "ValueError") == some true
structure XC (K : PySem.W.Frag) (C : Addr) : Prop where
  h : Hcl K C
  e : Ek K C
  sf : PySem.W.subIn K (.ref C) (.ref C) = some true
  ve : PySem.W.subIn K (.ref C) (.type "ValueError") = some true
theorem XC.of {K : PySem.W.Frag} {C : Addr} (q : xcIn K C = true) : XC K C := by
  unfold xcIn at q
  simp only [Bool.and_eq_true, beq_iff_eq] at q
  obtain ⟨⟨⟨⟨⟨⟨⟨⟨⟨⟨q1, q2⟩, q3⟩, q4⟩, q5⟩, q6⟩, q7⟩, q8⟩, q9⟩, q10⟩, q11⟩ := q
  exact ⟨⟨q1, q2, q3⟩, ⟨q2, q4, q5, q6, q3, q7, q8, q9⟩, q10, q11⟩
section
variable {K : PySem.W.Frag} {C D : Addr}
theorem kit_t (hD : Hcl K D) (sb : PySem.W.subIn K (.ref C) (.ref D) = some true) : PySem.W.kitOne K (.ref C) (.ref D) = some true := by
  unfold PySem.W.kitOne
  split
  · rfl
  · unfold PySem.W.kitCls
    dsimp only
    rw [if_pos (by rw [hD.cl, hD.ty]; rfl)]
    exact sb
theorem kit_f (hC : XC K C) (hD : Hcl K D) (sb : PySem.W.subIn K (.ref C) (.ref D) = some false) : PySem.W.kitOne K (.ref C) (.ref D) = some false := by
  unfold PySem.W.kitOne
  split
  · rename_i z
    have z' := beq_iff_eq.mp z
    rw [← z', hC.sf] at sb
    cases sb
  · unfold PySem.W.kitCls
    dsimp only
    rw [if_pos (by rw [hD.cl, hD.ty]; rfl)]
    exact sb
theorem kit_ve (hC : XC K C) : PySem.W.kitOne K (.ref C) (.type "ValueError") = some true := by
  unfold PySem.W.kitOne
  rw [if_neg (by intro z; cases beq_iff_eq.mp z)]
  unfold PySem.W.kitCls
  dsimp only
  rw [if_pos (show PySem.W.kitMeta "ValueError" = true by decide +kernel)]
  exact hC.ve
theorem kitx_exc {x : Addr} (G : Ek K C) : PySem.W.KitX K (.ref x) (.ref C) (fun h => ∃ ox od, PySem.W.InstAt h x ox C od) where
  ty := fun _ _ _ ⟨_, _, I⟩ => I.type
  it := fun _ _ X _ => by
    have q := G.cl
    unfold PySem.W.clsIn at q
    split at q
    · rename_i ho
      intro A' Q' E' s' k q
      unfold isType loadHead
      exact wpAny_bind (wpAny_loadPart (k _ _ (X _ _ ho)) (wpAny_pure q))
    · cases q
  ne := fun h tp dd its n sl X htp => by
    refine Bool.eq_false_iff.mpr fun z => ?_
    have e : C = tp := Value.ref.inj (beq_iff_eq.mp z)
    subst e
    have q := G.cl
    unfold PySem.W.clsIn at q
    split at q
    · rename_i ho
      have z := (X _ _ ho).symm.trans htp
      cases z
    · cases q
  ca := fun X ⟨_, _, I⟩ k => exc_class X I G k
end
/-! isinstance(e, c) -/
def rIsiE (K : PySem.W.Frag) : List V → Hp → VK → Prop := fun xs H Q => ∃ ea C od c b, xs = [.ref ea, c] ∧ H ea = some (excO ea C od) ∧ Ek K C ∧ (od = none ∨ ∃ dx fs, od = some dx ∧ H dx = some (.xd fs)) ∧
  ((∃ D, c = .ref D ∧ PySem.W.kitOne K (.ref C) (.ref D) = some b) ∨ ∃ T, c = .ty T ∧ PySem.W.kitOne K (.ref C) (.type T) = some b) ∧ Q (.bl b) H
theorem inst_of {X : Cx} {pins : List (Addr × Obj)} {σ : St} {H : Hp} {s : Shared} {ea C : Addr} {od : Option Addr} (I : Inv X pins σ H s) (h : H ea = some (excO ea C od)) (hd : od = none ∨ ∃ dx fs, od = some dx ∧ H dx = some (.xd fs)) :
    ∃ ox o, PySem.W.InstAt s.heap ea ox C o := by
  obtain ⟨⟨oe, vs, he, hc, hdd, hdt⟩, _, _⟩ := I.hok ea _ h
  rcases hd with rfl | ⟨dx, fs, rfl, hx⟩
  · exact ⟨oe, none, he, hc, by unfold PySem.W.notCls; rw [hdt], by rw [hdd]; trivial⟩
  · obtain ⟨ob, hob⟩ := (I.hok dx _ hx).obj
    exact ⟨oe, some ob, he, hc, by unfold PySem.W.notCls; rw [hdt], by rw [hdd]; exact hob⟩
theorem isiE {X : Cx} (K : PySem.W.Frag) (hK : X.K = K := by rfl) : CallR X (.builtin "isinstance") (rIsiE K) := by
  subst hK
  intro pins s σ H xs us Q I r h
  obtain ⟨ea, C, od, c, b, rfl, he, G, hd, hc, q⟩ := h
  obtain ⟨u, v, rfl, r1, r2⟩ := r.two
  cases r1
  obtain ⟨ox, o, IA⟩ := inst_of I he hd
  rcases hc with ⟨D, rfl, e⟩ | ⟨T, rfl, e⟩
  · cases r2
    exact PySem.W.kia_one (kitx_exc G) I.kIn ⟨ox, o, IA⟩ e (fun z => nomatch z) fun tk => ⟨.bl b, H, I.tok tk, rfl, q⟩
  · cases r2
    exact PySem.W.kia_one (kitx_exc G) I.kIn ⟨ox, o, IA⟩ e (fun z => nomatch z) fun tk => ⟨.bl b, H, I.tok tk, rfl, q⟩
theorem b_VE : bootBuiltins "ValueError" = some (.type "ValueError") := by decide +kernel
/-! a def out of which exceptions come, with all that a call of it wants -/
structure Fns' (P : Program) (w : World) (K : PySem.W.Frag) (mg : Str → Option Value) (base : Heap) (ps : List Str) (name : Str) (sp : Sp) (k : Nat) where
  g : Addr
  gd : FuncData
  ok : FnOk P w K mg base (CXF P w) k g gd ps sp
  b : Binds K gd ps []
  kp : PySem.W.keepIn K (.ref g) = true
  m : mg name = some (.ref g)
/-! no exception comes -/
theorem passN {P : Program} {w : World} {X : Cx} : Passes (CXF P w) X E0 := fun _ _ _ _ _ _ _ ⟨_, _, _, _, _, _, _, _, _, _, _, _, z⟩ => z.elim
/-! lists of bools compared -/
def rEqLB : R2 := fun x y H Q => ∃ (a b : Addr) (ns ms : List Bool), x = .ref a ∧ y = .ref b ∧ H a = some (.lst (ns.map V.bl)) ∧ H b = some (.lst (ms.map V.bl)) ∧ Q (.bl (decide (ns = ms))) H
def rNeLB : R2 := fun x y H Q => ∃ (a b : Addr) (ns ms : List Bool), x = .ref a ∧ y = .ref b ∧ H a = some (.lst (ns.map V.bl)) ∧ H b = some (.lst (ms.map V.bl)) ∧ Q (.bl (!decide (ns = ms))) H
def Fns'.up {P : Program} {w : World} {K : PySem.W.Frag} {mg : Str → Option Value} {base : Heap} {ps : List Str} {name : Str} {sp : Sp} {j k : Nat} (f : Fns' P w K mg base ps name sp j) (h : j ≤ k) : Fns' P w K mg base ps name sp k := ⟨f.g, f.gd, f.ok.mono h, f.b, f.kp, f.m⟩
/-! a method with the fragment named -/
end L2
set_option Elab.async false
set_option linter.all false
set_option maxRecDepth 100000
namespace L2
open PySem PySem.Spec PyProof.Rows
/-! ### a list or a tuple, walked -/
def SqB (b : Bool) (K : PySem.W.Frag) (H : Hp) (a : Addr) (xs : List V) : Prop := match b with
  | true => SqL K H a xs
  | false => SqT K H a xs
def Itb (b : Bool) (K : PySem.W.Frag) (a : Addr) : It := match b with
  | true => Itl K a
  | false => Itt K a
def iSeq (K : PySem.W.Frag) (tl : TE) : TI := fun σ H R => tl σ H fun x H1 => ∃ a b, x = .ref a ∧ (∃ xs, SqB b K H1 a xs) ∧ R (Itb b K a) H1
def tCompS (K : PySem.W.Frag) (tl : TE) (tc : TT) (te : TE) : TE := fun σ H Q => tl σ H fun v H1 => ∃ a xs b, v = .ref a ∧ SqB b K H1 a xs ∧ ∀ d, H1 d = none →
  ∃ Pv : Nat → Hp → Prop, Pv 0 (upd H1 d (.lst [])) ∧ (∀ i H, i ≤ xs.length → Pv i H → SqB b K H a xs) ∧ (∀ i x H, xs[i]? = some x → Pv i H → turnC tc te σ d x H (Pv (i + 1))) ∧ ∀ H, Pv xs.length H → Q (.ref d) H
/-! isinstance(e, (C1, C2, ..)), none of them -/
def rIsiT (K : PySem.W.Frag) : List V → Hp → VK → Prop := fun xs H Q => ∃ ea C od tp, ∃ ds : List Addr, xs = [.ref ea, .ref tp] ∧ H ea = some (excO ea C od) ∧ Ek K C ∧ (od = none ∨ ∃ dx fs, od = some dx ∧ H dx = some (.xd fs)) ∧ H tp = some (.tup (ds.map V.ref)) ∧
  (∀ D ∈ ds, PySem.W.kitOne K (.ref C) (.ref D) = some false) ∧ Q (.bl false) H
/-! lists of ints compared -/
def rEqLI : R2 := fun x y H Q => ∃ (a b : Addr) (ns ms : List Int), x = .ref a ∧ y = .ref b ∧ H a = some (.lst (ns.map V.int)) ∧ H b = some (.lst (ms.map V.int)) ∧ Q (.bl (decide (ns = ms))) H
theorem op_eqLI {X : Cx} (hu : X.A.units + 4 < cLine) : OpR X (compareOp .Eq) rEqLI := by
  intro pins s σ H x y v u Q I rx ry h
  obtain ⟨a, b, ns, ms, rfl, rfl, e1, e2, q⟩ := h
  cases rx; cases ry
  exact rc_lsts (A := X.A) (n := 0) EqK.int I.hok e1 e2 (Paired.ints ns) (Paired.ints ms) (by omega) _ _ _ _ ⟨.bl _, H, I, rfl, q⟩
def rNeLI : R2 := fun x y H Q => ∃ (a b : Addr) (ns ms : List Int), x = .ref a ∧ y = .ref b ∧ H a = some (.lst (ns.map V.int)) ∧ H b = some (.lst (ms.map V.int)) ∧ Q (.bl (!decide (ns = ms))) H
theorem op_neLI {X : Cx} (hu : X.A.units + 4 < cLine) : OpR X (compareOp .NotEq) rNeLI := by
  intro pins s σ H x y v u Q I rx ry h
  obtain ⟨a, b, ns, ms, rfl, rfl, e1, e2, q⟩ := h
  cases rx; cases ry
  exact rn_lsts (A := X.A) (n := 0) EqK.int I.hok e1 e2 (Paired.ints ns) (Paired.ints ms) (by omega) _ _ _ _ ⟨.bl _, H, I, rfl, q⟩
end L2
set_option Elab.async false
set_option linter.all false
set_option maxRecDepth 100000
namespace L2
open PySem PySem.Spec PyProof.Rows
/-! ### classes of refusals with an __init__ of their own -/
def exiIn (K : PySem.W.Frag) (C fI : Addr) : Bool := match K.lookup C with
  | some ⟨.type "type", _, .cls k, sl⟩ => match k.mro, sl.toList with
    | .ref C' :: bm, [_, _, _, _, some (.builtin n), _] => C' == C && n == newVE && !k.hasDel && k.hasDict && PySem.W.tailIn K bmVE bm && PySem.W.nsOkIn K k.ns && PySem.W.nsIn K k.ns "__init__" == some (some (.ref fI)) && PySem.W.typeIn K (.ref fI) == some (.type "function")
    | _, _ => false
  | _ => false
structure Eci (K : PySem.W.Frag) (C fI : Addr) : Prop where
  ex : exiIn K C fI = true
theorem ns_some_of {K : PySem.W.Frag} {h : Heap} {N : Addr} {x : Str} {v : Value} (X : K.In h) (e : PySem.W.nsOkIn K N = true) (q : PySem.W.nsIn K N x = some (some v)) : h.nsMap N x = some v := by
  obtain ⟨o, es, ep, ho, hd, _, hf⟩ := Heap.Ns.of_isNs (PySem.W.isNs_of_in X e)
  unfold PySem.W.nsIn at q
  split at q
  · rename_i c d es' n' sl q'
    have z := X _ _ q'
    rw [ho] at z
    cases z
    cases hd
    split at q
    · rename_i en he
      cases q
      rw [← hf]
      unfold nsFind findBy
      rw [← Array.find?_toList, he]
      rfl
    · split at q <;> cases q
  · cases q
theorem Eci.obj {K : PySem.W.Frag} {C fI : Addr} (c : Eci K C fI) {h : Heap} (X : K.In h) : ∃ bm N nm q bs sn sub ab col dd k0 k1 k2 k3 k5 mN oI, h.get? C = some (excClassObj nm q C N bs bm true sn sub ab col dd k0 k1 k2 k3 k5 newVE) ∧ h.Ns N mN ∧ mN "__init__" = some (.ref fI) ∧ OwnTail h bmVE bm ∧
    h.get? fI = some oI ∧ oI.cls = .type "function" := by
  have q := c.ex
  unfold exiIn at q
  split at q
  · rename_i dd cd sl ho
    split at q
    · rename_i C' bm k0 k1 k2 k3 n k5 hm hs
      simp only [Bool.and_eq_true, beq_iff_eq, Bool.not_eq_true'] at q
      obtain ⟨⟨⟨⟨⟨⟨⟨e1, e2⟩, e3⟩, e4⟩, e5⟩, e6⟩, e7⟩, e8⟩ := q
      subst e1 e2
      obtain ⟨nm, bs, mro, ns, qn, hd, sn, sub, ab, col, del⟩ := cd
      dsimp only at hm e3 e4 e6 e7
      subst hm e3 e4
      obtain ⟨l⟩ := sl
      have hl : l = [k0, k1, k2, k3, some (.builtin newVE), k5] := hs
      subst hl
      obtain ⟨oI, hoI, hcI⟩ := Option.map_eq_some_iff.mp e8
      exact ⟨bm, ns, nm, qn, bs, sn, sub, ab, col, dd, k0, k1, k2, k3, k5, _, oI, X _ _ ho, .of_isNs (PySem.W.isNs_of_in X e6), ns_some_of X e6 e7, PySem.W.tail_of_in X e5, X _ _ hoI, hcI⟩
    · cases q
  · cases q
section
variable {prog : Program} {w : World} {A : Around} {E : Value → Shared → Prop} {h : Heap} {g : Array GenState} {d : Drawn} {t : Nat} {os : OsState}
variable {nm q : Str} {C N : Addr} {bs bm : List Value} {hdct : Bool} {sn : List Str} {sub : List Value} {ab : Bool} {col : Option Bool} {dd : Option Addr} {k0 k1 k2 k3 k5 : Option Value}
theorem tcall_init (T : OwnTail h bmVE bm) {mN : Str → Option Value} {us : List Value} {fI : Addr} {oI : Obj} {Q : Fin → Shared → Prop} (hC : h.get? C = some (excClassObj nm q C N bs bm hdct sn sub ab col dd k0 k1 k2 k3 k5 newVE)) (hn : h.Ns N mN)
    (hi : mN "__init__" = some (.ref fI)) (hfI : h.get? fI = some oI) (hfc : oI.cls = .type "function")
    (hq : ∀ h' e, Heap.MadeExcOf h h' e (.ref C) us → wpAny (model prog w) A (call (.ref fI) (.ref e :: us)) (fun r s' => r = .none ∧ Q (.done (.ret (.ref e))) s') E ⟨h', g, d, t, os⟩) (hus : us.length ≤ sizeLine) :
    wpAny (model prog w) A (Builtin.«type.__call__» ⟨.ref C :: us, []⟩) Q E ⟨h, g, d, t, os⟩ := by
  have F := PySem.F.excBase_ValueError
  repeat (first | with_reducible refine wpAny_loadPart_at hC ?_ | with_reducible refine wpAny_madeBy_exc hC ?_ | wp_step)
  refine codeAny_call_builtin_code (Code.quiet_builtin _ F.quiet) (wpAny_check_new_subT F T hC (codeAny_exc_new_subT F T hC ?_ hus))
  show wpAny _ _ _ _ _ _
  generalize hp : ((h.push { cls := .type "tuple", data := .seq us.toArray }).push { cls := .ref C, data := .fields #[.ref h.objs.size, .none, .none, .none, .bool false, .none] }) = h2
  have kp : ∀ b o, h.get? b = some o → h2.get? b = some o := fun b o e => by rw [← hp]; exact Heap.get?_push_of_some _ (Heap.get?_push_of_some _ e)
  have hC1 := kp _ _ hC
  have hget : h2.get? (h.objs.size + 1) = some { cls := .ref C, data := .fields #[.ref h.objs.size, .none, .none, .none, .bool false, .none] } := by rw [← hp]; heap_get
  have htup : h2.get? h.objs.size = some { cls := .type "tuple", data := .seq us.toArray } := by rw [← hp]; exact Heap.get?_push_of_some _ (Heap.get?_push_at rfl rfl)
  have hcC : (Value.ref C :: bm).contains (.ref C) = true := by simp
  unfold isInstance
  repeat (first | with_reducible refine wpAny_loadPart_at hget ?_ | (with_reducible refine wpAny_isSubtype_exc hC1 ?_; rw [hcC]) | wp_step)
  show wpAny _ _ (typeLookup (.ref C) _) _ _ _
  refine wpAny_typeLookup_tail hC1 (hn.keeps kp) (T.keeps kp) F.mroIs F.init.lookup ?_
  rw [hi]
  refine wpAny_holding (wpAny_bind ?_)
  unfold bindSpecial
  refine wpAny_bind (wpAny_typeOf (T := "function") ⟨_, kp _ _ hfI, hfc⟩ ?_)
  rw [if_pos (by decide)]
  refine wpAny_pure (wpAny_bind (wpAny_mono (hq h2 (h.objs.size + 1) ⟨kp, Heap.get?_none_of_le (Nat.le_succ _), h.objs.size, hget, Heap.get?_none_of_le (Nat.le_refl _), htup⟩) (fun r s' hr => ?_) fun _ _ x => x))
  obtain ⟨rfl, hQ⟩ := hr
  wp_walk
  exact hQ
theorem call_init (T : OwnTail h bmVE bm) {mN : Str → Option Value} {us : List Value} {fI : Addr} {oI : Obj} {Q : Value → Shared → Prop} (hC : h.get? C = some (excClassObj nm q C N bs bm hdct sn sub ab col dd k0 k1 k2 k3 k5 newVE)) (hn : h.Ns N mN)
    (hi : mN "__init__" = some (.ref fI)) (hfI : h.get? fI = some oI) (hfc : oI.cls = .type "function")
    (hq : ∀ h' e, Heap.MadeExcOf h h' e (.ref C) us → wpAny (model prog w) (A.under (.builtin "type.__call__" ⟨.ref C :: us, []⟩)) (call (.ref fI) (.ref e :: us)) (fun r s' => r = .none ∧ Q (.ref e) s') E ⟨h', g, d, t, os⟩) (hus : us.length ≤ sizeLine) :
    wpAny (model prog w) A (call (.ref C) us) Q E ⟨h, g, d, t, os⟩ := by
  have f1 := tc_lookup
  have f2 := tc_bind (.ref C)
  have hT : (⟨h, g, d, t, os⟩ : Shared).TypeIs (.ref C) "type" := ⟨_, hC, rfl⟩
  refine wpAny_call (codeAny_of_tree ?_)
  show wpAny _ _ (callAny (.ref C) _) _ _ _
  repeat (any_goals (first | assumption | with_reducible refine wpAny_loadPart_at hC ?_ | wp_step))
  exact ⟨rfl, codeAny_call_builtin_at (Code.quiet_builtin _ (by decide +kernel)) entry_typeCall (wpAny_check_type_call_sub hC (tcall_init T hC hn hi hfI hfc (fun h' e hm => hq h' e hm) hus))⟩
end
end L2
set_option Elab.async false
set_option linter.all false
set_option maxRecDepth 100000
namespace L2
open PySem PySem.Spec PyProof.Rows PySem.Calls PySem.Builtin PySem.Builtin.ObjectAttr
/-! ### an exception that was made and not yet raised; its dict -/
def excN (ea C : Addr) (od : Option Addr) : HO := .ext fun h => ∃ oe vs, h.get? ea = some oe ∧ oe.cls = .ref C ∧ oe.dict = od ∧ oe.data = .fields vs ∧ vs[1]? = some .none
def xdO (d : Addr) (fs : List (Str × V)) : HO := .ext fun h => ∃ mA, h.Ns1 d mA ∧ (∀ f, RelO (fs.lookup f) (mA f)) ∧ PySem.Within mA (fs.map (·.1))
theorem excN_stay {ea C : Addr} {od : Option Addr} : ∀ h1 h2 : Heap, (∃ oe vs, h1.get? ea = some oe ∧ oe.cls = .ref C ∧ oe.dict = od ∧ oe.data = .fields vs ∧ vs[1]? = some .none) → (∀ o, h1.get? ea = some o → h2.get? ea = some o) → ∃ oe vs, h2.get? ea = some oe ∧ oe.cls = .ref C ∧ oe.dict = od ∧ oe.data = .fields vs ∧ vs[1]? = some .none :=
  fun _ _ ⟨oe, vs, he, r⟩ k => ⟨oe, vs, k oe he, r⟩
theorem ns1_stay {d : Addr} {mA : Str → Option Value} {h1 h2 : Heap} (n : h1.Ns1 d mA) (k : ∀ o, h1.get? d = some o → h2.get? d = some o) : h2.Ns1 d mA := by
  obtain ⟨o, es, ep, ho, r⟩ := n
  exact ⟨o, es, ep, k o ho, r⟩
theorem ns1_obj {d : Addr} {mA : Str → Option Value} {h1 : Heap} (n : h1.Ns1 d mA) : ∃ o, h1.get? d = some o := by
  obtain ⟨o, es, ep, ho, r⟩ := n
  exact ⟨o, ho⟩
/-! what is asked of the class for a store -/
def estIn (K : PySem.W.Frag) (C : Addr) : Bool := PySem.W.findIn K (.ref C) "__setattr__" == some (some (.builtin "object.__setattr__")) && PySem.W.mroIn K C (.type "object") == some true &&
  (PySem.W.clsIn K C).any fun k => k.hasDict && match k.mro with
    | .ref _ :: .ref _ :: r => r == bmVE
    | _ => false
structure Est (K : PySem.W.Frag) (C : Addr) : Prop where
  sa : PySem.W.findIn K (.ref C) "__setattr__" = some (some (.builtin "object.__setattr__"))
  ob : PySem.W.mroIn K C (.type "object") = some true
  cd : ∃ k a b, PySem.W.clsIn K C = some k ∧ k.hasDict = true ∧ k.mro = .ref a :: .ref b :: bmVE
theorem Est.of {K : PySem.W.Frag} {C : Addr} (q : estIn K C = true) : Est K C := by
  unfold estIn at q
  simp only [Bool.and_eq_true, beq_iff_eq] at q
  obtain ⟨⟨q1, q2⟩, q3⟩ := q
  refine ⟨q1, q2, ?_⟩
  cases hk : PySem.W.clsIn K C with
  | none => rw [hk] at q3; cases q3
  | some k =>
    rw [hk] at q3
    have q4 : (k.hasDict && match k.mro with
      | .ref _ :: .ref _ :: r => r == bmVE
      | _ => false) = true := q3
    rw [Bool.and_eq_true] at q4
    obtain ⟨q5, q6⟩ := q4
    split at q6
    · rename_i a b r hm
      exact ⟨k, a, b, rfl, q5, by rw [hm, beq_iff_eq.mp q6]⟩
    · cases q6
section
variable {K : PySem.W.Frag} {prog : Program} {w : World} {A : Around} {E : Value → Shared → Prop} {s : Shared} {x C : Addr} {ox : Obj} {od : Option Obj} {name : Str} {tk : Tok} {v : Value}
theorem esa_open {R : Result → Shared → Prop} (X : K.In s.heap) (I : PySem.W.InstAt s.heap x ox C od) (G : Est K C) (ht : PySem.W.takerIn K C name = some none)
    (h : ∀ b, wpAny (model prog w) A.in1 (storeInOwnDict (.ref x) (.ref C) (.str name tk) name v b) (fun fin s' => match fin with | .done f => R (.ok f) s' | .again c' => c'.quiet = true ∧ codeAny (model prog w) A c' R s') (fun e s' => R (.error e) s') s) :
    codeAny (model prog w) A (.call (.builtin "object.__setattr__") ⟨[.ref x, .str name tk, v], []⟩) R s := by
  have SF := PySem.F.store_object
  obtain ⟨k, a, b, hc, hh, hm⟩ := G.cd
  have sub : PySem.W.Looks (model prog w) s.heap (isInstance (.ref x) (.type "object")) true := I.type.andThen (PySem.W.looks_mroIn X G.ob)
  refine codeAny_call_builtin SF.slot.plain SF.entry (@PySem.W.check_slot (model prog w) _ _ s "object.__setattr__" "object" "__setattr__" (.ref x) [.str name tk, v] [] _ SF.kind SF.split sub (SF.args (.ref x) (.str name tk) v) ?_)
  obtain ⟨attr, ha, hr⟩ := Option.bind_eq_some_iff.mp ht
  have hml : PySem.W.Looks (model prog w) s.heap (mroOf (.ref C)) k.mro := (PySem.W.looks_clsIn X hc).andThen .now
  have L3 : PySem.W.Looks (model prog w) s.heap (storeTaker? attr) none := by
    cases attr with
    | none => exact .now
    | some y =>
      obtain ⟨b', hb, e'⟩ := Option.map_eq_some_iff.mp hr
      refine (PySem.W.looks_takesIn X hb).andThen ?_
      cases b' with
      | true => cases e'
      | false => exact .now
  rw [PySem.W.osa_eq, refuse_eq]
  refine wpAny_bind (wpAny_bind (I.type.here (wpAny_bind (hml.here ?_))))
  rw [hm, refuseLoop_ref, refuseLoop_ref, PySem.F.store_ValueError.passes]
  exact wpAny_pure (wpAny_bind (I.type.here (wpAny_bind ((PySem.W.looks_findIn X ha).here (wpAny_bind (L3.here (h _)))))))
/-! the first store makes the dict, at the heap's end -/
theorem store_first {Q : Fin → Shared → Prop} {b : Bool} (X : K.In s.heap) (G : Est K C) (hx : s.heap.get? x = some ox) (hc : ox.cls = .ref C) (hd : ox.dict = none) {vs : Array Value} (hdt : ox.data = .fields vs)
    (h : ∀ h' tk' od', h'.Ns1 s.heap.objs.size (fun y => if y = name then some v else none) → h'.get? x = some { ox with dict := some s.heap.objs.size } → h'.get? s.heap.objs.size = some od' → (∀ b o, b ≠ x → s.heap.get? b = some o → h'.get? b = some o) → Q (.done (.ret .none)) { s with heap := h', toks := tk' }) :
    wpAny (model prog w) A (storeInOwnDict (.ref x) (.ref C) (.str name tk) name v b) Q E s := by
  obtain ⟨k, a, b', hk, hh, hm⟩ := G.cd
  refine wpAny_bind (wpAny_pure (wpAny_bind (wpAny_bind (wpAny_loadPart hx ?_))))
  obtain ⟨oc, odi, oda, osl⟩ := ox
  dsimp only at hc hd hdt
  subst hc hd hdt
  refine wpAny_bind ((PySem.W.looks_clsIn X hk).here ?_)
  rw [hh]
  have hx1 : (s.heap.push { cls := .type "dict", data := .dict #[] }).get? x = some ⟨.ref C, none, .fields vs, osl⟩ := Heap.get?_push_of_some _ hx
  have hxs : x ≠ s.heap.objs.size := Nat.ne_of_lt (Heap.lt_size hx)
  refine wpAny_bind (wpAny_alloc' ?_)
  refine wpAny_bind (wpAny_update' hx1 ?_)
  refine wpAny_pure (wpAny_bind (wpAny_pure ?_))
  have e1 : ((s.heap.push { cls := .type "dict", data := .dict #[] }).update x fun o => { cls := o.cls, dict := some s.heap.objs.size, data := o.data, slots := o.slots }).get? s.heap.objs.size = some { cls := .type "dict", data := .dict #[] } :=
    (Heap.get?_update_ne _ _ _ _ hxs.symm).trans (Heap.get?_push_at rfl rfl)
  have e2 : ((s.heap.push { cls := .type "dict", data := .dict #[] }).update x fun o => { cls := o.cls, dict := some s.heap.objs.size, data := o.data, slots := o.slots }).get? x = some ⟨.ref C, some s.heap.objs.size, .fields vs, osl⟩ := Heap.get?_update_self _ hx1 rfl
  have e3 : ∀ b o, b ≠ x → s.heap.get? b = some o → ((s.heap.push { cls := .type "dict", data := .dict #[] }).update x fun o => { cls := o.cls, dict := some s.heap.objs.size, data := o.data, slots := o.slots }).get? b = some o := fun b o hb e => (Heap.get?_update_ne _ _ _ _ hb).trans (Heap.get?_push_of_some _ e)
  generalize ((s.heap.push { cls := .type "dict", data := .dict #[] }).update x fun o => { cls := o.cls, dict := some s.heap.objs.size, data := o.data, slots := o.slots }) = h1 at e1 e2 e3 ⊢
  have n0 : h1.Ns s.heap.objs.size (fun _ => none) := ⟨_, #[], _, e1, rfl, fun e he => absurd he (by simp), fun _ => rfl⟩
  refine wpAny_bind (wpAny_nsSet1 (s := { s with heap := h1 }) (Heap.Ns1.of_empty n0) fun h' hn' hs => ?_)
  obtain ⟨oD, esD, epD, hoD, hdD, hcD⟩ := hn'.count (PySem.Within.cons name v PySem.Within.nil)
  refine wpAny_bind (wpAny_lookBehind hoD (by rw [hdD]; exact pastItsLine_dict (Nat.le_trans hcD (by rw [List.length_cons, List.length_nil, sizeLine_eq]; omega))) ?_)
  exact wpAny_pure (h h' _ oD hn' ((hs.2 x hxs).trans e2) hoD fun b o hb e => (hs.2 b (Nat.ne_of_lt (Heap.lt_size e))).trans (e3 b o hb e))
/-! a later store -/
theorem store_next {Q : Fin → Shared → Prop} {b : Bool} {dx : Addr} {mA : Str → Option Value} {ns : List Str} (X : K.In s.heap) (G : Est K C) (hx : s.heap.get? x = some ox) (hc : ox.cls = .ref C) (hd : ox.dict = some dx) (hn : s.heap.Ns1 dx mA) (hw : PySem.Within mA ns) (hsz : ns.length ≤ 1000)
    (h : ∀ h' tk', h'.Ns1 dx (fun y => if y = name then some v else mA y) → Heap.SameBut dx s.heap h' → Q (.done (.ret .none)) { s with heap := h', toks := tk' }) :
    wpAny (model prog w) A (storeInOwnDict (.ref x) (.ref C) (.str name tk) name v b) Q E s := by
  obtain ⟨k, a, b', hk, hh, hm⟩ := G.cd
  refine wpAny_bind (wpAny_pure (wpAny_bind (wpAny_bind (wpAny_loadPart hx ?_))))
  obtain ⟨oc, odi, oda, osl⟩ := ox
  dsimp only at hc hd
  subst hc hd
  refine wpAny_bind ((PySem.W.looks_clsIn X hk).here ?_)
  rw [hh]
  refine wpAny_pure (a := some dx) (wpAny_bind (wpAny_pure (wpAny_bind ?_)))
  refine wpAny_nsSet1 hn fun h' hn' hs => ?_
  obtain ⟨oD, esD, epD, hoD, hdD, hcD⟩ := hn'.count (PySem.Within.cons name v hw)
  refine wpAny_bind (wpAny_lookBehind hoD (by rw [hdD]; exact pastItsLine_dict (Nat.le_trans hcD (by rw [List.length_cons, sizeLine_eq]; omega))) ?_)
  exact wpAny_pure (h h' _ hn' hs)
end
/-! ### the statement o.f = e, o an exception that was made and not yet raised -/
theorem relO_put {fs : List (Str × V)} {mA : Str → Option Value} {f : Str} {y : V} {u : Value} (r : ∀ f, RelO (fs.lookup f) (mA f)) (ry : RelV y u) : ∀ g, RelO ((putF f y fs).lookup g) (if g = f then some u else mA g) := fun g => by
  rw [lookup_putF]
  by_cases hg : g = f
  · rw [if_pos hg, if_pos hg]; exact ry
  · rw [if_neg hg, if_neg hg]; exact r g
def sXfld (K : PySem.W.Frag) (ta tv : TE) (f : Str) : TS := fun D σ H => tv σ H fun y H1 => ta σ H1 fun x H2 => ∃ e C, x = .ref e ∧ Est K C ∧ PySem.W.takerIn K C f = some none ∧
  ((H2 e = some (excN e C none) ∧ ∀ d, H2 d = none → d ≠ e → D.nx σ (upd (upd H2 d (xdO d [(f, y)])) e (excN e C (some d)))) ∨
   (∃ dx fs, H2 e = some (excN e C (some dx)) ∧ H2 dx = some (xdO dx fs) ∧ dx ≠ e ∧ fs.length ≤ 100 ∧ D.nx σ (upd H2 dx (xdO dx (putF f y fs)))))
theorem ps_xfld {X : Cx} {o value : Expr} {f : Str} {pos pos' : Pos} {ta tv : TE} (ha : PE X o ta) (hv : PE X value tv) (hs : swapsWith value (some (.Attribute o f pos')) pos.line X.env = pure false := by rfl) : PS X (.Assign [.Attribute o f pos'] value pos) (sXfld X.K ta tv f) := by
  intro pins s σ H D I h
  refine plainObj_wpAny_Assign_Attribute (thn (hv pins s σ H _ I h) fun u s1 ⟨y, H1, I1, ry, q⟩ => thn (ha pins s1 σ H1 _ I1 q) fun ov s2 ⟨x, H2, I2, rx, e, C, ex, G, ht, hcase⟩ => ?_) hs
  subst ex
  obtain rfl : ov = Value.ref e := rx
  rcases hcase with ⟨he, q⟩ | ⟨dx, fs, he, hdx, hne, hl, q⟩
  · obtain ⟨⟨oe, vs, ho, hc, hd, hdt, h1⟩, _, _⟩ := I2.hok e _ he
    have IA : PySem.W.InstAt s2.heap e oe C none := ⟨ho, hc, by unfold PySem.W.notCls; rw [hdt], by rw [hd]; trivial⟩
    refine PySem.W.set_plain I2.kIn IA G.sa (esa_open (s := { s2 with toks := s2.toks + 1 }) I2.kIn IA G ht fun b => ?_)
    refine store_first (s := { s2 with toks := s2.toks + 1 }) I2.kIn G ho hc hd hdt fun h' tk' od' hns hx' hod kp => ?_
    have nd : H2 s2.heap.objs.size = none := I2.hok.fresh (Nat.le_refl _)
    have dne : s2.heap.objs.size ≠ e := Nat.ne_of_gt (Heap.lt_size ho)
    have e1 : (h'.update e fun _ => oe).get? e = some oe := Heap.get?_update_self _ hx' (Heap.get?_some_iff.mp ho).2
    have e2 : ∀ b, b ≠ e → (h'.update e fun _ => oe).get? b = h'.get? b := fun b hb => Heap.get?_update_other _ _ (Ne.symm hb)
    have I3 : Inv X pins σ (upd H2 s2.heap.objs.size (xdO s2.heap.objs.size [(f, y)])) { s2 with heap := h'.update e fun _ => oe, toks := tk' } := I2.laid (fun b v eb => by
        by_cases hb : b = e
        · subst hb
          rw [ho] at eb
          cases eb
          exact e1
        · exact (e2 b hb).trans (kp b v hb eb)) (Nat.le_refl _) (by
        have hns' : (h'.update e fun _ => oe).Ns1 s2.heap.objs.size (fun z => if z = f then some u else none) := ns1_stay hns fun o eo => (e2 _ dne).trans eo
        refine ⟨⟨_, hns', fun g => ?_, fun g hg => ?_⟩, ns1_obj hns', fun g1 g2 ⟨mA, z1, z2, z3⟩ k => ⟨mA, ns1_stay z1 k, z2, z3⟩⟩
        · show RelO (List.lookup g [(f, y)]) (if g = f then some u else none)
          by_cases hg : g = f
          · rw [if_pos hg, hg]
            show RelO (List.lookup f [(f, y)]) _
            rw [List.lookup_cons, beq_self_eq_true]
            exact ry
          · rw [if_neg hg]
            have : (g == f) = false := by simpa using hg
            rw [List.lookup_cons, this]
            trivial
        · by_cases hgf : g = f
          · rw [hgf]; exact List.mem_cons_self
          · exact absurd (if_neg hgf) hg)
    have I4 : Inv X pins σ (upd (upd H2 s2.heap.objs.size (xdO s2.heap.objs.size [(f, y)])) e (excN e C (some s2.heap.objs.size))) { s2 with heap := h', toks := tk' } :=
      I3.write (x := e) (e := e) (by rw [upd_ne (Ne.symm dne), he]; trivial) (.inl rfl) (fun b v hb eb => (e2 b hb).symm.trans eb) ⟨_, hx'⟩ ⟨⟨_, vs, hx', hc, rfl, hdt, h1⟩, ⟨_, hx'⟩, excN_stay⟩
    exact ⟨σ, _, I4, q _ nd dne⟩
  · obtain ⟨⟨oe, vs, ho, hc, hd, hdt, h1⟩, _, _⟩ := I2.hok e _ he
    obtain ⟨⟨mA, hn, hr, hw⟩, ⟨obd, hobd⟩, _⟩ := I2.hok dx _ hdx
    have IA : PySem.W.InstAt s2.heap e oe C (some obd) := ⟨ho, hc, by unfold PySem.W.notCls; rw [hdt], by rw [hd]; exact hobd⟩
    refine PySem.W.set_plain I2.kIn IA G.sa (esa_open (s := { s2 with toks := s2.toks + 1 }) I2.kIn IA G ht fun b => ?_)
    refine store_next (s := { s2 with toks := s2.toks + 1 }) I2.kIn G ho hc hd hn hw (by rw [List.length_map]; omega) fun h' tk' hns hsb => ?_
    have I4 : Inv X pins σ (upd H2 dx (xdO dx (putF f y fs))) { s2 with heap := h', toks := tk' } :=
      I2.write (x := dx) (e := dx) (by rw [hdx]; trivial) (.inl rfl) (fun b v hb eb => (hsb.2 b hb).trans eb) (ns1_obj hns) ⟨⟨_, hns, relO_put hr ry, fun g hg => by
        by_cases hgf : g = f
        · rw [hgf]; exact (keys_putF f y fs).1
        · refine (keys_putF f y fs).2 g (hw g fun z => hg ?_)
          show (if g = f then some u else mA g) = none
          rw [if_neg hgf]; exact z⟩, ns1_obj hns, fun g1 g2 ⟨mA, z1, z2, z3⟩ k => ⟨mA, ns1_stay z1 k, z2, z3⟩⟩
    exact ⟨σ, _, I4, q⟩
end L2
set_option Elab.async false
set_option linter.all false
set_option maxRecDepth 100000
namespace L2
open PySem PySem.Spec PyProof.Rows
theorem Inv.nfs {X : Cx} {pins : List (Addr × Obj)} {σ : St} {H : Hp} {s : Shared} {b : Addr} (I : Inv X pins σ H s) (ob : Off X pins b) : b ∉ X.fs := fun z => by
  obtain ⟨_, o, ho, _⟩ := I.ok.funs.mem z
  exact I.ok.exfs b (ob.1 o ho) z
/-! an exception just made, tracked -/
theorem Inv.newExc {X : Cx} {pins : List (Addr × Obj)} {σ : St} {H : Hp} {s : Shared} {h' : Heap} {ea C : Addr} {us : List Value} {t' : Nat} (I : Inv X pins σ H s) (me : Heap.MadeExcOf s.heap h' ea (.ref C) us) : Inv X pins σ (upd H ea (excN ea C none)) { s with heap := h', toks := t' } := by
  obtain ⟨t, ht, _, _⟩ := me.there
  have ob := I.off me.new
  exact (I.kept (h' := h') (t' := t') me.keeps).track ob (I.hok.none_of me.new) ⟨_, _, ht, rfl, rfl, rfl, rfl⟩ ⟨_, ht⟩ excN_stay (I.nfs ob)
/-! C(..), no __init__ of its own -/
def tMakeP (C : Addr) (ta : TA) : TE := fun σ H Q => ta σ H fun vs H1 => vs.length ≤ 1000 ∧ ∀ ea, H1 ea = none → Q (.ref ea) (upd H1 ea (excN ea C none))
/-! C(..), with an __init__ of its own: its promise at the new exception -/
def tMakeI (C : Addr) (sp : Sp) (ta : TA) : TE := fun σ H Q => ta σ H fun vs H1 => vs.length ≤ 1000 ∧ ∀ ea, H1 ea = none → sp (.ref ea :: vs) (upd H1 ea (excN ea C none)) (fun v H2 => v = .non ∧ Q (.ref ea) H2) E0
theorem run_init {X : Cx} {C fI : Addr} {k : Nat} {fd : FuncData} {ps : List Str} {sp : Sp} {pins : List (Addr × Obj)} {σ : St} {H : Hp} {s : Shared} {QQ : Value → Shared → Prop} {EE : Value → Shared → Prop} {us : List Value} {vs : List V} {Q : Addr → VK} (hcl : Eci X.K C fI) (F : FnOk X.prog X.w X.K X.mg X.base CX0 k fI fd ps sp) (hr : Room (k + 1) X.A) (hb : Binds X.K fd ps [])
    (I : Inv X pins σ H s) (r : Vals vs us) (hl : vs.length ≤ 1000) (h : ∀ ea, H ea = none → sp (.ref ea :: vs) (upd H ea (excN ea C none)) (Q ea) E0)
    (fin : ∀ ea h' s' u, Heap.MadeExcOf s.heap h' ea (.ref C) us → CE X.stack X.prog X.w (upd H ea (excN ea C none)) { s with heap := h' } (Q ea) u s' → u = .none ∧ QQ (.ref ea) s') :
    wpAny (model X.prog X.w) X.A (call (.ref C) us) QQ EE s := by
  obtain ⟨bm, N, nm, qq, bs, sn, sub, ab, col, dd, k0, k1, k2, k3, k5, mN, oI, hC, hN, hi, T, hfI, hfc⟩ := hcl.obj I.kIn
  obtain ⟨hp, g, d, t, os⟩ := s
  refine call_init T hC hN hi hfI hfc (fun h' ea me => ?_) (by rw [← r.length]; exact small hl)
  have I2 : Inv X pins σ (upd H ea (excN ea C none)) ⟨h', g, d, t, os⟩ := I.newExc (t' := t) me
  have hq := h ea (I.hok.none_of me.new)
  have r2 : Vals (V.ref ea :: vs) (Value.ref ea :: us) := .cons rfl r
  have hl2 : (Value.ref ea :: us).length = ps.length := by
    have e := r2.length
    rw [F.len _ _ _ _ hq] at e
    exact e.symm
  have hb' := hb ⟨h', g, d, t, os⟩ (Value.ref ea :: us) I2.kIn (by rw [List.append_nil]; exact hl2)
  rw [List.append_nil] at hb'
  refine wpAny_call (codeAny_mono (F.run _ X.stack _ _ ⟨Value.ref ea :: us, []⟩ (Value.ref ea :: us) _ _ E0 (hr.make C us []) (I2.env0.make C us []) hb' r2 hq) fun rr s' hq' => ?_)
  cases rr with
  | error e => exact False.elim hq'
  | ok fl =>
    cases fl with
    | ret u => exact fin ea h' s' u me hq'
    | next => exact False.elim hq'
    | brk => exact False.elim hq'
    | cont => exact False.elim hq'
end L2
set_option Elab.async false
set_option linter.all false
set_option maxRecDepth 100000
namespace L2
open PySem PySem.Spec PyProof.Rows
/-! ### what an exception that was made keeps, and what it is -/
theorem exc_get {K : PySem.W.Frag} {prog : Program} {w : World} {A : Around} {E : Value → Shared → Prop} {s : Shared} {x C : Addr} {ox : Obj} {od : Option Obj} {name : Str} {expr : Bool} {v : Value} {Q : Value → Shared → Prop} (X : K.In s.heap) (I : PySem.W.InstAt s.heap x ox C od) (G : Ek K C)
    (hf : PySem.W.findObj K C od name = some (.value v)) (hv : PySem.W.handedIn v = true) (h : Q v { s with toks := s.toks + 1 }) : wpAny (model prog w) A (getAttr (.ref x) name expr) Q E s := by
  obtain ⟨hp, g, d, t, os⟩ := s
  have L0 := I.type (M := model prog w)
  have L1 := PySem.W.looks_find (M := model prog w) X I hf
  unfold getAttr
  refine wpAny_bind (wpAny_mkText ?_)
  refine exc_by (s := ⟨hp, g, d, t + 1, os⟩) X I G ?_
  unfold Builtin.«object.__getattribute__»
  repeat (first | with_reducible refine PySem.W.Looks.at (by assumption) ?_ | wp_step)
  exact ⟨hv, h⟩
def tXget (K : PySem.W.Frag) (ta : TE) (f : Str) : TE := fun σ H Q => ta σ H fun x H1 => ∃ e C dx fs v, x = .ref e ∧ H1 e = some (excN e C (some dx)) ∧ H1 dx = some (xdO dx fs) ∧ Ek K C ∧ Est K C ∧ NoAttr K C f ∧ fs.lookup f = some v ∧ Q v H1
def rIsiN (K : PySem.W.Frag) : List V → Hp → VK → Prop := fun xs H Q => ∃ ea C od c b, xs = [.ref ea, c] ∧ H ea = some (excN ea C od) ∧ Ek K C ∧ (od = none ∨ ∃ dx fs, od = some dx ∧ H dx = some (xdO dx fs)) ∧
  ((∃ D, c = .ref D ∧ PySem.W.kitOne K (.ref C) (.ref D) = some b) ∨ ∃ T, c = .ty T ∧ PySem.W.kitOne K (.ref C) (.type T) = some b) ∧ Q (.bl b) H
/-! the same, told by what it is -/
def Exn (H : Hp) (e C : Addr) : Prop := ∃ od, H e = some (excN e C od) ∧ (od = none ∨ ∃ dx fs, od = some dx ∧ H dx = some (xdO dx fs))
def Exf (H : Hp) (e C : Addr) (fs : List (Str × V)) : Prop := ∃ dx, H e = some (excN e C (some dx)) ∧ H dx = some (xdO dx fs)
def rIsiX (K : PySem.W.Frag) : List V → Hp → VK → Prop := fun xs H Q => ∃ ea C c b, xs = [.ref ea, c] ∧ Exn H ea C ∧ Ek K C ∧
  ((∃ D, c = .ref D ∧ PySem.W.kitOne K (.ref C) (.ref D) = some b) ∨ ∃ T, c = .ty T ∧ PySem.W.kitOne K (.ref C) (.type T) = some b) ∧ Q (.bl b) H
/-! C(..) read so -/
def tMakeQ (C : Addr) (ta : TA) : TE := fun σ H Q => ta σ H fun vs H1 => vs.length ≤ 1000 ∧ ∀ ea H2, Same H1 H2 → Exn H2 ea C → Q (.ref ea) H2
/-! the promise of an __init__ that keeps one thing, two -/
def spI1 (C : Addr) (f : Str) : Sp := fun vs H Q _ => ∃ e v, vs = [.ref e, v] ∧ H e = some (excN e C none) ∧ ∀ H', (∀ a o, a ≠ e → H a = some o → H' a = some o) → Exf H' e C [(f, v)] → Q .non H'
def spI2 (C : Addr) (f g : Str) : Sp := fun vs H Q _ => ∃ e v u, vs = [.ref e, v, u] ∧ H e = some (excN e C none) ∧ ∀ H', (∀ a o, a ≠ e → H a = some o → H' a = some o) → Exf H' e C [(f, v), (g, u)] → Q .non H'
/-! a field of it -/
def tXg (K : PySem.W.Frag) (ta : TE) (f : Str) : TE := fun σ H Q => ta σ H fun x H1 => ∃ e C fs v, x = .ref e ∧ Exf H1 e C fs ∧ Ek K C ∧ Est K C ∧ NoAttr K C f ∧ fs.lookup f = some v ∧ Q v H1
end L2
set_option Elab.async false
set_option linter.all false
set_option maxRecDepth 100000
namespace L2
open PySem PySem.Spec PyProof.Rows
/-! ### zip of two sequences, each a list or a tuple -/
def SIt : Bool → Heap → Addr → Addr → Nat → Prop
  | true, h, i, l, n => h.IsTupleIter i l n
  | false, h, i, l, n => h.IsListIter i l n
def SAt : Bool → Heap → Addr → Array Value → Prop
  | true, h, l, xs => h.IsTuple l xs
  | false, h, l, xs => h.IsList l xs
theorem SIt.at {k : Bool} {h h' : Heap} {i l : Addr} {n : Nat} (x : SIt k h i l n) (e : ∀ o, h.get? i = some o → h'.get? i = some o) : SIt k h' i l n := by
  cases k with
  | true => obtain ⟨o, ho, r⟩ := x; exact ⟨o, e o ho, r⟩
  | false => obtain ⟨o, ho, r⟩ := x; exact ⟨o, e o ho, r⟩
theorem SIt.obj {k : Bool} {h : Heap} {i l : Addr} {n : Nat} (x : SIt k h i l n) : ∃ o, h.get? i = some o ∧ ∀ v, o.data ≠ .cell v := by
  cases k with
  | true => obtain ⟨o, ho, _, d⟩ := x; exact ⟨o, ho, fun v z => by rw [d] at z; cases z⟩
  | false => obtain ⟨o, ho, _, d⟩ := x; exact ⟨o, ho, fun v z => by rw [d] at z; cases z⟩
section
variable {prog : Program} {w : World} {A : Around} {E : Value → Shared → Prop} {s : Shared} {k : Bool} {it l : Addr} {i : Nat} {xs : Array Value} {x : Value} {Q : Value → Shared → Prop}
theorem nextS (hit : SIt k s.heap it l i) (hl : SAt k s.heap l xs) (hx : xs[i]? = some x) (hQ : ∀ h', SIt k h' it l (i + 1) → Heap.SameBut it s.heap h' → Q x { s with heap := h' }) :
    wpAny (model prog w) A (Builtin.SmallTypes.nextOf (.ref it)) Q E s := by
  cases k with
  | false => exact wpAny_nextOf_list_item hit hl hx hQ
  | true =>
    have hit' : s.heap.IsTupleIter it l i := hit
    obtain ⟨o, ho, hc, hd⟩ := id hit'
    obtain ⟨ol, hol, _, nl, hdl⟩ := hl
    unfold Builtin.SmallTypes.nextOf
    refine wpAny_bind (wpAny_callSpecial?_slot (name := Str.ofString "__next__") hit'.typeIs F.slot_tuple_iterator_next (wpAny_call_entry F.slot_tuple_iterator_next hit'.typeIs F.entry_tuple_iterator_next ?_ (F.args_tuple_iterator_next_1 _)))
    show wpAny _ _ (field (.ref it) 0 >>= _) _ _ s
    refine wpAny_bind (wpAny_field ho hd (x := .ref l) rfl ?_)
    show wpAny _ _ (if (Value.ref l == Value.none) = true then _ else _) _ _ s
    rw [if_neg (show ¬ ((Value.ref l == Value.none) = true) from Bool.false_ne_true)]
    show wpAny _ _ (field (.ref it) 1 >>= _) _ _ s
    refine wpAny_bind (wpAny_field ho hd (x := .int i 0) rfl (show wpAny _ _ (seqItems? (.ref l) >>= _) _ _ s from wpAny_bind (wpAny_seqItems hol hdl ?_)))
    simp only [Int.toNat_natCast, hx]
    refine wpAny_bind (wpAny_setField ho hd (by simp) (wpAny_pure ⟨x, rfl, wpAny_pure (hQ _ ?_ (Heap.SameBut.update ..))⟩))
    exact ⟨_, Heap.get?_update_self _ ho (Obj.isFreed_of_fields (Obj.data_mapFields hd _)), (Obj.cls_mapFields ..).trans hc, by rw [Obj.data_mapFields hd]; simp [rawInt]⟩
theorem endS (hh : A.handled = none) (hit : SIt k s.heap it l i) (hl : SAt k s.heap l xs) (hx : xs[i]? = none) (hE : ∀ h' e, Heap.ExtBut it s.heap h' → (∃ o, h'.get? e = some o ∧ o.cls = .type "StopIteration") → E (.ref e) { s with heap := h' }) :
    wpAny (model prog w) A (Builtin.SmallTypes.nextOf (.ref it)) Q E s := by
  cases k with
  | false => exact wpAny_nextOf_list_end hh hit hl hx hE
  | true =>
    have hit' : s.heap.IsTupleIter it l i := hit
    obtain ⟨o, ho, hc, hd⟩ := id hit'
    obtain ⟨ol, hol, _, nl, hdl⟩ := hl
    unfold Builtin.SmallTypes.nextOf
    refine wpAny_bind (wpAny_callSpecial?_slot (name := Str.ofString "__next__") hit'.typeIs F.slot_tuple_iterator_next (wpAny_call_entry F.slot_tuple_iterator_next hit'.typeIs F.entry_tuple_iterator_next ?_ (F.args_tuple_iterator_next_1 _)))
    show wpAny _ _ (field (.ref it) 0 >>= _) _ _ s
    refine wpAny_bind (wpAny_field ho hd (x := .ref l) rfl ?_)
    show wpAny _ _ (if (Value.ref l == Value.none) = true then _ else _) _ _ s
    rw [if_neg (show ¬ ((Value.ref l == Value.none) = true) from Bool.false_ne_true)]
    show wpAny _ _ (field (.ref it) 1 >>= _) _ _ s
    refine wpAny_bind (wpAny_field ho hd (x := .int i 0) rfl (show wpAny _ _ (seqItems? (.ref l) >>= _) _ _ s from wpAny_bind (wpAny_seqItems hol hdl ?_)))
    simp only [Int.toNat_natCast, hx]
    refine wpAny_bind (wpAny_rule (wpAny_bind (wpAny_setField ho hd (by simp) ?_)))
    show wpAny _ _ (newExc (.type "StopIteration") [] >>= _) _ _ _
    refine wpAny_bind ?_
    simp only [newExc, newTuple]
    refine wpAny_bind (wpAny_newObj_type ?_ (by size_fits))
    refine wpAny_bind (m := firstArgMember _ _) (wpAny_of_eq (a := Value.none) (by first | rfl | (simp only [firstArgMember]; rfl)) ?_)
    refine wpAny_newObj_type ?_ (by size_fits)
    simp only [raiseNew]
    refine wpAny_bind (wpAny_handled ?_)
    rw [show A.in1.handled = none from hh]
    refine wpAny_bind (wpAny_pure (wpAny_throw ?_))
    exact hE _ _ (((Heap.SameBut.update ..).extBut.push _).push _) ⟨_, Heap.get?_push_size _ rfl, rfl⟩
end
/-! the zip itself: z its object, TI its iterators, TO its own pair -/
structure ZAt (ka kb : Bool) (z TI TO i1 i2 l1 l2 : Addr) (n : Nat) (h : Heap) : Prop where
  zp : IsZip h z TI TO .none
  ti : IsPair h TI (.ref i1) (.ref i2)
  to_ : ∃ a b, IsPair h TO a b
  a1 : SIt ka h i1 l1 n
  a2 : SIt kb h i2 l2 n
section
variable {prog : Program} {w : World} {A : Around} {E : Value → Shared → Prop} {s : Shared} {ka kb : Bool} {z TI TO i1 i2 l1 l2 : Addr} {n : Nat} {xs ys : Array Value} {x y : Value}
end
end L2
set_option Elab.async false
set_option linter.all false
set_option maxRecDepth 100000
namespace L2
open PySem PySem.Spec PyProof.Rows
def SqK (K : PySem.W.Frag) : Bool → Hp → Addr → List V → Prop
  | true, H, a, xs => SqT K H a xs
  | false, H, a, xs => SqL K H a xs
theorem seqK {X : Cx} {pins : List (Addr × Obj)} {σ : St} {H : Hp} {s : Shared} {k : Bool} {a : Addr} {xs : List V} (I : Inv X pins σ H s) (h : SqK X.K k H a xs) : ∃ us, Vals xs us ∧ SAt k s.heap a us.toArray := by
  cases k with
  | true =>
    obtain ⟨its, rv, p, hz⟩ := I.tuple h
    exact ⟨its, rv, p⟩
  | false =>
    obtain ⟨its, rv, p, hz⟩ := I.list h
    exact ⟨its, rv, p.isList⟩
theorem seqK_inj {X : Cx} {pins : List (Addr × Obj)} {σ : St} {H : Hp} {s : Shared} {k : Bool} {a : Addr} {xs ys : List V} (I : Inv X pins σ H s) (h : SqK X.K k H a xs) (h2 : SqK X.K k H a ys) : xs = ys := by
  cases k with
  | true => exact I.tuple_inj h h2
  | false => exact I.list_inj h h2
theorem Inv.turnedL {X : Cx} {pins : List (Addr × Obj)} {σ : St} {H : Hp} {s : Shared} {h' : Heap} {t' : Nat} {L : List Addr} (I : Inv X pins σ H s) (k : ∀ b o, b ∉ L → s.heap.get? b = some o → h'.get? b = some o) (hf : ∀ b ∈ L, FpOk X pins H b) : Inv X pins σ H { s with heap := h', toks := t' } := by
  have nit : ∀ b u, H b = some u → b ∉ L := fun b u e z => by rw [(hf b z).1] at e; cases e
  have nl : X.env.locals ∉ L := fun z => (hf _ z).2.1 rfl
  refine I.step (g' := s.gens) (d' := s.drawn) (ch := L) (fun b hb => ?_) (fun b o _ _ hc e _ => k b o hc e) (fun b o _ _ hc e _ => ⟨o.slots, k b o hc e⟩) (fun _ _ _ _ n => n)
    (fun b o hc e => ⟨o, k b o hc e⟩) (fun _ _ e => e) (fun _ _ _ e => e) (fun b ps e => ⟨#[], by rw [e]; simp⟩) (fun m hm => ?_) (fun b u e => ?_) I.bare
  · obtain ⟨f0, f1, f2, f3, f4, f5⟩ := hf b hb
    exact ⟨f3, f1, f4, f5⟩
  · obtain ⟨o, es, ep, ho, r⟩ := hm
    exact ⟨o, es, ep, k _ o nl ho, r⟩
  · refine (I.hok b u e).stay (fun c v hc q => k c v ?_ q) (fun _ q => q) fun _ _ q => q
    rcases hc with z | z
    · rw [z]; exact nit b u e
    · exact nit c _ z
/-! what zip(a, b) walks: at each turn a new pair -/
def Itz (K : PySem.W.Frag) (ka kb : Bool) (a b : Addr) : It :=
  ⟨fun i H => ∃ xs ys x y, SqK K ka H a xs ∧ SqK K kb H b ys ∧ xs[i]? = some x ∧ ys[i]? = some y,
   fun i H v H' => ∃ p x y, v = .ref p ∧ H p = none ∧ (∀ xs, SqK K ka H a xs → xs[i]? = some x) ∧ (∀ ys, SqK K kb H b ys → ys[i]? = some y) ∧ H' = upd H p (.tup [x, y]),
   fun i H => ∃ xs ys, SqK K ka H a xs ∧ SqK K kb H b ys ∧ (xs.length ≤ i ∨ ys.length ≤ i)⟩
end L2
set_option Elab.async false
set_option linter.all false
set_option maxRecDepth 100000
namespace L2
open PySem PySem.Spec PyProof.Rows
/-! ### zip(a, b) made and walked -/
def itO (k : Bool) (l : Addr) : Obj := match k with
  | true => { cls := .type "tuple_iterator", data := .fields #[.ref l, .int 0 0] }
  | false => { cls := .type "list_iterator", data := .fields #[.ref l, .int 0 0] }
theorem itO_free {k : Bool} {l : Addr} : (itO k l).isFreed = false := by cases k <;> rfl
theorem SIt.new {k : Bool} {l i : Addr} {h : Heap} (e : h.get? i = some (itO k l)) : SIt k h i l 0 := by
  cases k with
  | true => exact ⟨_, e, rfl, rfl⟩
  | false => exact ⟨_, e, rfl, rfl⟩
def zip5 (h : Heap) (ka kb : Bool) (l1 l2 : Addr) : Heap := ((((h.push (itO ka l1)).push (itO kb l2)).push { cls := .type "tuple", data := .seq #[.ref h.objs.size, .ref (h.push (itO ka l1)).objs.size] }).push { cls := .type "tuple", data := .seq #[.none, .none] }).push
  { cls := .type "zip", data := .fields #[.none, .bool false, .bool false, .ref ((h.push (itO ka l1)).push (itO kb l2)).objs.size, .ref (((h.push (itO ka l1)).push (itO kb l2)).push { cls := .type "tuple", data := .seq #[.ref h.objs.size, .ref (h.push (itO ka l1)).objs.size] }).objs.size] }
def iZip (K : PySem.W.Frag) (ka kb : Bool) (ta : TA) : TI := fun σ H R => ta σ H fun vs H1 => ∃ a b xs ys, vs = [.ref a, .ref b] ∧ SqK K ka H1 a xs ∧ SqK K kb H1 b ys ∧ R (Itz K ka kb a b) H1
/-! the for over it -/
end L2
set_option Elab.async false
set_option linter.all false
set_option maxRecDepth 100000
namespace L2
open PySem PySem.Spec PyProof.Rows
/-! ### an exception that leaves a comprehension's block -/
section
variable {M : Model} {A : Around} {E : Value → Shared → Prop} {s : Shared} {env : Env} {outer : List Env} {base : Heap} {L e T : Addr} {cls fl : Value} {od : Option Addr} {Q : Unit → Shared → Prop}
/-! its flight set, whatever to -/
end
/-! an exception with a traceback, whatever its flight: what the context does with it -/
def PassesI (X : Cx) (E : XK) : Prop := ∀ (pins : List (Addr × Obj)) (σ : St) (H : Hp) (s : Shared) (ea T : Addr) (cls fl : Value) (od : Option Addr), Inv X pins σ H s → ExcAt s.heap ea cls od (.ref T) → TbAt s.heap T fl → T ≠ ea →
  (∀ b ∈ [T, ea], Off X pins b ∧ H b = none) → E cls od H → X.xe (.ref ea) s
section
variable {P : Program} {w : World} {K : PySem.W.Frag} {mg : Str → Option Value} {base : Heap} {N : List Str} {qual : Str} {scope : Scope} {f : Addr} {cd : Value} {A : Around} {outer : List Env} {s₀ : Shared} {H₀ : Hp} {E : XK}
end
end L2
set_option Elab.async false
set_option linter.all false
set_option maxRecDepth 100000
namespace L2
open PySem PySem.Spec PyProof.Rows
/-! ### [e for x, y in zip(a, b) if c] -/
def turnZ (tc : TT) (te : TE) (σ : St) (d : Addr) (x y : V) (H : Hp) (Z : Hp → Prop) : Prop :=
  tc (some x :: some y :: σ) H fun b H3 => if b = true then te (some x :: some y :: σ) H3 fun v H4 => ∃ ys, H4 d = some (.lst ys) ∧ ys.length < sizeLine ∧ Z (upd H4 d (.lst (ys ++ [v]))) else Z H3
def tCompZ (K : PySem.W.Frag) (ka kb : Bool) (ta : TA) (tc : TT) (te : TE) : TE := fun σ H Q => ta σ H fun vs H1 => ∃ a b xs ys, vs = [.ref a, .ref b] ∧ SqK K ka H1 a xs ∧ SqK K kb H1 b ys ∧ xs.length = ys.length ∧ ∀ d, H1 d = none →
  ∃ Pv : Nat → Hp → Prop, Pv 0 (upd H1 d (.lst [])) ∧ (∀ i H, i ≤ xs.length → Pv i H → SqK K ka H a xs ∧ SqK K kb H b ys) ∧ (∀ i x y p H, xs[i]? = some x → ys[i]? = some y → Pv i H → H p = none → turnZ tc te σ d x y (upd H p (.tup [x, y])) (Pv (i + 1))) ∧ ∀ H, Pv xs.length H → Q (.ref d) H
def gPair (K : PySem.W.Frag) : TG := gTup K 2 (gCons (gName 0) (gCons (gName 1) gNil))
theorem gPair_two {K : PySem.W.Frag} {v : V} {σ : St} {H : Hp} {Q : St → Hp → Prop} (h : gPair K v (List.replicate 2 none ++ σ) H Q) : gPair K v (List.replicate 2 none ++ σ) H fun σ2 H2 => (∃ l : St, l.length = 2 ∧ σ2 = l ++ σ) ∧ Q σ2 H2 := by
  obtain ⟨a, xs, e, hq, hl, v1, r1, e1, v2, r2, e2, e3, q⟩ := h
  exact ⟨a, xs, e, hq, hl, v1, r1, e1, v2, r2, e2, e3, ⟨[some v1, some v2], rfl, rfl⟩, q⟩
end L2
set_option Elab.async false
set_option linter.all false
set_option maxRecDepth 100000
namespace L2
open PySem PySem.Spec PyProof.Rows
/-! ### raise C(..), with an __init__ of its own -/
def untr (H : Hp) (e : Addr) : Hp := fun b => if b = e then none else H b
theorem untr_ne {H : Hp} {e b : Addr} (h : b ≠ e) : untr H e b = H b := by unfold untr; rw [if_neg h]
theorem untr_self {H : Hp} {e : Addr} : untr H e e = none := by unfold untr; rw [if_pos rfl]
theorem raise_any {M : Model} {A : Around} {E : Value → Shared → Prop} {K : PySem.W.Frag} {env : Env} {s : Shared} {x : Sem Value} {Q : Flow → Shared → Prop} (hh : A.handled = none)
    (h : wpAny M A x (fun v s₁ => ∃ e C oe vs, v = .ref e ∧ K.In s₁.heap ∧ Hcl K C ∧ s₁.heap.get? e = some oe ∧ oe.cls = .ref C ∧ oe.data = .fields vs ∧ vs[1]? = some .none ∧ E (.ref e) s₁) E s) :
    wpAny M A (raiseStmt env (some x) none) Q E s := by
  unfold raiseStmt
  refine wpAny_bind (wpAny_mono h (fun v s₁ h₁ => ?_) fun _ _ z => z)
  obtain ⟨e, C, oe, vs, rfl, X, hC, he, hc, hd, h1, hE⟩ := h₁
  obtain ⟨hp, g, d, tk, os⟩ := s₁
  have L1 : PySem.W.Looks M hp (typeOf (.ref e)) (.ref C) := hc ▸ (PySem.W.Looks.ld he).andThen .now
  have L2 : PySem.W.Looks M hp (isSubtype (.ref C) (.type "BaseException")) true := PySem.W.looks_subIn X hC.be
  have L3 : PySem.W.Looks M hp (typeOf (.ref C)) (.type "type") := PySem.W.looks_typeIn X hC.ty
  have L4 : PySem.W.Looks M hp (isType (.ref e)) false := by
    unfold isType
    intro A' Q' E' s' k q
    unfold loadHead
    refine wpAny_bind (wpAny_loadPart (k _ _ he) (wpAny_pure ?_))
    show Q' (match oe.data with | .cls _ => true | _ => false) s'
    rw [hd]
    exact q
  unfold excFromValue isExcClass raisedInstance setFlight
  repeat (first | with_reducible refine PySem.W.Looks.at (by assumption) ?_ | with_reducible refine wpAny_field he hd h1 ?_ | with_reducible refine wpAny_raiseNew_none hh hE | wp_step)
def tRaiseI (C : Addr) (sp : Sp) (E : XK) (ta : TA) : TS := fun _ σ H => ta σ H fun vs H1 => vs.length ≤ 1000 ∧ ∀ ea, H1 ea = none → sp (.ref ea :: vs) (upd H1 ea (excN ea C none)) (fun v H2 => v = .non ∧ ∃ od, H2 ea = some (excN ea C od) ∧ E (.ref C) od (untr H2 ea)) E0
theorem HOk.untr {P : Program} {w : World} {H : Hp} {h : Heap} {ea C : Addr} {od : Option Addr} (x : HOk P w H h) (e : H ea = some (excN ea C od)) : HOk P w (untr H ea) h := fun b u hb => by
  have ne : b ≠ ea := fun z => by rw [z, untr_self] at hb; cases hb
  rw [untr_ne ne] at hb
  refine (x b u hb).stay (fun _ _ _ q => q) (fun c q => ?_) fun c xs q => ?_
  · rw [untr_ne (fun z => by rw [z, e] at q; cases q)]; exact q
  · rw [untr_ne (fun z => by rw [z, e] at q; cases q)]; exact q
theorem ps_raiseI {X : Cx} {E : XK} {x : Str} {C fI : Addr} {k : Nat} {fd : FuncData} {ps : List Str} {sp : Sp} {np cpos pos : Pos} {e : Expr} {es : List Expr} {ta : TA} (hx : Passes (CXF X.prog X.w) X E) (hc : X.calm = true) (hg : Gl X x) (hm : X.mg x = some (.ref C)) (hcl : Eci X.K C fI) (hH : Hcl X.K C) (hk : PySem.W.keepIn X.K (.ref C) = true)
    (F : FnOk X.prog X.w X.K X.mg X.base CX0 k fI fd ps sp) (hr : Room (k + 1) X.A) (hb : Binds X.K fd ps []) (ha : PA X (e :: es) ta)
    (hdb : (x == ("__debug__" : Str)) = false := by decide) (he : starEach (e :: es) X.env = (false, eval e X.env) :: starEach es X.env := by rfl) (hpl : (backTo cpos (starEach es X.env)).any (·.1) = false := by rfl) :
    PS X (.Raise (some (.Call (.Name x np) (e :: es) [] cpos)) none pos) (tRaiseI C sp E ta) := by
  intro pins s σ H D I h
  rw [arm_exec_Raise]
  refine wpAny_bind (wpAny_standAt ?_)
  show wpAny (model X.prog X.w) X.A (raiseStmt X.env (some (do let v ← eval (.Call (.Name x np) (e :: es) [] cpos) X.env; standAt pos; pure v)) none) _ _ _
  refine raise_any (K := X.K) (I.ok.hd hc) (wpAny_bind (wpAny_mono ?_ (fun v s' hv => wpAny_bind (wpAny_standAt (wpAny_pure hv))) fun _ _ z => z))
  refine wpAny_Call_Name_kw (ld_glob I hg hm ?_ hdb)
  refine PySem.W.callWith_K (h₀ := X.base) I.ok.mod.kin hk (thn (ha cpos pins s σ H _ I h) fun us s1 ⟨vs, H1, I1, r, hl, q⟩ => ⟨I1.kIn, ?_⟩) he hpl
  refine run_init hcl F hr hb I1 r hl q fun ea h' s' u me ce => ?_
  obtain ⟨v, H2, I3, rv, ⟨rfl, od, hE, q3⟩⟩ := (I1.newExc (t' := s1.toks) me).after ce
  obtain ⟨v', H2', os, bare, un, hok, rv', ⟨e1, od', hE', q'⟩⟩ := ce
  subst e1
  refine ⟨rv', ea, C, ?_⟩
  obtain ⟨⟨oe, ws, ho, hcl', hdd, hdt, h1⟩, _, _⟩ := hok ea _ hE'
  have kin : X.K.In s'.heap := I3.kIn
  refine ⟨oe, ws, rfl, kin, hH, ho, hcl', hdt, h1, ?_⟩
  have nea : ∀ b o, s1.heap.get? b = some o → b ≠ ea := fun b o q z => by rw [z, me.new] at q; cases q
  have nH := I1.hok.none_of me.new
  have tne : ∀ b o, H1 b = some o → b ≠ ea := fun b o q z => by rw [z, nH] at q; cases q
  refine hx pins σ H1 s1 (.ref ea) s' I1 ⟨ea, .ref C, od', [ea], untr H2' ea, rfl, os, bare, ⟨fun b o g n hb hx => ?_, fun b o g n hb hx => ?_, fun b o g n hx => ?_, fun b o g hx => ?_, fun b xs g => ?_, fun b o u g => ?_, fun b ps g => ?_⟩, HOk.untr hok hE', ?_, fun b hb => ?_, q'⟩
  · exact un.keep b o (me.keeps b o g) (by rw [upd_ne (nea b o g)]; exact n) hb hx
  · exact un.slot b o (me.keeps b o g) (by rw [upd_ne (nea b o g)]; exact n) hb hx
  · rw [untr_ne (nea b o g)]
    exact un.free b o (me.keeps b o g) (by rw [upd_ne (nea b o g)]; exact n) hx
  · exact un.there b o (me.keeps b o g) hx
  · rw [untr_ne (tne b _ g)]
    exact un.tups b xs (by rw [upd_ne (tne b _ g)]; exact g)
  · rw [untr_ne (tne b _ g)]
    exact un.frzs b o u (by rw [upd_ne (tne b _ g)]; exact g)
  · obtain ⟨more, z⟩ := un.tbls b ps (by rw [upd_ne (tne b _ g)]; exact g)
    exact ⟨more, by rw [untr_ne (tne b _ g)]; exact z⟩
  · refine ⟨List.mem_cons_self, fun b hb o ho' => ?_, .none, ⟨oe, ws, ho, hcl', hdd, hdt, h1⟩, .inl rfl⟩
    rw [List.mem_singleton.mp hb, ho] at ho'
    cases ho'
    exact ⟨ws, hdt⟩
  · rw [List.mem_singleton.mp hb]
    exact ⟨me.new, untr_self⟩
end L2
set_option Elab.async false
set_option linter.all false
set_option maxRecDepth 100000
namespace L2
open PySem PySem.Spec PyProof.Rows
/-! ### a caught exception of a class with an __init__ of its own: what it is, what it keeps -/
def Exo (H : Hp) (e C : Addr) (fs : List (Str × V)) : Prop := ∃ dx, H e = some (excO e C (some dx)) ∧ H dx = some (xdO dx fs)
theorem inst_ofO {X : Cx} {pins : List (Addr × Obj)} {σ : St} {H : Hp} {s : Shared} {ea C : Addr} {fs : List (Str × V)} (I : Inv X pins σ H s) (h : Exo H ea C fs) : ∃ (ox : Obj) (mA : Str → Option Value) (od : Obj), PySem.W.InstAt s.heap ea ox C (some od) ∧ (∀ name, PySem.W.lookIn name od = some (mA name)) ∧ ∀ f, RelO (fs.lookup f) (mA f) := by
  obtain ⟨dx, h1, h2⟩ := h
  obtain ⟨⟨oe, vs, ho, hc, hd, hdt⟩, _, _⟩ := I.hok ea _ h1
  obtain ⟨⟨mA, hn, hr, hw⟩, _, _⟩ := I.hok dx _ h2
  obtain ⟨od, hod, hl⟩ := lookIn_ns hn
  exact ⟨oe, mA, od, ⟨ho, hc, by unfold PySem.W.notCls; rw [hdt], by rw [hd]; exact hod⟩, hl, hr⟩
def rIsiO (K : PySem.W.Frag) : List V → Hp → VK → Prop := fun xs H Q => ∃ ea C fs c b, xs = [.ref ea, c] ∧ Exo H ea C fs ∧ Ek K C ∧
  ((∃ D, c = .ref D ∧ PySem.W.kitOne K (.ref C) (.ref D) = some b) ∨ ∃ T, c = .ty T ∧ PySem.W.kitOne K (.ref C) (.type T) = some b) ∧ Q (.bl b) H
theorem isiO {X : Cx} (K : PySem.W.Frag) (hK : X.K = K := by rfl) : CallR X (.builtin "isinstance") (rIsiO K) := by
  subst hK
  intro pins s σ H xs us Q I r h
  obtain ⟨ea, C, fs, c, b, rfl, he, G, hc, q⟩ := h
  obtain ⟨u, v, rfl, r1, r2⟩ := r.two
  cases r1
  obtain ⟨ox, mA, o, IA, _, _⟩ := inst_ofO I he
  rcases hc with ⟨D, rfl, e⟩ | ⟨T, rfl, e⟩
  · cases r2
    exact PySem.W.kia_one (kitx_exc G) I.kIn ⟨ox, _, IA⟩ e (fun z => nomatch z) fun tk => ⟨.bl b, H, I.tok tk, rfl, q⟩
  · cases r2
    exact PySem.W.kia_one (kitx_exc G) I.kIn ⟨ox, _, IA⟩ e (fun z => nomatch z) fun tk => ⟨.bl b, H, I.tok tk, rfl, q⟩
def tXo (K : PySem.W.Frag) (ta : TE) (f : Str) : TE := fun σ H Q => ta σ H fun x H1 => ∃ e C fs v, x = .ref e ∧ Exo H1 e C fs ∧ Ek K C ∧ Est K C ∧ NoAttr K C f ∧ fs.lookup f = some v ∧ Q v H1
theorem pe_xo {X : Cx} (K : PySem.W.Frag) {e : Expr} {f : Str} {pos : Pos} {ta : TE} (he : PE X e ta) (hb : attributeBase e f X.env (eval e X.env) = eval e X.env := by rfl) (hK : X.K = K := by rfl) : PE X (.Attribute e f pos) (tXo K ta f) := by
  subst hK
  intro pins s σ H Q I h
  refine attr_of hb (thn (he pins s σ H _ I h) fun u s1 ⟨x, H1, I1, rx, ea, C, fs, v, ex, h1, G, S, n, l, q⟩ => ?_)
  subst ex
  obtain rfl : u = Value.ref ea := rx
  obtain ⟨oe, mA, od, IA, hl, hr⟩ := inst_ofO I1 h1
  obtain ⟨u, hu, ru⟩ := RelO.some_of (v := v) (o := mA f) (by rw [← l]; exact hr f)
  have hh : PySem.W.hasDictIn X.K C = true := by
    obtain ⟨k, a, b, hk, hh, _⟩ := S.cd
    unfold PySem.W.hasDictIn
    rw [hk]
    exact hh
  exact exc_get I1.kIn IA G (PySem.W.findObj_own hh n rfl (by rw [hl, hu])) (handed_of ru) ⟨v, H1, I1.tok _, ru, q⟩
/-! a raise of such a one, told by what comes of it -/
theorem untr_same {H0 H2 : Hp} {e : Addr} {o : HO} (hn : H0 e = none) (h : ∀ a o', a ≠ e → upd H0 e o a = some o' → H2 a = some o') : Same H0 (untr H2 e) := fun a o' ho => by
  have ne : a ≠ e := fun z => by rw [z, hn] at ho; cases ho
  rw [untr_ne ne]
  exact h a o' ne (by rw [upd_ne ne]; exact ho)
def Exg (H : Hp) (e C : Addr) (fs : List (Str × V)) : Prop := ∃ dx, dx ≠ e ∧ H e = some (excN e C (some dx)) ∧ H dx = some (xdO dx fs)
def spJ1 (C : Addr) (f : Str) : Sp := fun vs H Q _ => ∃ e v, vs = [.ref e, v] ∧ H e = some (excN e C none) ∧ ∀ H', (∀ a o, a ≠ e → H a = some o → H' a = some o) → Exg H' e C [(f, v)] → Q .non H'
def spJ2 (C : Addr) (f g : Str) : Sp := fun vs H Q _ => ∃ e v u, vs = [.ref e, v, u] ∧ H e = some (excN e C none) ∧ ∀ H', (∀ a o, a ≠ e → H a = some o → H' a = some o) → Exg H' e C [(f, v), (g, u)] → Q .non H'
/-! what a reading of raise C(..) wants behind such an __init__: E at a heap that keeps all, with the dict tracked -/
theorem raised_of {H1 H2 : Hp} {ea C : Addr} {fs : List (Str × V)} {E : XK} (hn : H1 ea = none) (kp : ∀ a o, a ≠ ea → upd H1 ea (excN ea C none) a = some o → H2 a = some o) (x : Exg H2 ea C fs) (h : ∀ dx H', Same H1 H' → H' dx = some (xdO dx fs) → E (.ref C) (some dx) H') :
    ∃ od, H2 ea = some (excN ea C od) ∧ E (.ref C) od (untr H2 ea) := by
  obtain ⟨dx, ne, h1, h2⟩ := x
  exact ⟨some dx, h1, h dx _ (untr_same hn kp) (by rw [untr_ne ne]; exact h2)⟩
theorem caught_of {H : Hp} {ea C dx : Addr} {fs : List (Str × V)} (hn : H ea = none) (h : H dx = some (xdO dx fs)) : Exo (upd H ea (excO ea C (some dx))) ea C fs :=
  ⟨dx, upd_same, by rw [upd_ne (ne_of_none h hn)]; exact h⟩
end L2
set_option Elab.async false
set_option linter.all false
set_option maxRecDepth 100000
namespace L2
open PySem PySem.Spec PyProof.Rows

/-! ### lists of pairs as tables -/
section
variable {κ : Type} [DecidableEq κ]
def valV (kvs : List (κ × V)) (k : κ) : Option V := (kvs.find? fun kv => decide (kv.1 = k)).map (·.2)
/-- in its place, or at the end -/
def putK (kvs : List (κ × V)) (k : κ) (v : V) : List (κ × V) :=
  if (kvs.any fun kv => decide (kv.1 = k)) = true then kvs.map (fun kv => if kv.1 = k then (kv.1, v) else kv) else kvs ++ [(k, v)]
def dropK (kvs : List (κ × V)) (k : κ) : List (κ × V) := kvs.filter fun kv => decide (kv.1 ≠ k)

theorem valV_nil {k : κ} : valV ([] : List (κ × V)) k = none := rfl
theorem valV_pos {p : κ × V} {r : List (κ × V)} {k : κ} (e : p.1 = k) : valV (p :: r) k = some p.2 := by simp [valV, List.find?_cons, e]
theorem valV_neg {p : κ × V} {r : List (κ × V)} {k : κ} (e : ¬ p.1 = k) : valV (p :: r) k = valV r k := by simp [valV, List.find?_cons, e]
theorem valV_any (k : κ) : ∀ kvs : List (κ × V), (kvs.any fun kv => decide (kv.1 = k)) = (valV kvs k).isSome
  | [] => rfl
  | p :: r => by
    rw [List.any_cons]
    by_cases e : p.1 = k
    · simp only [valV_pos e, decide_eq_true e, Bool.true_or, Option.isSome_some]
    · rw [valV_neg e, decide_eq_false e, Bool.false_or]; exact valV_any k r
theorem valV_map (k j : κ) (y : V) : ∀ kvs : List (κ × V), valV (kvs.map fun kv => if kv.1 = k then (kv.1, y) else kv) j = (valV kvs j).map fun x => if j = k then y else x
  | [] => rfl
  | p :: r => by
    have ih := valV_map k j y r
    rw [List.map_cons]
    by_cases h : p.1 = k
    · rw [if_pos h]
      by_cases e : p.1 = j
      · rw [valV_pos (p := (p.1, y)) e, valV_pos e, Option.map_some, if_pos (e.symm.trans h)]
      · rw [valV_neg (p := (p.1, y)) e, valV_neg e, ih]
    · rw [if_neg h]
      by_cases e : p.1 = j
      · rw [valV_pos (p := p) e, valV_pos e, Option.map_some, if_neg (fun z => h (e.trans z))]
      · rw [valV_neg (p := p) e, valV_neg e, ih]
theorem valV_snoc (k j : κ) (y : V) : ∀ kvs : List (κ × V), valV kvs k = none → valV (kvs ++ [(k, y)]) j = if j = k then some y else valV kvs j
  | [], _ => by
    by_cases e : k = j
    · rw [if_pos e.symm]; exact valV_pos (p := (k, y)) e
    · rw [if_neg (fun z => e z.symm)]; exact valV_neg (p := (k, y)) e
  | p :: r, hn => by
    rw [List.cons_append]
    have hk : ¬ p.1 = k := fun z => by rw [valV_pos z] at hn; cases hn
    rw [valV_neg hk] at hn
    have ih := valV_snoc k j y r hn
    by_cases e : p.1 = j
    · rw [valV_pos e, valV_pos e, if_neg (fun z => hk (e.trans z))]
    · rw [valV_neg e, valV_neg e, ih]
theorem valV_put (kvs : List (κ × V)) (k j : κ) (y : V) : valV (putK kvs k y) j = if j = k then some y else valV kvs j := by
  unfold putK
  by_cases a : (kvs.any fun kv => decide (kv.1 = k)) = true
  · rw [if_pos a, valV_map]
    rw [valV_any] at a
    by_cases e : j = k
    · obtain ⟨x, hx⟩ := Option.isSome_iff_exists.mp a
      rw [if_pos e, e, hx, Option.map_some, if_pos rfl]
    · rw [if_neg e]
      cases valV kvs j with
      | none => rfl
      | some x => rw [Option.map_some, if_neg e]
  · rw [if_neg a]
    refine valV_snoc k j y kvs ?_
    rw [valV_any] at a
    cases q : valV kvs k with
    | none => rfl
    | some x => rw [q] at a; exact (a rfl).elim
theorem length_putK (kvs : List (κ × V)) (k : κ) (v : V) : (putK kvs k v).length ≤ kvs.length + 1 := by
  unfold putK
  split
  · rw [List.length_map]; omega
  · rw [List.length_append, List.length_cons, List.length_nil]; omega
theorem putK_new {kvs : List (κ × V)} {k : κ} (v : V) (h : valV kvs k = none) : putK kvs k v = kvs ++ [(k, v)] := by
  unfold putK
  rw [valV_any, h]
  exact if_neg (by decide)

theorem RelO.isSome_eq {o : Option V} {u : Option Value} (r : RelO o u) : o.isSome = u.isSome := by
  cases o with
  | none => cases u with
    | none => rfl
    | some _ => exact (show False from r).elim
  | some _ => cases u with
    | none => exact (show False from r).elim
    | some _ => rfl

/-- raw tables of the same keys -/
theorem KV.val {kvs : List (κ × V)} {vs : List (κ × Value)} (r : KV kvs vs) (k : κ) : RelO (valV kvs k) (valueAt vs k) := by
  unfold KV at r
  induction r with
  | nil => exact True.intro
  | @cons p q ps qs h t ih =>
    obtain ⟨h1, h2⟩ := h
    by_cases e : p.1 = k
    · have e' : q.1 = k := h1.symm.trans e
      have b : valueAt (q :: qs) k = some q.2 := by simp [valueAt, List.find?_cons, e']
      rw [valV_pos e, b]; exact h2
    · have e' : ¬ q.1 = k := fun z => e (h1.trans z)
      have b : valueAt (q :: qs) k = valueAt qs k := by simp [valueAt, List.find?_cons, e']
      rw [valV_neg e, b]; exact ih
theorem KV.any {kvs : List (κ × V)} {vs : List (κ × Value)} (r : KV kvs vs) (k : κ) : (kvs.any fun kv => decide (kv.1 = k)) = vs.any fun kv => decide (kv.1 = k) := by
  unfold KV at r
  induction r with
  | nil => rfl
  | cons h t ih => rw [List.any_cons, List.any_cons, ih, h.1]
theorem KV.repl {kvs : List (κ × V)} {vs : List (κ × Value)} (r : KV kvs vs) (k : κ) {y : V} {u : Value} (ry : RelV y u) :
    KV (kvs.map fun kv => if kv.1 = k then (kv.1, y) else kv) (vs.map fun kv => if kv.1 = k then (kv.1, u) else kv) := by
  unfold KV at r ⊢
  induction r with
  | nil => exact .nil
  | @cons p q ps qs h t ih =>
    rw [List.map_cons, List.map_cons]
    refine .cons ?_ ih
    obtain ⟨h1, h2⟩ := h
    by_cases e : p.1 = k
    · rw [if_pos e, if_pos (h1.symm.trans e)]; exact ⟨h1, ry⟩
    · rw [if_neg e, if_neg (fun z => e (h1.trans z))]; exact ⟨h1, h2⟩
theorem KV.put {kvs : List (κ × V)} {vs : List (κ × Value)} (r : KV kvs vs) (k : κ) {y : V} {u : Value} (ry : RelV y u) : KV (putK kvs k y) (stored vs k u) := by
  unfold putK stored
  rw [r.any k]
  by_cases e : (vs.any fun kv => decide (kv.1 = k)) = true
  · rw [if_pos e, if_pos e]; exact r.repl k ry
  · rw [if_neg e, if_neg e]; exact Paired.snoc r ⟨rfl, ry⟩
theorem KV.length {kvs : List (κ × V)} {vs : List (κ × Value)} (r : KV kvs vs) : kvs.length = vs.length := Paired.length r
end


/-! ### a tracked dict, its keys ints and texts or tuples of these -/
theorem kV_is {P : Program} {w : World} {k : Key} {u : Value} (r : RelV (kV k) u) : (mixKind P w).is k u = true := by
  cases k with
  | inl i => obtain ⟨t, e⟩ := (show ∃ t, u = Value.int i t from r); subst e; exact mixKind_int P w i t
  | inr x => obtain ⟨t, e⟩ := (show ∃ t, u = Value.str x t from r); subst e; exact mixKind_str P w x t
theorem items_are {P : Program} {w : World} : ∀ {ks : List Key} {us : List Value}, Vals (ks.map kV) us → ItemsAre (mixKind P w) ks us
  | [], _, r => by rw [List.map_nil] at r; cases r; exact .nil
  | k :: ks, _, r => by
    rw [List.map_cons] at r
    cases r with
    | cons h t => exact .cons (kV_is h) (items_are t)

/-- raw entries of a dict with tuple keys -/
abbrev KT (H : Hp) : List (List Key × V) → List (List Key × Addr × Value) → Prop := Paired fun p q => p.1 = q.1 ∧ H q.2.1 = some (.tup (p.1.map kV)) ∧ RelV p.2 q.2.2
theorem KT.val {H : Hp} {kvs : List (List Key × V)} {xs : List (List Key × Addr × Value)} (r : KT H kvs xs) (k : List Key) : RelO (valV kvs k) ((atKey xs k).map (·.2)) := by
  induction r with
  | nil => exact True.intro
  | @cons p q ps qs h t ih =>
    obtain ⟨h1, _, h2⟩ := h
    by_cases e : p.1 = k
    · have e' : q.1 = k := h1.symm.trans e
      have b : atKey (q :: qs) k = some q.2 := by simp [atKey, List.find?_cons, e']
      rw [valV_pos e, b]; exact h2
    · have e' : ¬ q.1 = k := fun z => e (h1.trans z)
      have b : atKey (q :: qs) k = atKey qs k := by simp [atKey, List.find?_cons, e']
      rw [valV_neg e, b]; exact ih
theorem KT.repl {H : Hp} {kvs : List (List Key × V)} {xs : List (List Key × Addr × Value)} (r : KT H kvs xs) (k : List Key) {y : V} {u : Value} (ry : RelV y u) :
    KT H (kvs.map fun kv => if kv.1 = k then (kv.1, y) else kv) (xs.map (putAt k u)) := by
  induction r with
  | nil => exact .nil
  | @cons p q ps qs h t ih =>
    rw [List.map_cons, List.map_cons]
    refine .cons ?_ ih
    obtain ⟨h1, h2, h3⟩ := h
    unfold putAt
    by_cases e : p.1 = k
    · rw [if_pos e, if_pos (h1.symm.trans e)]; exact ⟨h1, h2, ry⟩
    · rw [if_neg e, if_neg (fun z => e (h1.trans z))]; exact ⟨h1, h2, h3⟩
theorem KT.put {H : Hp} {kvs : List (List Key × V)} {xs : List (List Key × Addr × Value)} (r : KT H kvs xs) (k : List Key) {b : Addr} {y : V} {u : Value} (hb : H b = some (.tup (k.map kV))) (ry : RelV y u) :
    KT H (putK kvs k y) (storedH xs k b u) := by
  have e : (kvs.any fun kv => decide (kv.1 = k)) = (atKey xs k).isSome := by
    rw [valV_any, (r.val k).isSome_eq, Option.isSome_map]
  unfold putK storedH
  rw [e]
  by_cases q : (atKey xs k).isSome = true
  · rw [if_pos q, if_pos q]; exact r.repl k ry
  · rw [if_neg q, if_neg q]; exact Paired.snoc r ⟨rfl, hb, ry⟩
theorem KT.keeps {H H' : Hp} {kvs : List (List Key × V)} {xs : List (List Key × Addr × Value)} (r : KT H kvs xs) (ht : ∀ b ys, H b = some (.tup ys) → H' b = some (.tup ys)) : KT H' kvs xs :=
  Paired.mapP r fun _ _ z => ⟨z.1, ht _ _ z.2.1, z.2.2⟩

section
variable {P : Program} {w : World} {H : Hp} {h : Heap} {a : Addr}
theorem rd_of {u : HO} (ok : HOk P w H h) (e : Rd H a u) : ObjOk P w H h a u := e.ok ok
theorem dk_rd {kvs : List (Key × V)} (ok : HOk P w H h) (e : Rd H a (.dK kvs)) : kvs.length ≤ sizeLine ∧ (a == sysModules) = false ∧ ∃ vs, KV kvs vs ∧ h.DictOf (mixKind P w) a vs :=
  show ObjOk P w H h a (.dK kvs) from rd_of ok e
theorem dk_of {kvs : List (Key × V)} (ok : HOk P w H h) (e : H a = some (.dK kvs)) : kvs.length ≤ sizeLine ∧ (a == sysModules) = false ∧ ∃ vs, KV kvs vs ∧ h.DictOf (mixKind P w) a vs := dk_rd ok (.inl e)
/-- a tracked tuple of ints and texts is a key -/
theorem key_of {ks : List Key} (ok : HOk P w H h) (e : H a = some (.tup (ks.map kV))) : (tupleKind (mixKind P w)).is h ks a := by
  obtain ⟨_, its, r, o, h1, h2, n, h3⟩ := (show ObjOk P w H h a (.tup (ks.map kV)) from ok a _ e)
  exact ⟨o, its.toArray, n, h1, h2, h3, by simpa using items_are r⟩
theorem dt_rd {kvs : List (List Key × V)} (ok : HOk P w H h) (e : Rd H a (.dT kvs)) : kvs.length ≤ sizeLine ∧ (a == sysModules) = false ∧
    ∃ xs, KT H kvs xs ∧ h.DictOfH (tupleKind (mixKind P w)) a xs := by
  obtain ⟨z, y, xs, r, o, es, ep, h1, h2, h3, h4, h5⟩ := (show ObjOk P w H h a (.dT kvs) from rd_of ok e)
  refine ⟨z, y, xs, r, o, es, ep, h1, h2, h3, h4, fun x hx => ?_, h5⟩
  have all : ∀ {l : List (List Key × V)} {m : List (List Key × Addr × Value)}, KT H l m → ∀ x ∈ m, (tupleKind (mixKind P w)).is h x.1 x.2.1 := by
    intro l m q
    induction q with
    | nil => intro x hx; exact nomatch hx
    | @cons p q ps qs hq t ih =>
      intro x hx
      rcases List.mem_cons.mp hx with e | hx
      · subst e
        exact key_of ok (by rw [← hq.1]; exact hq.2.1)
      · exact ih x hx
  exact all r x hx
theorem dt_of {kvs : List (List Key × V)} (ok : HOk P w H h) (e : H a = some (.dT kvs)) : kvs.length ≤ sizeLine ∧ (a == sysModules) = false ∧
    ∃ xs, KT H kvs xs ∧ h.DictOfH (tupleKind (mixKind P w)) a xs := dt_rd ok (.inl e)
end

/-- what the dict at a holds at the key y -/
def DGet (H : Hp) (a : Addr) (y : V) (r : Option V) : Prop :=
  (∃ kvs k, Rd H a (.dK kvs) ∧ y = kV k ∧ r = valV kvs k) ∨ ∃ kvs k b, Rd H a (.dT kvs) ∧ y = .ref b ∧ H b = some (.tup (k.map kV)) ∧ r = valV kvs k
/-- the heap behind a[y] = v -/
def DPut (H : Hp) (a : Addr) (y v : V) (H' : Hp) : Prop :=
  (∃ kvs k, H a = some (.dK kvs) ∧ y = kV k ∧ kvs.length < sizeLine ∧ H' = upd H a (.dK (putK kvs k v))) ∨
  ∃ kvs k b, H a = some (.dT kvs) ∧ y = .ref b ∧ H b = some (.tup (k.map kV)) ∧ kvs.length < sizeLine ∧ H' = upd H a (.dT (putK kvs k v))
theorem DGet.t {H : Hp} {a b : Addr} {kvs : List (List Key × V)} {k : List Key} (e : H a = some (.dT kvs)) (eb : H b = some (.tup (k.map kV))) : DGet H a (.ref b) (valV kvs k) := .inr ⟨kvs, k, b, .inl e, rfl, eb, rfl⟩
theorem DPut.k {H : Hp} {a : Addr} {kvs : List (Key × V)} {k : Key} {v : V} (e : H a = some (.dK kvs)) (hl : kvs.length < sizeLine) : DPut H a (kV k) v (upd H a (.dK (putK kvs k v))) := .inl ⟨kvs, k, e, rfl, hl, rfl⟩
theorem DPut.t {H : Hp} {a b : Addr} {kvs : List (List Key × V)} {k : List Key} {v : V} (e : H a = some (.dT kvs)) (eb : H b = some (.tup (k.map kV))) (hl : kvs.length < sizeLine) :
    DPut H a (.ref b) v (upd H a (.dT (putK kvs k v))) := .inr ⟨kvs, k, b, e, rfl, eb, hl, rfl⟩


section
variable {X : Cx} {pins : List (Addr × Obj)} {σ : St} {H : Hp} {s : Shared} {a : Addr} {y v : V} {u r : Value} {o : Option V} {A : Around} {E : Value → Shared → Prop}

theorem Inv.big (I : Inv X pins σ H s) : sysModules < s.heap.objs.size := by
  have h : mainGlobals < s.heap.objs.size := (I.mod.glob.keeps I.bk).lt
  exact Nat.lt_trans (by decide) h

/-- d[y], there -/
theorem d_getItem {Q : Value → Shared → Prop} (hu : A.units + 1 < cLine) (I : Inv X pins σ H s) (g : DGet H a y (some v)) (ry : RelV y u) (h : ∀ w' s', Inv X pins σ H s' → RelV v w' → Q w' s') :
    wpAny (model X.prog X.w) A (getItem (.ref a) u) Q E s := by
  rcases g with ⟨kvs, k, e, ey, l⟩ | ⟨kvs, k, b, e, ey, eb, l⟩
  · subst ey
    obtain ⟨z, hd, vs, rel, dd⟩ := dk_rd I.hok e
    obtain ⟨w', hw, rw'⟩ := RelO.some_of (v := v) (o := valueAt vs k) (by rw [l]; exact rel.val k)
    exact wpAny_getItem_of (kV_is ry) dd.mapOf hw (h w' _ (I.tok _) rw')
  · subst ey
    cases (show u = Value.ref b from ry)
    obtain ⟨z, hd, xs, rel, dd⟩ := dt_rd I.hok e
    obtain ⟨w', hw, rw'⟩ := RelO.some_of (v := v) (o := (atKey xs k).map (·.2)) (by rw [l]; exact rel.val k)
    obtain ⟨p, hp, hp2⟩ := Option.map_eq_some_iff.mp hw
    refine wpAny_getItem_heap (tupleKind_room_in1 hu) (key_of I.hok eb) dd hp ?_
    rw [hp2]
    exact h w' _ (I.tok _) rw'
theorem d_notIn {Q : Value → Shared → Prop} (hu : A.units + 1 < cLine) (I : Inv X pins σ H s) (g : DGet H a y o) (ry : RelV y u) (h : ∀ s', Inv X pins σ H s' → Q (.bool (!o.isSome)) s') :
    wpAny (model X.prog X.w) A (compareOp .NotIn u (.ref a)) Q E s := by
  rcases g with ⟨kvs, k, e, ey, l⟩ | ⟨kvs, k, b, e, ey, eb, l⟩
  · subst ey
    obtain ⟨z, hd, vs, rel, dd⟩ := dk_rd I.hok e
    refine wpAny_notIn_of (kV_is ry) hd dd.mapOf ?_
    rw [← (rel.val k).isSome_eq, ← l]
    exact h _ (I.tok _)
  · subst ey
    cases (show u = Value.ref b from ry)
    obtain ⟨z, hd, xs, rel, dd⟩ := dt_rd I.hok e
    refine wpAny_notIn_heap (tupleKind_room_in1 hu) (key_of I.hok eb) hd dd ?_
    have q := (rel.val k).isSome_eq
    rw [Option.isSome_map] at q
    rw [← q, ← l]
    exact h _ (I.tok _)
/-- a dict's object is replaced -/
theorem d_write {h' : Heap} {t' : Nat} {ob : HO} (I : Inv X pins σ H s) (mu : Mut (H a)) (hs : Heap.SameBut a s.heap h') (he : ∃ q, h'.get? a = some q) (new : ObjOk X.prog X.w (upd H a ob) h' a ob) :
    Inv X pins σ (upd H a ob) { s with heap := h', toks := t' } :=
  I.write (x := a) (e := a) mu (.inl rfl) (fun b q hb z => (hs.2 b hb).trans z) he new
theorem dk_new {P : Program} {w : World} {H' : Hp} {h' : Heap} {kvs : List (Key × V)} {vs : List (Key × Value)} (z : kvs.length ≤ sizeLine) (hd : (a == sysModules) = false) (rel : KV kvs vs) (dd : h'.DictOf (mixKind P w) a vs) :
    ObjOk P w H' h' a (.dK kvs) := ⟨z, hd, vs, rel, dd⟩
/-- d[y] = v -/
theorem d_setItem {H' : Hp} {Q : Unit → Shared → Prop} (hu : A.units + 1 < cLine) (I : Inv X pins σ H s) (g : DPut H a y v H') (ry : RelV y u) (rv : RelV v r) (h : ∀ s', Inv X pins σ H' s' → Q () s') :
    wpAny (model X.prog X.w) A (setItem (.ref a) u r) Q E s := by
  rcases g with ⟨kvs, k, e, ey, l, eH⟩ | ⟨kvs, k, b, e, ey, eb, l, eH⟩
  · subst ey eH
    obtain ⟨z, hd, vs, rel, dd⟩ := dk_of I.hok e
    have hz : vs.length ≤ sizeLine := by rw [← rel.length]; exact z
    have hl : (putK kvs k v).length ≤ sizeLine := by have := length_putK kvs k v; omega
    refine wpAny_setItem_pairs (hsz := hz) (kV_is ry) dd fun h' dd' hs => h _ ?_
    have he : ∃ q, h'.get? a = some q := let ⟨q, _, _, hq, _⟩ := dd'; ⟨q, hq⟩
    exact d_write I (by rw [e]; exact True.intro) hs he (dk_new hl hd (rel.put k rv) dd')
  · subst ey eH
    cases (show u = Value.ref b from ry)
    obtain ⟨z, hd, xs, rel, dd⟩ := dt_of I.hok e
    have hz : xs.length ≤ sizeLine := by rw [← Paired.length rel]; exact z
    have hl : (putK kvs k v).length ≤ sizeLine := by have := length_putK kvs k v; omega
    refine wpAny_setItem_heap (hsz := hz) (tupleKind_room_in1 hu) (key_of I.hok eb) dd fun h' dd' hs => h _ ?_
    obtain ⟨q, es, ep, hq, h2, h3, h4, _, h5⟩ := dd'
    refine d_write I (by rw [e]; exact True.intro) hs ⟨q, hq⟩ ⟨hl, hd, _, (rel.put k eb rv).keeps fun c ys ec => ?_, q, es, ep, hq, h2, h3, h4, h5⟩
    rw [upd_ne (ne_of ec e (fun z => nomatch z))]
    exact ec
end

section
variable {X : Cx} {pins : List (Addr × Obj)} {σ : St} {H : Hp} {s : Shared} {a : Addr} {kvs : List (Key × V)} {k : Key} {u : Value} {A : Around} {E : Value → Shared → Prop}
end


/-! ### readings and rules -/
/-- the element of a subscription, not a slice -/
def NoSl (i : Expr) : Prop := ∀ ov iv, subscripted i false ov iv = operate [ov, iv] (getItem ov iv)
theorem subD_of {prog : Program} {w : World} {A : Around} {E : Value → Shared → Prop} {s : Shared} {env : Env} {value slice : Expr} {pos : Pos} {T id : String} {Q : Value → Shared → Prop}
    (hl : typeLookup (.type T) "__getitem__" = pure (some (.builtin id))) (hs : NoSl slice)
    (h : wpAny (model prog w) A (eval value env) (fun o s₁ => wpAny (model prog w) A (eval slice env) (fun i s₂ => s₂.TypeIs o T ∧ wpAny (model prog w) A (getItem o i) Q E s₂) E s₁) E s) :
    wpAny (model prog w) A (eval (.Subscript value slice pos) env) Q E s := by
  refine Subscript_ (wpAny_mono h (fun o s₁ h₁ => wpAny_mono h₁ (fun i s₂ h₂ => ?_) fun _ _ x => x) fun _ _ x => x)
  obtain ⟨hT, h₂⟩ := h₂
  unfold subscriptTail
  refine wpAny_bind ?_
  rw [getitemInPython_of_ne hT.not_modules]
  refine wpAny_bind (wpAny_specialOf hT hl ?_)
  have fin : wpAny (model prog w) A (subscripted slice false o i) (fun r s₃ => wpAny (model prog w) A (letTemporaryGo value o r >>= fun _ => pure r) Q E s₃) E s₂ := by
    rw [hs o i]
    exact wpAny_operating (wpAny_mono h₂ (fun r s₃ h₃ => wpAny_bind (wpAny_letTemporaryGo (wpAny_pure h₃))) fun _ _ x => x)
  first
    | exact wpAny_pure (wpAny_bind fin)
    | exact wpAny_bind (wpAny_pure (wpAny_bind fin))
    | exact wpAny_bind fin

theorem dict_typeIs {X : Cx} {pins : List (Addr × Obj)} {σ : St} {H : Hp} {s : Shared} {a : Addr} {y : V} {o : Option V} (I : Inv X pins σ H s) (g : DGet H a y o) : s.TypeIs (.ref a) "dict" := by
  rcases g with ⟨kvs, k, e, _, _⟩ | ⟨kvs, k, b, e, _, _, _⟩
  · obtain ⟨_, _, vs, _, dd⟩ := dk_rd I.hok e
    exact dd.typeIs
  · obtain ⟨_, _, xs, _, dd⟩ := dt_rd I.hok e
    exact dd.typeIs

/-- d[y] -/
def tDGet (td ty : TE) : TE := fun σ H Q => td σ H fun x H1 => ty σ H1 fun y H2 => ∃ a v, x = .ref a ∧ DGet H2 a y (some v) ∧ Q v H2
/-- y in d, y not in d -/
def tDIn (ty td : TE) : TE := fun σ H Q => ty σ H fun y H1 => td σ H1 fun x H2 => ∃ a o, x = .ref a ∧ DGet H2 a y o ∧ Q (.bl o.isSome) H2
def tDNotIn (ty td : TE) : TE := fun σ H Q => ty σ H fun y H1 => td σ H1 fun x H2 => ∃ a o, x = .ref a ∧ DGet H2 a y o ∧ Q (.bl (!o.isSome)) H2
/-- d[y] = v -/
def sDPut (td ty tv : TE) : TS := fun D σ H => tv σ H fun v H1 => td σ H1 fun x H2 => ty σ H2 fun y H3 => ∃ a H4, x = .ref a ∧ DPut H3 a y v H4 ∧ D.nx σ H4
/-- d[y] op= v -/
def sDAug (td ty tv : TE) (rd : V → V → Hp → VK → Prop) : TS := fun D σ H => td σ H fun x H1 => ty σ H1 fun y H2 => ∃ a v, x = .ref a ∧ DGet H2 a y (some v) ∧
  tv σ H2 fun y2 H3 => rd v y2 H3 fun z H4 => ∃ H5, DPut H4 a y z H5 ∧ D.nx σ H5
/-- del d[y] -/
def sDDel (td ty : TE) : TS := fun D σ H => td σ H fun x H1 => ty σ H1 fun y H2 => ∃ a kvs k, x = .ref a ∧ H2 a = some (.dK kvs) ∧ y = kV k ∧ (valV kvs k).isSome = true ∧ D.nx σ (upd H2 a (.dK (dropK kvs k)))

section
variable {X : Cx} {o i e value : Expr} {pos pos' tpos : Pos} {td ty tv : TE}
theorem pe_dget (hu : X.A.units + 1 < cLine) (ho : PE X o td) (hi : PE X i ty) (hs : NoSl i) : PE X (.Subscript o i pos) (tDGet td ty) := by
  intro pins s σ H Q I h
  refine subD_of PySem.F.slot_dict_getitem.lookup hs (thn (ho pins s σ H _ I h) fun u s1 ⟨x, H1, I1, rx, q1⟩ => thn (hi pins s1 σ H1 _ I1 q1) fun iv s2 ⟨y, H2, I2, ry, a, v, ex, g, q2⟩ => ?_)
  subst ex
  obtain rfl : u = Value.ref a := rx
  exact ⟨dict_typeIs I2 g, d_getItem hu I2 g ry fun w' s3 I3 rw' => ⟨v, H2, I3, rw', q2⟩⟩
theorem pc_dnotin (hu : X.A.units + 1 < cLine) (hi : PE X i ty) (ho : PE X o td) : PC X .NotIn i o (tDNotIn ty td) := by
  intro pins s σ H Q I h
  refine thn (hi pins s σ H _ I h) fun iv s1 ⟨y, H1, I1, ry, q1⟩ => thn (ho pins s1 σ H1 _ I1 q1) fun u s2 ⟨x, H2, I2, rx, a, ov, ex, g, q2⟩ => ?_
  subst ex
  obtain rfl : u = Value.ref a := rx
  exact d_notIn hu I2 g ry fun s3 I3 => ⟨.bl (!ov.isSome), H2, I3, rfl, q2⟩
theorem ps_dput (hu : X.A.units + 1 < cLine) (ho : PE X o td) (hi : PE X i ty) (hv : PE X value tv) (hs : swapsWith value (some (.Subscript o i pos')) pos.line X.env = pure false) :
    PS X (.Assign [.Subscript o i pos'] value pos) (sDPut td ty tv) := by
  intro pins s σ H D I h
  refine wpAny_Assign_Subscript (thn (hv pins s σ H _ I h) fun r s1 ⟨v, H1, I1, rv, q1⟩ => thn (ho pins s1 σ H1 _ I1 q1) fun u s2 ⟨x, H2, I2, rx, q2⟩ => thn (hi pins s2 σ H2 _ I2 q2) fun iv s3 ⟨y, H3, I3, ry, a, H4, ex, g, q3⟩ => ?_) hs
  subst ex
  obtain rfl : u = Value.ref a := rx
  exact d_setItem hu I3 g ry rv fun s4 I4 => ⟨σ, H4, I4, q3⟩
end


/-! ### displays -/
theorem dk_empty {P : Program} {w : World} {H : Hp} (h : Heap) (hb : sysModules < h.objs.size) : ObjOk P w H (h.push { cls := .type "dict", data := .dict #[] }) h.objs.size (.dK []) :=
  ⟨Nat.zero_le _, beq_eq_false_iff_ne.mpr (Ne.symm (Nat.ne_of_lt hb)), [], .nil, Heap.DictOf.new h⟩
theorem dt_empty {P : Program} {w : World} {H : Hp} (h : Heap) (hb : sysModules < h.objs.size) : ObjOk P w H (h.push { cls := .type "dict", data := .dict #[] }) h.objs.size (.dT []) :=
  ⟨Nat.zero_le _, beq_eq_false_iff_ne.mpr (Ne.symm (Nat.ne_of_lt hb)), [], .nil, _, #[], 0, Heap.get?_push_size _ rfl, ⟨rfl, rfl, rfl⟩, rfl, rfl, List.nodup_nil⟩
/-- {}, to be a dict of the kind that is wanted -/
def tDNewK : TE := fun _ H Q => ∀ p, H p = none → Q (.ref p) (upd H p (.dK []))
def tDNewT : TE := fun _ H Q => ∀ p, H p = none → Q (.ref p) (upd H p (.dT []))
section
variable {X : Cx} {pos : Pos}
theorem pe_dnewK : PE X (.Dict [] [] pos) tDNewK := fun pins s σ H Q I h =>
  wpAny_Dict_empty ⟨.ref s.heap.objs.size, _, I.laid (a := s.heap.objs.size) (o := .dK []) (t' := s.toks) (fun _ _ q => Heap.get?_push_of_some _ q) (Nat.le_refl _) (dk_empty s.heap I.big), rfl, h _ (I.hok.fresh (Nat.le_refl _))⟩
theorem pe_dnewT : PE X (.Dict [] [] pos) tDNewT := fun pins s σ H Q I h =>
  wpAny_Dict_empty ⟨.ref s.heap.objs.size, _, I.laid (a := s.heap.objs.size) (o := .dT []) (t' := s.toks) (fun _ _ q => Heap.get?_push_of_some _ q) (Nat.le_refl _) (dt_empty s.heap I.big), rfl, h _ (I.hok.fresh (Nat.le_refl _))⟩
end

/-- the pairs of a display, from the left -/
def tPairs : List (TE × TE) → St → Hp → (List (V × V) → Hp → Prop) → Prop
  | [], _, H, Q => Q [] H
  | (tk, tv) :: r, σ, H, Q => tk σ H fun x H1 => tv σ H1 fun y H2 => tPairs r σ H2 fun ps H3 => Q ((x, y) :: ps) H3
abbrev VV : List (V × V) → List (Value × Value) → Prop := Paired fun p q => RelV p.1 q.1 ∧ RelV p.2 q.2
def PPs (X : Cx) (pos : Pos) (keys : List (Option Expr)) (values : List Expr) (trs : List (TE × TE)) : Prop :=
  ∀ (pins : List (Addr × Obj)) (s : Shared) (σ : St) (H : Hp) (Q : List (V × V) → Hp → Prop), Inv X pins σ H s → tPairs trs σ H Q →
    wpAny (model X.prog X.w) X.A (evalPairs (pairTrees keys values X.env pos)) (fun vs s' => ∃ ps H', Inv X pins σ H' s' ∧ VV ps vs ∧ Q ps H') X.xe s

def mergeK (kvs more : List (Key × V)) : List (Key × V) := more.foldl (fun acc kv => putK acc kv.1 kv.2) kvs
/-- {k: v, ..} with keys ints and texts; the new dict stands empty while the pairs are made -/
def tDisp (trs : List (TE × TE)) : TE := fun σ H Q => ∀ p, H p = none → tPairs trs σ (upd H p (.dK [])) fun ps H2 => H2 p = some (.dK []) ∧ ∃ kvs : List (Key × V), ps = kvs.map (fun kv => (kV kv.1, kv.2)) ∧ kvs.length ≤ 15 ∧ Q (.ref p) (upd H2 p (.dK (mergeK [] kvs)))


/-! ### methods -/
/-- a method call o.m(e) of a built-in, with one argument: what must be seen of the text -/
structure M1 (X : Cx) (o : Expr) (m : Str) (apos : Pos) (e : Expr) (cpos : Pos) : Prop where
  base : attributeBase o m X.env (eval o X.env) = eval o X.env
  few : ((backTo cpos (starEach [e] X.env)).all (fun x => !x.1) && (backToKw cpos (keywordEach [] X.env)).all (fun x => x.1.isSome)
    && decide (([e] : List Expr).length + ([] : List Keyword).length + (if ([] : List Keyword).isEmpty then 0 else 1) < 30)) = true
  line : (apos.endLine == cpos.line) = true
  trees : backTo cpos (starEach [e] X.env) = [(false, eval e X.env)]
structure M2 (X : Cx) (o : Expr) (m : Str) (apos : Pos) (e f : Expr) (cpos : Pos) : Prop where
  base : attributeBase o m X.env (eval o X.env) = eval o X.env
  few : ((backTo cpos (starEach [e, f] X.env)).all (fun x => !x.1) && (backToKw cpos (keywordEach [] X.env)).all (fun x => x.1.isSome)
    && decide (([e, f] : List Expr).length + ([] : List Keyword).length + (if ([] : List Keyword).isEmpty then 0 else 1) < 30)) = true
  line : (apos.endLine == cpos.line) = true
  trees : backTo cpos (starEach [e, f] X.env) = [(false, eval e X.env), (false, eval f X.env)]

/-- a is a dict, whatever its keys -/
def IsD (H : Hp) (a : Addr) : Prop := (∃ kvs, Rd H a (.dK kvs)) ∨ ∃ kvs, Rd H a (.dT kvs)
theorem isD_at {X : Cx} {pins : List (Addr × Obj)} {σ : St} {H : Hp} {s : Shared} {a : Addr} (I : Inv X pins σ H s) (d : IsD H a) :
    s.TypeIs (.ref a) "dict" ∧ (∀ b, Value.ref a = .ref b → ∃ ob, s.heap.get? b = some ob ∧ ob.dict = none) ∧ (a == sysModules) = false := by
  rcases d with ⟨kvs, e⟩ | ⟨kvs, e⟩
  · obtain ⟨_, hd, vs, _, dd⟩ := dk_rd I.hok e
    refine ⟨dd.typeIs, fun b q => ?_, hd⟩
    cases q
    obtain ⟨ob, _, _, h1, h2, _⟩ := dd
    exact ⟨ob, h1, h2.2.1⟩
  · obtain ⟨_, hd, xs, _, dd⟩ := dt_rd I.hok e
    refine ⟨dd.typeIs, fun b q => ?_, hd⟩
    cases q
    obtain ⟨ob, _, _, h1, h2, _⟩ := dd
    exact ⟨ob, h1, h2.2.1⟩

section
variable {X : Cx} {pins : List (Addr × Obj)} {σ : St} {H : Hp} {s : Shared} {a : Addr} {y d : V} {u r : Value} {o : Option V} {A : Around} {E : Value → Shared → Prop}
end

def tDGet1 (td ty : TE) : TE := fun σ H Q => td σ H fun x H1 => ∃ a, x = .ref a ∧ IsD H1 a ∧ ty σ H1 fun y H2 => ∃ o, DGet H2 a y o ∧ Q (o.getD .non) H2
def tDGet2 (td ty tx : TE) : TE := fun σ H Q => td σ H fun x H1 => ∃ a, x = .ref a ∧ IsD H1 a ∧ ty σ H1 fun y H2 => tx σ H2 fun z H3 => ∃ o, DGet H3 a y o ∧ Q (o.getD z) H3
/-- d.pop(k): there; d.pop(k, x): there or not -/
def tDPop1 (td ty : TE) : TE := fun σ H Q => td σ H fun x H1 => ∃ a, x = .ref a ∧ IsD H1 a ∧ ty σ H1 fun y H2 => ∃ kvs k v, H2 a = some (.dK kvs) ∧ y = kV k ∧ valV kvs k = some v ∧ Q v (upd H2 a (.dK (dropK kvs k)))
def tDPop2 (td ty tx : TE) : TE := fun σ H Q => td σ H fun x H1 => ∃ a, x = .ref a ∧ IsD H1 a ∧ ty σ H1 fun y H2 => tx σ H2 fun z H3 => ∃ kvs k, H3 a = some (.dK kvs) ∧ y = kV k ∧
  (∀ v, valV kvs k = some v → Q v (upd H3 a (.dK (dropK kvs k)))) ∧ (valV kvs k = none → Q z H3)
section
variable {X : Cx} {o e f : Expr} {apos cpos : Pos} {td ty tx : TE}
end

/-! ### dict(d): a copy -/
section
variable {X : Cx} {pins : List (Addr × Obj)} {σ : St} {H : Hp} {s : Shared} {a : Addr} {kvs : List (Key × V)} {A : Around} {E : Value → Shared → Prop}
end


section
variable {X : Cx} {pins : List (Addr × Obj)} {σ : St} {H : Hp} {s : Shared} {a : Addr} {y : V} {u : Value} {A : Around} {E : Value → Shared → Prop}
end
end L2
set_option Elab.async false
set_option linter.all false
set_option maxRecDepth 100000
namespace L2
open PySem PySem.Spec PyProof.Rows
/-! ### d.setdefault(k, x), the keys tuples -/
section
variable {prog : Program} {w : World} {K : Type} [DecidableEq K] {knd : HeapKind prog w K} {A : Around} {E : Value → Shared → Prop} {s : Shared} {d a : Addr} {k : K} {xs : List (K × Addr × Value)} {v : Value}
theorem setdef_heap {Q : Value → Shared → Prop} (hu : knd.room A) (hkey : knd.is s.heap k a) (hm : s.heap.DictOfH knd d xs) (h1 : ∀ p, atKey xs k = some p → Q p.2 { s with toks := s.toks + knd.draws k })
    (h2 : atKey xs k = none → ∀ h', h'.DictOfH knd d (storedH xs k a v) → Heap.SameBut d s.heap h' → Q v { s with heap := h', toks := s.toks + knd.draws k }) (hsz : xs.length ≤ sizeLine) :
    wpAny (model prog w) A (dictSetDefault d (.ref a) v) Q E s := by
  obtain ⟨o, es, ep, ho, hc, hd, he, his, hn⟩ := hm
  unfold dictSetDefault
  try with_reducible refine wpAny_holding ?_
  refine wpAny_bind (knd.pyHash hu hkey (wpAny_bind (wpAny_dictFind_heap (s := { s with toks := s.toks + knd.draws k }) hu hkey ho hd he his hn (fun hno => ?_) fun j p hj => ?_)))
  · have e0 := atKey_none_of_get hno
    have hnot : k ∉ xs.map (·.1) := not_mem_keys_of_get hno
    refine wpAny_bind (wpAny_rule (wpAny_bind (wpAny_updateDictKeys (hz := by have e := size_of_entries he; omega) (s := { s with toks := s.toks + knd.draws k }) ho hd (wpAny_pure (h2 e0 _ ⟨_, _, ep + 1, Heap.get?_update_self _ ho (Obj.isFreed_of_dict (Obj.data_mapDictKeys hd _)), hc.mapDictKeys _, Obj.data_mapDictKeys hd _, ?_, ?_, ?_⟩ (Heap.SameBut.update ..))))))
    · rw [storedH_new e0]
      simp [he, entryOfKey]
    · rw [storedH_new e0]
      intro x hx
      rcases List.mem_append.mp hx with hx | hx
      · exact knd.keeps (his x hx) ho hd (Heap.SameBut.update ..)
      · rw [List.mem_singleton.mp hx]
        exact knd.keeps hkey ho hd (Heap.SameBut.update ..)
    · rw [storedH_new e0, List.map_append, List.nodup_append]
      refine ⟨hn, by simp, fun x hx y hy => ?_⟩
      rw [List.map_cons, List.map_nil, List.mem_singleton] at hy
      subst hy
      exact fun e => hnot (e ▸ hx)
  · refine wpAny_bind (wpAny_dictEntries (s := { s with toks := s.toks + knd.draws k }) ho hd ?_)
    rw [entry_at he j, hj]
    exact wpAny_bind (wpAny_rule (wpAny_pure (h1 _ (atKey_of_get hn hj))))
end
def tDSetd (td ty tx : TE) : TE := fun σ H Q => td σ H fun x H1 => ∃ a, x = .ref a ∧ IsD H1 a ∧ ty σ H1 fun y H2 => tx σ H2 fun z H3 => ∃ kvs k b, H3 a = some (.dT kvs) ∧ y = .ref b ∧ H3 b = some (.tup (k.map kV)) ∧ kvs.length < sizeLine ∧ (∀ v, valV kvs k = some v → Q v H3) ∧ (valV kvs k = none → Q z (upd H3 a (.dT (putK kvs k z))))
theorem pe_dsetd {X : Cx} {o e f : Expr} {apos cpos : Pos} {td ty tx : TE} (hu : X.A.units + 1 < cLine) (ho : PE X o td) (he : PE X e ty) (hf : PE X f tx) (m : M2 X o "setdefault" apos e f cpos) : PE X (.Call (.Attribute o "setdefault" apos) [e, f] [] cpos) (tDSetd td ty tx) := by
  intro pins s σ H Q I h
  refine wpAny_Call_method m.base m.few m.line PySem.F.plainAttrs_dict PySem.F.slot_dict_setdefault PySem.F.type_dict_setdefault (thn (ho pins s σ H _ I h) fun u s1 ⟨x, H1, I1, rx, a, ex, d, q1⟩ => ?_)
  subst ex
  obtain rfl : u = Value.ref a := rx
  obtain ⟨t1, t2, _⟩ := isD_at I1 d
  refine ⟨t1, t2, ?_⟩
  rw [m.trees]
  refine Calls.callWith_builtin rfl (Calls.evalArgs_plain (Calls.spliced_cons (thn (he pins s1 σ H1 _ I1 q1) fun iv s2 ⟨y, H2, I2, ry, q2⟩ =>
    Calls.spliced_cons (thn (hf pins s2 σ H2 _ I2 q2) fun fv s3 ⟨z, H3, I3, rz, kvs, k, b, e3, ey, eb, l, qs, qn⟩ => Calls.spliced_nil ?_))))
  subst ey
  cases (show iv = Value.ref b from ry)
  obtain ⟨z3, hd, xs, rel, dd⟩ := dt_of I3.hok e3
  have hz : xs.length ≤ sizeLine := by rw [← Paired.length rel]; exact z3
  have hl : (putK kvs k z).length ≤ sizeLine := by have := length_putK kvs k z; omega
  refine wpAny_call (codeAny_call_builtin PySem.F.slot_dict_setdefault.plain PySem.F.entry_dict_setdefault (PySem.F.slot_dict_setdefault.check _ _ _ _ _ _ _ _ dd.typeIs (PySem.F.args_dict_setdefault_3 _ _ _) ?_))
  show wpAny _ _ (Builtin.«dict.setdefault» ⟨[.ref a, .ref b, fv], []⟩) _ _ s3
  unfold Builtin.«dict.setdefault»
  refine wpAny_bind ?_
  unfold Builtin.Dict.keyAndDefault
  refine wpAny_bind (wpAny_notOrdered_dict dd.typeIs ?_)
  show wpAny _ _ (pure (a, Value.ref b, some fv)) _ _ s3
  refine wpAny_pure ?_
  show wpAny _ _ (if (a == sysModules) = true then _ else (dictSetDefault a (.ref b) fv >>= _)) _ _ s3
  rw [if_neg (by rw [hd]; exact Bool.false_ne_true)]
  refine wpAny_bind (setdef_heap (tupleKind_room_in1 hu) (key_of I3.hok eb) dd (fun p hp => wpAny_pure ?_) (fun hn h' dd' hs => wpAny_pure ?_) hz)
  · have r := rel.val k
    rw [hp] at r
    cases hv : valV kvs k with
    | none => rw [hv] at r; exact False.elim r
    | some v =>
      rw [hv] at r
      exact ⟨v, H3, I3.tok _, r, qs v hv⟩
  · have r := rel.val k
    rw [hn] at r
    have e0 : valV kvs k = none := by
      cases hv : valV kvs k with
      | none => rfl
      | some v => rw [hv] at r; exact False.elim r
    obtain ⟨q, es, ep, hq, h2, h3, h4, _, h5⟩ := dd'
    refine ⟨z, upd H3 a (.dT (putK kvs k z)), d_write I3 (ob := .dT (putK kvs k z)) (by rw [e3]; exact True.intro) hs ⟨q, hq⟩ ⟨hl, hd, _, (rel.put k eb rz).keeps fun c ys ec => ?_, q, es, ep, hq, h2, h3, h4, h5⟩, rz, qn e0⟩
    rw [upd_ne (ne_of ec e3 (fun z => nomatch z))]
    exact ec
end L2
set_option Elab.async false
set_option linter.all false
set_option maxRecDepth 100000
namespace L2
open PySem PySem.Spec PyProof.Rows
/-! ### the keys of a dict walked, told by its entries -/
def EntAt (h : Heap) (d : Addr) (es : Array DictEntry) (ep : Nat) : Prop := ∃ o, h.get? d = some o ∧ o.ExactDict ∧ o.data = .dict es ep
section
variable {prog : Program} {w : World} {A : Around} {E : Value → Shared → Prop} {s : Shared} {it d : Addr} {i ep : Nat} {es : Array DictEntry}
theorem keyNext {e : DictEntry} {Q : Option Value → Shared → Prop} (hit : s.heap.IsKeyIter it d i es.size ep) (hm : EntAt s.heap d es ep) (hx : es[i]? = some e)
    (hQ : ∀ h', h'.IsKeyIter it d (i + 1) es.size ep → Heap.SameBut it s.heap h' → Q (some e.key) { s with heap := h' }) : wpAny (model prog w) A (pyNext (.ref it)) Q E s := by
  obtain ⟨o, ho, hc, hd⟩ := id hit
  obtain ⟨od, hod, hcd, hdd⟩ := hm
  have hT := hit.typeIs
  unfold pyNext
  refine wpAny_bind (wpAny_attempt (wpAny_callSpecial?_slot (name := Str.ofString "__next__") hT F.slot_dict_keyiterator_next (wpAny_call_entry F.slot_dict_keyiterator_next hT F.entry_dict_keyiterator_next ?_ (F.args_dict_keyiterator_next_1 _))))
  unfold Builtin.«dict_keyiterator.__next__»
  repeat (first | with_reducible refine wpAny_typeNameOfWhole_keyiter hT ?_ | with_reducible refine wpAny_fieldsOf ho hd ?_ | with_reducible refine wpAny_dictEntries hod hdd ?_ | with_reducible refine wpAny_dictEpoch hod hdd ?_ | with_reducible refine wpAny_isOneOf_keyiter hT ?_ | wp_step)
  have em : (if (i : Int) < 0 then none else es[(i : Int).toNat]?) = some e := by rw [if_neg (by omega), Int.toNat_natCast, hx]
  rw [em]
  refine wpAny_bind (wpAny_bind (wpAny_typeNameOfWhole_keyiter hT (wpAny_pure ?_)))
  refine wpAny_bind (wpAny_isOneOf_keyiter hT ?_)
  show wpAny _ _ (setField (.ref it) 1 (rawInt ((i : Int) + 1)) >>= _) _ _ s
  refine wpAny_bind (wpAny_setField ho hd (by simp) ?_)
  have hit' : (s.heap.update it (Obj.mapFields (·.setIfInBounds 1 (rawInt ((i : Int) + 1))))).IsKeyIter it d (i + 1) es.size ep :=
    ⟨_, Heap.get?_update_self _ ho (Obj.isFreed_of_fields (Obj.data_mapFields hd _)), (Obj.cls_mapFields ..).trans hc, by rw [Obj.data_mapFields hd]; simp [rawInt]⟩
  refine wpAny_bind (wpAny_holding (wpAny_bind (wpAny_isOneOf_keyiter (s := { s with heap := s.heap.update it (Obj.mapFields (·.setIfInBounds 1 (rawInt ((i : Int) + 1)))) }) hit'.typeIs ?_)))
  show wpAny _ _ (pure e.key) _ _ _
  exact wpAny_pure (wpAny_pure ⟨_, rfl, wpAny_pure (hQ _ hit' (Heap.SameBut.update ..))⟩)
theorem keyStop {Q : Option Value → Shared → Prop} (hh : A.handled = none) (hit : s.heap.IsKeyIter it d i es.size ep) (hm : EntAt s.heap d es ep) (hx : es[i]? = none) (hQ : ∀ h', Heap.ExtBut it s.heap h' → Q none { s with heap := h' }) :
    wpAny (model prog w) A (pyNext (.ref it)) Q E s := by
  obtain ⟨o, ho, hc, hd⟩ := id hit
  obtain ⟨od, hod, hcd, hdd⟩ := hm
  have hT := hit.typeIs
  unfold pyNext
  refine wpAny_bind (wpAny_attempt (wpAny_callSpecial?_slot (name := Str.ofString "__next__") hT F.slot_dict_keyiterator_next (wpAny_call_entry F.slot_dict_keyiterator_next hT F.entry_dict_keyiterator_next ?_ (F.args_dict_keyiterator_next_1 _))))
  unfold Builtin.«dict_keyiterator.__next__»
  repeat (first | with_reducible refine wpAny_typeNameOfWhole_keyiter hT ?_ | with_reducible refine wpAny_fieldsOf ho hd ?_ | with_reducible refine wpAny_dictEntries hod hdd ?_ | with_reducible refine wpAny_dictEpoch hod hdd ?_ | with_reducible refine wpAny_isOneOf_keyiter hT ?_ | wp_step)
  have em : (if (i : Int) < 0 then none else es[(i : Int).toNat]?) = none := by rw [if_neg (by omega), Int.toNat_natCast, hx]
  rw [em]
  refine wpAny_bind (wpAny_bind (wpAny_typeNameOfWhole_keyiter hT (wpAny_pure ?_)))
  show wpAny _ _ (setField (.ref it) 0 .none >>= _) _ _ s
  refine wpAny_bind (wpAny_setField ho hd (by simp) ?_)
  show wpAny _ _ (newExc (.type "StopIteration") [] >>= _) _ _ _
  refine wpAny_bind ?_
  simp only [newExc, newTuple]
  refine wpAny_bind (wpAny_newObj_type ?_ (by size_fits))
  refine wpAny_bind (m := firstArgMember _ _) (wpAny_of_eq (a := Value.none) (by first | rfl | (simp only [firstArgMember]; rfl)) ?_)
  refine wpAny_newObj_type ?_ (by size_fits)
  simp only [raiseNew]
  refine wpAny_bind (wpAny_handled ?_)
  rw [show A.in1.handled = none from hh]
  refine wpAny_bind (wpAny_pure (wpAny_throw ?_))
  refine wpAny_bind (wpAny_isInstance (T := "StopIteration") (b := true) ⟨_, Heap.get?_push_size _ rfl, rfl⟩ isSubtype_stop ?_)
  exact wpAny_pure (hQ _ (((Heap.SameBut.update ..).extBut.push _).push _))
theorem keyIter {Q : Value → Shared → Prop} (hd : (d == sysModules) = false) (hm : EntAt s.heap d es ep) (hQ : Q (.ref s.heap.objs.size) { s with heap := s.heap.push { cls := .type "dict_keyiterator", data := .fields #[.ref d, .int 0 0, .int es.size 0, .int ep 0] } }) :
    wpAny (model prog w) A (pyIter (.ref d)) Q E s := by
  obtain ⟨o, ho, hc, hdat⟩ := hm
  have hT : s.TypeIs (.ref d) "dict" := ⟨o, ho, hc.1⟩
  refine wpAny_pyIter_slot hT F.slot_dict_iter (wpAny_call_entry F.slot_dict_iter hT F.entry_dict_iter ?_ (F.args_dict_iter_1 _))
  unfold Builtin.«dict.__iter__»
  refine wpAny_bind ?_
  unfold Builtin.Dict.dictSlotNone
  refine wpAny_bind (wpAny_notOrdered_dict hT ?_)
  show wpAny _ _ (pure (Value.ref d)) _ _ s
  refine wpAny_pure ?_
  show wpAny _ _ (Builtin.Dict.showsAll d >>= _) _ _ s
  unfold Builtin.Dict.showsAll
  rw [if_neg (by rw [hd]; exact Bool.false_ne_true)]
  refine wpAny_bind (wpAny_pure (wpAny_bind (wpAny_dictEntries ho hdat (wpAny_bind (wpAny_dictEpoch ho hdat ?_)))))
  refine wpAny_bind (wpAny_newObj_type (wpAny_pure ⟨_, rfl, "dict_keyiterator", _, ⟨_, Heap.get?_push_size _ rfl, rfl⟩, F.slot_dict_keyiterator_next.lookup, ?_⟩))
  simpa [rawInt] using hQ
end
end L2
set_option Elab.async false
set_option linter.all false
set_option maxRecDepth 100000
namespace L2
open PySem PySem.Spec PyProof.Rows
/-! ### for k in d, comprehensions over d: d a dict keyed by tuples; while it is walked (and behind) it stands still -/
def Itf (d : Addr) (ob : Obj) (kvs : List (List Key × V)) : It :=
  ⟨fun i H => H d = some (.frz ob (.dT kvs)) ∧ i < kvs.length, fun i H x H' => H' = H ∧ ∃ k v b, kvs[i]? = some (k, v) ∧ x = .ref b ∧ H b = some (.tup (k.map kV)), fun i H => H d = some (.frz ob (.dT kvs)) ∧ kvs.length ≤ i⟩
def iDict (td : TE) : TI := fun σ H R => td σ H fun x H1 => ∃ d kvs, x = .ref d ∧ H1 d = some (.dT kvs) ∧ ∀ ob, R (Itf d ob kvs) (upd H1 d (.frz ob (.dT kvs)))
end L2
namespace L2
open PySem PySem.Spec PyProof.Rows
/-! [e for k in d if c]: the turn's item is the key's tuple at some address -/
def tCompD (td : TE) (tc : TT) (te : TE) : TE := fun σ H Q => td σ H fun x H1 => ∃ a kvs, x = .ref a ∧ H1 a = some (.dT kvs) ∧ ∀ ob d, upd H1 a (.frz ob (.dT kvs)) d = none →
  ∃ Pv : Nat → Hp → Prop, Pv 0 (upd (upd H1 a (.frz ob (.dT kvs))) d (.lst [])) ∧ (∀ i H, i ≤ kvs.length → Pv i H → H a = some (.frz ob (.dT kvs))) ∧ (∀ i k v b H, kvs[i]? = some (k, v) → H b = some (.tup (k.map kV)) → Pv i H → turnC tc te σ d (.ref b) H (Pv (i + 1))) ∧ ∀ H, Pv kvs.length H → Q (.ref d) H
/-! for k in d -/
end L2
namespace L2
open PySem PySem.Spec PyProof.Rows
/-! len(d), its keys ints and texts -/
def rLenD : List V → Hp → VK → Prop := fun xs H Q => ∃ a kvs, xs = [V.ref a] ∧ H a = some (.dK kvs) ∧ Q (.int kvs.length) H
end L2
set_option Elab.async false
set_option linter.all false
set_option maxRecDepth 100000
namespace L2
open PySem PySem.Spec PyProof.Rows PySem.W
/-! ### the sort's tree of questions ends with a permutation, and asks for what is there -/
def Lf {α : Type} (n : Nat) (P : α → Prop) : KasT α → Prop
  | .ret a => P a
  | .ask i j k => i < n ∧ j < n ∧ ∀ b, Lf n P (k b)
theorem Lf.bind {α β : Type} {n : Nat} {P : α → Prop} {Q : β → Prop} {f : α → KasT β} (hf : ∀ a, P a → Lf n Q (f a)) : ∀ {t : KasT α}, Lf n P t → Lf n Q (t.bind f)
  | .ret a, h => hf a h
  | .ask i j k, ⟨h1, h2, h3⟩ => ⟨h1, h2, fun b => Lf.bind hf (h3 b)⟩
def Pm (n : Nat) (p : Array Nat) : Prop := p.Perm (List.range n).toArray
theorem Pm.lt {n : Nat} {p : Array Nat} (h : Pm n p) (hn : 0 < n) (i : Nat) : p.getD i 0 < n := by
  by_cases hi : i < p.size
  · have e : p.getD i 0 = p[i] := by simp [Array.getD, hi]
    rw [e]
    have m : p[i] ∈ (List.range n).toArray := h.mem_iff.mp (Array.getElem_mem hi)
    simpa using m
  · have e : p.getD i 0 = 0 := by simp [Array.getD, hi]
    rw [e]; exact hn
theorem Pm.rev {n : Nat} {p : Array Nat} (h : Pm n p) (i j : Nat) : Pm n (kas_rev p i j) := (mirror_perm p i j _).trans h
theorem lf_asc {n : Nat} {p : Array Nat} (hn : 0 < n) (h : Pm n p) : ∀ f m, Lf n (fun _ => True) (kas_asc p f m)
  | 0, _ => trivial
  | f + 1, m => ⟨h.lt hn _, h.lt hn _, fun b => by
    cases b with
    | true => show Lf n _ (if true = true then _ else _); rw [if_pos rfl]; trivial
    | false => show Lf n _ (if false = true then _ else _); rw [if_neg (by decide)]; exact lf_asc hn h f (m + 1)⟩
theorem lf_desc {n : Nat} (hn : 0 < n) : ∀ f p m q, Pm n p → Lf n (fun r => Pm n r.1) (kas_desc f p m q)
  | 0, _, _, _, h => h
  | f + 1, p, m, q, h => ⟨h.lt hn _, h.lt hn _, fun b => by
    cases b with
    | true =>
      show Lf n _ (if true = true then _ else _)
      rw [if_pos rfl]
      by_cases hq : q > 0
      · rw [if_pos hq]; exact lf_desc hn f _ _ _ (h.rev _ _)
      · rw [if_neg hq]; exact lf_desc hn f _ _ _ h
    | false =>
      show Lf n _ (if false = true then _ else _)
      rw [if_neg (by decide)]
      refine ⟨h.lt hn _, h.lt hn _, fun c => ?_⟩
      cases c with
      | true => show Lf n _ (if true = true then _ else _); rw [if_pos rfl]; exact h
      | false => show Lf n _ (if false = true then _ else _); rw [if_neg (by decide)]; exact lf_desc hn f _ _ _ h⟩
theorem lf_tail3 {n : Nat} {p : Array Nat} (hn : 0 < n) (h : Pm n p) (m r : Nat) : Lf n (fun x => Pm n x.2) (kas_tail3 m r p) := by
  refine Lf.bind (fun a _ => ?_) (lf_asc hn (h.rev 0 m) (r - m) m)
  exact h.rev 0 m
theorem lf_descPart {n : Nat} {p : Array Nat} (hn : 0 < n) (h : Pm n p) (m r : Nat) : Lf n (fun x => Pm n x.2) (kas_descPart m r p) := by
  refine Lf.bind (fun x hx => ?_) (lf_desc hn _ _ _ _ h)
  show Lf n _ (if x.2.2 > 0 then _ else _)
  by_cases hq : x.2.2 > 0
  · rw [if_pos hq]; exact lf_tail3 hn (hx.rev _ _) _ _
  · rw [if_neg hq]; exact lf_tail3 hn hx _ _
theorem lf_count {n : Nat} {p : Array Nat} (hn : 0 < n) (h : Pm n p) (r : Nat) : Lf n (fun x => Pm n x.2) (kas_count r p) := by
  refine Lf.bind (fun m _ => ?_) (lf_asc hn h _ _)
  show Lf n _ (if (m == r) = true then _ else if m > 1 then _ else _)
  by_cases h1 : (m == r) = true
  · rw [if_pos h1]; exact h
  · rw [if_neg h1]
    by_cases h2 : m > 1
    · rw [if_pos h2]
      refine ⟨h.lt hn _, h.lt hn _, fun c => ?_⟩
      cases c with
      | true => show Lf n _ (if true = true then _ else _); rw [if_pos rfl]; exact h
      | false => show Lf n _ (if false = true then _ else _); rw [if_neg (by decide)]; exact lf_descPart hn (h.rev _ _) _ _
    · rw [if_neg h2]; exact lf_descPart hn h _ _
theorem lf_place {n : Nat} {p : Array Nat} (hn : 0 < n) (h : Pm n p) (k : Nat) : ∀ f l r, Lf n (fun _ => True) (kas_place p k f l r)
  | 0, _, _ => trivial
  | f + 1, l, r => by
    show Lf n _ (if l ≥ r then _ else _)
    by_cases hl : l ≥ r
    · rw [if_pos hl]; trivial
    · rw [if_neg hl]
      refine ⟨h.lt hn _, h.lt hn _, fun c => ?_⟩
      cases c with
      | true => show Lf n _ (if true = true then _ else _); rw [if_pos rfl]; exact lf_place hn h k f _ _
      | false => show Lf n _ (if false = true then _ else _); rw [if_neg (by decide)]; exact lf_place hn h k f _ _
theorem lf_bin {n : Nat} (hn : 0 < n) : ∀ f p k, Pm n p → Lf n (Pm n) (kas_bin f p k)
  | 0, _, _, h => h
  | f + 1, p, k, h => Lf.bind (fun l _ => lf_bin hn f _ _ ((bubble_perm p k _).trans h)) (lf_place hn h k k 0 k)
theorem lf_sort {n : Nat} (hn : 0 < n) : Lf n (Pm n) (kas_sort n) := by
  refine Lf.bind (fun r hr => ?_) (lf_count hn (Array.Perm.refl _) n)
  show Lf n _ (if r.1 < n then _ else _)
  by_cases h : r.1 < n
  · rw [if_pos h]; exact lf_bin hn _ _ _ hr
  · rw [if_neg h]; exact hr
/-! the tree gone through, where each question is answered and changes nothing that I speaks of -/
theorem wp_of_lf {α : Type} {n : Nat} {P : α → Prop} {cmp : Nat → Nat → (Bool → Shared → Prop) → Shared → Prop} {I : Shared → Prop} (hc : ∀ i j C s, I s → i < n → j < n → (∀ b s', I s' → C b s') → cmp i j C s) :
    ∀ {t : KasT α} {s : Shared}, Lf n P t → I s → t.kasWp cmp (fun a s' => P a ∧ I s') s
  | .ret a, s, h, hI => ⟨h, hI⟩
  | .ask i j k, s, ⟨h1, h2, h3⟩, hI => hc i j _ s hI h1 h2 fun b s' hI' => wp_of_lf hc (h3 b) hI'
end L2
set_option Elab.async false
set_option linter.all false
set_option maxRecDepth 100000
namespace L2
open PySem PySem.Spec PyProof.Rows PySem.W
/-! ### the sort of a list of tuples of ints whose first is empty: a permutation -/
section
variable {prog : Program} {w : World} {A : Around} {E : Value → Shared → Prop} {s : Shared}
def TupI (h : Heap) (v : Value) : Prop := ∃ (b : Addr) (items : Array Value) (ns : List Int), v = .ref b ∧ IsTup h b items ∧ IntsAre items.toList ns
theorem TupI.ty {M : Model} {h : Heap} {v : Value} (t : TupI h v) : Looks M h (typeOf v) (.type "tuple") := by
  obtain ⟨b, items, ns, rfl, ⟨o, ho, hc, _⟩, _⟩ := t
  exact hc ▸ (Looks.ld ho).andThen .now
theorem oneLt_tup {x y : Value} {Q : Bool → Shared → Prop} (hx : TupI s.heap x) (hy : TupI s.heap y) (hu : A.units < cLine) (h : ∀ b, Q b s) : wpAny (model prog w) A (oneLt' true x y) Q E s := by
  obtain ⟨a, items, ns, rfl, ht, hi⟩ := hx
  obtain ⟨b, items2, ms, rfl, ht2, hj⟩ := hy
  obtain ⟨⟨cls, dd, data, sl⟩, ho, hc, n, hd⟩ := id ht
  obtain ⟨⟨cls2, dd2, data2, sl2⟩, ho2, hc2, n2, hd2⟩ := id ht2
  simp only at hc hd hc2 hd2
  subst hc hd hc2 hd2
  rw [oneLt'_eq]
  simp only [if_true]
  refine wpAny_bind (wpAny_cRoomFor hu ?_)
  refine wpAny_bind (wpAny_callSpecialIfBound?_slot (T := "tuple") ⟨_, ho, rfl⟩ PySem.F.slot_tuple_lt (call_meets PySem.F.slot_tuple_lt ⟨_, ho, rfl⟩ PySem.F.entry_tuple_lt (PySem.F.args_tuple_lt_2 _ _) (HT.tuple_lt_ints a b items items2 n n2 dd dd2 sl sl2 ns ms hi hj) ⟨ho, ho2, ?_⟩))
  exact wpAny_truthy_bool (h _)
theorem mapM_at {α β : Type} {M : Model} {f : α → Sem β} {g : α → β} : ∀ (l : List α) {Q : List β → Shared → Prop}, (∀ v ∈ l, ∀ (Q' : β → Shared → Prop), Q' (g v) s → wpAny M A (f v) Q' E s) → Q (l.map g) s → wpAny M A (l.mapM f) Q E s
  | [], _, _, h => by rw [List.mapM_nil]; exact wpAny_pure h
  | x :: l, Q, hf, h => by
    rw [List.mapM_cons]
    exact wpAny_bind (hf x (.head _) _ (wpAny_bind (mapM_at l (Q := fun bs s' => wpAny M A (pure (g x :: bs)) Q E s') (fun v hv => hf v (.tail _ hv)) (wpAny_pure h))))
def fst? (h : Heap) : Value → Option Value
  | .ref b => match h.get? b with
    | some o => match o.data with
      | .seq xs _ => xs[0]?
      | _ => none
    | none => none
  | _ => none
theorem kind_tup {M : Model} {v0 : Value} {vs : List Value} {Q : SortKind → Shared → Prop} (t : ∀ v ∈ v0 :: vs, TupI s.heap v) (h0 : fst? s.heap v0 = none) (h : Q oneType' s) : wpAny M A (keyKind' (v0 :: vs).toArray) Q E s := by
  rw [kat_kind_eq, List.mapM_toArray, map_eq_pure_bind]
  refine wpAny_bind (wpAny_bind (mapM_at (g := fst? s.heap) _ (fun v hv Q' hq => ?_) (wpAny_pure ?_)))
  · have ty := (t v hv).ty (M := M)
    obtain ⟨b, items, ns, rfl, ⟨o, ho, hc, n, hd⟩, _⟩ := t v hv
    rw [kas_first_eq]
    refine wpAny_bind (ty.here ?_)
    rw [if_neg (by simp)]
    refine wpAny_bind (listItems_at ho hd (wpAny_pure ?_))
    have e : fst? s.heap (.ref b) = items[0]? := by unfold fst?; simp only [ho, hd]
    rw [← e]
    exact hq
  · have na : ((List.map (fst? s.heap) (v0 :: vs)).toArray.all fun x => x.isSome) = false := by
      simp [h0]
    have n0 : ((List.map (fst? s.heap) (v0 :: vs)).toArray[0]?.bind id).isSome = false := by simp [h0]
    rw [if_neg (by rw [na]; decide), if_neg (by rw [n0]; decide)]
    rw [oneTypeOnly'_eq, List.mapM_toArray, map_eq_pure_bind]
    refine wpAny_bind (wpAny_bind (wpAny_bind (kas_mapM (r := Value.type "tuple") _ (fun v hv Q' hq => ((t v hv).ty (M := M)).here hq) (wpAny_pure ?_))))
    have hall : ((List.map (fun _ => Value.type "tuple") (v0 :: vs)).toArray.all fun x => x == Value.type "tuple") = true := by
      simp
    have e0 : (List.map (fun _ => Value.type "tuple") (v0 :: vs)).toArray[0]? = some (Value.type "tuple") := by simp
    rw [e0]
    simp only [hall, if_true]
    exact wpAny_pure (wpAny_pure h)
end
end L2
set_option Elab.async false
set_option linter.all false
set_option maxRecDepth 100000
set_option maxHeartbeats 1000000
namespace L2
open PySem PySem.Spec PyProof.Rows PySem.W
section
variable {prog : Program} {w : World} {A : Around} {E : Value → Shared → Prop} {s : Shared}
theorem TupI.keep {h h' : Heap} {v : Value} {a : Addr} {o : Obj} (t : TupI h v) (ho : h.get? a = some o) (hc : o.cls = .type "list") (k : ∀ b o, b ≠ a → h.get? b = some o → h'.get? b = some o) : TupI h' v ∧ fst? h' v = fst? h v := by
  obtain ⟨b, items, ns, rfl, ⟨ob, hb, hcb, n, hd⟩, hi⟩ := t
  have ne : b ≠ a := fun z => by rw [z, ho] at hb; cases hb; rw [hc] at hcb; exact absurd (Value.type.inj hcb) (by decide)
  have hb' := k b ob ne hb
  refine ⟨⟨b, items, ns, rfl, ⟨ob, hb', hcb, n, hd⟩, hi⟩, ?_⟩
  unfold fst?
  simp only [hb, hb']
theorem perm_out {n : Nat} {p : Array Nat} {vs : List Value} (h : Pm n p) (hn : vs.length = n) : (p.toList.map fun i => vs.getD i Value.none).Perm vs := by
  have e : (List.range n).map (fun i => vs.getD i Value.none) = vs := by
    subst hn
    refine List.ext_getElem (by simp) fun i h1 h2 => ?_
    simp [List.getD_eq_getElem?_getD, List.getElem?_eq_getElem h2]
  have q : p.toList.Perm (List.range n) := by
    have := h.toList
    simpa using this
  have q2 := q.map fun i => vs.getD i Value.none
  rw [e] at q2
  exact q2
theorem sort_tup {a : Addr} {vs : List Value} {n : Nat} {P : PySem.Fin → Shared → Prop} (ho : s.heap.get? a = some (seqObj "list" vs.toArray n)) (h64 : vs.length < 64) (t : ∀ v ∈ vs, TupI s.heap v) (h0 : ∀ v0 rest, vs = v0 :: rest → fst? s.heap v0 = none) (hu : A.units < cLine)
    (h : ∀ (h' : Heap) (out : List Value) (c : Nat), out.Perm vs → h'.get? a = some (seqObj "list" out.toArray c) → (∀ b o, b ≠ a → s.heap.get? b = some o → h'.get? b = some o) → P (.done (.ret .none)) { s with heap := h' }) :
    wpAny (model prog w) A (Builtin.«list.sort» ⟨[.ref a], []⟩) P E s := by
  have ha : a < s.heap.objs.size := Heap.lt_size ho
  obtain ⟨e1, ho1⟩ : ∃ e1, (s.heap.update a (Obj.mapSeq fun _ => (#[] : Array Value))).get? a = some (seqObj "list" #[] e1) := ⟨_, get?_update_seq ho fun _ => #[]⟩
  rw [list_sort_plain]
  refine wpAny_bind (listItems_at ho rfl (wpAny_bind (listUpdate_at ho rfl ?_ (by rw [List.size_toArray, sizeLine_eq]; omega) (Nat.zero_le _))))
  refine wpAny_bind (seqEpoch_at ho1 rfl (wpAny_bind (wpAny_newTuple ?_ (by show vs.length ≤ _; rw [sizeLine_eq]; omega))))
  refine wpAny_bind (wpAny_newList ?_ (Nat.zero_le _))
  refine wpAny_holding ?_
  have k1 : ∀ b o, b ≠ a → s.heap.get? b = some o → (((s.heap.update a (Obj.mapSeq fun _ => (#[] : Array Value))).push (seqObj "tuple" vs.toArray 0)).push (seqObj "list" #[] 0)).get? b = some o := fun b o hb e =>
    Heap.get?_push_of_some _ (Heap.get?_push_of_some _ ((Heap.get?_update_ne _ _ _ _ hb).trans e))
  have ho6 : (((s.heap.update a (Obj.mapSeq fun _ => (#[] : Array Value))).push (seqObj "tuple" vs.toArray 0)).push (seqObj "list" #[] 0)).get? a = some (seqObj "list" #[] e1) := Heap.get?_push_of_some _ (Heap.get?_push_of_some _ ho1)
  show wpAny (model prog w) A _ P E { s with heap := ((s.heap.update a (Obj.mapSeq fun _ => (#[] : Array Value))).push (seqObj "tuple" vs.toArray 0)).push (seqObj "list" #[] 0) }
  generalize (((s.heap.update a (Obj.mapSeq fun _ => (#[] : Array Value))).push (seqObj "tuple" vs.toArray 0)).push (seqObj "list" #[] 0)) = h1 at k1 ho6 ⊢
  dsimp only
  have last : ∀ (out : List Value), out.Perm vs → ∃ c, (h1.update a (Obj.mapSeq fun _ => out.toArray)).get? a = some (seqObj "list" out.toArray c) ∧ (∀ b o, b ≠ a → s.heap.get? b = some o → (h1.update a (Obj.mapSeq fun _ => out.toArray)).get? b = some o) := fun out hp =>
    ⟨_, get?_update_seq ho6 fun _ => out.toArray, fun b o hb e => (Heap.get?_update_ne _ _ _ _ hb).trans (k1 b o hb e)⟩
  by_cases h2 : vs.toArray.size < 2
  · rw [if_pos h2, if_pos h2]
    refine wpAny_bind (wpAny_pure ?_)
    rw [StateT.run_pure]
    refine wpAny_bind (wpAny_pure ?_)
    dsimp only
    refine wpAny_bind (seqEpoch_at ho6 rfl ?_)
    have e2 : Array.map (fun x => x.snd) (arrOf (SortSt.mk' general' (vs.toArray.zip vs.toArray) #[] 7 none)) = vs.toArray := by
      show Array.map (fun x => x.snd) (vs.toArray.zip vs.toArray) = vs.toArray
      apply Array.toList_inj.mp
      simp [List.map_snd_zip]
    rw [e2]
    obtain ⟨c, hc, kk⟩ := last vs (List.Perm.refl _)
    refine wpAny_bind (listUpdate_at ho6 rfl ?_ (Nat.zero_le _) (by rw [List.size_toArray, sizeLine_eq]; omega))
    simp only [bne_self_eq_false, Bool.false_eq_true, if_false]
    exact wpAny_pure (h _ vs c (List.Perm.refl _) hc kk)
  · rw [if_neg h2, if_neg h2]
    rw [List.size_toArray] at h2
    obtain ⟨v0, rest, rfl⟩ : ∃ v0 rest, vs = v0 :: rest := by
      match vs, h2 with
      | [], h2 => simp at h2
      | v0 :: rest, _ => exact ⟨v0, rest, rfl⟩
    have tk := fun v hv => TupI.keep (t v hv) ho rfl k1
    refine wpAny_bind (kind_tup (s := { s with heap := h1 }) (fun v hv => (tk v hv).1) (by rw [(tk v0 (.head _)).2]; exact h0 v0 rest rfl) ?_)
    have tree : (kas_sort (v0 :: rest).length).kasWp (kas_ask prog w A oneType' (v0 :: rest)) (fun p s' => Pm (v0 :: rest).length p ∧ s' = { s with heap := h1 }) { s with heap := h1 } := by
      refine wp_of_lf (I := fun s' => s' = { s with heap := h1 }) (fun i j C s' hI hi hj hC => ?_) (lf_sort (by omega)) rfl
      subst hI
      have at_ : ∀ i, i < (v0 :: rest).length → TupI h1 ((v0 :: rest).getD i Value.none) := fun i hi => by
        rw [List.getD_eq_getElem?_getD, List.getElem?_eq_getElem hi]
        exact (tk _ (List.getElem_mem hi)).1
      show wpAny (model prog w) A (keyLt' oneType' _ _) C _ _
      rw [keyLt'_oneType]
      exact oneLt_tup (at_ i hi) (at_ j hj) hu fun b => hC b _ rfl
    refine wpAny_bind (wpAny_mono (kat_run (Q := fun st' s' => ∃ p : Array Nat, arrOf st' = p.map (kas_item ((v0 :: rest).toArray.zip (v0 :: rest).toArray)) ∧ failedOf st' = none ∧ Pm (v0 :: rest).length p ∧ s' = { s with heap := h1 }) rfl (by omega) h64 (fun p' st' s' a1 a2 a3 a4 => ⟨p', a2, a3, a4.1, a4.2⟩) tree) ?_ fun _ _ e => e)
    rintro ⟨⟨⟩, st'⟩ s' ⟨p, har, hf, hp, rfl⟩
    dsimp only
    have hout := kat_snds rfl har
    have po := perm_out hp rfl
    obtain ⟨c, hc, kk⟩ := last _ po
    refine wpAny_bind (seqEpoch_at ho6 rfl ?_)
    rw [hout]
    refine wpAny_bind (listUpdate_at ho6 rfl ?_ (Nat.zero_le _) (by rw [List.size_toArray, po.length_eq, sizeLine_eq]; omega))
    rw [hf]
    simp only [bne_self_eq_false, Bool.false_eq_true, if_false]
    exact wpAny_pure (h _ _ c po hc kk)
end
end L2
set_option Elab.async false
set_option linter.all false
set_option maxRecDepth 100000
set_option maxHeartbeats 1000000
namespace L2
open PySem PySem.Spec PyProof.Rows PySem.W
/-! ### sorted(d), d keyed by tuples of ints, its first key the empty one: some permutation of the keys -/
section
variable {prog : Program} {w : World} {A : Around} {E : Value → Shared → Prop} {s : Shared} {d : Addr} {es : Array DictEntry} {ep : Nat}
theorem EntAt.at {h h' : Heap} (x : EntAt h d es ep) (e : ∀ o, h.get? d = some o → h'.get? d = some o) : EntAt h' d es ep := by
  obtain ⟨o, ho, r⟩ := x
  exact ⟨o, e o ho, r⟩
theorem walk_keys (hh : A.handled = none) (I : Addr) (hne : d ≠ I) : Walks prog w A I [I, d] [I] es.size (fun i v => ∃ e, es[i]? = some e ∧ v = e.key) (fun i h => h.IsKeyIter I d i es.size ep ∧ EntAt h d es ep) where
  sub := fun b hb => by simp at hb; simp [hb]
  frame := fun _ _ _ st hk => ⟨st.1.at fun o e => hk I (by simp) o e, st.2.at fun o e => hk d (by simp) o e⟩
  item := fun i s Q E hi st hQ => by
    have he : es[i]? = some es[i] := Array.getElem?_eq_getElem hi
    refine keyNext st.1 st.2 he fun h' hit' hs' => ?_
    exact hQ _ h' s.toks ⟨_, he, rfl⟩ ⟨hit', st.2.at fun o e => (hs'.2 d hne).trans e⟩ fun b o hb e => hs'.extBut b o (fun h => hb (by simp [h])) e
  done := fun s Q E st hQ => keyStop hh st.1 st.2 (by simp) fun h' he' => hQ h' s.toks fun b o hb e => he' b o (fun h => hb (by simp [h])) e
  self := fun _ _ _ _ st hQ => wpAny_pyIter_keyiter st.1 hQ
theorem src_keys (hd : (d == sysModules) = false) : KdlSrc prog w "dict" d d es.size (fun i v => ∃ e, es[i]? = some e ∧ v = e.key) (fun h => EntAt h d es ep) where
  type := fun s ⟨o, ho, hx, _⟩ => ⟨o, ho, hx.1⟩
  there := fun h ⟨o, ho, _⟩ => ⟨Heap.lt_size ho, Heap.lt_size ho⟩
  keep := fun h h' x k => x.at fun o e => k d (.inl rfl) o e
  notList := by decide
  notTuple := by decide
  hint := fun A E s Q ⟨o, ho, hx, _⟩ h => kdl_hint_dict ⟨o, ho, hx.1⟩ h
  iter := fun A s hh hok => by
    have lt : d < s.heap.objs.size := by obtain ⟨o, ho, _⟩ := hok; exact Heap.lt_size ho
    exact ⟨_, _, fun E Q hQ => keyIter hd hok hQ, walk_keys hh _ (Nat.ne_of_lt lt), ⟨_, Heap.get?_push_size _ rfl, rfl, rfl⟩, hok.at fun o e => Heap.get?_push_of_some _ e⟩
theorem collect_keys {Q : List Value → Shared → Prop} (hh : A.handled = none) (hd : (d == sysModules) = false) (hok : EntAt s.heap d es ep) (hn : es.size ≤ sizeLine)
    (h : ∀ h' tk, (∀ b o, s.heap.get? b = some o → h'.get? b = some o) → Q (es.toList.map (·.key)) { s with heap := h', toks := tk }) : wpAny (model prog w) A (collect (.ref d)) Q E s := by
  have lt : d < s.heap.objs.size := by obtain ⟨o, ho, _⟩ := hok; exact Heap.lt_size ho
  have ne : s.heap.objs.size ≠ d := Nat.ne_of_gt lt
  unfold collect
  refine wpAny_bind (wpAny_runValue (codeAny_builtin F.entry_proto_collect ?_))
  rw [Around.under_plainId F.plain_proto_collect _]
  show wpAny _ A.in1 (newList [] >>= fun l => again (.builtin "list.__iadd__" ⟨[l, .ref d], []⟩)) _ _ s
  refine wpAny_bind (wpAny_newObj_type ?_)
  refine wpAny_pure ⟨plainId_quiet F.plain_list_iadd _, codeAny_builtin F.entry_list_iadd ?_⟩
  rw [Around.under_plainId F.plain_list_iadd _]
  show wpAny _ A.in1 (Builtin.List.listExtendWith (.ref s.heap.objs.size) (.ref d) (.ref s.heap.objs.size)) _ _ _
  have hS0 : (s.heap.push { cls := .type "list", data := .seq #[] }).get? s.heap.objs.size = some { cls := .type "list", data := .seq #[] } := Heap.get?_push_size _ rfl
  have fin : ∀ s' : Shared, (∃ acc c, s'.heap.get? s.heap.objs.size = some { cls := .type "list", dict := none, data := .seq acc c, slots := #[] } ∧ acc.toList = es.toList.map (·.key) ∧ Q (es.toList.map (·.key)) s') →
      wpAny (model prog w) A (match Value.ref s.heap.objs.size with
        | .ref a => do
          let o ← load a
          match o.data with
          | .seq xs _ => pure xs.toList
          | _ => unsupported "internal:collect"
        | _ => unsupported "internal:collect") Q E s' := fun s' ⟨acc, c, hS, ea, q⟩ => by
    show wpAny _ A (load s.heap.objs.size >>= _) _ _ _
    refine wpAny_bind (wpAny_load hS (wpAny_pure ?_))
    show Q acc.toList _
    rw [ea]
    exact q
  refine wpAny_mono (kdl_extend (s := { s with heap := s.heap.push { cls := .type "list", data := .seq #[] } }) (A := A)
    (R := fun r s' => r = .ok (.ret (.ref s.heap.objs.size)) ∧ ∃ acc c, s'.heap.get? s.heap.objs.size = some { cls := .type "list", dict := none, data := .seq acc c, slots := #[] } ∧ acc.toList = es.toList.map (·.key) ∧ Q (es.toList.map (·.key)) s')
    (src_keys (es := es) (ep := ep) hd) hh (hok.at fun o e => Heap.get?_push_of_some _ e) s.heap.objs.size ne ne (.ref s.heap.objs.size) 0 hS0 (fun h' tk acc c kp hS hacc => ⟨rfl, acc, c, hS, ?_, ?_⟩) hn) (fun fn s' hz => ?_) (fun e s' hz => ?_)
  · refine List.ext_getElem? fun i => ?_
    rw [Array.getElem?_toList, List.getElem?_map, Array.getElem?_toList]
    cases hi : acc[i]? with
    | none =>
      have : acc.size ≤ i := Array.getElem?_eq_none_iff.mp hi
      rw [Array.getElem?_eq_none (by rw [← hacc.1]; exact this)]
      rfl
    | some v =>
      obtain ⟨e, he, rfl⟩ := hacc.2 i v hi
      rw [he]
      rfl
  · exact h h' tk fun b o e => kp b o (Nat.ne_of_lt (Heap.lt_size e)) (Heap.get?_push_of_some _ e)
  · rcases fn with f | c'
    · obtain ⟨e, z⟩ := hz
      cases e
      exact fin s' z
    · refine ⟨hz.1, codeAny_mono hz.2 fun r s'' z => ?_⟩
      obtain ⟨e, z⟩ := z
      subst e
      exact fin s'' z
  · obtain ⟨z, _⟩ := hz
    cases z
end
end L2
set_option Elab.async false
set_option linter.all false
set_option maxRecDepth 100000
set_option maxHeartbeats 1000000
namespace L2
open PySem PySem.Spec PyProof.Rows PySem.W
def KeyAt (H : Hp) (x : V) (k : List Key) : Prop := ∃ b, x = .ref b ∧ H b = some (.tup (k.map kV))
def rSortD : List V → Hp → VK → Prop := fun xs H Q => ∃ d kvs, xs = [.ref d] ∧ H d = some (.dT kvs) ∧ kvs.length < 64 ∧ (∀ kv ∈ kvs, ∃ ns : List Int, kv.1 = ns.map Sum.inl) ∧ (∀ k v r, kvs = (k, v) :: r → k = []) ∧
  ∀ p H' out ks, Same H H' → H p = none → H' p = some (.lst out) → ks.Perm (kvs.map (·.1)) → Paired (KeyAt H') out ks → Q (.ref p) H'
theorem ints_of_kV {ns : List Int} {us : List Value} (r : Vals ((ns.map Sum.inl).map kV) us) : IntsAre us ns := by
  induction ns generalizing us with
  | nil => cases r; exact .nil
  | cons n ns ih =>
    cases r with
    | cons r rr =>
      obtain ⟨t, rfl⟩ := r
      exact .cons _ _ (ih rr)
theorem unmap {α β : Type} {f : α → β} {l m : List β} (h : l.Perm m) : ∀ xs, m = xs.map f → ∃ ys : List α, ys.Perm xs ∧ l = ys.map f := by
  induction h with
  | nil => exact fun xs e => ⟨[], by cases xs with | nil => exact .nil | cons a t => simp at e, rfl⟩
  | cons x h ih =>
    intro xs e
    cases xs with
    | nil => simp at e
    | cons a t =>
      simp only [List.map_cons, List.cons.injEq] at e
      obtain ⟨ys, p, rfl⟩ := ih t e.2
      exact ⟨a :: ys, .cons _ p, by rw [e.1]; rfl⟩
  | swap x y l =>
    intro xs e
    match xs, e with
    | [], e => simp at e
    | [_], e => simp at e
    | a :: b :: t, e =>
      simp only [List.map_cons, List.cons.injEq] at e
      exact ⟨b :: a :: t, .swap _ _ _, by rw [e.1, e.2.1, e.2.2]; rfl⟩
  | trans h1 h2 ih1 ih2 =>
    intro xs e
    obtain ⟨ys, p, rfl⟩ := ih2 xs e
    obtain ⟨zs, p2, rfl⟩ := ih1 ys rfl
    exact ⟨zs, p2.trans p, rfl⟩
theorem vals_refsOf {α : Type} (g : α → Addr) : ∀ ys : List α, Vals (ys.map fun x => V.ref (g x)) (ys.map fun x => Value.ref (g x))
  | [] => .nil
  | y :: ys => .cons rfl (vals_refsOf g ys)
theorem keys_paired {H' : Hp} : ∀ ys : List (List Key × Addr × Value), (∀ y ∈ ys, H' y.2.1 = some (.tup (y.1.map kV))) → Paired (KeyAt H') (ys.map fun x => V.ref x.2.1) (ys.map (·.1))
  | [], _ => .nil
  | y :: ys, h => .cons ⟨_, rfl, h y (.head _)⟩ (keys_paired ys fun z hz => h z (.tail _ hz))
theorem fst_eq {H : Hp} {kvs : List (List Key × V)} {xs : List (List Key × Addr × Value)} (r : Paired (fun (p : List Key × V) (q : List Key × Addr × Value) => p.1 = q.1 ∧ H q.2.1 = some (.tup (p.1.map kV)) ∧ RelV p.2 q.2.2) kvs xs) : kvs.map (·.1) = xs.map (·.1) := by
  induction r with
  | nil => rfl
  | cons a _ ih => rw [List.map_cons, List.map_cons, a.1, ih]
theorem srt_dict {X : Cx} (hc : X.calm = true) (hu : X.A.units + 4 < cLine) : CallR X (.builtin "sorted") rSortD := by
  intro pins s σ H xs us Q I r h
  obtain ⟨d, kvs, rfl, e, h64, hi, h0, q⟩ := h
  obtain ⟨u, rfl, rx⟩ := vals1 r
  cases rx
  obtain ⟨z, hd, xs, rel, ob, es, ep, ho, hx, hdat, he, hn⟩ := (show ObjOk X.prog X.w H s.heap d (.dT kvs) from I.hok d _ e)
  have lx : kvs.length = xs.length := Paired.length rel
  have sz : es.size = xs.length := size_of_entries he
  have hk : es.toList.map (·.key) = xs.map fun x => Value.ref x.2.1 := by
    rw [he, List.map_map]
    rfl
  have tup : ∀ x ∈ xs, TupI s.heap (.ref x.2.1) ∧ ∃ k, H x.2.1 = some (.tup (k.map kV)) ∧ k = x.1 := fun x hxm => by
    obtain ⟨i, hi'⟩ := List.mem_iff_getElem?.mp hxm
    obtain ⟨kv, hkv, r1, r2, r3⟩ := L2.Paired.left_of rel i x hi'
    obtain ⟨ns, en⟩ := hi kv (List.mem_of_getElem? hkv)
    obtain ⟨_, its, rv, it⟩ := (show ObjOk X.prog X.w H s.heap x.2.1 (.tup (kv.1.map kV)) from I.hok _ _ r2)
    rw [en] at rv
    exact ⟨⟨_, _, ns, rfl, it, by simpa using ints_of_kV rv⟩, kv.1, r2, r1⟩
  refine Calls.call_function_entry kind_sorted plain_sorted entry_sorted (args_sorted1 _) ?_
  unfold Builtin.«sorted»
  refine wpAny_bind (m := checkCount "sorted" 1 1 _) (wpAny_pure ?_)
  refine wpAny_bind (collect_keys (I.ok.hd hc) hd ⟨ob, ho, hx, hdat⟩ (by rw [sz, ← lx, sizeLine_eq]; omega) fun h1 tk1 k1 => ?_)
  rw [hk]
  refine wpAny_bind (wpAny_newList ?_ (by rw [List.length_map, ← lx, sizeLine_eq]; omega))
  have hoL : (h1.push (seqObj "list" (xs.map fun x => Value.ref x.2.1).toArray 0)).get? h1.objs.size = some (seqObj "list" (xs.map fun x => Value.ref x.2.1).toArray 0) := Heap.get?_push_size _ rfl
  have k2 : ∀ b o, s.heap.get? b = some o → (h1.push (seqObj "list" (xs.map fun x => Value.ref x.2.1).toArray 0)).get? b = some o := fun b o e => Heap.get?_push_of_some _ (k1 b o e)
  show wpAny _ _ _ _ _ { s with heap := h1.push (seqObj "list" (xs.map fun x => Value.ref x.2.1).toArray 0), toks := tk1 }
  have nL : ∀ b o, h1.get? b = some o → b ≠ h1.objs.size := fun b o e => Nat.ne_of_lt (Heap.lt_size e)
  have I1 : Inv X pins σ H { s with heap := h1, toks := tk1 } := I.kept k1
  have hLn : H h1.objs.size = none := I1.hok.fresh (Nat.le_refl _)
  have tk : ∀ v ∈ xs.map (fun x => Value.ref x.2.1), TupI (h1.push (seqObj "list" (xs.map fun x => Value.ref x.2.1).toArray 0)) v := fun v hv => by
    obtain ⟨x, hxm, rfl⟩ := List.mem_map.mp hv
    obtain ⟨b, items, ns, eb, ⟨o, hb, rr⟩, hh⟩ := (tup x hxm).1
    exact ⟨b, items, ns, eb, ⟨o, k2 b o hb, rr⟩, hh⟩
  refine wpAny_bind (wpAny_holding (wpAny_call_entry slot_list_sort ⟨_, hoL, rfl⟩ entry_list_sort (sort_tup (s := { s with heap := h1.push (seqObj "list" (xs.map fun x => Value.ref x.2.1).toArray 0), toks := tk1 }) hoL (by rw [List.length_map, ← lx]; exact h64) tk (fun v0 rest ev => ?_) ?_ fun h' out c po hL kp => ⟨_, rfl, ?_⟩) (args_list_sort _)))
  · cases hxs : xs with
    | nil => rw [hxs] at ev; simp at ev
    | cons x0 xr =>
      rw [hxs] at ev
      simp only [List.map_cons, List.cons.injEq] at ev
      obtain ⟨rfl, _⟩ := ev
      obtain ⟨kv0, hkv, r1, r2, r3⟩ := L2.Paired.left_of rel 0 x0 (by rw [hxs]; rfl)
      have ek : kv0.1 = [] := by
        cases hkk : kvs with
        | nil => rw [hkk] at hkv; simp at hkv
        | cons p pr =>
          rw [hkk] at hkv
          simp at hkv
          subst hkv
          exact h0 p.1 p.2 pr hkk
      rw [ek] at r2
      obtain ⟨_, its, rv, ⟨o, hb, hcl, n, hdd⟩⟩ := (show ObjOk X.prog X.w H s.heap x0.2.1 (.tup []) from I.hok _ _ r2)
      cases rv
      have hb' := k2 _ _ hb
      rw [hxs] at hb'
      unfold fst?
      simp only [hb', hdd]
      rfl
  · show X.A.units + 1 + 1 < cLine
    omega
  · obtain ⟨ys, py, rfl⟩ := unmap po xs rfl
    have kh : ∀ b o, h1.get? b = some o → h'.get? b = some o := fun b o e => kp b o (nL b o e) (Heap.get?_push_of_some _ e)
    have I2 : Inv X pins σ (upd H h1.objs.size (.lst (ys.map fun x => V.ref x.2.1))) { s with heap := h', toks := tk1 } := I1.laid (t' := tk1) kh (Nat.le_refl _) ⟨by rw [List.length_map, py.length_eq, ← lx, sizeLine_eq]; omega, _, c, vals_refsOf (fun x : List Key × Addr × Value => x.2.1) ys, hL⟩
    have sm := same_newO hLn (.lst (ys.map fun x => V.ref x.2.1))
    refine wpAny_pure ⟨_, rfl, .ref h1.objs.size, _, I2, rfl, q _ _ _ (ys.map (·.1)) sm hLn upd_same (by rw [fst_eq rel]; exact py.map _) (keys_paired ys fun y hy => sm _ _ ?_)⟩
    obtain ⟨k, hk2, rfl⟩ := (tup y (py.mem_iff.mp hy)).2
    exact hk2
end L2
set_option Elab.async false
set_option linter.all false
set_option maxRecDepth 100000
namespace L2
open PySem PySem.Spec PyProof.Rows
/-! ### enumerate(a), a list or a tuple -/
section
variable {prog : Program} {w : World} {A : Around} {E : Value → Shared → Prop} {s : Shared} {k : Bool} {ee it l : Addr} {n : Nat} {xs : Array Value} {x old : Value}
theorem enumS_item {Q : Value → Shared → Prop} (he : IsEnum s.heap ee it n old) (hi : SIt k s.heap it l n) (hl : SAt k s.heap l xs) (hx : xs[n]? = some x) (hne : ee ≠ it)
    (hQ : ∀ h', IsEnumOut h' ee it ((n : Int) + 1) x s.heap.objs.size → SIt k h' it l (n + 1) → h'.get? s.heap.objs.size = some { cls := .type "tuple", data := .seq #[.int n s.toks, x] } →
      (∀ b o, b ≠ ee → b ≠ it → s.heap.get? b = some o → h'.get? b = some o) → Q (.ref s.heap.objs.size) { s with heap := h', toks := s.toks + 1 }) :
    wpAny (model prog w) A (Builtin.«enumerate.__next__» ⟨[.ref ee], []⟩) (fun fin s' => ∃ v, fin = .done (.ret v) ∧ Q v s') E s := by
  obtain ⟨hp, g, d, tk, os⟩ := s
  show wpAny _ _ (field (.ref ee) 2 >>= _) _ _ _
  refine wpAny_bind (wpAny_field he rfl (x := .ref it) rfl (wpAny_bind (nextS hi hl hx fun g1 i1 b1 => ?_)))
  replace b1 : Heap.SameBut it hp g1 := b1
  have e1 : IsEnum g1 ee it n old := (b1.2 ee hne).trans he
  show wpAny _ _ (field (.ref ee) 3 >>= _) _ _ ⟨g1, g, d, tk, os⟩
  refine wpAny_bind (wpAny_field e1 rfl (x := rawInt n) rfl ?_)
  show wpAny _ _ (field (.ref ee) 4 >>= _) _ _ ⟨g1, g, d, tk, os⟩
  refine wpAny_bind (wpAny_field e1 rfl (x := .none) rfl ?_)
  show wpAny _ _ (mkInt n >>= _) _ _ ⟨g1, g, d, tk, os⟩
  refine wpAny_bind (wpAny_mkInt ?_)
  show wpAny _ _ (setField (.ref ee) 3 (rawInt ((n : Int) + 1)) >>= _) _ _ ⟨g1, g, d, tk + 1, os⟩
  refine wpAny_bind (wpAny_setField_rec e1 (by simp) fun g2 e2 b2 => ?_)
  replace b2 : Heap.SameBut ee g1 g2 := b2
  replace e2 : IsEnum g2 ee it ((n : Int) + 1) old := e2
  show wpAny _ _ (setField (.ref ee) 4 .none >>= _) _ _ ⟨g2, g, d, tk + 1, os⟩
  refine wpAny_bind (wpAny_setField_rec e2 (by simp) fun g3 e3 b3 => ?_)
  replace b3 : Heap.SameBut ee g2 g3 := b3
  replace e3 : IsEnum g3 ee it ((n : Int) + 1) old := e3
  show wpAny _ _ (newTuple [.int n tk, x] >>= _) _ _ ⟨g3, g, d, tk + 1, os⟩
  refine wpAny_bind (wpAny_newTuple ?_)
  have e4 : IsEnum (g3.push { cls := .type "tuple", data := .seq #[.int n tk, x] }) ee it ((n : Int) + 1) old := Heap.get?_push_of_some _ e3
  generalize q4 : g3.push { cls := .type "tuple", data := .seq #[.int n tk, x] } = g4 at e4
  have sz : g3.objs.size = hp.objs.size := by rw [b3.1, b2.1, b1.1]
  have lt : ee < hp.objs.size := Heap.lt_size he
  have t4 : g4.get? hp.objs.size = some { cls := .type "tuple", data := .seq #[.int n tk, x] } := by rw [← q4, ← sz]; exact Heap.get?_push_size _ rfl
  have k4 : ∀ b o, b ≠ ee → b ≠ it → hp.get? b = some o → g4.get? b = some o := fun b o c1 c2 hb => by
    rw [← q4]; exact Heap.get?_push_of_some _ (b3.extBut b o c1 (b2.extBut b o c1 (b1.extBut b o c2 hb)))
  have i4 : SIt k g4 it l (n + 1) := i1.at fun o e => by
    rw [← q4]; exact Heap.get?_push_of_some _ (b3.extBut _ _ (Ne.symm hne) (b2.extBut _ _ (Ne.symm hne) e))
  show wpAny _ _ (Builtin.SmallTypes.ownedTupleIsFree (.ref ee) >>= _) _ _ ⟨g4, g, d, tk + 1, os⟩
  rw [sz]
  clear q4 e3 b3 e2 b2 e1 b1 i1 sz g3 g2 g1
  refine wpAny_bind ?_
  unfold Builtin.SmallTypes.ownedTupleIsFree
  refine wpAny_bind (wpAny_field e4 rfl (x := .none) rfl (wpAny_pure ?_))
  simp only [if_true]
  refine wpAny_bind (wpAny_rule (wpAny_bind (wpAny_field e4 rfl (x := old) rfl (wpAny_bind (wpAny_setField_rec e4 (by simp) fun g5 e5 b5 => ?_)))))
  replace b5 : Heap.SameBut ee g4 g5 := b5
  replace e5 : IsEnum g5 ee it ((n : Int) + 1) x := e5
  show wpAny _ _ (Builtin.SmallTypes.ownedTupleHandOut (.ref ee) (.ref hp.objs.size) >>= _) _ _ ⟨g5, g, d, tk + 1, os⟩
  refine wpAny_bind ?_
  unfold Builtin.SmallTypes.ownedTupleHandOut
  refine wpAny_bind (wpAny_setField_rec e5 (by simp) fun g6 e6 b6 => ?_)
  replace b6 : Heap.SameBut ee g5 g6 := b6
  replace e6 : IsEnumOut g6 ee it ((n : Int) + 1) x hp.objs.size := e6
  refine wpAny_setField_rec e6 (by simp) fun g7 e7 b7 => ?_
  replace b7 : Heap.SameBut ee g6 g7 := b7
  replace e7 : IsEnumOut g7 ee it ((n : Int) + 1) x hp.objs.size := e7
  have up : ∀ b o, b ≠ ee → g4.get? b = some o → g7.get? b = some o := fun b o c1 e => b7.extBut b o c1 (b6.extBut b o c1 (b5.extBut b o c1 e))
  exact wpAny_bind (wpAny_letGo (wpAny_pure ⟨_, rfl, hQ g7 e7 (i4.at fun o e => up _ o (Ne.symm hne) e) (up _ _ (Nat.ne_of_gt lt) t4) fun b o c1 c2 e => up b o c1 (k4 b o c1 c2 e)⟩))
theorem enumS_next {Q : Option Value → Shared → Prop} (he : IsEnum s.heap ee it n old) (hi : SIt k s.heap it l n) (hl : SAt k s.heap l xs) (hx : xs[n]? = some x) (hne : ee ≠ it)
    (hQ : ∀ h', IsEnumOut h' ee it ((n : Int) + 1) x s.heap.objs.size → SIt k h' it l (n + 1) → h'.get? s.heap.objs.size = some { cls := .type "tuple", data := .seq #[.int n s.toks, x] } →
      (∀ b o, b ≠ ee → b ≠ it → s.heap.get? b = some o → h'.get? b = some o) → Q (some (.ref s.heap.objs.size)) { s with heap := h', toks := s.toks + 1 }) : wpAny (model prog w) A (pyNext (.ref ee)) Q E s := by
  have hT : s.TypeIs (.ref ee) "enumerate" := ⟨_, he, rfl⟩
  unfold pyNext
  exact wpAny_bind (wpAny_attempt (wpAny_callSpecial?_slot (name := Str.ofString "__next__") hT F.slot_enumerate_next (wpAny_call_entry F.slot_enumerate_next hT F.entry_enumerate_next
    (enumS_item he hi hl hx hne fun h' a b c d => wpAny_pure (hQ h' a b c d)) (F.args_enumerate_next_1 _))))
theorem enumS_stop {Q : Option Value → Shared → Prop} (hh : A.handled = none) (he : IsEnum s.heap ee it n old) (hi : SIt k s.heap it l n) (hl : SAt k s.heap l xs) (hx : xs[n]? = none)
    (hQ : ∀ h', Heap.ExtBut it s.heap h' → Q none { s with heap := h' }) : wpAny (model prog w) A (pyNext (.ref ee)) Q E s := by
  have hT : s.TypeIs (.ref ee) "enumerate" := ⟨_, he, rfl⟩
  unfold pyNext
  refine wpAny_bind (wpAny_attempt (wpAny_callSpecial?_slot (name := Str.ofString "__next__") hT F.slot_enumerate_next (wpAny_call_entry F.slot_enumerate_next hT F.entry_enumerate_next ?_ (F.args_enumerate_next_1 _))))
  show wpAny _ _ (field (.ref ee) 2 >>= _) _ _ _
  refine wpAny_bind (wpAny_field he rfl (x := .ref it) rfl (wpAny_bind (endS hh hi hl hx fun h' e b he' => ?_)))
  obtain ⟨o, ho, hc⟩ := he'
  exact wpAny_bind (wpAny_isInstance (T := "StopIteration") (b := true) ⟨o, ho, hc⟩ isSubtype_stop (wpAny_pure (hQ _ b)))
/-! the object made -/
theorem meetsE (l : Addr) (xs : Array Value) (n : Nat) (dct : Option Addr) (sl : Array (Option Value)) :
    Meets (Builtin.«enumerate.__new__» ⟨[.type "enumerate", .ref l], []⟩) (fun _ R s => s.heap.get? l = some { cls := .type "tuple", dict := dct, data := .seq xs n, slots := sl } ∧
      R (.ok (.ret (.ref (s.heap.push (itO true l)).objs.size))) { s with heap := (s.heap.push (itO true l)).push { cls := .type "enumerate", data := .fields #[.none, .bool false, .ref s.heap.objs.size, rawInt 0, .none, .none] } }) :=
  .of_wp fun prog w A R s h => by
    obtain ⟨hp, g, d, tk, os⟩ := s
    obtain ⟨hl, h⟩ := h
    have hsub := sub_enumerate
    have hL : Heap.IsTuple (Shared.heap ⟨hp, g, d, tk, os⟩) l xs := ⟨_, hl, rfl, n, rfl⟩
    wp_walk using AutoSeq1.wpAny_loadPart' hl
    refine wpAny_stack_any fun st => wpAny_pure ?_
    split
    · rename_i c _ _ _ _ _
      cases (c == Value.type "enumerate") <;> (wp_walk using AutoSeq1.wpAny_loadPart' hl, wpAny_pyIter_tuple hL) <;> exact ⟨_, rfl, h⟩
    · wp_walk using AutoSeq1.wpAny_loadPart' hl, wpAny_pyIter_tuple hL
      exact ⟨_, rfl, h⟩
structure EAt (k : Bool) (ee it l : Addr) (n : Nat) (h : Heap) : Prop where
  en : ∃ old, IsEnum h ee it n old
  a1 : SIt k h it l n
theorem callE {Q : Value → Shared → Prop} (h1 : SAt k s.heap l xs) (h : ∀ h', EAt k (s.heap.objs.size + 1) s.heap.objs.size l 0 h' → (∀ c o, s.heap.get? c = some o → h'.get? c = some o) → Q (.ref (s.heap.objs.size + 1)) { s with heap := h' }) :
    wpAny (model prog w) A (call (.type "enumerate") [.ref l]) Q E s := by
  cases k with
  | false => exact call_enumerate_list h1 fun h' he hi _ kp => h h' ⟨⟨_, he⟩, hi⟩ kp
  | true =>
    obtain ⟨⟨c, dct, dt, sl⟩, hl, hc, n, hd⟩ := h1
    replace hc : c = .type "tuple" := hc
    replace hd : dt = .seq xs n := hd
    subst hc hd
    refine callType_new F.called_enumerate (by decide) (F.typeCall_enumerate_1 _) (F.newCall_enumerate_1 _) (fun obj => F.args_object_init_2 obj _) F.entry_enumerate_new (meetsE l xs n dct sl) ⟨hl, ?_⟩
    have z1 : (s.heap.push (itO true l)).objs.size = s.heap.objs.size + 1 := Heap.size_push ..
    show _ ∧ _
    rw [z1]
    have g1 : IsEnum ((s.heap.push (itO true l)).push { cls := .type "enumerate", data := .fields #[.none, .bool false, .ref s.heap.objs.size, rawInt 0, .none, .none] }) (s.heap.objs.size + 1) s.heap.objs.size 0 .none := by
      have q := Heap.get?_push_size (s.heap.push (itO true l)) (o := { cls := .type "enumerate", data := .fields #[.none, .bool false, .ref s.heap.objs.size, rawInt 0, .none, .none] }) rfl
      rw [z1] at q
      exact q
    exact ⟨⟨_, g1, rfl⟩, h _ ⟨⟨_, g1⟩, .new (Heap.get?_push_of_some _ (Heap.get?_push_size _ itO_free))⟩ fun c o e => Heap.get?_push_of_some _ (Heap.get?_push_of_some _ e)⟩
end
/-! what enumerate(a) walks: at each turn a new pair -/
def Ite (K : PySem.W.Frag) (k : Bool) (a : Addr) : It :=
  ⟨fun i H => ∃ xs x, SqK K k H a xs ∧ xs[i]? = some x,
   fun i H v H' => ∃ p x, v = .ref p ∧ H p = none ∧ (∀ xs, SqK K k H a xs → xs[i]? = some x) ∧ H' = upd H p (.tup [.int i, x]),
   fun i H => ∃ xs, SqK K k H a xs ∧ xs.length ≤ i⟩
theorem EAt.obj {k : Bool} {ee it l : Addr} {n : Nat} {h : Heap} (Z : EAt k ee it l n h) : ∀ b ∈ [ee, it], ∃ o, h.get? b = some o ∧ ∀ v, o.data ≠ .cell v := fun b hb => by
  obtain ⟨⟨old, he⟩, h1⟩ := Z
  simp only [List.mem_cons, List.not_mem_nil, or_false] at hb
  rcases hb with rfl | rfl
  · exact ⟨_, he, fun v z => by cases z⟩
  · exact h1.obj
theorem turn_enum {P : Program} {w : World} {K : PySem.W.Frag} {elts : List Expr} {x1} {pos : Pos} {k : Bool} {ee it a : Addr} (hne : ee ≠ it) : Turn P w K (.Tuple elts x1 pos) (Ite K k a) [ee, it] ee (fun n h => EAt k ee it a n h) where
  mem := by simp
  obj := fun i h st => st.obj
  keep := fun i h h' ⟨⟨old, he⟩, h1⟩ kp => ⟨⟨old, kp ee (by simp) _ he⟩, h1.at fun o e => kp it (by simp) o e⟩
  item := by
    intro X hP hw hK hc i pins s σ H E I hf st hg
    subst hP hw hK
    obtain ⟨xs, x, q1, hx⟩ := hg
    obtain ⟨us, r1, p1⟩ := seqK I q1
    obtain ⟨u, hu, ru⟩ := r1.get hx
    have lt : ∀ b ∈ [ee, it], b < s.heap.objs.size := fun b hb => by
      obtain ⟨o, ho, _⟩ := st.obj b hb
      exact Heap.lt_size ho
    obtain ⟨⟨old, he⟩, h1⟩ := st
    refine enumS_next he h1 p1 (x := u) (by simpa using hu) hne fun h' z1 a1 pr kk => ?_
    refine ⟨_, rfl, wpAny_letOwnedTupleGo_enum (s := { s with heap := h', toks := s.toks + 1 }) z1 fun h2 z2 b2 => ?_⟩
    replace b2 : Heap.SameBut ee h' h2 := b2
    have hT : H s.heap.objs.size = none := I.hok.fresh (Nat.le_refl _)
    have I1 : Inv X pins σ (upd H s.heap.objs.size (.tup [.int i, x])) { s with heap := s.heap.push { cls := .type "tuple", data := .seq #[.int i s.toks, u] }, toks := s.toks + 1 } := I.laid (t' := s.toks + 1) (fun b u e => Heap.get?_push_of_some _ e) (Nat.le_refl _) ⟨by show 2 ≤ sizeLine; decide, [.int i s.toks, u], .cons ⟨_, rfl⟩ (.cons ru .nil), ⟨_, Heap.get?_push_size _ rfl, rfl, _, rfl⟩⟩
    have Tz : s.heap.objs.size ≠ ee := Nat.ne_of_gt (lt ee (by simp))
    have fp : ∀ b ∈ [ee, it], FpOk X pins (upd H s.heap.objs.size (.tup [.int i, x])) b := fun b hb => by
      obtain ⟨f0, f1, f2, f3, f4, f5⟩ := hf b hb
      exact ⟨by rw [upd_ne (Nat.ne_of_lt (lt b hb))]; exact f0, f1, f2, f3, f4, f5⟩
    have I2 := I1.turnedL (h' := h2) (t' := s.toks + 1) (fun c o hc e => by
      simp only [List.mem_cons, List.not_mem_nil, or_false, not_or] at hc
      by_cases zc : c = s.heap.objs.size
      · subst zc
        rw [Heap.get?_push_size _ rfl] at e
        cases e
        exact b2.extBut _ _ Tz pr
      · have e' : s.heap.get? c = some o := by rw [← e]; exact (Heap.get?_push_ne _ _ _ zc).symm
        exact b2.extBut _ _ hc.1 (kk c o hc.1 hc.2 e')) fp
    refine ⟨.ref s.heap.objs.size, _, I2, rfl, ⟨_, x, rfl, hT, fun zs hz => ?_, rfl⟩, ⟨⟨_, z2⟩, a1.at fun o e => b2.extBut _ _ (Ne.symm hne) e⟩, fun b hb => (fp b hb).1⟩
    rw [seqK_inj I hz q1]; exact hx
  done := by
    intro X hP hw hK hc i pins s σ H E I hf st hg
    subst hP hw hK
    obtain ⟨xs, q1, hl⟩ := hg
    obtain ⟨us, r1, p1⟩ := seqK I q1
    have e1 := r1.length
    obtain ⟨⟨old, he⟩, h1⟩ := st
    refine enumS_stop (I.ok.hd hc) he h1 p1 (by simp; omega) fun h' kk => ⟨rfl, I.turnedL (t' := s.toks) (fun c o hc e => ?_) hf⟩
    simp only [List.mem_cons, List.not_mem_nil, or_false, not_or] at hc
    exact kk c o hc.2 e
  self := fun _ _ _ _ _ ⟨⟨_, he⟩, _⟩ h => wpAny_pyIter_enum he h
theorem b_enum : bootBuiltins "enumerate" = some (.type "enumerate") := by decide +kernel
def iEnum (K : PySem.W.Frag) (k : Bool) (ta : TA) : TI := fun σ H R => ta σ H fun vs H1 => ∃ a xs, vs = [.ref a] ∧ SqK K k H1 a xs ∧ R (Ite K k a) H1
theorem pi_enum {X : Cx} {elts : List Expr} {x1} {tp : Pos} {a : Expr} {ta : TA} {p pos : Pos} (k : Bool) (hg : Gl X "enumerate") (hm : X.mg "enumerate" = none) (ha : PA X [a] ta) (hs : starEach [a] X.env = [(false, eval a X.env)] := by rfl) :
    PI X (.Tuple elts x1 tp) (.Call (.Name "enumerate" p) [a] [] pos) (iEnum X.K k ta) := by
  intro pins s σ H R I h
  refine Call_ (ld_blt I hg hm b_enum (PyProof.Rows.callWith_type1 (thn (ha pos pins s σ H _ I h) fun us s1 ⟨vs, H1, I1, r1, q1⟩ => ?_) (by rw [hs]; rfl) rfl))
  obtain ⟨a', xs, e, q1, q⟩ := q1
  subst e
  obtain ⟨u, rfl, ru⟩ := r1.one
  cases ru
  obtain ⟨us, e1, p1⟩ := seqK I1 q1
  refine callE p1 fun h' Z kp => ?_
  obtain ⟨old, he⟩ := Z.en
  refine wpAny_pyIter_enum (s := { s1 with heap := h' }) he ?_
  refine ⟨_, [s1.heap.objs.size + 1, s1.heap.objs.size], _, _, H1, rfl, I1.kept (t' := s1.toks) kp, turn_enum (Nat.succ_ne_self _), Z, fun c hc => ?_, q⟩
  have ge : s1.heap.objs.size ≤ c := by
    simp only [List.mem_cons, List.not_mem_nil, or_false] at hc
    rcases hc with rfl | rfl <;> omega
  exact I1.fpOk ge (I1.hok.fresh ge)
/-! the for over it -/
theorem for_enum {K : PySem.W.Frag} {k : Bool} {a : Addr} {xs : List V} {g : TG} {tb : TS} {D : Ends} {σ : St} {H : Hp} (Pv : Nat → St → Hp → Prop) (h0 : Pv 0 σ H) (hl : ∀ i σ H, i ≤ xs.length → Pv i σ H → SqK K k H a xs)
    (hs : ∀ i x p σ H, xs[i]? = some x → Pv i σ H → H p = none → g (.ref p) σ (upd H p (.tup [.int i, x])) fun σ2 H2 => tb { D with nx := Pv (i + 1), ct := Pv (i + 1), bk := D.nx } σ2 H2) (hd : ∀ σ H, Pv xs.length σ H → D.nx σ H) :
    ∃ W : Nat → Nat → St → Hp → Prop, (∃ m, W 0 m σ H) ∧ ∀ i m σ H, W i m σ H →
      ((Ite K k a).stop i H ∧ D.nx σ H) ∨ ((Ite K k a).go i H ∧ ∃ N : St → Hp → Prop, (∀ σ' H', N σ' H' → ∃ m', m' < m ∧ W (i + 1) m' σ' H') ∧ ∀ x H', (Ite K k a).yld i H x H' → g x σ H' fun σ2 H2 => tb { D with nx := N, ct := N, bk := D.nx } σ2 H2) := by
  refine ⟨fun i m σ H => m = xs.length - i ∧ i ≤ xs.length ∧ Pv i σ H, ⟨xs.length, by simp, Nat.zero_le _, h0⟩, ?_⟩
  rintro i m σ H ⟨rfl, hi, p⟩
  have q1 := hl i σ H hi p
  by_cases hlt : i < xs.length
  · refine .inr ⟨⟨xs, _, q1, List.getElem?_eq_getElem hlt⟩, Pv (i + 1), fun σ' H' n => ⟨xs.length - (i + 1), by omega, rfl, by omega, n⟩, ?_⟩
    rintro v H' ⟨p', x, rfl, hn, e1, rfl⟩
    exact hs i x p' σ H (e1 _ q1) p hn
  · have e : i = xs.length := by omega
    subst e
    exact .inl ⟨⟨xs, q1, Nat.le_refl _⟩, hd σ H p⟩
end L2
set_option Elab.async false
set_option linter.all false
set_option maxRecDepth 100000
namespace L2
open PySem PySem.Spec PyProof.Rows
/-! products of numbers up to 10 ** 40; some names of the builtins -/
abbrev B30 : Int := 1000000000000000000000000000000
def CMulB (i j : Int) : Prop := (0 ≤ i ∧ i ≤ 10000000000 * B30) ∧ (0 ≤ j ∧ j ≤ 10000000000 * B30)
theorem turnZ_all {te : TE} {σ : St} {d : Addr} {x y : V} {H : Hp} {Z : Hp → Prop} (h : te (some x :: some y :: σ) H fun v H4 => ∃ ys, H4 d = some (.lst ys) ∧ ys.length < sizeLine ∧ Z (upd H4 d (.lst (ys ++ [v])))) : turnZ tTrue te σ d x y H Z := by
  show (if true = true then (te (some x :: some y :: σ) H fun v H4 => ∃ ys, H4 d = some (.lst ys) ∧ ys.length < sizeLine ∧ Z (upd H4 d (.lst (ys ++ [v])))) else Z H)
  rw [if_pos rfl]
  exact h
end L2
set_option Elab.async false
set_option linter.all false
set_option maxRecDepth 100000
namespace L2
open PySem
/-! ### codes grown knot by knot -/
inductive Gr (b : Int) (lo : Bool) : Nat → List (List Int) → Prop
  | zero : Gr b lo 0 [[]]
  | stay {n : Nat} {ws : List (List Int)} : Gr b lo n ws → Gr b lo (n + 1) ws
  | grow {n : Nat} {ws : List (List Int)} (t : Nat) (u : List Int) (ss : List Int) : Gr b lo n ws → ws[t]? = some u → ss.Pairwise (· < ·) → 1 ≤ ss.length → (lo = false → 2 ≤ ss.length) → (∀ x ∈ ss, 0 ≤ x ∧ x < b) → u.length < 50 →
      Gr b lo (n + 1) (ws.take t ++ ss.map (fun k => u ++ [k]) ++ ws.drop (t + 1))
/-- two words of which none begins the other one -/
def Apart (u v : List Int) : Prop := ¬ u <+: v ∧ ¬ v <+: u
theorem Apart.symm {u v : List Int} (h : Apart u v) : Apart v u := ⟨h.2, h.1⟩
theorem Apart.ext {u v : List Int} (h : Apart u v) (k : Int) : Apart (u ++ [k]) v := by
  refine ⟨fun z => h.1 ((List.prefix_append u [k]).trans z), fun z => ?_⟩
  rcases List.prefix_concat_iff.mp z with e | e
  · exact h.1 (e ▸ List.prefix_append u [k])
  · exact h.2 e
theorem Apart.sib {u : List Int} {k l : Int} (h : k ≠ l) : Apart (u ++ [k]) (u ++ [l]) := by
  refine ⟨fun z => ?_, fun z => ?_⟩
  · have := (List.prefix_append_right_inj u).mp z
    simp at this
    exact h this
  · have := (List.prefix_append_right_inj u).mp z
    simp at this
    exact h this.symm
abbrev PF (ws : List (List Int)) : Prop := ws.Pairwise Apart
theorem split_at {α : Type} {ws : List α} {t : Nat} {u : α} (h : ws[t]? = some u) : ws = ws.take t ++ u :: ws.drop (t + 1) := by
  have ht := (List.getElem?_eq_some_iff.mp h).1
  have e := (List.getElem?_eq_some_iff.mp h).2
  rw [← e]
  simp
theorem PF.grow {ws : List (List Int)} {t : Nat} {u ss : List Int} (h : PF ws) (hu : ws[t]? = some u) (hs : ss.Pairwise (· < ·)) : PF (ws.take t ++ ss.map (fun k => u ++ [k]) ++ ws.drop (t + 1)) := by
  have h' : PF (ws.take t ++ u :: ws.drop (t + 1)) := by rw [← split_at hu]; exact h
  rw [List.append_assoc]
  unfold PF at h' ⊢
  rw [List.pairwise_append, List.pairwise_cons] at h'
  obtain ⟨h1, ⟨h2, h3⟩, h4⟩ := h'
  rw [List.pairwise_append, List.pairwise_append]
  refine ⟨h1, ⟨?_, h3, ?_⟩, ?_⟩
  · rw [List.pairwise_map]
    exact hs.imp fun {a b} hab => Apart.sib (by omega)
  · intro x hx y hy
    obtain ⟨k, _, rfl⟩ := List.mem_map.mp hx
    exact (h2 y hy).ext k
  · intro x hx y hy
    rcases List.mem_append.mp hy with z | z
    · obtain ⟨k, _, rfl⟩ := List.mem_map.mp z
      exact ((h4 x hx u List.mem_cons_self).symm.ext k).symm
    · exact h4 x hx y (List.mem_cons_of_mem _ z)
variable {b : Int} {lo : Bool} {n : Nat} {ws : List (List Int)}
theorem Gr.pf (h : Gr b lo n ws) : PF ws := by
  induction h with
  | zero => exact List.pairwise_singleton _ _
  | stay _ ih => exact ih
  | grow t u ss _ hu hs _ _ _ _ ih => exact ih.grow hu hs
theorem PF.perm {ws us : List (List Int)} (h : PF ws) (p : us.Perm ws) : PF us := p.pairwise_iff (fun {_ _} h => h.symm) |>.mpr h
theorem PF.ne {ws : List (List Int)} (h : PF ws) {i j : Nat} {u v : List Int} (hi : ws[i]? = some u) (hj : ws[j]? = some v) (ne : i ≠ j) : Apart u v := by
  have w := List.pairwise_iff_getElem.mp h
  obtain ⟨i1, rfl⟩ := List.getElem?_eq_some_iff.mp hi
  obtain ⟨j1, rfl⟩ := List.getElem?_eq_some_iff.mp hj
  rcases Nat.lt_or_gt_of_ne ne with z | z
  · exact w i j i1 j1 z
  · exact (w j i j1 i1 z).symm
end L2
set_option Elab.async false
set_option linter.all false
set_option maxRecDepth 100000
namespace L2
open PySem PySem.Spec PyProof.Rows
/-! ### either of two readings of a call -/
def rOr (r1 r2 : List V → Hp → VK → Prop) : List V → Hp → VK → Prop := fun xs H Q => r1 xs H Q ∨ r2 xs H Q
theorem call_or {X : Cx} {v : Value} {r1 r2 : List V → Hp → VK → Prop} (h1 : CallR X v r1) (h2 : CallR X v r2) : CallR X v (rOr r1 r2) := by
  intro pins s σ H xs us Q I r h
  rcases h with h | h
  · exact h1 pins s σ H xs us Q I r h
  · exact h2 pins s σ H xs us Q I r h
/-! ### xs.extend(t), t a tuple -/
def rExtendT (K : PySem.W.Frag) : V → List V → Hp → VK → Prop := fun x vs H Q => ∃ l b xs zs, x = .ref l ∧ vs = [.ref b] ∧ H l = some (.lst xs) ∧ SqT K H b zs ∧ xs.length + zs.length ≤ sizeLine ∧ Q .non (upd H l (.lst (xs ++ zs)))
/-! ### for over a list or a tuple -/
end L2
set_option Elab.async false
set_option linter.all false
set_option maxRecDepth 100000
namespace L2
open PySem PySem.Spec PyProof.Rows
/-! ### an instance made, a method called, within a try -/
section
variable {X : Cx} {k : Nat} {f C : Addr} {fd : FuncData} {ps : List Str} {sp : Sp} {Ex : St → XK} {x m : Str} {p pos apos : Pos} {e o : Expr} {es : List Expr} {ta : TE} {t : TA}
def tMakeX (C : Addr) (sp : Sp) (Ex : St → XK) (t : TA) : TE := fun σ H Q => t σ H fun vs H1 => ∀ x dx, H1 x = none → H1 dx = none → dx ≠ x →
  sp (.ref x :: vs) (upd (upd H1 dx (.own x)) x (.ins C dx [])) (fun v H2 => v = .non ∧ Q (.ref x) H2) (Ex σ)
theorem run_fnX {pins : List (Addr × Obj)} {σ : St} {H : Hp} {s : Shared} {Q : VK} {us : List Value} {vs : List V} (F : FnOk X.prog X.w X.K X.mg X.base (CXF X.prog X.w) k f fd ps sp) (hr : Room k X.A) (hb : Binds X.K fd ps []) (hx : PassesS X Ex)
    (I : Inv X pins σ H s) (r : Vals vs us) (h : sp vs H Q (Ex σ)) : wpAny (model X.prog X.w) X.A (call (.ref f) us) (EP X pins σ Q) X.xe s := by
  have hl : us.length = ps.length := by rw [← r.length]; exact F.len _ _ _ _ h
  have hb' := hb s us I.kIn (by rw [List.append_nil]; exact hl)
  rw [List.append_nil] at hb'
  refine wpAny_call (codeAny_mono (F.run X.A X.stack s H ⟨us, []⟩ us vs Q (Ex σ) hr I.env0 hb' r h) fun r s' hq => ?_)
  cases r with
  | error e => exact hx pins σ H s e s' I hq
  | ok fl =>
    cases fl with
    | ret u => exact I.after hq
    | next => exact False.elim hq
    | brk => exact False.elim hq
    | cont => exact False.elim hq
def tMethX (C : Addr) (m : Str) (sp : Sp) (Ex : St → XK) (ta : TE) (t : TA) : TE := fun σ H Q => ta σ H fun x H1 => ∃ a dx fs, x = .ref a ∧ H1 a = some (.ins C dx fs) ∧ fs.lookup m = none ∧
  t σ H1 fun vs H2 => sp (x :: vs) H2 Q (Ex σ)
theorem pe_methX {pl : Sem Bool} (he : PE X o ta) (c : Cls X.K C) (hm : Meth X.K C m f) (F : FnOk X.prog X.w X.K X.mg X.base (CXF X.prog X.w) k f fd ps sp) (hr : Room k X.A) (hb : Binds X.K fd ps []) (hx : PassesS X Ex) (ha : PA X (e :: es) t)
    (hst : starEach (e :: es) X.env = (false, eval e X.env) :: starEach es X.env := by rfl) (hpl : (backTo pos (starEach es X.env)).any (·.1) = false := by rfl)
    (ht : eval (.Call (.Attribute o m apos) (e :: es) [] pos) X.env = (do
      let ov ← eval o X.env
      standAt apos.atName
      let (f, first) ← holding [ov] (getMethod ov m pl)
      callWith pos f first (backTo pos (starEach (e :: es) X.env)) (backToKw pos (keywordEach [] X.env))) := by rfl) :
    PE X (.Call (.Attribute o m apos) (e :: es) [] pos) (tMethX C m sp Ex ta t) := by
  intro pins s σ H Q I h
  refine PySem.W.methodCall_KW (pl := pl) (thn (he pins s σ H _ I h) fun u s1 ⟨x, H1, I1, rx, a, dx, fs, ex, ea, l, q⟩ => ?_) ht
  subst ex
  obtain rfl : u = Value.ref a := rx
  refine getmeth_ok I1 ea c hm l ?_
  refine PySem.W.callWith_K (first := [.ref a]) (h₀ := X.base) I.ok.mod.kin hm.kp (thn (ha pos pins s1 σ H1 _ I1 q) fun us s2 ⟨vs, H2, I2, r, q2⟩ => ⟨I2.kIn, ?_⟩) hst hpl
  exact run_fnX (us := .ref a :: us) (vs := .ref a :: vs) F hr hb hx I2 (.cons rfl r) q2
theorem pe_meth0X {pl : Sem Bool} (he : PE X o ta) (c : Cls X.K C) (hm : Meth X.K C m f) (F : FnOk X.prog X.w X.K X.mg X.base (CXF X.prog X.w) k f fd ps sp) (hr : Room k X.A) (hb : Binds X.K fd ps []) (hx : PassesS X Ex)
    (ht : eval (.Call (.Attribute o m apos) [] [] pos) X.env = (do
      let ov ← eval o X.env
      standAt apos.atName
      let (f, first) ← holding [ov] (getMethod ov m pl)
      callWith pos f first (backTo pos (starEach [] X.env)) (backToKw pos (keywordEach [] X.env))) := by rfl) :
    PE X (.Call (.Attribute o m apos) [] [] pos) (tMethX C m sp Ex ta tNil) := by
  intro pins s σ H Q I h
  refine PySem.W.methodCall_KW (pl := pl) (thn (he pins s σ H _ I h) fun u s1 ⟨x, H1, I1, rx, a, dx, fs, ex, ea, l, q⟩ => ?_) ht
  subst ex
  obtain rfl : u = Value.ref a := rx
  refine getmeth_ok I1 ea c hm l ?_
  exact PySem.W.callWith_K0 (first := [.ref a]) I1.kIn hm.kp (run_fnX (us := [.ref a]) (vs := [.ref a]) F hr hb hx I1 (.cons rfl .nil) q)
end
/-! ### lists of words compared -/
def rEqLW : R2 := fun x y H Q => ∃ a b xs ys ws vs, x = .ref a ∧ y = .ref b ∧ H a = some (.lst xs) ∧ H b = some (.lst ys) ∧ Ws H xs ws ∧ Ws H ys vs ∧ Q (.bl (decide (ws = vs))) H
theorem op_eqLW {X : Cx} (hu : X.A.units + 4 < cLine) : OpR X (compareOp .Eq) rEqLW := by
  intro pins s σ H x y v u Q I rx ry h
  obtain ⟨a, b, xs, ys, ws, vs, rfl, rfl, e1, e2, p1, p2, q⟩ := h
  cases rx; cases ry
  exact rc_lsts (A := X.A) (n := 1) (EqK.tup EqK.int I.hok) I.hok e1 e2 p1 p2 (by omega) _ _ _ _ ⟨.bl _, H, I, rfl, q⟩
end L2
set_option Elab.async false
set_option linter.all false
set_option maxRecDepth 100000
namespace L2
open PySem PySem.Spec PyProof.Rows
/-! ### a word looked for in a list of words -/
theorem eqs_words {X : Cx} {pins : List (Addr × Obj)} {s : Shared} {σ : St} {H : Hp} (I : Inv X pins σ H s) {A : Around} (hA : A.units + 1 < cLine) {x : V} {v : Value} {u : List Int} {xs : List V} {its : List Value} {ws : List (List Int)} (hx : Wd H x u) (rx : RelV x v) (r : Vals xs its) (hw : Ws H xs ws) :
    ∃ e : Value → Bool, (∀ z ∈ its, SeqAt.EqAt A s z v (e z)) ∧ ∀ (i : Nat) (z : Value), its[i]? = some z → e z = decide (ws[i]? = some u) := by
  have EK := EqK.tup (H := H) (s := s) (n := 0) EqK.int I.hok
  have li : xs.length = its.length := r.length
  have lw : xs.length = ws.length := hw.length
  have one : ∀ (i : Nat) (z : Value), its[i]? = some z → ∃ wd, ws[i]? = some wd ∧ (∃ xi, Wd H xi wd ∧ RelV xi z) := fun i z hi => by
    have il : i < its.length := (List.getElem?_eq_some_iff.mp hi).1
    have hxi : xs[i]? = some (xs[i]'(by omega)) := List.getElem?_eq_getElem _
    obtain ⟨wd, hwd, rw'⟩ := Paired.right_of hw i _ hxi
    obtain ⟨z', hz', rz⟩ := r.get hxi
    rw [hi] at hz'
    cases hz'
    exact ⟨wd, hwd, _, rw', rz⟩
  refine ⟨fun z => @decide (∃ i : Nat, its[i]? = some z ∧ ws[i]? = some u) (Classical.propDecidable _), ?_⟩
  have val : ∀ (i : Nat) (z : Value) (wd : List Int), its[i]? = some z → ws[i]? = some wd → @decide (∃ i : Nat, its[i]? = some z ∧ ws[i]? = some u) (Classical.propDecidable _) = decide (wd = u) := fun i z wd hi hwd => by
    rw [Bool.eq_iff_iff]
    simp only [decide_eq_true_eq]
    refine ⟨fun ⟨j, h1, h2⟩ => ?_, fun h => ⟨i, hi, by rw [hwd, h]⟩⟩
    obtain ⟨w1, e1, x1, p1, q1⟩ := one i z hi
    obtain ⟨w2, e2, x2, p2, q2⟩ := one j z h1
    rw [hwd] at e1
    rw [h2] at e2
    cases e1
    cases e2
    obtain ⟨a1, f1, t1⟩ := Wd.ti p1
    obtain ⟨a2, f2, t2⟩ := Wd.ti p2
    rw [f1] at q1
    rw [f2] at q2
    have g1 : z = .ref a1 := q1
    have g2 : z = .ref a2 := q2
    rw [g1] at g2
    cases g2
    exact EK.inj _ _ _ (Wd.of t1) (Wd.of t2)
  refine ⟨fun z hz => ?_, fun i z hi => ?_⟩
  · obtain ⟨i, hi⟩ := List.mem_iff_getElem?.mp hz
    obtain ⟨wd, hwd, xi, p, rz⟩ := one i z hi
    show SeqAt.EqAt A s z v (@decide _ (Classical.propDecidable _))
    rw [val i z wd hi hwd]
    exact EK.eq A _ _ wd u z v (by show A.units + (0 + 1) < cLine; omega) p hx rz rx
  · obtain ⟨wd, hwd, _⟩ := one i z hi
    show @decide _ (Classical.propDecidable _) = _
    rw [val i z wd hi hwd, hwd]
    rw [Bool.eq_iff_iff]
    simp
def rInLW : R2 := fun x y H Q => ∃ (c : Addr) (xs : List V) (ws : List (List Int)) (u : List Int), y = .ref c ∧ Wd H x u ∧ H c = some (.lst xs) ∧ Ws H xs ws ∧ Q (.bl (decide (u ∈ ws))) H
theorem op_inLW {X : Cx} (hu : X.A.units + 4 < cLine) : OpR X (compareOp .In) rInLW := by
  intro pins s σ H x y v w' Q I rx ry h
  obtain ⟨c, xs, ws, u, rfl, hx, hc, hw, q⟩ := h
  cases ry
  obtain ⟨z, its, n, r, hl, e0⟩ := I.lstM hc
  obtain ⟨e, at_, ev⟩ := eqs_words I (A := X.A.in1) (by show X.A.units + 1 + 1 < cLine; omega) hx rx r hw
  have lw : xs.length = ws.length := hw.length
  have li : xs.length = its.length := r.length
  refine SeqAt.in_listAt e ⟨_, e0, rfl, _, rfl⟩ (fun z hz => at_ z (by simpa using hz)) ⟨.bl _, H, I, rfl, ?_⟩
  have ea : its.toArray.any e = decide (u ∈ ws) := by
    rw [show its.toArray.any e = its.any e by simp, Bool.eq_iff_iff]
    simp only [List.any_eq_true, decide_eq_true_eq]
    constructor
    · rintro ⟨z, hz, hz'⟩
      obtain ⟨i, hi⟩ := List.mem_iff_getElem?.mp hz
      rw [ev i z hi] at hz'
      exact List.mem_of_getElem? (of_decide_eq_true hz')
    · intro hm
      obtain ⟨i, hi⟩ := List.mem_iff_getElem?.mp hm
      have il : i < ws.length := (List.getElem?_eq_some_iff.mp hi).1
      have hi2 : its[i]? = some (its[i]'(by omega)) := List.getElem?_eq_getElem _
      exact ⟨its[i]'(by omega), List.getElem_mem _, by rw [ev i _ hi2]; exact decide_eq_true hi⟩
  rw [ea]
  exact q
def rIdxW : V → List V → Hp → VK → Prop := fun x vs H Q => ∃ (l : Addr) (y : V) (xs : List V) (ws : List (List Int)) (u : List Int), x = .ref l ∧ vs = [y] ∧ Wd H y u ∧ H l = some (.lst xs) ∧ Ws H xs ws ∧ u ∈ ws ∧ Q (.int (ws.idxOf u : Nat)) H
theorem mt_indexW {X : Cx} (hu : X.A.units + 4 < cLine) : MtM X "list.index" rIdxW := by
  intro pins s σ H x vs v us Q I rx rv h
  obtain ⟨l, y, xs, ws, u, rfl, rfl, hy, hH, hw, hm, q⟩ := h
  cases rx
  obtain ⟨y', rfl, ry⟩ := rv.one
  obtain ⟨z, its, n, r, hl, e0⟩ := I.lstM hH
  have lw : xs.length = ws.length := hw.length
  have li : xs.length = its.length := r.length
  obtain ⟨e, at_, ev⟩ := eqs_words I (A := X.A.in1) (by show X.A.units + 1 + 1 < cLine; omega) hy ry r hw
  have hj : ws.idxOf u < ws.length := List.idxOf_lt_length_iff.mpr hm
  refine call_meets PySem.F.slot_list_index ⟨_, e0, rfl⟩ PySem.F.entry_list_index (PySem.F.args_list_index_2 _ _)
    (SeqAt.list_indexAt l its.toArray n _ _ y' e (ws.idxOf u) (by rw [List.size_toArray]; omega) ?_ ?_ ?_) ⟨e0, fun z hz => at_ z (by simpa using hz), ?_⟩
  · have : (sizeLine : Nat) < 2 ^ 62 := by decide
    have : its.length ≤ sizeLine := by omega
    omega
  · have h2 : its[ws.idxOf u]? = some (its[ws.idxOf u]'(by omega)) := List.getElem?_eq_getElem _
    show e (its[ws.idxOf u]'(by omega)) = true
    rw [ev _ _ h2]
    refine decide_eq_true ?_
    rw [List.getElem?_eq_getElem hj, List.getElem_idxOf hj]
  · intro m hm' hlt
    have hm2 : m < its.length := by simpa using hm'
    have h2 : its[m]? = some (its[m]'hm2) := List.getElem?_eq_getElem _
    show e (its[m]'hm2) = false
    rw [ev _ _ h2]
    refine decide_eq_false fun hz => ?_
    have hlt' : m < ws.findIdx (· == u) := hlt
    obtain ⟨ml, em⟩ := List.getElem?_eq_some_iff.mp hz
    have := List.not_of_lt_findIdx hlt'
    rw [em] at this
    simp at this
  · exact ⟨.int _, H, I.tok _, ⟨_, rfl⟩, q⟩
end L2
namespace L2
open PySem PySem.Spec PyProof.Rows
/-! ### any(list of bools) -/
def rAny : List V → Hp → VK → Prop := fun xs H Q => ∃ (a : Addr) (bs : List Bool), xs = [.ref a] ∧ H a = some (.lst (bs.map V.bl)) ∧ Q (.bl (bs.any id)) H
theorem any_range (bs : List Bool) : (List.range bs.length).any (fun i => bs.getD i false) = bs.any id := by
  rw [Bool.eq_iff_iff]
  simp only [List.any_eq_true, List.mem_range, id]
  constructor
  · rintro ⟨i, hi, h⟩
    rw [List.getD_eq_getElem?_getD, List.getElem?_eq_getElem hi] at h
    exact ⟨_, List.getElem_mem hi, h⟩
  · rintro ⟨b, hb, h⟩
    obtain ⟨i, hi, rfl⟩ := List.mem_iff_getElem.mp hb
    exact ⟨i, hi, by rw [List.getD_eq_getElem?_getD, List.getElem?_eq_getElem hi]; exact h⟩
theorem call_any {X : Cx} (hc : X.calm = true) : CallR X (.builtin "any") rAny := by
  intro pins s σ H xs us Q I r h
  obtain ⟨a, bs, rfl, ha, q⟩ := h
  obtain ⟨u, rfl, ru⟩ := vals1 r
  cases ru
  obtain ⟨hz, its, n, v, e⟩ := I.hok a _ ha
  have ei := vals_bls v
  subst ei
  refine call_any_walk (wpAny_pyIter_list (isL_of e) ?_)
  have hlt := Heap.lt_size e
  refine ⟨s.heap.objs.size, _, _, _, _, _, fun i => bs.getD i false, rfl, Walks.list (A := X.A.in1) (by show X.A.handled = none; exact I.ok.hd hc) s.heap.objs.size a (Nat.ne_of_lt hlt) (bs.map Value.bool).toArray, ⟨⟨_, Heap.get?_push_size _ rfl, rfl, rfl⟩, isL_of (Heap.get?_push_of_some _ e)⟩, ?_, fun h' tk hk => ?_⟩
  · intro i v s' Q' E' hv hq
    simp only [List.getElem?_toArray, List.getElem?_map] at hv
    cases hb : bs[i]? with
    | none => rw [hb] at hv; cases hv
    | some b =>
      rw [hb] at hv; cases hv
      have hq' : Q' (bs.getD i false) s' := hq
      rw [List.getD_eq_getElem?_getD, hb] at hq'
      exact wpAny_truthy_bool hq'
  · have e1 : (bs.map Value.bool).toArray.size = bs.length := by simp
    rw [e1, any_range]
    exact ⟨.bl _, H, I.kept (h' := h') (t' := tk) (fun b o eo => hk b o (by simp; exact Nat.ne_of_lt (Heap.lt_size eo)) (Heap.get?_push_of_some _ eo)), rfl, q⟩
theorem b_any : bootBuiltins "any" = some (.builtin "any") := by decide +kernel
end L2
set_option Elab.async false
set_option linter.all false
set_option maxRecDepth 100000
namespace L2
open PySem PySem.Spec PyProof.Rows PySem.W
/-! ### list(reversed(xs)) -/
theorem nolen_lri : typeLookup (.type "list_reverseiterator") "__len__" = pure none := by rw [typeLookup_type, builtinLookup_eq_fast]; kernel_rfl
theorem hint_lri : typeLookup (.type "list_reverseiterator") "__length_hint__" = pure (some (.builtin "list_reverseiterator.__length_hint__")) := by rw [typeLookup_type, builtinLookup_eq_fast]; kernel_rfl
section
variable {prog : Program} {w : World} {A : Around} {E : Value → Shared → Prop} {s : Shared}
theorem rev_extend {I l S : Addr} {items : Array Value} {R : Result → Shared → Prop} (hh : A.handled = none) (hne : l ≠ I) (hSI : S ≠ I) (hSl : S ≠ l) (hit : s.heap.IsRevIter I l ((items.size : Int) - 1)) (hl : s.heap.IsList l items) (res : Value) (c₀ : Nat)
    (hS : s.heap.get? S = some { cls := .type "list", data := .seq #[] c₀ }) (hn : items.size ≤ sizeLine)
    (hR : ∀ h' tk acc' c', (∀ b o, b ≠ S → b ≠ I → s.heap.get? b = some o → h'.get? b = some o) → h'.get? S = some { cls := .type "list", dict := none, data := .seq acc' c', slots := #[] } → ItemsOf (fun i v => items[items.size - 1 - i]? = some v) acc' items.size → R (.ok (.ret res)) { s with heap := h', toks := tk }) :
    wpAny (model prog w) A.in1 (Builtin.List.listExtendWith (.ref S) (.ref I) res)
      (fun fin s' => match fin with | .done f => R (.ok f) s' | .again c' => c'.quiet = true ∧ codeAny (model prog w) A c' R s') (fun e s' => R (.error e) s') s := by
  have W := Walks.listRev (prog := prog) (w := w) (A := A.in1) hh I l hne items
  have hSf : S ∉ [I, l] := by simp only [List.mem_cons, List.not_mem_nil, or_false, not_or]; exact ⟨hSI, hSl⟩
  have st : 0 ≤ items.size ∧ s.heap.IsRevIter I l ((items.size : Int) - 1 - ((0 : Nat) : Int)) ∧ s.heap.IsList l items := ⟨Nat.zero_le _, by simpa using hit, hl⟩
  have h1 : Builtin.List.listSameRef (.ref S) (.ref I) = false := by simp [Builtin.List.listSameRef, hSI]
  unfold Builtin.List.listExtendWith
  refine wpAny_bind (wpAny_typeOf hit.typeIs ?_)
  rw [if_neg (by rw [h1]; decide)]
  refine wpAny_bind (wpAny_pyIter_revIter hit ?_)
  refine wpAny_bind (wpAny_holding ?_)
  unfold Builtin.List.listLengthHint
  refine wpAny_bind (wpAny_specialOf hit.typeIs nolen_lri ?_)
  show wpAny _ A.in1 (specialOf (Value.ref I) (Str.ofString "__length_hint__") >>= _) _ _ _
  refine wpAny_bind (wpAny_specialOf hit.typeIs hint_lri ?_)
  generalize hid : ("list_reverseiterator.__length_hint__" : String) = id0
  wp_delta
  rw [show splitId id0 = some ("list_reverseiterator", "__length_hint__") from by subst hid; decide +kernel]
  subst hid
  refine wpAny_bind (wpAny_isInstance (b := true) hit.typeIs (by rw [isSubtype_type]; kernel_rfl) ?_)
  refine wpAny_pure ?_
  rw [if_neg (by decide)]
  refine wpAny_pure ⟨plainId_quiet F.plain_extend_loop _, codeAny_extend_loopS W.toS hn S hSf res items.size 0 _ #[] c₀ rfl (Nat.zero_le _) st hS (ItemsOf.nil _) fun s' acc' c' hm hS' hacc => ?_⟩
  rw [Moved.eq_with hm]
  refine hR s'.heap s'.toks acc' c' (fun b o hb hb2 e => hm.heap b o (fun hmem => ?_) e) hS' hacc
  rcases List.mem_cons.mp hmem with e' | hmem
  · exact hb e'
  · exact hb2 (List.mem_singleton.mp hmem)
theorem rev_init {I l S : Addr} {items : Array Value} {R : Result → Shared → Prop} (hh : A.handled = none) (hne : l ≠ I) (hSI : S ≠ I) (hSl : S ≠ l) (hit : s.heap.IsRevIter I l ((items.size : Int) - 1)) (hl : s.heap.IsList l items)
    (hS : s.heap.get? S = some { cls := .type "list", data := .seq #[] }) (hn : items.size ≤ sizeLine)
    (hR : ∀ h' tk acc' c', (∀ b o, b ≠ S → b ≠ I → s.heap.get? b = some o → h'.get? b = some o) → h'.get? S = some { cls := .type "list", dict := none, data := .seq acc' c', slots := #[] } → ItemsOf (fun i v => items[items.size - 1 - i]? = some v) acc' items.size → R (.ok (.ret .none)) { s with heap := h', toks := tk }) :
    wpAny (model prog w) A.in1 (Builtin.«list.__init__» ⟨[.ref S, .ref I], []⟩)
      (fun fin s' => match fin with | .done f => R (.ok f) s' | .again c' => c'.quiet = true ∧ codeAny (model prog w) A c' R s') (fun e s' => R (.error e) s') s := by
  show wpAny _ _ (do let old ← Builtin.List.listItems (.ref S); Builtin.List.listUpdate (.ref S) (fun _ => #[]); letGo old.toList.reverse; Builtin.List.listExtendWith (.ref S) (.ref I) .none) _ _ s
  refine wpAny_bind ?_
  unfold Builtin.List.listItems
  refine wpAny_bind (wpAny_seqItems hS rfl (wpAny_pure ?_))
  show wpAny _ _ (updateSeq S (fun _ => #[]) >>= fun _ => letGo (#[] : Array Value).toList.reverse >>= fun _ => Builtin.List.listExtendWith (.ref S) (.ref I) .none) _ _ s
  refine wpAny_bind (wpAny_updateSeq hS rfl ?_)
  have hS₂ := Heap.get?_update_self (Obj.mapSeq (fun _ => (#[] : Array Value))) hS rfl
  have oth : ∀ b o, b ≠ S → s.heap.get? b = some o → (s.heap.update S (Obj.mapSeq (fun _ => (#[] : Array Value)))).get? b = some o :=
    fun b o hb e => (Heap.get?_update_other _ _ (Ne.symm hb)).trans e
  refine wpAny_bind (wpAny_letGo ?_)
  refine rev_extend (items := items) hh hne hSI hSl (hit.at fun o e => oth I o hSI.symm e) (hl.at fun o e => oth l o hSl.symm e) .none _ hS₂ hn (fun h' tk acc' c' hk hS' hacc => ?_)
  exact hR h' tk acc' c' (fun b o hb hb2 e => hk b o hb hb2 (oth b o hb e)) hS' hacc
theorem rev_call {I l : Addr} {items : Array Value} {Q : Value → Shared → Prop} (hh : A.handled = none) (hne : l ≠ I) (hit : s.heap.IsRevIter I l ((items.size : Int) - 1)) (hl : s.heap.IsList l items) (hn : items.size ≤ sizeLine)
    (hQ : ∀ h' tk acc' c', (∀ b o, b ≠ I → s.heap.get? b = some o → h'.get? b = some o) → h'.get? s.heap.objs.size = some { cls := .type "list", dict := none, data := .seq acc' c', slots := #[] } → ItemsOf (fun i v => items[items.size - 1 - i]? = some v) acc' items.size → Q (.ref s.heap.objs.size) { s with heap := h', toks := tk }) :
    wpAny (model prog w) A (call (.type "list") [.ref I]) Q E s := by
  refine callType_codes (Q₁ := fun obj s₁ => obj = .ref s.heap.objs.size ∧ s₁ = { s with heap := s.heap.push { cls := .type "list", data := .seq #[] } }) PySem.F.called_list (PySem.F.typeCall_list_1 _) PySem.F.entry_list_init
    (code_list_new _ ⟨rfl, rfl⟩) fun obj s₁ h₁ => ?_
  obtain ⟨rfl, rfl⟩ := h₁
  have hS : (s.heap.push { cls := .type "list", data := .seq #[] }).get? s.heap.objs.size = some { cls := .type "list", data := .seq #[] } := Heap.get?_push_size _ rfl
  obtain ⟨oI, eI, _⟩ := id hit
  obtain ⟨ol, el, _⟩ := id hl
  refine ⟨⟨_, hS, rfl⟩, PySem.F.args_list_init_2 _ _, rev_init (A := A.in1) (items := items) hh hne (Nat.ne_of_gt (Heap.lt_size eI)) (Nat.ne_of_gt (Heap.lt_size el)) (hit.at fun o e => Heap.get?_push_of_some _ e) (hl.at fun o e => Heap.get?_push_of_some _ e) hS hn (fun h' tk acc' c' hk hS' hacc => ?_)⟩
  exact ⟨rfl, hQ h' tk acc' c' (fun b o hb e => hk b o (Nat.ne_of_lt (Heap.lt_size e)) hb (Heap.get?_push_of_some _ e)) hS' hacc⟩
end
theorem vals_rev : ∀ {xs : List V} {its : List Value}, Vals xs its → Vals xs.reverse its.reverse
  | _, _, .nil => .nil
  | _, _, .cons r t => by
    rw [List.reverse_cons, List.reverse_cons]
    exact (vals_rev t).append (.cons r .nil)
theorem b_reversed : bootBuiltins "reversed" = some (.type "reversed") := by decide +kernel
def tRev (te : TE) : TE := fun σ H Q => te σ H fun x H1 => ∃ l xs, x = .ref l ∧ H1 l = some (.lst xs) ∧ ∀ p, H1 p = none → Q (.ref p) (upd H1 p (.lst xs.reverse))
theorem pe_listrev {X : Cx} {e : Expr} {te : TE} {p p2 pos pos2 : Pos} (hc : X.calm = true) (hg : Gl X "list") (hm : X.mg "list" = none) (hg2 : Gl X "reversed") (hm2 : X.mg "reversed" = none) (he : PE X e te)
    (hs : starEach [.Call (.Name "reversed" p2) [e] [] pos2] X.env = (false, eval (.Call (.Name "reversed" p2) [e] [] pos2) X.env) :: starEach [] X.env := by rfl) (hs2 : starEach [e] X.env = (false, eval e X.env) :: starEach [] X.env := by rfl) :
    PE X (.Call (.Name "list" p) [.Call (.Name "reversed" p2) [e] [] pos2] [] pos) (tRev te) := by
  intro pins s σ H Q I h
  refine wpAny_Call_Name_kw (ld_blt I hg hm b_list ?_ (by decide) (by decide))
  refine PyProof.Rows.callWith_type1 ?_ hs rfl
  rw [hs]
  refine Calls.spliced_cons ?_
  refine wpAny_Call_Name_kw (ld_blt I hg2 hm2 b_reversed ?_ (by decide) (by decide))
  refine PyProof.Rows.callWith_type1 ?_ hs2 rfl
  rw [hs2]
  refine Calls.spliced_cons (thn (he pins s σ H _ I h) fun u s1 ⟨x, H1, I1, r1, q1⟩ => ?_)
  refine Calls.spliced_nil ?_
  obtain ⟨l, xs, rfl, hl, q⟩ := q1
  cases r1
  obtain ⟨z, its, n, r, hlen, e0⟩ := I1.lstM hl
  refine call_reversed_list (items := its.toArray) ⟨_, e0, rfl, _, rfl⟩ ?_
  refine Calls.spliced_nil ?_
  have li : xs.length = its.length := r.length
  have e1 := Heap.get?_push_of_some (revObj l ((its.toArray.size : Int) - 1)) e0
  have nl : l ≠ s1.heap.objs.size := Nat.ne_of_lt (Heap.lt_size e0)
  refine rev_call (items := its.toArray) (I.ok.hd hc) nl ⟨_, Heap.get?_push_size _ rfl, rfl, rfl⟩ ⟨_, e1, rfl, _, rfl⟩ (by rw [List.size_toArray]; omega) (fun h' tk acc c' hk hS hacc => ?_)
  have ea : acc = its.reverse.toArray := by
    obtain ⟨a1, a2⟩ := hacc
    refine Array.ext (by rw [a1]; simp) fun i h1 h2 => ?_
    have q1 : its.toArray[its.toArray.size - 1 - i]? = some acc[i] := a2 i acc[i] (Array.getElem?_eq_getElem h1)
    have h3 : i < its.length := by rw [a1, List.size_toArray] at h1; exact h1
    rw [List.getElem?_toArray, List.size_toArray, List.getElem?_eq_getElem (by omega)] at q1
    have q2 := Option.some.inj q1
    rw [← q2]
    simp
  subst ea
  have er : Vals xs.reverse its.reverse := vals_rev r
  refine ⟨.ref _, _, I1.laid (t' := tk) (fun b o eo => hk b o (Nat.ne_of_lt (Heap.lt_size eo)) (Heap.get?_push_of_some _ eo)) (by show s1.heap.objs.size ≤ _; rw [show (s1.heap.push _).objs.size = s1.heap.objs.size + 1 from by simp [Heap.push]]; omega) (show ObjOk X.prog X.w _ h' _ (.lst xs.reverse) from ⟨by rw [List.length_reverse]; omega, its.reverse, c', er, hS⟩), rfl, q _ (I1.hok.fresh (by rw [show (s1.heap.push _).objs.size = s1.heap.objs.size + 1 from by simp [Heap.push]]; omega))⟩
end L2
set_option Elab.async false
set_option linter.all false
set_option maxRecDepth 100000
namespace L2
open PySem PySem.Spec PyProof.Rows
/-! ### pairs of a text and an int or None, alike -/
def rEqS2 : R2 := fun x y H Q => ∃ (a b : Addr) (u : Str) (z : V), x = .ref a ∧ y = .ref b ∧ H a = some (.tup [.str u, z]) ∧ H b = some (.tup [.str u, z]) ∧ (z = .non ∨ ∃ i, z = .int i) ∧ Q (.bl true) H
theorem op_eqS2 {X : Cx} (hu : X.A.units + 4 < cLine) : OpR X (compareOp .Eq) rEqS2 := by
  intro pins s σ H x y v w' Q I rx ry h
  obtain ⟨a, b, u, z, rfl, rfl, ha, hb, hz, q⟩ := h
  cases rx; cases ry
  obtain ⟨_, its, v1, p1⟩ := I.hok a _ ha
  obtain ⟨_, its2, v2, p2⟩ := I.hok b _ hb
  obtain ⟨u1, u2, rfl, r1, r2⟩ := v1.two
  obtain ⟨w1, w2, rfl, r3, r4⟩ := v2.two
  obtain ⟨t1, rfl⟩ := r1
  obtain ⟨t3, rfl⟩ := r3
  have q1 : SeqAt.EqAt X.A.in1 s (.str u t1) (.str u t3) true := by
    have := SeqAt.EqAt.str_str (A := X.A.in1) (s := s) u t1 u t3
    simpa using this
  have q2 : SeqAt.EqAt X.A.in1 s u2 w2 true := by
    rcases hz with rfl | ⟨i, rfl⟩
    · cases r2; cases r4
      exact SeqAt.EqAt.same _
    · obtain ⟨t2, rfl⟩ := r2
      obtain ⟨t4, rfl⟩ := r4
      have := SeqAt.EqAt.int_int (A := X.A.in1) (s := s) i t2 i t4
      simpa using this
  have z := SeqAt.RcAt.tuples (A := X.A) (e := fun _ => true) p1 p2 (by omega) (fun j h1 h2 => by
    match j, h1, h2 with
    | 0, _, _ => exact q1
    | 1, _, _ => exact q2
    | j + 2, h1, _ => exact absurd (show j + 2 < 2 from h1) (by omega))
  refine z _ _ _ _ ⟨.bl _, H, I, rfl, ?_⟩
  have ez : ((List.range (min [Value.str u t1, u2].toArray.size [Value.str u t3, w2].toArray.size)).all (fun _ => true) && [Value.str u t1, u2].toArray.size == [Value.str u t3, w2].toArray.size) = true := by
    show ((List.range 2).all (fun _ => true) && true) = true
    decide
  rw [ez]
  exact q
end L2
set_option Elab.async false
set_option linter.all false
set_option maxRecDepth 100000
namespace L2
open PySem PySem.Spec PyProof.Rows
section
variable {X : Cx} {elt iter : Expr} {tg : Str} {tp : Pos} {cs : List Expr} {scope : Scope} {pos : Pos} {tc : TT} {te : TE} {M : List Str}
/-- name = [e for x in list if c] -/
theorem ps_compL {tl : TE} {pos1 spos : Pos} {i : Nat} {x : Str} (hN : X.N.Nodup) (hix : X.N[i]? = some x) (hx : X.env.scope.names.lookup x = some .local) (hc : X.calm = true) (S : CompScope scope X.env X.N M) (nd : (tg :: M).Nodup) (hl : scope.names.lookup tg = some .local) (hi : PE X iter tl) (mo : MonoE tl)
    (hin : Inner X scope tg M cs elt tc te) (hw : swapsWith (.ListComp elt [⟨.Name tg tp, iter, cs, 0⟩] scope pos) (some (.Name x pos1)) spos.line X.env = pure true := by rfl) (hf : ∀ x, foldedSetIterable iter X.env x = pure x := by intro _; rfl) :
    PS X (.Assign [.Name x pos1] (.ListComp elt [⟨.Name tg tp, iter, cs, 0⟩] scope pos) spos) (tAsg (tCompL X.K tl tc te) (gName i)) := by
  refine ps_compG hc S nd hl (pi_list hi) hin (fun σ H Q h => ?_) hN hix hx hw hf
  refine mo σ H _ _ (fun v H1 q => ?_) h
  obtain ⟨a, xs, e, j1, q⟩ := q
  refine ⟨a, e, ⟨xs, j1⟩, fun d hd => ?_⟩
  obtain ⟨Pv, h0, hl, hs, hd⟩ := q d hd
  exact comp_list (k := 1) (g := gName 0) Pv h0 hl hs hd
end
end L2
set_option Elab.async false
set_option linter.all false
set_option maxRecDepth 100000
namespace L2
open PySem PySem.Spec PyProof.Rows
/-! ### [e for x, y in list if c] -/
def turnP (K : PySem.W.Frag) (tc : TT) (te : TE) (σ : St) (d : Addr) (z : V) (H : Hp) (Z : Hp → Prop) : Prop := ∃ a x y, z = .ref a ∧ SqT K H a [x, y] ∧ turnZ tc te σ d x y H Z
def tCompP (K : PySem.W.Frag) (tl : TE) (tc : TT) (te : TE) : TE := fun σ H Q => tl σ H fun v H1 => ∃ a xs, v = .ref a ∧ SqL K H1 a xs ∧ ∀ d, H1 d = none →
  ∃ Pv : Nat → Hp → Prop, Pv 0 (upd H1 d (.lst [])) ∧ (∀ i H, i ≤ xs.length → Pv i H → SqL K H a xs) ∧ (∀ i x H, xs[i]? = some x → Pv i H → turnP K tc te σ d x H (Pv (i + 1))) ∧ ∀ H, Pv xs.length H → Q (.ref d) H
theorem pe_compP {X : Cx} (K : PySem.W.Frag) {elt iter : Expr} {t1 t2 : Str} {p1 p2 tp pos : Pos} {k : Nat} {cs : List Expr} {scope : Scope} {tc : TT} {te tl : TE} {M : List Str} (hc : X.calm = true) (S : CompScope scope X.env X.N M) (nd : (t1 :: t2 :: M).Nodup) (hl1 : scope.names.lookup t1 = some .local) (hl2 : scope.names.lookup t2 = some .local)
    (hi : PE X iter tl) (mo : MonoE tl)
    (hin : ∀ (cl : List (Str × Addr)) (C : Addr) (s0 : Shared) (H0 : Hp) (fp : List Addr) (pins : List (Addr × Obj)) (σ : St), Back X (cxC X scope cl C s0 H0 fp (t1 :: t2 :: M)) pins σ fp C s0 H0 → PTs (cxC X scope cl C s0 H0 fp (t1 :: t2 :: M)) cs tc ∧ PE (cxC X scope cl C s0 H0 fp (t1 :: t2 :: M)) elt te)
    (hf : ∀ x, foldedSetIterable iter X.env x = pure x := by intro _; rfl) (hK : X.K = K := by rfl) :
    PE X (.ListComp elt [⟨.Tuple [.Name t1 p1, .Name t2 p2] k tp, iter, cs, 0⟩] scope pos) (tCompP K tl tc te) := by
  subst hK
  have hx1 : (relabel scope X.env).names.lookup t1 = some .local := by rw [lookup_relabel, hl1]; rfl
  have hx2 : (relabel scope X.env).names.lookup t2 = some .local := by rw [lookup_relabel, hl2]; rfl
  refine PE.imp (pe_compB (xs := [t1, t2]) (M := M) (g := gPair X.K) hc S (pi_list hi) (fun cl C s0 H0 fp pins σ bk => ⟨pg_tup hc (pgs_cons (pg_name (i := 0) nd rfl (Or.inl hx1) (Or.inr hx1)) (pgs_cons (pg_name (i := 1) nd rfl (Or.inl hx2) (Or.inr hx2)) pgs_nil)), hin cl C s0 H0 fp pins σ bk⟩) (fun v σ H Q h => gPair_two h) hf) (fun σ H Q h => ?_)
  refine mo σ H _ _ (fun v H1 q => ?_) h
  obtain ⟨a, xs, e, j1, q⟩ := q
  refine ⟨a, e, ⟨xs, j1⟩, fun d hd => ?_⟩
  obtain ⟨Pv, h0, hl, hs, hd⟩ := q d hd
  refine comp_list (k := 2) (g := gPair X.K) Pv h0 hl (fun i x H hx hP => ?_) hd
  obtain ⟨b, y, z, rfl, hq, h⟩ := hs i x H hx hP
  exact ⟨b, [y, z], rfl, hq, rfl, y, [z], rfl, z, [], rfl, rfl, h⟩
end L2
set_option Elab.async false
set_option linter.all false
set_option maxRecDepth 100000
namespace L2
open PySem PySem.Spec
/-! ### a dict of dicts: knots and the letters behind them, in the order of their coming -/
def encL (ls : List Int) : List (Key × V) := ls.map fun l => ((Sum.inl l : Key), V.bl true)
def add1 (l : Int) (ls : List Int) : List Int := if l ∈ ls then ls else ls ++ [l]
def addW (k : List Int) (l : Int) : List (List Int × List Int) → List (List Int × List Int)
  | [] => [(k, [l])]
  | (k', ls) :: r => if k' = k then (k', add1 l ls) :: r else (k', ls) :: addW k l r
abbrev kI (k : List Int) : List Key := k.map Sum.inl
def WyOk (H : Hp) (kvs : List (List Key × V)) (wy : List (List Int × List Int)) : Prop := Paired (fun (kv : List Key × V) (q : List Int × List Int) => kv.1 = kI q.1 ∧ ∃ dx, kv.2 = .ref dx ∧ H dx = some (.dK (encL q.2))) kvs wy
theorem kI_inj {a b : List Int} (h : kI a = kI b) : a = b := by
  induction a generalizing b with
  | nil => cases b with
    | nil => rfl
    | cons y ys => simp [kI] at h
  | cons x xs ih => cases b with
    | nil => simp [kI] at h
    | cons y ys =>
      simp only [kI, List.map_cons, List.cons.injEq, Sum.inl.injEq] at h
      rw [h.1, ih h.2]
theorem put_enc (l : Int) : ∀ ls, putK (encL ls) (Sum.inl l) (.bl true) = encL (add1 l ls) := fun ls => by
  by_cases hm : l ∈ ls
  · have hv : ∀ ls : List Int, l ∈ ls → (encL ls).any (fun kv => decide (kv.1 = Sum.inl l)) = true := fun ls h => by
      rw [List.any_eq_true]
      exact ⟨(Sum.inl l, .bl true), List.mem_map.mpr ⟨l, h, rfl⟩, by simp⟩
    unfold add1
    rw [if_pos hm]
    unfold putK
    rw [if_pos (hv ls hm)]
    refine List.ext_getElem? fun i => ?_
    rw [List.getElem?_map]
    unfold encL
    rw [List.getElem?_map]
    cases ls[i]? with
    | none => rfl
    | some y =>
      simp only [Option.map_some]
      split <;> rfl
  · have hv : valV (encL ls) (Sum.inl l) = none := by
      unfold valV
      rw [Option.map_eq_none_iff, List.find?_eq_none]
      intro x hx
      obtain ⟨y, hy, rfl⟩ := List.mem_map.mp hx
      simp only [decide_eq_true_eq, Sum.inl.injEq]
      exact fun z => hm (z ▸ hy)
    rw [putK_new _ hv]
    unfold add1
    rw [if_neg hm]
    unfold encL
    rw [List.map_append]
    rfl
theorem WyOk.ups {H : Hp} {kvs : List (List Key × V)} {wy : List (List Int × List Int)} {dx : Addr} {o : HO} (h : WyOk H kvs wy) (hn : V.ref dx ∉ kvs.map (·.2)) : WyOk (upd H dx o) kvs wy := by
  induction h with
  | nil => exact .nil
  | cons r t ih =>
    rw [List.map_cons, List.mem_cons, not_or] at hn
    obtain ⟨e1, d1, e2, e3⟩ := r
    exact .cons ⟨e1, d1, e2, by rw [upd_ne (fun z => hn.1 (by rw [e2, z]))]; exact e3⟩ (ih hn.2)
theorem wy_old {H : Hp} {k : List Int} {l : Int} {v : V} {kvs : List (List Key × V)} {wy : List (List Int × List Int)} (h : WyOk H kvs wy) : (kvs.map (·.2)).Nodup → valV kvs (kI k) = some v →
    ∃ dx ls, v = .ref dx ∧ v ∈ kvs.map (·.2) ∧ (∃ q ∈ wy, q.2 = ls) ∧ H dx = some (.dK (encL ls)) ∧ WyOk (upd H dx (.dK (encL (add1 l ls)))) kvs (addW k l wy) := by
  induction h with
  | nil => intro _ z; cases z
  | @cons kv q kvs wy r t ih =>
    intro nd hv
    rw [List.map_cons, List.nodup_cons] at nd
    obtain ⟨e1, d1, e2, e3⟩ := r
    obtain ⟨qk, qs⟩ := q
    by_cases hk : kv.1 = kI k
    · rw [valV_pos hk] at hv
      have ek : qk = k := kI_inj (e1.symm.trans hk)
      cases hv
      refine ⟨d1, qs, e2, by rw [List.map_cons]; exact .head _, ⟨_, .head _, rfl⟩, e3, ?_⟩
      unfold addW
      rw [if_pos ek]
      exact .cons ⟨e1, d1, e2, upd_same⟩ (WyOk.ups t (by rw [← e2]; exact nd.1))
    · rw [valV_neg hk] at hv
      obtain ⟨dx, ls, rfl, hm, ⟨q1, hq1, eq1⟩, hd, hw⟩ := ih nd.2 hv
      refine ⟨dx, ls, rfl, by rw [List.map_cons]; exact .tail _ hm, ⟨q1, .tail _ hq1, eq1⟩, hd, ?_⟩
      unfold addW
      rw [if_neg (fun z => hk (by rw [e1, z]))]
      exact .cons ⟨e1, d1, e2, by rw [upd_ne (fun z => nd.1 (by rw [e2, z]; exact hm))]; exact e3⟩ hw
theorem wy_new {H : Hp} {k : List Int} {l : Int} {dx : Addr} {kvs : List (List Key × V)} {wy : List (List Int × List Int)} (h : WyOk H kvs wy) : valV kvs (kI k) = none → H dx = some (.dK (encL [l])) →
    WyOk H (kvs ++ [(kI k, .ref dx)]) (addW k l wy) := by
  induction h with
  | nil => exact fun _ hd => .cons ⟨rfl, dx, rfl, hd⟩ .nil
  | @cons kv q kvs wy r t ih =>
    intro hv hd
    obtain ⟨e1, d1, e2, e3⟩ := r
    obtain ⟨qk, qs⟩ := q
    by_cases hk : kv.1 = kI k
    · rw [valV_pos hk] at hv; cases hv
    · rw [valV_neg hk] at hv
      unfold addW
      rw [if_neg (fun z => hk (by rw [e1, z]))]
      exact .cons ⟨e1, d1, e2, e3⟩ (ih hv hd)
end L2
set_option Elab.async false
set_option linter.all false
set_option maxRecDepth 100000
namespace K23
open PySem L2
def top (i : Nat) : Stmt := PySem.Challenge.pw_lettertoll_k23_readers_asked.main.body.getD i (.Pass ⟨0, 0, 0, 0⟩)
def kid : Stmt → Stmt
  | .ClassDef _ _ _ b .. => b.getD 0 (.Pass ⟨0, 0, 0, 0⟩)
  | s => s
abbrev iClash : Stmt := kid (top 4)
abbrev sWays : Stmt := top 11
/-! the knots and the letters behind them -/
def wayW (word : List Int) (n : Nat) (wy : List (List Int × List Int)) : List (List Int × List Int) := (List.range n).foldl (fun wy i => addW (word.take i) (word.getD i 0) wy) wy
theorem wayW_succ (word : List Int) (n : Nat) (wy : List (List Int × List Int)) : wayW word (n + 1) wy = addW (word.take n) (word.getD n 0) (wayW word n wy) := by
  unfold wayW
  rw [List.range_succ, List.foldl_append]
  rfl
def waysTo (ws : List (List Int)) (n : Nat) : List (List Int × List Int) := (ws.take n).foldl (fun wy word => wayW word word.length wy) []
theorem waysTo_succ {ws : List (List Int)} {n : Nat} {word : List Int} (h : ws[n]? = some word) : waysTo ws (n + 1) = wayW word word.length (waysTo ws n) := by
  unfold waysTo
  rw [List.take_add_one, h, List.foldl_append]
  rfl
def waysOf (ws : List (List Int)) : List (List Int × List Int) := waysTo ws ws.length
theorem len_addW (k : List Int) (l : Int) : ∀ wy, (addW k l wy).length ≤ wy.length + 1
  | [] => Nat.le_refl _
  | (k', ls) :: r => by
    unfold addW
    split
    · simp
    · have := len_addW k l r
      simp only [List.length_cons]
      omega
def Few (n : Nat) (wy : List (List Int × List Int)) : Prop := ∀ q ∈ wy, q.2.length ≤ n
theorem few_addW {n : Nat} (k : List Int) (l : Int) : ∀ {wy : List (List Int × List Int)}, Few n wy → Few (n + 1) (addW k l wy)
  | [], _ => fun q hq => by
    rw [show addW k l [] = [(k, [l])] from rfl] at hq
    rw [List.mem_singleton.mp hq]
    exact Nat.le_add_left 1 n
  | (k', ls) :: r, h => fun q hq => by
    unfold addW at hq
    have hr : Few n r := fun q hq => h q (.tail _ hq)
    split at hq
    · rcases List.mem_cons.mp hq with z | z
      · rw [z]
        have hz : ls.length ≤ n := h (k', ls) (.head _)
        show (add1 l ls).length ≤ n + 1
        unfold add1
        split
        · omega
        · rw [List.length_append]; show ls.length + 1 ≤ n + 1; omega
      · have := hr q z; omega
    · rcases List.mem_cons.mp hq with z | z
      · rw [z]; have := h _ (.head _); omega
      · exact few_addW k l hr q z
theorem WyOk.same {H H' : Hp} {kvs : List (List Key × V)} {wy : List (List Int × List Int)} (h : WyOk H kvs wy) (sm : Same H H') : WyOk H' kvs wy := Paired.mapP h fun _ _ ⟨e1, dx, e2, e3⟩ => ⟨e1, dx, e2, sm _ _ e3⟩
/-! d holds the ways wy; all that it holds is younger than H -/
def WAt (H H' : Hp) (d : Addr) (wy : List (List Int × List Int)) : Prop := H d = none ∧ Same H H' ∧ ∃ kvs, H' d = some (.dT kvs) ∧ WyOk H' kvs wy ∧ (kvs.map (·.2)).Nodup ∧ ∀ dx, V.ref dx ∈ kvs.map (·.2) → H dx = none ∧ dx ≠ d ∧ ∃ o, H' dx = some o
section
variable {P : Program} {w : World} {K : PySem.W.Frag} {mg : Str → Option Value} {base : Heap} {f : Addr} {fd : FuncData}
def spWays : Sp := fun vs H Q _ => ∃ c xs ws, vs = [.ref c] ∧ H c = some (.tup xs) ∧ Ws H xs ws ∧ ws.length ≤ 100 ∧ (∀ x ∈ ws, x.length ≤ 100) ∧ ∀ d H', WAt H H' d (waysOf ws) → Q (.ref d) H'
abbrev NY : List Str := ["code", "ways", "word", "size", "letters"]
theorem scWays : FnScope NY ["code"] (defScope sWays) := ⟨rfl, rfl, rfl, by decide +kernel, rfl, by decide +kernel, by decide +kernel⟩
theorem hu1 {A : Around} {k : Nat} (hr : Room k A) : A.units + 1 < cLine := by have := hu4 hr; omega
set_option maxHeartbeats 2000000 in
theorem ok_ways (F : Fun K "ways_on" "ways_on" sWays f fd) (ml : mg "len" = none) (mr : mg "range" = none) : FnOk P w K mg base CX0 1 f fd ["code"] spWays := by
  refine F.ok (k := 0) scWays (fun vs H Q E h => ?_) (fun cdv A outer s H vs Q E hr h => ?_)
  · obtain ⟨c, xs, ws, rfl, _⟩ := h
    rfl
  obtain ⟨c, xs, ws, rfl, hc, hw, l1, l2, q⟩ := h
  refine ⟨_, pss_cons (ps_set (i := 1) scWays.nd rfl (Or.inl rfl) pe_dnewT)
    (pss_cons (ps_for PassesOwn.never rfl (pi_tup (pv 0)) (pg_name (i := 2) scWays.nd rfl (Or.inl rfl))
      (pss_one (ps_for PassesOwn.never rfl (pi_range1 (by rfl) mr (pa_cons (pe_callB call_len_seq (by rfl) ml PySem.boot_len (pa_cons (pv 2) pa_nil)) pa_nil)) (pg_name (i := 3) scWays.nd rfl (Or.inl rfl))
        (pss_cons (ps_set (i := 4) scWays.nd rfl (Or.inl rfl) (pe_dsetd (hu1 hr) (pv 1) (pe_slice sl_tupG (pv 2) po_none (po_some (pv 3))) pe_dnewK ⟨rfl, rfl, rfl, rfl⟩))
        (pss_one (ps_dput (hu1 hr) (pv 4) (pe_ix (ixT K) (pv 2) (pv 3) (fun _ _ => rfl)) pe_bl rfl))))))
    (pss_one (ps_ret (pv 1)))), ?_⟩
  have lx : xs.length = ws.length := hw.length
  refine fun d hd => ?_
  refine ⟨_, rfl, c, rfl, ⟨_, SqT.of (same_newO hd _ _ _ hc)⟩, ?_⟩
  refine for_tup (xs := xs) (fun i σ H' => ((waysTo ws i).length ≤ i * 100 ∧ Few (i * 100) (waysTo ws i)) ∧ WAt H H' d (waysTo ws i) ∧ ∃ x2 x3 x4 : Option V, σ = [some (.ref c), some (.ref d), x2, x3, x4]) ⟨⟨Nat.zero_le _, fun q hq => nomatch hq⟩, ⟨hd, same_newO hd _, [], upd_same, .nil, List.nodup_nil, fun dx h => by simp at h⟩, none, none, none, rfl⟩ (fun i σ H' _ hP => SqT.of (hP.2.1.2.1 _ _ hc)) (fun i x σ H1 hx hP => ?_) (fun σ H1 hP => ?_)
  · obtain ⟨lw, wt, x2, x3, x4, rfl⟩ := hP
    obtain ⟨ns, hn, rx⟩ := Paired.right_of hw i x hx
    have ln := l2 ns (List.mem_of_getElem? hn)
    have iw := (List.getElem?_eq_some_iff.mp hn).1
    obtain ⟨a, rfl, ha⟩ := Wd.ti rx
    refine ⟨_, rfl, a, _, rfl, .inr (SqT.of (wt.2.1 _ _ ha)), _, rfl, by rw [List.length_map]; omega, by rw [List.length_map]; omega, ?_⟩
    rw [List.length_map]
    refine for_range (fun j σ H' => ((wayW ns j (waysTo ws i)).length ≤ i * 100 + j ∧ Few (i * 100 + j) (wayW ns j (waysTo ws i))) ∧ WAt H H' d (wayW ns j (waysTo ws i)) ∧ ∃ x3 x4 : Option V, σ = [some (.ref c), some (.ref d), some (.ref a), x3, x4]) ⟨lw, wt, _, _, rfl⟩ (fun j σ H2 hj hP => ?_) (fun σ H2 hP => ?_)
    · obtain ⟨⟨lj, fw⟩, ⟨_, sm, kvs, hdk, wy, nd, young⟩, x3, x4, rfl⟩ := hP
      have hj' : j < ns.length := by omega
      have e0 : (0 : Int) + (j : Int) = ((j : Nat) : Int) := by omega
      rw [e0]
      have lk : kvs.length = (wayW ns j (waysTo ws i)).length := Paired.length wy
      refine ⟨_, rfl, d, rfl, .inr ⟨kvs, .inl hdk⟩, _, rfl, _, rfl, _, rfl, a, _, rfl, sm _ _ ha, fun p H3 s3 hp3 => ?_⟩
      rw [cut_to, ← List.map_take] at hp3
      refine fun dn hdn => ?_
      have s4 := same_newO hdn (.dK [])
      have g4 := (sm.trans s3).trans s4
      have kp : upd H3 dn (.dK []) p = some (.tup ((kI (ns.take j)).map kV)) := by
        rw [s4 _ _ hp3, List.map_map]
        rfl
      have ndn : H dn = none := (sm.trans s3).free hdn
      have hd4 : upd H3 dn (.dK []) d = some (.dT kvs) := s4 _ _ (s3 _ _ hdk)
      have wy4 := WyOk.same wy (s3.trans s4)
      have dnd : dn ≠ d := fun z => by rw [z, s3 _ _ hdk] at hdn; cases hdn
      have dnv : V.ref dn ∉ kvs.map (·.2) := fun z => by
        obtain ⟨_, _, o, ho⟩ := young dn z
        rw [s3 _ _ ho] at hdn; cases hdn
      have hj2 : ns[j]? = some ns[j] := List.getElem?_eq_getElem hj'
      have gD : ns.getD j 0 = ns[j] := by rw [List.getD_eq_getElem?_getD, hj2]; rfl
      have fa := few_addW (ns.take j) (ns.getD j 0) fw
      have la := len_addW (ns.take j) (ns.getD j 0) (wayW ns j (waysTo ws i))
      have hdn4 : upd H3 dn (.dK []) dn = some (.dK []) := upd_same
      generalize upd H3 dn (.dK []) = H4 at s4 g4 kp hd4 wy4 hdn4 ⊢
      refine ⟨kvs, kI (ns.take j), p, hd4, rfl, kp, by rw [sizeLine_eq]; omega, fun v hv => ?_, fun hv => ?_⟩
      · obtain ⟨dx, ls, rfl, hm, ⟨q1, hq1, rfl⟩, hdx, hw'⟩ := wy_old (l := ns.getD j 0) wy4 nd hv
        obtain ⟨y1, y2, _⟩ := young dx hm
        refine ⟨_, rfl, _, rfl, _, rfl, a, _, _, _, rfl, rfl, SqT.of (g4 _ _ ha), L2.at_int hj2, dx, _, rfl, DPut.k (k := Sum.inl ns[j]) hdx ?_, ?_⟩
        · have := fw q1 hq1
          unfold encL
          rw [List.length_map, sizeLine_eq]
          omega
        · rw [put_enc, ← gD]
          refine ⟨⟨by rw [wayW_succ]; omega, by rw [wayW_succ]; exact fa⟩, ⟨hd, same_upd y1 g4, kvs, by rw [upd_ne (Ne.symm y2)]; exact hd4, by rw [wayW_succ]; exact hw', nd, fun dy hy => ?_⟩, _, _, rfl⟩
          obtain ⟨z1, z2, o, ho⟩ := young dy hy
          refine ⟨z1, z2, ?_⟩
          by_cases zz : dy = dx
          · rw [zz]; exact ⟨_, upd_same⟩
          · rw [upd_ne zz]; exact ⟨o, s4 _ _ (s3 _ _ ho)⟩
      · rw [putK_new _ hv]
        have hdn5 : upd H4 d (.dT (kvs ++ [(kI (ns.take j), .ref dn)])) dn = some (.dK []) := by rw [upd_ne dnd]; exact hdn4
        have g5 := same_upd (o := .dT (kvs ++ [(kI (ns.take j), .ref dn)])) hd g4
        have dv : V.ref d ∉ kvs.map (·.2) := fun z => (young d z).2.1 rfl
        refine ⟨_, rfl, _, rfl, _, rfl, a, _, _, _, rfl, rfl, SqT.of (g5 _ _ ha), L2.at_int hj2, dn, _, rfl, DPut.k (k := Sum.inl ns[j]) hdn5 (by show 0 < sizeLine; decide), ?_⟩
        have ep : putK ([] : List (Key × V)) (Sum.inl ns[j]) (.bl true) = encL [ns.getD j 0] := by rw [gD]; exact put_enc ns[j] []
        rw [ep]
        refine ⟨⟨by rw [wayW_succ]; omega, by rw [wayW_succ]; exact fa⟩, ⟨hd, same_upd ndn g5, kvs ++ [(kI (ns.take j), .ref dn)], by rw [upd_ne (Ne.symm dnd), upd_same], ?_, ?_, fun dy hy => ?_⟩, _, _, rfl⟩
        · rw [wayW_succ]
          exact wy_new (WyOk.ups (WyOk.ups wy4 dv) dnv) hv upd_same
        · rw [List.map_append, List.nodup_append]
          refine ⟨nd, by simp, fun x hx y hy z => ?_⟩
          simp only [List.map_cons, List.map_nil, List.mem_singleton] at hy
          exact dnv (by rw [← hy, ← z]; exact hx)
        · rw [List.map_append] at hy
          rcases List.mem_append.mp hy with m | m
          · obtain ⟨z1, z2, o, ho⟩ := young dy m
            refine ⟨z1, z2, o, ?_⟩
            rw [upd_ne (fun z => dnv (by rw [← z]; exact m)), upd_ne z2]
            exact s4 _ _ (s3 _ _ ho)
          · simp only [List.map_cons, List.map_nil, List.mem_singleton] at m
            cases m
            exact ⟨ndn, dnd, _, upd_same⟩
    · obtain ⟨⟨lj, fw⟩, wt, x3, x4, rfl⟩ := hP
      rw [show ((ns.length : Int)).toNat = ns.length from by omega] at lj fw wt
      refine ⟨⟨by rw [waysTo_succ hn]; omega, fun q hq => ?_⟩, by rw [waysTo_succ hn]; exact wt, _, _, _, rfl⟩
      rw [waysTo_succ hn] at hq
      have := fw q hq
      omega
  · obtain ⟨_, wt, x2, x3, x4, rfl⟩ := hP
    rw [lx] at wt
    exact ⟨_, rfl, q d H1 wt⟩
end
end K23
set_option Elab.async false
set_option linter.all false
set_option maxRecDepth 100000
namespace K23
open PySem L2
abbrev sRefuse : Stmt := top 10
/-! the keys of the ways: each once, the empty one first -/
theorem addW_ne (k : List Int) (l : Int) : ∀ wy, addW k l wy ≠ []
  | [] => by unfold addW; simp
  | (k', ls) :: r => by unfold addW; split <;> simp
theorem addW_keys (k : List Int) (l : Int) : ∀ wy, ((addW k l wy).map (·.1) = wy.map (·.1) ∧ k ∈ wy.map (·.1)) ∨ ((addW k l wy).map (·.1) = wy.map (·.1) ++ [k] ∧ k ∉ wy.map (·.1))
  | [] => .inr ⟨rfl, by simp⟩
  | (k', ls) :: r => by
    unfold addW
    by_cases h : k' = k
    · rw [if_pos h]
      exact .inl ⟨rfl, by rw [List.map_cons]; exact h ▸ .head _⟩
    · rw [if_neg h]
      rcases addW_keys k l r with ⟨e, m⟩ | ⟨e, m⟩
      · exact .inl ⟨by rw [List.map_cons, List.map_cons, e], by rw [List.map_cons]; exact .tail _ m⟩
      · refine .inr ⟨by rw [List.map_cons, List.map_cons, e]; rfl, ?_⟩
        rw [List.map_cons, List.mem_cons, not_or]
        exact ⟨fun z => h z.symm, m⟩
structure Wok (wy : List (List Int × List Int)) : Prop where
  nd : (wy.map (·.1)).Nodup
  hd : ∀ q r, wy = q :: r → q.1 = []
theorem Wok.add {wy : List (List Int × List Int)} (h : Wok wy) {k : List Int} (l : Int) (hk : wy = [] → k = []) : Wok (addW k l wy) := by
  refine ⟨?_, fun q r e => ?_⟩
  · rcases addW_keys k l wy with ⟨e, _⟩ | ⟨e, m⟩
    · rw [e]; exact h.nd
    · rw [e, List.nodup_append]
      refine ⟨h.nd, by simp, fun x hx y hy z => m ?_⟩
      rw [List.mem_singleton.mp hy] at z
      rw [← z]; exact hx
  · cases wy with
    | nil =>
      rw [show addW k l [] = [(k, [l])] from rfl] at e
      cases e
      exact hk rfl
    | cons q' r' =>
      have hq := h.hd q' r' rfl
      obtain ⟨k', ls⟩ := q'
      unfold addW at e
      split at e
      · cases e; exact hq
      · cases e; exact hq
theorem wayW_ok (word : List Int) {wy : List (List Int × List Int)} (h : Wok wy) : ∀ n, Wok (wayW word n wy) ∧ (wayW word n wy = [] → n = 0)
  | 0 => ⟨h, fun _ => rfl⟩
  | n + 1 => by
    obtain ⟨a, b⟩ := wayW_ok word h n
    rw [wayW_succ]
    exact ⟨a.add _ fun z => by rw [b z]; rfl, fun z => absurd z (addW_ne _ _ _)⟩
theorem waysTo_ok (ws : List (List Int)) : ∀ n, n ≤ ws.length → Wok (waysTo ws n)
  | 0, _ => ⟨List.nodup_nil, fun _ _ e => by cases e⟩
  | n + 1, h => by
    rw [waysTo_succ (List.getElem?_eq_getElem (show n < ws.length by omega))]
    exact (wayW_ok _ (waysTo_ok ws n (by omega)) _).1
theorem waysOf_ok (ws : List (List Int)) : Wok (waysOf ws) := waysTo_ok ws _ (Nat.le_refl _)
/-! what a key finds -/
theorem wy_keys {H : Hp} {kvs : List (List Key × V)} {wy : List (List Int × List Int)} (h : WyOk H kvs wy) : kvs.map (·.1) = wy.map fun q => kI q.1 := by
  induction h with
  | nil => rfl
  | cons r _ ih => rw [List.map_cons, List.map_cons, r.1, ih]
end K23
set_option Elab.async false
set_option linter.all false
set_option maxRecDepth 100000
namespace K23
open PySem L2
abbrev sBegins : Stmt := top 7
abbrev sClash : Stmt := top 9
abbrev sCell : Stmt := top 16
abbrev sBegun : Stmt := top 19
abbrev sClash2 : Stmt := top 20
section
variable {P : Program} {w : World} {K : PySem.W.Frag} {mg : Str → Option Value} {base : Heap} {f : Addr} {fd : FuncData}
/-! _law_cell_at: some int -/
def spCell (K : PySem.W.Frag) : Sp := fun vs H Q _ => ∃ (a : Addr) (ns : List Int) (k : Int), vs = [.ref a, .int k] ∧ SqL K H a (ns.map V.int) ∧ 0 ≤ k ∧ ∀ i, Q (.int i) H
theorem scCell : FnScope ["script", "k"] ["script", "k"] (defScope sCell) := ⟨rfl, rfl, rfl, by decide +kernel, rfl, by decide +kernel, by decide +kernel⟩
theorem ok_cell (F : Fun K "_law_cell_at" "_law_cell_at" sCell f fd) (ml : mg "len" = none) : FnOk P w K mg base CX0 1 f fd ["script", "k"] (spCell K) := by
  refine F.ok (k := 0) scCell (fun vs H Q E h => ?_) (fun cdv A outer s H vs Q E hr h => ?_)
  · obtain ⟨a, ns, k, rfl, _⟩ := h
    rfl
  obtain ⟨a, ns, k, rfl, hS, h0, q⟩ := h
  refine ⟨_, pss_cons (ps_if (pt_cmpR op_lt (pv 1) (pe_callB call_len_seq (by rfl) ml PySem.boot_len (pa_cons (pv 0) pa_nil)) (nomark _)) (pss_one (ps_ret (pe_ix ix_list (pv 0) (pv 1) (fun _ _ => rfl)))) pss_nil) (pss_one (ps_ret pe_int)), ?_⟩
  refine ⟨_, rfl, _, rfl, a, _, rfl, .inl hS, _, _, rfl, rfl, _, rfl, ?_⟩
  refine ite2 (fun c => ?_) (fun c => q 0)
  have c1 : k < ((ns.map V.int).length : Int) := of_decide_eq_true c
  obtain ⟨n, rfl⟩ : ∃ n : Nat, k = n := ⟨k.toNat, by omega⟩
  have hn : n < ns.length := by rw [List.length_map] at c1; omega
  exact ⟨_, rfl, _, rfl, a, _, _, _, rfl, rfl, hS, at_int (List.getElem?_eq_getElem hn), q _⟩
end
section
variable {P : Program} {w : World} {K : PySem.W.Frag} {mg : Str → Option Value} {base : Heap} {f : Addr} {fd : FuncData}
/-! begins, _law_begun -/
def spBeg : Sp := fun vs H Q _ => ∃ x y ns ms, vs = [x, y] ∧ Wd H x ns ∧ Wd H y ms ∧ ∀ H', Same H H' → Q (.bl (decide (ms.take ns.length = ns))) H'
theorem scBegins : FnScope ["one", "other"] ["one", "other"] (defScope sBegins) := ⟨rfl, rfl, rfl, by decide +kernel, rfl, by decide +kernel, by decide +kernel⟩
theorem ok_begins (F : Fun K "begins" "begins" sBegins f fd) (ml : mg "len" = none) : FnOk P w K mg base CX0 1 f fd ["one", "other"] spBeg := by
  refine F.ok (k := 0) scBegins (fun vs H Q E h => ?_) (fun cdv A outer s H vs Q E hr h => ?_)
  · obtain ⟨x, y, ns, ms, rfl, _⟩ := h
    rfl
  obtain ⟨x, y, ns, ms, rfl, hx, hy, q⟩ := h
  obtain ⟨a, rfl, ha⟩ := hx.ti
  obtain ⟨b, rfl, hb⟩ := hy.ti
  refine ⟨_, pss_one (ps_ret (pe_cmpR (op_eqTI (hu4 hr)) (pe_slice sl_tupG (pv 1) po_none (po_some (pe_callB call_len_seq rfl ml PySem.boot_len (pa_cons (pv 0) pa_nil)))) (pv 0) (nomark _))), ?_⟩
  refine ⟨_, rfl, _, rfl, a, _, rfl, .inr (SqT.of ha), _, rfl, b, _, rfl, hb, fun p H' sm hp => ?_⟩
  rw [List.length_map, cut_to, ← List.map_take] at hp
  exact ⟨_, rfl, _, _, rtup_ints hp, rtup_ints (sm _ _ ha), q H' sm⟩
theorem scBegun : FnScope ["one", "other"] ["one", "other"] (defScope sBegun) := ⟨rfl, rfl, rfl, by decide +kernel, rfl, by decide +kernel, by decide +kernel⟩
theorem ok_begun (F : Fun K "_law_begun" "_law_begun" sBegun f fd) (ml : mg "len" = none) : FnOk P w K mg base CX0 1 f fd ["one", "other"] spBeg := by
  refine F.ok (k := 0) scBegun (fun vs H Q E h => ?_) (fun cdv A outer s H vs Q E hr h => ?_)
  · obtain ⟨x, y, ns, ms, rfl, _⟩ := h
    rfl
  obtain ⟨x, y, ns, ms, rfl, hx, hy, q⟩ := h
  obtain ⟨a, rfl, ha⟩ := hx.ti
  obtain ⟨b, rfl, hb⟩ := hy.ti
  refine ⟨_, pss_one (ps_ret (pe_and (pe_cmpR op_le (pe_callB call_len_seq (by rfl) ml PySem.boot_len (pa_cons (pv 0) pa_nil)) (pe_callB call_len_seq (by rfl) ml PySem.boot_len (pa_cons (pv 1) pa_nil)) (nomark _))
    (pe_one (pe_cmpR (op_eqTI (hu4 hr)) (pe_slice sl_tupG (pv 1) po_none (po_some (pe_callB call_len_seq (by rfl) ml PySem.boot_len (pa_cons (pv 0) pa_nil)))) (pv 0) (nomark _))))), ?_⟩
  refine ⟨_, rfl, a, _, rfl, .inr (SqT.of ha), _, rfl, b, _, rfl, .inr (SqT.of hb), _, _, rfl, rfl, _, rfl, ?_⟩
  refine ite2 (fun c => ?_) (fun c => ?_)
  · refine ⟨_, rfl, _, rfl, a, _, rfl, .inr (SqT.of ha), _, rfl, b, _, rfl, hb, fun p H' sm hp => ?_⟩
    rw [List.length_map, cut_to, ← List.map_take] at hp
    exact ⟨_, rfl, _, _, rtup_ints hp, rtup_ints (sm _ _ ha), q H' sm⟩
  · have c1 : ¬ ((ns.map V.int).length : Int) ≤ ((ms.map V.int).length : Int) := of_decide_eq_false (Bool.eq_false_iff.mpr c)
    rw [List.length_map, List.length_map] at c1
    have z : ¬ ms.take ns.length = ns := fun z => by
      have := congrArg List.length z
      rw [List.length_take] at this
      omega
    have := q H (Same.refl H)
    rw [decide_eq_false z] at this
    exact this
end
/-! the first clash -/
def cAt (ws : List (List Int)) (i j : Nat) : Prop := ∃ u v, ws[i]? = some u ∧ ws[j]? = some v ∧ (v.take u.length = u ∨ u.take v.length = v)
def freeTo (ws : List (List Int)) (i j : Nat) : Prop := ∀ a b, a < b → (a < i ∨ (a = i ∧ b < j)) → ¬ cAt ws a b
def isF (ws : List (List Int)) : Option (List Int) → Prop
  | none => ∀ a b, a < b → ¬ cAt ws a b
  | some r => ∃ i j : Nat, i < j ∧ r = [(i : Int), (j : Int)] ∧ cAt ws i j ∧ freeTo ws i j
theorem isF_inj {ws : List (List Int)} {o o' : Option (List Int)} (h : isF ws o) (h' : isF ws o') : o = o' := by
  cases o with
  | none =>
    cases o' with
    | none => rfl
    | some r =>
      obtain ⟨i, j, hij, _, c, _⟩ := h'
      exact absurd c (h i j hij)
  | some r =>
    obtain ⟨i, j, hij, rfl, c, fr⟩ := h
    cases o' with
    | none => exact absurd c (h' i j hij)
    | some r' =>
      obtain ⟨i', j', hij', rfl, c', fr'⟩ := h'
      have h1 : ¬ (i < i' ∨ (i = i' ∧ j < j')) := fun z => fr' i j hij z c
      have h2 : ¬ (i' < i ∨ (i' = i ∧ j' < j)) := fun z => fr i' j' hij' z c'
      have e1 : i = i' := by omega
      have e2 : j = j' := by omega
      subst e1 e2
      rfl
theorem cAt_lt {ws : List (List Int)} {i j : Nat} (h : cAt ws i j) : j < ws.length := by
  obtain ⟨u, v, _, e, _⟩ := h
  exact (List.getElem?_eq_some_iff.mp e).1
section
variable {P : Program} {w : World} {K : PySem.W.Frag} {mg : Str → Option Value} {base : Heap} {f : Addr} {fd : FuncData}
def spClash : Sp := fun vs H Q _ => ∃ c xs ws, vs = [.ref c] ∧ H c = some (.tup xs) ∧ Ws H xs ws ∧ ws.length ≤ 1000 ∧ ∀ r H' o, Same H H' → ROpt (RTup H' RInt) r o → isF ws o → Q r H'
theorem scspClash : FnScope ["code", "one", "other"] ["code"] (defScope sClash) := ⟨rfl, rfl, rfl, by decide +kernel, rfl, by decide +kernel, by decide +kernel⟩
theorem ok_spClash (F : Fun K "clash" "clash" sClash f fd) (G : Fns P w K mg base ["one", "other"] "begins" spBeg 1) (ml : mg "len" = none) (mr : mg "range" = none) : FnOk P w K mg base CX0 2 f fd ["code"] spClash := by
  refine F.ok (k := 1) scspClash (fun vs H Q E h => ?_) (fun cdv A outer s H vs Q E hr h => ?_)
  · obtain ⟨c, xs, ws, rfl, _⟩ := h
    rfl
  obtain ⟨c, xs, ws, rfl, hc, hw, hl, q⟩ := h
  refine ⟨_, pss_cons (ps_for PassesOwn.never rfl (pi_range1 (by rfl) mr (pa_cons (pe_callB call_len_seq (by rfl) ml PySem.boot_len (pa_cons (pv 0) pa_nil)) pa_nil)) (pg_name (i := 1) scspClash.nd rfl (Or.inl rfl))
      (pss_one (ps_for PassesOwn.never rfl (pi_range2 (by rfl) mr (pa_cons (pe_op op_add (pv 1) pe_int) (pa_cons (pe_callB call_len_seq (by rfl) ml PySem.boot_len (pa_cons (pv 0) pa_nil)) pa_nil))) (pg_name (i := 2) scspClash.nd rfl (Or.inl rfl))
        (pss_one (ps_if (pw_or (pt_val (pe_call G.ok hr (by rfl) G.m G.kp G.b .nil pass0 (pa_cons (pe_ix ix_tup (pv 0) (pv 1) (fun _ _ => rfl)) (pa_cons (pe_ix ix_tup (pv 0) (pv 2) (fun _ _ => rfl)) pa_nil))))
            (pw_or1 (pt_val (pe_call G.ok hr (by rfl) G.m G.kp G.b .nil pass0 (pa_cons (pe_ix ix_tup (pv 0) (pv 2) (fun _ _ => rfl)) (pa_cons (pe_ix ix_tup (pv 0) (pv 1) (fun _ _ => rfl)) pa_nil)))))).pt
          (pss_one (ps_ret (pe_tup (pa_cons (pv 1) (pa_cons (pv 2) pa_nil))))) pss_nil)))))
    (pss_one (ps_ret pe_non)), ?_⟩
  have ll : xs.length = ws.length := hw.length
  refine ⟨_, rfl, c, _, rfl, .inr (SqT.of hc), _, rfl, by omega, by omega, ?_⟩
  refine for_range (fun i σ H' => Same H H' ∧ freeTo ws i 0 ∧ ∃ x1 x2 : Option V, σ = [some (.ref c), x1, x2]) ⟨Same.refl _, fun a b h1 h2 => by omega, _, _, rfl⟩ (fun i σ H1 hi hP => ?_) (fun σ H1 hP => ?_)
  · obtain ⟨sm, fr, x1, x2, rfl⟩ := hP
    have hi' : i < ws.length := by omega
    have e0 : (0 : Int) + (i : Int) = ((i : Nat) : Int) := by omega
    rw [e0]
    refine ⟨_, rfl, _, _, rfl, rfl, _, rfl, c, _, rfl, .inr (SqT.of (sm _ _ hc)), _, _, rfl, by omega, ?_⟩
    refine for_range (fun j σ H' => Same H H' ∧ freeTo ws i (i + 1 + j) ∧ ∃ x2 : Option V, σ = [some (.ref c), some (.int i), x2]) ⟨sm, fun a b h1 h2 => fr a b h1 (by omega), _, rfl⟩ (fun j σ H2 hj hP => ?_) (fun σ H2 hP => ?_)
    · obtain ⟨sm2, fr2, x2, rfl⟩ := hP
      have hj' : i + 1 + j < ws.length := by omega
      have e1 : (i : Int) + 1 + (j : Int) = ((i + 1 + j : Nat) : Int) := by omega
      rw [e1]
      have u1 : ws[i]? = some ws[i] := List.getElem?_eq_getElem hi'
      have u2 : ws[i + 1 + j]? = some ws[i + 1 + j] := List.getElem?_eq_getElem hj'
      obtain ⟨y1, hy1, r1⟩ := Paired.left_of hw _ _ u1
      obtain ⟨y2, hy2, r2⟩ := Paired.left_of hw _ _ u2
      have yes : ∀ H3, Same H H3 → cAt ws i (i + 1 + j) → (∃ v, ([some (.ref c), some (.int i), some (.int ((i + 1 + j : Nat) : Int))] : St)[1]? = some (some v) ∧ ∃ v', ([some (.ref c), some (.int i), some (.int ((i + 1 + j : Nat) : Int))] : St)[2]? = some (some v') ∧ ([v, v'] : List V).length ≤ sizeLine ∧ ∀ p, H3 p = none → Q (.ref p) (upd H3 p (.tup [v, v']))) := fun H3 sm3 c3 =>
        ⟨_, rfl, _, rfl, (by show 2 ≤ sizeLine; decide), fun p hp => q _ _ (some [(i : Int), ((i + 1 + j : Nat) : Int)]) (sm3.trans (same_newO hp _)) ⟨⟨p, _, rfl, upd_same, .cons rfl (.cons rfl .nil)⟩, p, rfl⟩ ⟨i, i + 1 + j, by omega, rfl, c3, fr2⟩⟩
      refine ⟨_, rfl, _, rfl, c, _, _, _, rfl, rfl, SqT.of (sm2 _ _ hc), at_nat hy1, _, rfl, _, rfl, c, _, _, _, rfl, rfl, SqT.of (sm2 _ _ hc), at_nat hy2, y1, y2, _, _, rfl, Wd.same sm2 r1, Wd.same sm2 r2, fun H3 sm3 => ?_⟩
      refine ⟨_, rfl, ?_⟩
      refine ite2 (fun c1 => ?_) (fun c1 => ?_)
      · exact iteT (yes H3 (sm2.trans sm3) ⟨_, _, u1, u2, .inl (of_decide_eq_true c1)⟩)
      · refine ⟨_, rfl, _, rfl, c, _, _, _, rfl, rfl, SqT.of (sm3 _ _ (sm2 _ _ hc)), at_nat hy2, _, rfl, _, rfl, c, _, _, _, rfl, rfl, SqT.of (sm3 _ _ (sm2 _ _ hc)), at_nat hy1, y2, y1, _, _, rfl, Wd.same (sm2.trans sm3) r2, Wd.same (sm2.trans sm3) r1, fun H4 sm4 => ?_⟩
        refine ⟨_, rfl, ?_⟩
        refine ite2 (fun c2 => ?_) (fun c2 => ?_)
        · exact yes H4 ((sm2.trans sm3).trans sm4) ⟨_, _, u1, u2, .inr (of_decide_eq_true c2)⟩
        · refine ⟨(sm2.trans sm3).trans sm4, fun a b h1 h2 => ?_, _, rfl⟩
          by_cases hb : b < i + 1 + j ∨ a < i
          · exact fr2 a b h1 (by omega)
          · have ea : a = i := by omega
            have eb : b = i + 1 + j := by omega
            subst ea eb
            rintro ⟨u, v, g1, g2, g3⟩
            rw [u1] at g1; rw [u2] at g2
            cases g1; cases g2
            rcases g3 with g3 | g3
            · exact c1 (decide_eq_true g3)
            · exact c2 (decide_eq_true g3)
    · obtain ⟨sm2, fr2, x2, rfl⟩ := hP
      refine ⟨sm2, fun a b h1 h2 c3 => ?_, _, _, rfl⟩
      have := cAt_lt c3
      exact fr2 a b h1 (by omega) c3
  · obtain ⟨sm, fr, x1, x2, rfl⟩ := hP
    refine q .non H1 none sm rfl fun a b h1 c3 => ?_
    have := cAt_lt c3
    exact fr a b h1 (by omega) c3
end
section
def rIxB (K : PySem.W.Frag) : R2 := fun x y H Q => ∃ p xs i v, x = .ref p ∧ y = .int i ∧ (SqL K H p xs ∨ SqT K H p xs) ∧ atI xs i = some v ∧ Q v H
end
section
variable {P : Program} {w : World} {K : PySem.W.Frag} {mg : Str → Option Value} {base : Heap} {f : Addr} {fd : FuncData}
def spClash2 (K : PySem.W.Frag) : Sp := fun vs H Q _ => ∃ c b xs ws, vs = [.ref c] ∧ SqB b K H c xs ∧ Ws H xs ws ∧ ws.length ≤ 1000 ∧ ∀ r H' o, Same H H' → ROpt (RTup H' RInt) r o → isF ws o → Q r H'
end
abbrev sWhole : Stmt := top 17
section
variable {P : Program} {w : World} {K : PySem.W.Frag} {mg : Str → Option Value} {base : Heap} {f : Addr} {fd : FuncData}
/-! _law_whole, of an int -/
def spWhole : Sp := fun vs H Q _ => ∃ i, vs = [.int i] ∧ Q (.bl true) H
theorem scWhole : FnScope ["found"] ["found"] (defScope sWhole) := ⟨rfl, rfl, rfl, by decide +kernel, rfl, by decide +kernel, by decide +kernel⟩
theorem ok_whole (F : Fun K "_law_whole" "_law_whole" sWhole f fd) (mi : mg "isinstance" = none) (m1 : mg "int" = none) (m2 : mg "bool" = none) : FnOk P w K mg base CX0 1 f fd ["found"] spWhole := by
  refine F.ok (k := 0) scWhole (fun vs H Q E h => ?_) (fun cdv A outer s H vs Q E hr h => ?_)
  · obtain ⟨i, rfl, _⟩ := h
    rfl
  obtain ⟨i, rfl, q⟩ := h
  refine ⟨_, pss_one (ps_ret (pe_and (pe_callB call_isi (by rfl) mi b_isi (pa_cons (pv 0) (pa_cons (pe_bltn (v := .ty "int") (by rfl) m1 b_int rfl) pa_nil)))
    (pe_one (pe_not (pe_callB call_isi (by rfl) mi b_isi (pa_cons (pv 0) (pa_cons (pe_bltn (v := .ty "bool") (by rfl) m2 b_bool rfl) pa_nil))))))), ?_⟩
  exact ⟨_, rfl, _, _, _, _, rfl, .int i, kit_int_int _, _, rfl, iteT ⟨_, rfl, _, _, _, _, rfl, .int i, kit_int_bool _, _, rfl, q⟩⟩
end
section
variable {P : Program} {w : World} {K : PySem.W.Frag} {mg : Str → Option Value} {base : Heap} {f : Addr} {fd : FuncData}
/-! Clash(one, other), refuse_clash -/
theorem scInit : FnScope ["self", "one", "other"] ["self", "one", "other"] (defScope iClash) := ⟨rfl, rfl, rfl, by decide +kernel, rfl, by decide +kernel, by decide +kernel⟩
theorem ok_init {C : Addr} (F : Fun K "__init__" "Clash.__init__" iClash f fd) (es : Est K C) (n1 : NoAttr K C "one") (n2 : NoAttr K C "other") : FnOk P w K mg base CX0 1 f fd ["self", "one", "other"] (spJ2 C "one" "other") := by
  refine F.ok (k := 0) scInit (fun vs H Q E h => ?_) (fun cdv A outer s H vs Q E hr h => ?_)
  · obtain ⟨e, v, u, rfl, _⟩ := h
    rfl
  obtain ⟨e, v, u, rfl, he, q⟩ := h
  refine ⟨_, pss_cons (ps_xfld (pv 0) (pv 1)) (pss_one (ps_xfld (pv 0) (pv 2))), ?_⟩
  refine ⟨_, rfl, _, rfl, e, C, rfl, es, n1.taker, .inl ⟨he, fun d hd hne => ?_⟩⟩
  have e2 : upd (upd H d (xdO d [("one", v)])) e (excN e C (some d)) d = some (xdO d [("one", v)]) := by rw [upd_ne hne, upd_same]
  refine ⟨_, rfl, _, rfl, e, C, rfl, es, n2.taker, .inr ⟨d, _, upd_same, e2, hne, (by show 1 ≤ 100; decide), ?_⟩⟩
  refine q _ (fun a o ne ho => ?_) ⟨d, hne, ?_, ?_⟩
  · have nd : a ≠ d := fun z => by rw [z, hd] at ho; cases ho
    rw [upd_ne nd, upd_ne ne, upd_ne nd]; exact ho
  · rw [upd_ne hne.symm, upd_same]
  · rw [upd_same]; rfl
/-- what is known of the class Clash -/
structure ClC (P : Program) (w : World) (K : PySem.W.Frag) (mg : Str → Option Value) (base : Heap) (C : Addr) : Prop where
  g : mg "Clash" = some (.ref C)
  h : Hcl K C
  kp : PySem.W.keepIn K (.ref C) = true
  i : ∃ fI fd, Eci K C fI ∧ FnOk P w K mg base CX0 1 fI fd ["self", "one", "other"] (spJ2 C "one" "other") ∧ Binds K fd ["self", "one", "other"] []
def clF (i j : Nat) : List (Str × V) := [("one", .int (i : Int)), ("other", .int (j : Int))]
def spRC (C : Addr) : Sp := fun vs H Q E => ∃ c xs ws, vs = [.ref c] ∧ H c = some (.tup xs) ∧ Ws H xs ws ∧ ws.length ≤ 1000 ∧ (isF ws none → ∀ H', Same H H' → Q .non H') ∧
  ∀ i j : Nat, isF ws (some [(i : Int), (j : Int)]) → ∀ dx H', Same H H' → H' dx = some (xdO dx (clF i j)) → E (.ref C) (some dx) H'
theorem scRefuse : FnScope ["code", "pair"] ["code"] (defScope sRefuse) := ⟨rfl, rfl, rfl, by decide +kernel, rfl, by decide +kernel, by decide +kernel⟩
theorem ok_refuse {C : Addr} (F : Fun K "refuse_clash" "refuse_clash" sRefuse f fd) (G : Fns P w K mg base ["code"] "clash" spClash 2) (c : ClC P w K mg base C) : FnOk P w K mg base (CXF P w) 3 f fd ["code"] (spRC C) := by
  obtain ⟨fI, fdI, eI, okI, bI⟩ := c.i
  refine F.okF (k := 2) scRefuse (fun vs H Q E h => ?_) (fun cdv A outer s H vs Q E hr h => ?_)
  · obtain ⟨c, xs, ws, rfl, _⟩ := h
    rfl
  obtain ⟨p, xs, ws, rfl, hp, hw, l1, q1, q2⟩ := h
  refine ⟨_, pss_cons (ps_set (i := 1) scRefuse.nd rfl (Or.inl rfl) (pe_call G.ok hr (by rfl) G.m G.kp G.b .nil pass0 (pa_cons (pv 0) pa_nil)))
    (pss_one (ps_if (pt_cmpR op_notN (pv 1) pe_non (nomark _)) (pss_one (ps_raiseI takes_def rfl (by rfl) c.g eI c.h c.kp okI hr bI (pa_cons (pe_ix ix_tup (pv 1) pe_int (fun _ _ => rfl)) (pa_cons (pe_ix ix_tup (pv 1) pe_int (fun _ _ => rfl)) pa_nil)))) pss_nil)), ?_⟩
  refine ⟨_, rfl, p, xs, ws, rfl, hp, hw, by omega, fun r H1 o s1 ro io => ?_⟩
  cases o with
  | none =>
    have e : r = .non := ro
    subst e
    exact ⟨_, rfl, rfl, _, rfl, iteF (q1 io H1 s1)⟩
  | some d =>
    obtain ⟨⟨pr, xr, er, hpr, hpp⟩, _⟩ := ro
    subst er
    obtain ⟨i, j, hij, rfl, c1, c2⟩ := io
    have exr : xr = [.int (i : Int), .int (j : Int)] := Paired.ofInts hpp
    subst exr
    refine ⟨_, rfl, rfl, _, rfl, iteT ?_⟩
    refine ⟨_, rfl, pr, _, _, _, rfl, rfl, SqT.of hpr, rfl, _, rfl, pr, _, _, _, rfl, rfl, SqT.of hpr, rfl, (by show 2 ≤ 1000; decide), fun ea hea => ?_⟩
    exact ⟨ea, _, _, rfl, upd_same, fun H2 kp x => ⟨rfl, raised_of hea kp x fun dx H' sm hdx => q2 i j ⟨i, j, hij, rfl, c1, c2⟩ dx H' (s1.trans sm) hdx⟩⟩
theorem isF_of {ws : List (List Int)} (h : PF ws) : isF ws none := fun a b hab z => by
  obtain ⟨u, v, h1, h2, h3⟩ := z
  have ap := PF.ne h h1 h2 (by omega)
  rcases h3 with e | e
  · exact ap.1 (List.prefix_iff_eq_take.mpr e.symm)
  · exact ap.2 (List.prefix_iff_eq_take.mpr e.symm)
end
end K23
set_option Elab.async false
set_option linter.all false
set_option maxRecDepth 100000
namespace K23
open PySem L2
/-! how many knots there are -/
def Kn (S : List (List Int)) (ws : List (List Int)) : Prop := ∀ x ∈ ws, ∀ n, n < x.length → x.take n ∈ S
theorem wayW_sub {S : List (List Int)} {word : List Int} {wy : List (List Int × List Int)} (h : ∀ k ∈ wy.map (·.1), k ∈ S) : ∀ n, n ≤ word.length → (∀ m, m < word.length → word.take m ∈ S) → ∀ k ∈ (wayW word n wy).map (·.1), k ∈ S
  | 0, _, _ => h
  | n + 1, hn, hw => fun k hk => by
    rw [wayW_succ] at hk
    have ih := wayW_sub h n (by omega) hw
    rcases addW_keys (word.take n) (word.getD n 0) (wayW word n wy) with ⟨e, _⟩ | ⟨e, _⟩
    · rw [e] at hk; exact ih k hk
    · rw [e] at hk
      rcases List.mem_append.mp hk with z | z
      · exact ih k z
      · rw [List.mem_singleton.mp z]; exact hw n (by omega)
theorem waysTo_sub {S ws : List (List Int)} (h : Kn S ws) : ∀ n, n ≤ ws.length → ∀ k ∈ (waysTo ws n).map (·.1), k ∈ S
  | 0, _ => fun k hk => by
    rw [show waysTo ws 0 = [] from rfl] at hk
    cases hk
  | n + 1, hn => by
    rw [waysTo_succ (List.getElem?_eq_getElem (show n < ws.length by omega))]
    exact wayW_sub (waysTo_sub h n (by omega)) _ (Nat.le_refl _) fun m hm => h _ (List.getElem_mem _) m hm
theorem nodup_sub {α : Type} [DecidableEq α] : ∀ {l S : List α}, l.Nodup → (∀ x ∈ l, x ∈ S) → l.length ≤ S.length
  | [], _, _, _ => Nat.zero_le _
  | x :: l, S, n, h => by
    rw [List.nodup_cons] at n
    have m : x ∈ S := h x (.head _)
    have q := nodup_sub (S := S.erase x) n.2 fun y hy => by
      have ne : y ≠ x := fun z => n.1 (by rw [← z]; exact hy)
      exact (List.mem_erase_of_ne ne).mpr (h y (.tail _ hy))
    have e := List.length_erase_of_mem m
    have p : 0 < S.length := List.length_pos_of_mem m
    simp only [List.length_cons]
    omega
theorem knots_le {S ws : List (List Int)} (h : Kn S ws) : (waysOf ws).length ≤ S.length := by
  have q := nodup_sub (waysOf_ok ws).nd (waysTo_sub h _ (Nat.le_refl _))
  rw [List.length_map] at q
  exact q
theorem Kn.sub {S ws ws' : List (List Int)} (h : Kn S ws) (hs : ∀ x ∈ ws', x ∈ ws) : Kn S ws' := fun x hx => h x (hs x hx)
theorem Kn.mono {S S' ws : List (List Int)} (h : Kn S ws) (hs : ∀ x ∈ S, x ∈ S') : Kn S' ws := fun x hx n hn => hs _ (h x hx n hn)
theorem Kn.app {S ws ws' : List (List Int)} (h : Kn S ws) (h' : Kn S ws') : Kn S (ws ++ ws') := fun x hx => (List.mem_append.mp hx).elim (h x) (h' x)
/-! a word grown by one letter: the word itself is a new knot -/
theorem Kn.grow {S ws : List (List Int)} (h : Kn S ws) {u : List Int} (hu : u ∈ ws) (k : Int) : Kn (u :: S) [u ++ [k]] := fun x hx n hn => by
  rw [List.mem_singleton.mp hx] at hn ⊢
  rw [List.length_append, List.length_singleton] at hn
  by_cases z : n = u.length
  · rw [z, List.take_left']
    · exact .head _
    · rfl
  · rw [List.take_append_of_le_length (by omega)]
    exact .tail _ (h u hu n (by omega))
/-! a beginning of a word has no other knots; letters renamed -/
/-- the knots of a grown code -/
theorem kn_gr {b : Int} {lo : Bool} {n : Nat} {ws : List (List Int)} (h : Gr b lo n ws) : ∃ S : List (List Int), S.length ≤ n ∧ Kn S ws := by
  induction h with
  | zero => exact ⟨[], Nat.le_refl _, fun x hx m hm => by rw [List.mem_singleton.mp hx] at hm; exact absurd hm (Nat.not_lt_zero _)⟩
  | stay _ ih => obtain ⟨S, l, k⟩ := ih; exact ⟨S, by omega, k⟩
  | grow t u ss _ hu _ _ _ _ _ ih =>
    obtain ⟨S, l, k⟩ := ih
    have k' : Kn (u :: S) _ := k.mono fun x hx => .tail _ hx
    have mu := List.mem_of_getElem? hu
    refine ⟨u :: S, by rw [List.length_cons]; omega, ((k'.sub fun x hx => List.mem_of_mem_take hx).app fun x hx => ?_).app (k'.sub fun x hx => List.mem_of_mem_drop hx)⟩
    obtain ⟨y, hy, rfl⟩ := List.mem_map.mp hx
    exact (k.grow mu y) _ (List.mem_singleton.mpr rfl)
end K23
set_option Elab.async false
set_option linter.all false
set_option maxRecDepth 100000
namespace K23
open PySem L2
abbrev sGrown : Stmt := top 18
section
variable {P : Program} {w : World} {K : PySem.W.Frag} {mg : Str → Option Value} {base : Heap} {f : Addr} {fd : FuncData}
/-! _law_grown: at most most words, not long, of letters -/
abbrev NG : List Str := ["cells", "letters", "most", "lone", "words", "cell", "at", "bits", "some"]
def spGrown (K : PySem.W.Frag) : Sp := fun vs H Q _ => ∃ (c : Addr) (cs : List Int) (b m : Int) (lo : Bool), vs = [.ref c, .int b, .int m, .bl lo] ∧ SqL K H c (cs.map V.int) ∧ 2 ≤ b ∧ b ≤ 6 ∧ 1 ≤ m ∧ m ≤ 23 ∧
  ∀ p H' xs ws, Same H H' → H' p = some (.lst xs) → Ws H' xs ws → 1 ≤ ws.length → ws.length ≤ 23 → L2.Wok b 50 ws → Gr b lo cs.length ws → Q (.ref p) H'
theorem scGrown : FnScope NG ["cells", "letters", "most", "lone"] (defScope sGrown) := ⟨rfl, rfl, rfl, by decide +kernel, rfl, by decide +kernel, by decide +kernel⟩
theorem ndG : (("k" : Str) :: NG).Nodup := by decide +kernel
set_option maxHeartbeats 4000000 in
theorem ok_grown (F : Fun K "_law_grown" "_law_grown" sGrown f fd) (ml : mg "len" = none) (mr : mg "range" = none) : FnOk P w K mg base CX0 1 f fd ["cells", "letters", "most", "lone"] (spGrown K) := by
  refine F.ok (k := 0) scGrown (fun vs H Q E h => ?_) (fun cdv A outer s H vs Q E hr h => ?_)
  · obtain ⟨c, cs, b, m, lo, rfl, _⟩ := h
    rfl
  obtain ⟨c, cs, b, m, lo, rfl, hS, b2, b6, m1, m2, q⟩ := h
  refine ⟨_, pss_cons (ps_set (i := 4) scGrown.nd rfl (Or.inr rfl) (pe_lst (pa_cons (pe_tup pa_nil) pa_nil)))
    (pss_cons (ps_for PassesOwn.never rfl (pi_list (pv 0)) (pg_name (i := 5) scGrown.nd rfl (Or.inl rfl))
      (pss_cons (ps_set (i := 6) scGrown.nd rfl (Or.inr rfl) (pe_op op_mod (pv 5) (pe_callB call_len_seq (by rfl) ml PySem.boot_len (pa_cons (pv 4) pa_nil))))
      (pss_cons (ps_set (i := 7) scGrown.nd rfl (Or.inr rfl) (pe_op op_fdiv (pv 5) pe_int))
      (pss_cons (ps_compR1 (i := 8) (M := NG) scGrown.nd rfl rfl rfl (CompScope.of (defScope sGrown) NG rfl rfl rfl (by decide +kernel) (by decide +kernel) (by decide +kernel) rfl (by decide +kernel)) ndG rfl (by rfl) mr (pa_cons (pv 1) pa_nil) (mo_cons mo_var mo_nil)
        (fun cl C s0 H0 fp => ⟨pts_one (pt_cmpR op_eq (pe_op op_mod (pe_op op_fdiv (pv 8) (pe_ix (ixL K) (pe_lst (pa_cons pe_int (pa_cons pe_int (pa_cons pe_int (pa_cons pe_int (pa_cons pe_int (pa_cons pe_int pa_nil))))))) (pv 0) (fun _ _ => rfl))) pe_int) pe_int (nomark _)), pv 0⟩))
      (pss_cons (ps_mid (ps_if (pt_cmpR op_eq (pe_callB call_len_seq (by rfl) ml PySem.boot_len (pa_cons (pv 8) pa_nil)) pe_int (nomark _)) (pss_one (ps_set (i := 8) scGrown.nd rfl (Or.inl rfl) (pe_lst (pa_cons (pe_op op_mod (pe_op op_fdiv (pv 7) pe_int) (pv 1)) pa_nil)))) pss_nil))
      (pss_cons (ps_mid (ps_if (pw_and (pt_cmpR op_eq (pe_callB call_len_seq (by rfl) ml PySem.boot_len (pa_cons (pv 8) pa_nil)) pe_int (nomark _)) (pw_and1 (pt_not (pt_val (pv 3))))).pt
          (pss_one (ps_set (i := 8) scGrown.nd rfl (Or.inl rfl) (pe_lst (pa_cons pe_int (pa_cons (pe_op op_add pe_int (pe_op op_mod (pe_op op_fdiv (pv 7) pe_int) (pe_op op_sub (pv 1) pe_int))) pa_nil))))) pss_nil))
      (pss_one (ps_if (pw_and (pt_cmpR op_le (pe_op op_sub (pe_op op_add (pe_callB call_len_seq (by rfl) ml PySem.boot_len (pa_cons (pv 4) pa_nil)) (pe_callB call_len_seq (by rfl) ml PySem.boot_len (pa_cons (pv 8) pa_nil))) pe_int) (pv 2) (nomark _))
            (pw_and1 (pt_cmpR op_lt (pe_callB call_len_seq (by rfl) ml PySem.boot_len (pa_cons (pe_ix ix_list (pv 4) (pv 6) (fun _ _ => rfl)) pa_nil)) pe_int (nomark _)))).pt
          (pss_one (ps_set (i := 4) scGrown.nd rfl (Or.inr rfl) (pe_op op_cat (pe_op op_cat (pe_slice sl_list (pv 4) po_none (po_some (pv 6)))
            (pe_compL (M := NG) rfl (CompScope.of (defScope sGrown) NG rfl rfl rfl (by decide +kernel) (by decide +kernel) (by decide +kernel) rfl (by decide +kernel)) ndG rfl (pv 8) mo_var
              (fun cl C s0 H0 fp => ⟨pts_nil, pe_op op_catG (pe_ix (ixL K) (pv 5) (pv 7) (fun _ _ => rfl)) (pe_tup (pa_cons (pv 0) pa_nil))⟩))) (pe_slice sl_list (pv 4) (po_some (pe_op op_add (pv 6) pe_int)) po_none)))) pss_nil))))))))
    (pss_one (ps_ret (pv 4)))), ?_⟩
  refine ⟨(by show 0 ≤ sizeLine; decide), fun p0 hp0 => ?_⟩
  refine ⟨(by show 1 ≤ sizeLine; decide), fun p1 hp1 => ?_⟩
  have s0 := same_newO hp0 (.tup [])
  have s1 := same_newO hp1 (.lst [.ref p0])
  refine ⟨_, rfl, c, rfl, ⟨_, (s0.trans s1).seq hS⟩, ?_⟩
  refine for_list (xs := cs.map V.int) (fun i σ H' => Same H H' ∧ ∃ (x5 x6 x7 x8 : Option V) (wl : Addr) (xs : List V) (ws : List (List Int)), σ = [some (.ref c), some (.int b), some (.int m), some (.bl lo), some (.ref wl), x5, x6, x7, x8] ∧ H' wl = some (.lst xs) ∧ Ws H' xs ws ∧ 1 ≤ ws.length ∧ ws.length ≤ 23 ∧ L2.Wok b 50 ws ∧ Gr b lo i ws)
    ⟨s0.trans s1, _, _, _, _, p1, _, [[]], rfl, upd_same, .cons (rtup_ints (ns := []) (s1 _ _ upd_same)) .nil, Nat.le_refl _, by decide, ⟨by simp, by simp⟩, .zero⟩ (fun i σ H' _ hP => hP.1.seq hS) (fun i x σ H1 hx hP => ?_) (fun σ H1 hP => ?_)
  · obtain ⟨sm, x5, x6, x7, x8, wl, xs, ws, rfl, hwl, hW, l1, l2, ok, gr⟩ := hP
    rw [List.getElem?_map] at hx
    cases hcell : cs[i]? with
    | none => rw [hcell] at hx; cases hx
    | some cell =>
    rw [hcell] at hx; cases hx
    have lx : xs.length = ws.length := hW.length
    refine ⟨_, rfl, _, rfl, wl, _, rfl, .inl (SqL.of hwl), _, _, rfl, rfl, (by show (0 : Int) < _; omega), ?_⟩
    refine ⟨_, rfl, _, _, rfl, rfl, ⟨by decide, by decide⟩, ?_⟩
    have t0 : 0 ≤ cell % (xs.length : Int) := Int.emod_nonneg _ (by omega)
    have t1 : cell % (xs.length : Int) < (xs.length : Int) := Int.emod_lt_of_pos _ (by omega)
    dsimp only
    generalize cell % (xs.length : Int) = t at t0 t1 ⊢
    generalize cell / 24 = bits
    refine ⟨_, rfl, b, rfl, by omega, by omega, fun d hd => ?_⟩
    refine ⟨fun j H' => Same H1 H' ∧ ∃ ss : List Int, H' d = some (.lst (ss.map V.int)) ∧ ss.length ≤ j ∧ (∀ x ∈ ss, 0 ≤ x ∧ x < b) ∧ ss.Pairwise (· < ·) ∧ ∀ x ∈ ss, x < (j : Int), ⟨same_newO hd _, [], upd_same, Nat.le_refl _, by simp, .nil, by simp⟩, fun j H2 hj hP => ?_, fun H2 hP => ?_⟩
    · obtain ⟨sm2, ss, hd2, lss, hss, pss, jss⟩ := hP
      have e0 : (0 : Int) + (j : Int) = ((j : Nat) : Int) := by omega
      rw [e0]
      refine ⟨_, rfl, (by show 6 ≤ sizeLine; decide), fun p hp => ?_⟩
      have sp := same_newO hp (.lst [.int 1, .int 2, .int 4, .int 8, .int 16, .int 32])
      obtain ⟨v, hv, v0, v1⟩ := at6 (i := j) (by omega)
      refine ⟨_, rfl, p, _, _, _, rfl, rfl, SqL.of upd_same, hv, _, _, rfl, rfl, ⟨v0, by omega⟩, _, _, rfl, rfl, (by show (0 : Int) < _; decide), rfl, _, rfl, ?_⟩
      refine ite2 (fun _ => ?_) (fun _ => ?_)
      · refine ⟨_, rfl, _, sp _ _ hd2, ?_, same_upd hd (sm2.trans sp), ss ++ [(j : Int)], ?_, ?_, ?_, ?_, ?_⟩
        · rw [List.length_map]; exact small1000 (by omega)
        · rw [upd_same, List.map_append]; rfl
        · rw [List.length_append, List.length_singleton]; omega
        · intro x hx
          rcases List.mem_append.mp hx with z | z
          · exact hss x z
          · have : x = (j : Int) := by simpa using z
            omega
        · rw [List.pairwise_append]
          exact ⟨pss, List.pairwise_singleton _ _, fun x hx y hy => by rw [List.mem_singleton.mp hy]; exact jss x hx⟩
        · intro x hx
          rcases List.mem_append.mp hx with z | z
          · have := jss x z
            omega
          · have : x = (j : Int) := by simpa using z
            omega
      · exact ⟨sm2.trans sp, ss, sp _ _ hd2, by omega, hss, pss, fun x hx => by have := jss x hx; omega⟩
    · obtain ⟨sm2, ss, hd2, lss, hss, pss, _⟩ := hP
      have ls0 : (ss.map V.int).length = ss.length := List.length_map _
      refine ⟨fun σ' H' => ∃ (l : Addr) (ss : List Int), Same H1 H' ∧ σ' = [some (.ref c), some (.int b), some (.int m), some (.bl lo), some (.ref wl), some (.int cell), some (.int t), some (.int bits), some (.ref l)] ∧ H' l = some (.lst (ss.map V.int)) ∧ ss.length ≤ 6 ∧ 1 ≤ ss.length ∧ (∀ x ∈ ss, 0 ≤ x ∧ x < b) ∧ ss.Pairwise (· < ·), ?_, ?_⟩
      · refine ⟨_, rfl, d, _, rfl, .inl (SqL.of hd2), rfl, _, rfl, ?_⟩
        refine ite2 (fun c1 => ?_) (fun c1 => ?_)
        · refine ⟨_, rfl, _, _, rfl, rfl, ⟨by decide, by decide⟩, _, rfl, _, _, rfl, rfl, (by show (0 : Int) < _; omega), (by show 1 ≤ sizeLine; decide), fun p hp => ?_⟩
          refine ⟨p, [bits / 64 % b], sm2.trans (same_newO hp _), rfl, upd_same, by simp, by simp, ?_, List.pairwise_singleton _ _⟩
          intro x hx
          have e : x = bits / 64 % b := by simpa using hx
          rw [e]
          exact ⟨Int.emod_nonneg _ (by omega), Int.emod_lt_of_pos _ (by omega)⟩
        · have c2 : ¬ V.int ((ss.map V.int).length : Int) = V.int 0 := fun z => c1 (decide_eq_true z)
          have c3 : ss.length ≠ 0 := fun z => c2 (by rw [ls0, z]; rfl)
          exact ⟨d, ss, sm2, rfl, hd2, by omega, by omega, hss, pss⟩
      rintro σ' H3 ⟨l, ss, sm3, rfl, hl3, ls1, ls2, hss, pss⟩
      have ls0 : (ss.map V.int).length = ss.length := List.length_map _
      refine ⟨fun σ' H' => ∃ (l : Addr) (ss : List Int), Same H1 H' ∧ σ' = [some (.ref c), some (.int b), some (.int m), some (.bl lo), some (.ref wl), some (.int cell), some (.int t), some (.int bits), some (.ref l)] ∧ H' l = some (.lst (ss.map V.int)) ∧ ss.length ≤ 6 ∧ 1 ≤ ss.length ∧ (∀ x ∈ ss, 0 ≤ x ∧ x < b) ∧ ss.Pairwise (· < ·) ∧ (lo = false → 2 ≤ ss.length), ?_, ?_⟩
      · refine ⟨_, rfl, l, _, rfl, .inl (SqL.of hl3), rfl, _, rfl, ?_⟩
        refine ite2 (fun c1 => ?_) (fun c1 => iteF ⟨l, ss, sm3, rfl, hl3, ls1, ls2, hss, pss, fun _ => ?_⟩)
        rotate_left
        · have c3 : ss.length ≠ 1 := fun z => c1 (decide_eq_true (by rw [ls0, z]; rfl))
          omega
        refine ⟨_, rfl, _, rfl, ?_⟩
        refine ite2 (fun c1 => ?_) (fun c1 => ⟨l, ss, sm3, rfl, hl3, ls1, ls2, hss, pss, fun z => absurd (by rw [z]; rfl) c1⟩)
        refine ⟨_, rfl, _, _, rfl, rfl, ⟨by decide, by decide⟩, _, rfl, _, _, rfl, rfl, _, _, rfl, rfl, (by show (0 : Int) < _; omega), _, _, rfl, rfl, (by show 2 ≤ sizeLine; decide), fun p hp => ?_⟩
        have z0 : 0 ≤ bits / 64 % (b - 1) := Int.emod_nonneg _ (by omega)
        have z1 : bits / 64 % (b - 1) < b - 1 := Int.emod_lt_of_pos _ (by omega)
        refine ⟨p, [0, 1 + bits / 64 % (b - 1)], sm3.trans (same_newO hp _), rfl, upd_same, by simp, by simp, ?_, ?_, fun _ => by simp⟩
        rotate_left
        · exact .cons (fun x hx => by rw [List.mem_singleton.mp hx]; omega) (List.pairwise_singleton _ _)
        intro x hx
        rcases List.mem_cons.mp hx with e | e
        · omega
        · have e : x = 1 + bits / 64 % (b - 1) := by simpa using e
          omega
      clear ls0 hss pss ls2 ls1 hl3 sm3 H3 ss l
      rintro σ' H3 ⟨l, ss, sm3, rfl, hl3, ls1, ls2, hss, pss, lss2⟩
      have ls0 : (ss.map V.int).length = ss.length := List.length_map _
      have same : ∀ H', Same H1 H' → Same H H' ∧ ∃ (x5 x6 x7 x8 : Option V) (wl' : Addr) (xs : List V) (ws : List (List Int)), [some (V.ref c), some (.int b), some (.int m), some (.bl lo), some (.ref wl), some (.int cell), some (.int t), some (.int bits), some (.ref l)] = [some (V.ref c), some (.int b), some (.int m), some (.bl lo), some (.ref wl'), x5, x6, x7, x8] ∧ H' wl' = some (.lst xs) ∧ Ws H' xs ws ∧ 1 ≤ ws.length ∧ ws.length ≤ 23 ∧ L2.Wok b 50 ws ∧ Gr b lo (i + 1) ws :=
        fun H' sm' => ⟨sm.trans sm', _, _, _, _, wl, xs, ws, rfl, sm' _ _ hwl, hW.same sm', l1, l2, ok, gr.stay⟩
      refine ⟨_, rfl, wl, _, rfl, .inl (SqL.of (sm3 _ _ hwl)), _, rfl, l, _, rfl, .inl (SqL.of hl3), _, _, rfl, rfl, _, _, rfl, rfl, _, rfl, _, _, rfl, rfl, _, rfl, ?_⟩
      refine ite2 (fun c1 => ?_) (fun c1 => iteF (same H3 sm3))
      have c1 : (xs.length : Int) + ((ss.map V.int).length : Int) - 1 ≤ m := of_decide_eq_true c1
      obtain ⟨y, hy, hya⟩ := at_of t0 t1
      obtain ⟨u, hu, ru⟩ := Paired.right_of hW _ _ hy
      obtain ⟨a, rfl, ha⟩ := Wd.ti ru
      refine ⟨_, rfl, _, rfl, wl, _, _, _, rfl, rfl, SqL.of (sm3 _ _ hwl), hya, a, _, rfl, .inr (SqT.of (sm3 _ _ ha)), _, _, rfl, rfl, _, rfl, ?_⟩
      refine ite2 (fun c2 => ?_) (fun c2 => same H3 sm3)
      have c2 : ((u.map V.int).length : Int) < 50 := of_decide_eq_true c2
      rw [List.length_map] at c2
      have mu : u ∈ ws := List.mem_of_getElem? hu
      refine ⟨_, rfl, _, rfl, _, rfl, wl, _, rfl, SqL.of (sm3 _ _ hwl), fun p4 hp4 => ?_⟩
      rw [cutLit _ _ t0]
      have s4 := same_newO hp4 (.lst (xs.take t.toNat))
      refine ⟨_, rfl, l, _, rfl, SqL.of (s4 _ _ hl3), fun d2 hd2 => ?_⟩
      refine ⟨fun j H' => Same (upd H3 p4 (.lst (xs.take t.toNat))) H' ∧ ∃ (zs : List V) (vs : List (List Int)), H' d2 = some (.lst zs) ∧ Ws H' zs vs ∧ vs.length = j ∧ L2.Wok b 50 vs ∧ vs = (ss.take j).map (fun k => u ++ [k]), ⟨same_newO hd2 _, [], [], upd_same, .nil, rfl, ⟨by simp, by simp⟩, rfl⟩, fun j H' _ hP => SqL.of (hP.1 _ _ (s4 _ _ hl3)), fun j x H5 hx hP => ?_, fun H5 hP => ?_⟩
      · obtain ⟨sm5, zs, vs, hd5, hV, lv, okv, kv⟩ := hP
        rw [List.getElem?_map] at hx
        cases hss2 : ss[j]? with
        | none => rw [hss2] at hx; cases hx
        | some k =>
        rw [hss2] at hx; cases hx
        have hk := hss k (List.mem_of_getElem? hss2)
        have hj := (List.getElem?_eq_some_iff.mp hss2).1
        have lz : zs.length = vs.length := hV.length
        refine turn_all ⟨_, rfl, _, rfl, wl, _, _, _, rfl, rfl, SqL.of (sm5 _ _ (s4 _ _ (sm3 _ _ hwl))), hya, _, rfl, (by show 1 ≤ sizeLine; decide), fun p6 hp6 => ?_⟩
        have s6 := same_newO hp6 (.tup [.int k])
        refine ⟨a, p6, _, _, rfl, rfl, s6 _ _ (sm5 _ _ (s4 _ _ (sm3 _ _ ha))), upd_same, small (by rw [List.length_map, List.length_singleton]; omega), fun p7 H7 s7 hp7 => ?_⟩
        have hp7' : TW H7 p7 (u ++ [k]) := by show H7 p7 = _; rw [hp7, List.map_append]; rfl
        have g7 : Same H5 H7 := s6.trans s7
        refine ⟨zs, g7 _ _ hd5, ?_, ?_⟩
        · exact small1000 (by omega)
        · have g8 : Same H7 (upd H7 d2 (.lst (zs ++ [.ref p7]))) ∨ True := .inr trivial
          have keep : ∀ {y : V} {z : List Int}, Wd H7 y z → Wd (upd H7 d2 (.lst (zs ++ [.ref p7]))) y z := fun {y z} h => by
            obtain ⟨a', xs', rfl, e', p'⟩ := h
            refine ⟨a', xs', rfl, ?_, p'⟩
            rw [upd_ne (ne_of e' (g7 _ _ hd5) (by intro z; cases z))]
            exact e'
          refine ⟨same_upd hd2 (sm5.trans g7), zs ++ [.ref p7], vs ++ [u ++ [k]], upd_same, Paired.mapP (L2.Paired.appendP (hV.same g7) (L2.Paired.oneP (Wd.of hp7'))) (fun _ _ h => keep h), by rw [List.length_append, lv]; rfl, okv.app ⟨fun w hw => ?_, fun w hw x hx => ?_⟩, by rw [List.take_add_one, hss2, List.map_append, ← kv]; rfl⟩
          · have e : w = u ++ [k] := by simpa using hw
            rw [e, List.length_append, List.length_singleton]
            omega
          · have e : w = u ++ [k] := by simpa using hw
            rw [e] at hx
            rcases List.mem_append.mp hx with z | z
            · exact ok.let' u mu x z
            · have : x = k := by simpa using z
              rw [this]; exact hk
      · obtain ⟨sm5, zs, vs, hd5, hV, lv, okv, kv⟩ := hP
        have lz : zs.length = vs.length := hV.length
        rw [ls0] at lv c1
        have lt4 : (xs.take t.toNat).length ≤ xs.length := by rw [List.length_take]; omega
        refine ⟨p4, d2, _, _, rfl, rfl, sm5 _ _ upd_same, hd5, small (by omega), fun p8 hp8 => ?_⟩
        have s8 := same_newO hp8 (.lst (xs.take t.toNat ++ zs))
        refine ⟨_, rfl, _, rfl, _, _, rfl, rfl, _, rfl, wl, _, rfl, SqL.of (s8 _ _ (sm5 _ _ (s4 _ _ (sm3 _ _ hwl)))), fun p9 hp9 => ?_⟩
        rw [cutFrom _ _ (by omega)]
        have s9 := same_newO hp9 (.lst (xs.drop (t + 1).toNat))
        refine ⟨p8, p9, _, _, rfl, rfl, s9 _ _ upd_same, upd_same, small (by rw [List.length_append, List.length_drop]; omega), fun p10 hp10 => ?_⟩
        have s10 := same_newO hp10 (.lst (xs.take t.toNat ++ zs ++ xs.drop (t + 1).toNat))
        have g : Same H1 (upd (upd (upd H5 p8 (.lst (xs.take t.toNat ++ zs))) p9 (.lst (xs.drop (t + 1).toNat))) p10 (.lst (xs.take t.toNat ++ zs ++ xs.drop (t + 1).toNat))) := fun b o e => s10 b o (s9 b o (s8 b o (sm5 b o (s4 b o (sm3 b o e)))))
        have g5 : Same H5 (upd (upd (upd H5 p8 (.lst (xs.take t.toNat ++ zs))) p9 (.lst (xs.drop (t + 1).toNat))) p10 (.lst (xs.take t.toNat ++ zs ++ xs.drop (t + 1).toNat))) := fun b o e => s10 b o (s9 b o (s8 b o e))
        refine ⟨sm.trans g, _, _, _, _, p10, _, ws.take t.toNat ++ vs ++ ws.drop (t + 1).toNat, rfl, upd_same, L2.Paired.appendP (L2.Paired.appendP (L2.Paired.takeP _ (hW.same g)) (hV.same g5)) (L2.Paired.dropP _ (hW.same g)), ?_, ?_, ?_, ?_⟩
        · rw [List.length_append, List.length_append]; omega
        · rw [List.length_append, List.length_append, List.length_take, List.length_drop]; omega
        · exact ((ok.sub fun w hw => List.mem_of_mem_take hw).app okv).app (ok.sub fun w hw => List.mem_of_mem_drop hw)
        · rw [ls0, List.take_length] at kv
          rw [kv, show (t + 1).toNat = t.toNat + 1 by omega]
          exact gr.grow t.toNat u ss hu pss ls2 lss2 hss (by omega)
  · obtain ⟨sm, x5, x6, x7, x8, wl, xs, ws, rfl, hwl, hW, l1, l2, ok, gr⟩ := hP
    rw [List.length_map] at gr
    exact ⟨_, rfl, q wl H1 xs ws sm hwl hW l1 l2 ok gr⟩
end
end K23
set_option Elab.async false
set_option linter.all false
set_option maxRecDepth 100000
namespace L2
open PySem PySem.Spec PyProof.Rows
/-! ### u in t, words -/
def rInTW : R2 := fun x y H Q => ∃ (c : Addr) (xs : List V) (ws : List (List Int)) (u : List Int), y = .ref c ∧ Wd H x u ∧ H c = some (.tup xs) ∧ Ws H xs ws ∧ Q (.bl (decide (u ∈ ws))) H
theorem op_inTW {X : Cx} (hu : X.A.units + 4 < cLine) : OpR X (compareOp .In) rInTW := by
  intro pins s σ H x y v w' Q I rx ry h
  obtain ⟨c, xs, ws, u, rfl, hx, hc, hw, q⟩ := h
  cases ry
  obtain ⟨its, r, pl, hz⟩ := I.tuple (SqT.of hc)
  have EK := EqK.tup (H := H) (s := s) (n := 0) EqK.int I.hok
  have li : xs.length = its.length := r.length
  have lw : xs.length = ws.length := hw.length
  let e : Value → Bool := fun z => @decide (∃ i : Nat, its[i]? = some z ∧ ws[i]? = some u) (Classical.propDecidable _)
  have at_ : ∀ z ∈ its, SeqAt.EqAt X.A.in1 s z v (e z) := fun z hz => by
    obtain ⟨i, hi⟩ := List.mem_iff_getElem?.mp hz
    have il : i < its.length := (List.getElem?_eq_some_iff.mp hi).1
    have hxi : xs[i]? = some (xs[i]'(by omega)) := List.getElem?_eq_getElem _
    obtain ⟨wd, hwd, rw'⟩ := Paired.right_of hw i _ hxi
    obtain ⟨z', hz', rz⟩ := r.get hxi
    rw [hi] at hz'
    cases hz'
    have q1 := EK.eq X.A.in1 _ _ wd u z v (by show X.A.units + 1 + (0 + 1) < cLine; omega) rw' hx rz rx
    have q2 : e z = decide (wd = u) := by
      show @decide _ (Classical.propDecidable _) = _
      rw [Bool.eq_iff_iff]
      simp only [decide_eq_true_eq]
      refine ⟨fun ⟨j, h1, h2⟩ => ?_, fun h => ⟨i, hi, by rw [hwd, h]⟩⟩
      have jl : j < its.length := (List.getElem?_eq_some_iff.mp h1).1
      have hxj : xs[j]? = some (xs[j]'(by omega)) := List.getElem?_eq_getElem _
      obtain ⟨wj, hwj, rwj⟩ := Paired.right_of hw j _ hxj
      obtain ⟨zj, hzj, rzj⟩ := r.get hxj
      rw [h1] at hzj
      cases hzj
      rw [h2] at hwj
      cases hwj
      obtain ⟨a1, e1, t1⟩ := Wd.ti rw'
      obtain ⟨a2, e2, t2⟩ := Wd.ti rwj
      rw [e1] at rz
      rw [e2] at rzj
      have f1 : z = .ref a1 := rz
      have f2 : z = .ref a2 := rzj
      rw [f1] at f2
      cases f2
      exact EK.inj _ _ _ (Wd.of t1) (Wd.of t2)
    rw [q2]
    exact q1
  refine SeqAt.in_tupleAt e pl (fun z hz => at_ z (by simpa using hz)) ⟨.bl _, H, I, rfl, ?_⟩
  have ea : its.toArray.any e = decide (u ∈ ws) := by
    rw [show its.toArray.any e = its.any e by simp, Bool.eq_iff_iff]
    simp only [List.any_eq_true, decide_eq_true_eq]
    constructor
    · rintro ⟨z, _, hz⟩
      have hz' : ∃ i : Nat, its[i]? = some z ∧ ws[i]? = some u := @of_decide_eq_true _ (Classical.propDecidable _) hz
      obtain ⟨i, _, h2⟩ := hz'
      exact List.mem_of_getElem? h2
    · intro hm
      obtain ⟨i, hi⟩ := List.mem_iff_getElem?.mp hm
      have il : i < ws.length := (List.getElem?_eq_some_iff.mp hi).1
      have hi2 : its[i]? = some (its[i]'(by omega)) := List.getElem?_eq_getElem _
      exact ⟨its[i]'(by omega), List.getElem_mem _, @decide_eq_true _ (Classical.propDecidable _) ⟨i, hi2, hi⟩⟩
  rw [ea]
  exact q
end L2
namespace K23
open PySem L2
def kidN (n : Nat) : Stmt → Stmt
  | .ClassDef _ _ _ b .. => b.getD n (.Pass ⟨0, 0, 0, 0⟩)
  | s => s
abbrev sKnots : Stmt := top 12
abbrev iRead : Stmt := kidN 0 (top 14)
abbrev sTake : Stmt := kidN 1 (top 14)
abbrev sTold : Stmt := kidN 2 (top 14)
abbrev sRest : Stmt := kidN 3 (top 14)
abbrev sBack : Stmt := kidN 4 (top 14)
def keysOf (ws : List (List Int)) : List (List Int) := (waysOf ws).map (·.1)
/-! what stands in the dict of a reader -/
structure Fo (ws : List (List Int)) (ks : List (List Int)) (kvs : List (List Key × V)) : Prop where
  w : ∀ (i : Nat) (u : List Int), ws[i]? = some u → valV kvs (kI u) = some (.int (i : Int))
  k : ∀ key : List Int, key ∉ ws → valV kvs (kI key) = if key ∈ ks then some .non else none
structure RAt (C : Addr) (ws : List (List Int)) (H : Hp) (r d lt lp : Addr) (ths lf : List Int) (ps : List (List Int)) : Prop where
  ob : ∃ dx tl, H r = some (.ins C dx [("found", .ref d), ("things", .ref lt), ("left", .ref tl), ("past", .ref lp)]) ∧ TW H tl lf
  fo : ∃ kvs, H d = some (.dT kvs) ∧ Fo ws (keysOf ws) kvs
  th : H lt = some (.lst (ths.map V.int))
  pa : ∃ pv, H lp = some (.lst pv) ∧ Ws H pv ps
  ne : lt ≠ lp
theorem RAt.same {C : Addr} {ws : List (List Int)} {H H' : Hp} {r d lt lp : Addr} {ths lf : List Int} {ps : List (List Int)} (h : RAt C ws H r d lt lp ths lf ps) (s : Same H H') : RAt C ws H' r d lt lp ths lf ps := by
  obtain ⟨⟨dx, tl, h1, h2⟩, ⟨kvs, h3, h4⟩, h5, ⟨pv, h6, h7⟩, h8⟩ := h
  exact ⟨⟨dx, tl, s _ _ h1, s _ _ h2⟩, ⟨kvs, s _ _ h3, h4⟩, s _ _ h5, ⟨pv, s _ _ h6, h7.same s⟩, h8⟩
def Keep (L : List Addr) (H H' : Hp) : Prop := ∀ a o, a ∉ L → H a = some o → H' a = some o
section
variable {P : Program} {w : World} {K : PySem.W.Frag} {mg : Str → Option Value} {base : Heap} {f : Addr} {fd : FuncData}
/-! knots_of: the knots, in some order -/
def spKnots (CC : Addr) : Sp := fun vs H Q E => ∃ c xs ws, vs = [.ref c] ∧ H c = some (.tup xs) ∧ Ws H xs ws ∧ ws.length ≤ 100 ∧ (∀ x ∈ ws, x.length ≤ 100) ∧ (isF ws none → (waysOf ws).length < 64) ∧ (∀ i j : Nat, isF ws (some [(i : Int), (j : Int)]) → ∀ dx H', Same H H' → H' dx = some (xdO dx (clF i j)) → E (.ref CC) (some dx) H') ∧
  (isF ws none → ∀ (p : Addr) (H' : Hp) (out : List V) (ks : List (List Key)), Same H H' → H' p = some (.lst out) → ks.Perm ((keysOf ws).map kI) → Paired (KeyAt H') out ks → Q (.ref p) H')
theorem scKnots : FnScope ["code"] ["code"] (defScope sKnots) := ⟨rfl, rfl, rfl, by decide +kernel, rfl, by decide +kernel, by decide +kernel⟩
theorem ok_knots {CC : Addr} (F : Fun K "knots_of" "knots_of" sKnots f fd) (GR : Fns' P w K mg base ["code"] "refuse_clash" (spRC CC) 3) (GY : Fns P w K mg base ["code"] "ways_on" spWays 3) (ms : mg "sorted" = none) : FnOk P w K mg base (CXF P w) 4 f fd ["code"] (spKnots CC) := by
  refine F.okF (k := 3) scKnots (fun vs H Q E h => ?_) (fun cdv A outer s H vs Q E hr h => ?_)
  · obtain ⟨c, xs, ws, rfl, _⟩ := h
    rfl
  obtain ⟨c, xs, ws, rfl, hc, hw, l1, l2, h64, qx, q⟩ := h
  refine ⟨_, pss_cons (ps_expr (pe_call GR.ok hr (by rfl) GR.m GR.kp GR.b .nil takes_def (pa_cons (pv 0) pa_nil)))
    (pss_one (ps_ret (pe_callB (srt_dict rfl (hu4 hr)) (by rfl) ms PyProof.Rows.boot_sorted (pa_cons (pe_call GY.ok hr (by rfl) GY.m GY.kp GY.b .nil pass0 (pa_cons (pv 0) pa_nil)) pa_nil)))), ?_⟩
  refine ⟨_, rfl, c, xs, ws, rfl, hc, hw, by omega, fun nf H1 s1 => ?_, qx⟩
  refine ⟨_, rfl, c, xs, ws, rfl, s1 _ _ hc, Ws.same s1 hw, l1, l2, fun d H2 wt => ?_⟩
  obtain ⟨hd, s2, kvs, hdk, wy, nd, young⟩ := wt
  have wok := waysOf_ok ws
  have lk : kvs.length = (waysOf ws).length := Paired.length wy
  have h64' := h64 nf
  refine ⟨d, kvs, rfl, hdk, by omega, fun kv hkv => ?_, fun k0 v0 r0 e0 => ?_, fun p H3 out ks s3 hpn hp3 pk pd => q nf p H3 out ks ((s1.trans s2).trans s3) hp3 ?_ pd⟩
  · obtain ⟨i, hi⟩ := List.mem_iff_getElem?.mp hkv
    obtain ⟨q0, _, e1, _⟩ := Paired.right_of wy i kv hi
    exact ⟨q0.1, e1⟩
  · rw [e0] at wy
    cases hwy : waysOf ws with
    | nil => rw [hwy] at wy; cases wy
    | cons q0 r =>
      rw [hwy] at wy
      cases wy with
      | cons a _ =>
        rw [show k0 = kI q0.1 from a.1, wok.hd q0 r hwy]
        rfl
  · rw [wy_keys wy] at pk
    unfold keysOf
    rw [List.map_map]
    exact pk
/-! Reader(code) -/
theorem len_put (kvs : List (List Key × V)) (k : List Key) (v : V) : (putK kvs k v).length ≤ kvs.length + 1 := by
  unfold putK
  split
  · rw [List.length_map]; omega
  · rw [List.length_append]; exact Nat.le_refl _
structure RC (K : PySem.W.Frag) (C : Addr) : Prop where
  c : Cls K C
  nf : NoAttr K C "found"
  nt : NoAttr K C "things"
  nl : NoAttr K C "left"
  np : NoAttr K C "past"
abbrev NI : List Str := ["self", "code", "knots", "knot", "thing", "word"]
def spRInit (C CC CN : Addr) : Sp := fun vs H Q E => ∃ (r dx c : Addr) (xs : List V) (ws : List (List Int)), vs = [.ref r, .ref c] ∧ H r = some (.ins C dx []) ∧ H c = some (.tup xs) ∧ Ws H xs ws ∧ ws.length ≤ 100 ∧ (∀ x ∈ ws, x.length ≤ 100) ∧ (isF ws none → (waysOf ws).length < 64) ∧ (∀ i j : Nat, isF ws (some [(i : Int), (j : Int)]) → ∀ dx H', Same H H' → H' dx = some (xdO dx (clF i j)) → E (.ref CC) (some dx) H') ∧ (isF ws none → [] ∈ ws → ∀ H', Same H H' → E (.ref CN) none H') ∧
  (isF ws none → [] ∉ ws → ∀ (H' : Hp) (d lt lp : Addr), Keep [r] H H' → RAt C ws H' r d lt lp [] [] [] → H d = none → H lt = none → H lp = none → Q .non H')
theorem nodup_F {ws : List (List Int)} (h : isF ws none) : ws.Nodup := by
  rw [List.nodup_iff_pairwise_ne, List.pairwise_iff_getElem]
  intro i j hi hj hij e
  exact h i j hij ⟨ws[i], ws[j], List.getElem?_eq_getElem hi, List.getElem?_eq_getElem hj, .inl (by rw [e, List.take_length])⟩
theorem scRInit : FnScope NI ["self", "code"] (defScope iRead) := ⟨rfl, rfl, rfl, by decide +kernel, rfl, by decide +kernel, by decide +kernel⟩
set_option maxHeartbeats 8000000 in
theorem ok_rinit {C CC CN : Addr} (F : Fun K "__init__" "Reader.__init__" iRead f fd) (GK : Fns' P w K mg base ["code"] "knots_of" (spKnots CC) 4) (rc : RC K C) (mN : mg "NoReading" = some (.ref CN)) (eN : Ecl K CN) (me : mg "enumerate" = none) : FnOk P w K mg base (CXF P w) 5 f fd ["self", "code"] (spRInit C CC CN) := by
  refine F.okF (k := 4) scRInit (fun vs H Q E h => ?_) (fun cdv A outer s H vs Q E hr h => ?_)
  · obtain ⟨r, dx, c, xs, ws, rfl, _⟩ := h
    rfl
  obtain ⟨r, dx, c, xs, ws, rfl, hr0, hc, hw, l1, l2, h64w, qx, qn, q'⟩ := h
  refine ⟨_, pss_cons (ps_set (i := 2) scRInit.nd rfl (Or.inl rfl) (pe_call GK.ok hr (by rfl) GK.m GK.kp GK.b .nil takes_def (pa_cons (pv 1) pa_nil)))
    (pss_cons (ps_if (pt_cmpR (op_inTW (hu4 hr)) (pe_tup pa_nil) (pv 1) rfl) (pss_one (ps_raise takes_def rfl (by rfl) mN eN (pa_cons pe_str pa_nil))) pss_nil)
    (pss_cons (ps_fld (pv 0) pe_dnewT rfl)
    (pss_cons (ps_for PassesOwn.leaving rfl (pi_list (pv 2)) (pg_name (i := 3) scRInit.nd rfl (Or.inl rfl)) (pss_one (ps_dput (hu1 hr) (pe_fld (pv 0) rfl) (pv 3) pe_non rfl)))
    (pss_cons (ps_for PassesOwn.leaving rfl (pi_enum true (by rfl) me (pa_cons (pv 1) pa_nil)) (pg_tup rfl (pgs_cons (pg_name (i := 4) scRInit.nd rfl (Or.inl rfl)) (pgs_cons (pg_name (i := 5) scRInit.nd rfl (Or.inl rfl)) pgs_nil)))
      (pss_one (ps_dput (hu1 hr) (pe_fld (pv 0) rfl) (pv 5) (pv 4) rfl)))
    (pss_cons (ps_fld (pv 0) (pe_lst pa_nil) rfl)
    (pss_cons (ps_fld (pv 0) (pe_tup pa_nil) rfl)
    (pss_one (ps_fld (pv 0) (pe_lst pa_nil) rfl)))))))), ?_⟩
  refine ⟨_, rfl, c, xs, ws, rfl, hc, hw, l1, l2, h64w, qx, fun nf kp H1 out ks s1 hkp pk pd => ?_⟩
  have h64 := h64w nf
  have nd := nodup_F nf
  refine ⟨(by show 0 ≤ sizeLine; decide), fun t0 ht0 => ?_⟩
  have s2 := same_newO ht0 (.tup [])
  have s02 := s1.trans s2
  refine ⟨_, rfl, c, xs, ws, [], rfl, Wd.of (w := []) upd_same, s02 _ _ hc, hw.same s02, _, rfl, ?_⟩
  refine ite2 (fun z => ⟨by decide, qn nf (of_decide_eq_true z) _ s02⟩) (fun z => ?_)
  have ne : [] ∉ ws := fun y => z (decide_eq_true y)
  have q := q' nf ne
  have hkp2 := s2 _ _ hkp
  have pd2 : Paired (KeyAt (upd H1 t0 (.tup []))) out ks := L2.Paired.mapP pd fun _ _ ⟨b, e, h⟩ => ⟨b, e, s2 _ _ h⟩
  generalize upd H1 t0 (.tup []) = H2 at s02 hkp2 pd2 ⊢
  refine fun d hd => ?_
  have s3 := same_newO hd (.dT [])
  refine ⟨_, rfl, r, C, dx, _, rfl, s3 _ _ (s02 _ _ hr0), rc.c, rc.nf, (by show 0 < 1000; decide), ?_⟩
  have hdr : d ≠ r := fun z => by rw [z, s02 _ _ hr0] at hd; cases hd
  have dn : H d = none := s02.free hd
  -- the heap from here on: r has its dict, all else stays
  have k3 : Keep [r] H2 (upd (upd H2 d (.dT [])) r (.ins C dx [("found", .ref d)])) := fun a o ha e => by
    rw [upd_ne (fun z => ha (by rw [z]; exact List.mem_singleton.mpr rfl)), upd_ne (ne_of_none e hd)]; exact e
  have hr3 : upd (upd H2 d (.dT [])) r (.ins C dx [("found", .ref d)]) r = some (.ins C dx [("found", .ref d)]) := upd_same
  have hd3 : upd (upd H2 d (.dT [])) r (.ins C dx [("found", .ref d)]) d = some (.dT []) := by rw [upd_ne hdr, upd_same]
  show tSeq _ _ _ _ (upd (upd H2 d (.dT [])) r (.ins C dx [("found", .ref d)]))
  generalize upd (upd H2 d (.dT [])) r (.ins C dx [("found", .ref d)]) = H3 at k3 hr3 hd3 ⊢
  have notr : ∀ {a : Addr} {o : HO}, H2 a = some o → (∀ x y, o ≠ .ins C x y) → H3 a = some o := fun {a o} e h => k3 a o (fun z => by
    rw [List.mem_singleton.mp z, s02 _ _ hr0] at e
    exact h _ _ (Option.some.inj e).symm) e
  have lks : ks.length < 64 := by rw [pk.length_eq, List.length_map]; unfold keysOf; rw [List.length_map]; exact h64
  have lout : out.length = ks.length := Paired.length pd
  have hc3 := notr (s02 _ _ hc) (by intro x y z; cases z)
  have hkp3 := notr hkp2 (by intro x y z; cases z)
  have word3 : ∀ {x : V} {u : List Int}, Wd H x u → ∃ b, x = .ref b ∧ TW H3 b u := fun {x u} h => by
    obtain ⟨b, e, hb⟩ := Wd.ti h
    exact ⟨b, e, notr (s02 _ _ hb) (by intro x y z; cases z)⟩
  refine ⟨_, rfl, kp, rfl, ⟨_, SqL.of hkp3⟩, ?_⟩
  refine for_list (xs := out) (fun i σ H' => (∀ a o, a ≠ d → H3 a = some o → H' a = some o) ∧ (∃ kvs : List (List Key × V), H' d = some (.dT kvs) ∧ kvs.length ≤ i ∧ ∀ key : List Key, (key ∈ ks.take i → valV kvs key = some V.non) ∧ (key ∉ ks.take i → valV kvs key = none)) ∧ ∃ x3 : Option V, σ = [some (.ref r), some (.ref c), some (.ref kp), x3, none, none])
    ⟨fun a o _ e => e, ⟨[], hd3, Nat.le_refl _, fun key => ⟨fun h => by simp at h, fun _ => valV_nil⟩⟩, _, rfl⟩ (fun i σ H' _ hP => SqL.of (hP.1 _ _ (fun z => by rw [z, hd3] at hkp3; cases hkp3) hkp3)) (fun i x σ H4 hx hP => ?_) (fun σ H4 hP => ?_)
  · obtain ⟨k4, ⟨kvs, hd4, lk, vk⟩, x3, rfl⟩ := hP
    obtain ⟨k, hk, b, rfl, hb⟩ := Paired.right_of pd2 i x hx
    have hb3 := notr hb (by intro x y z; cases z)
    have hb4 := k4 _ _ (fun z => by rw [z, hd3] at hb3; cases hb3) hb3
    have ik := (List.getElem?_eq_some_iff.mp hk).1
    refine ⟨_, rfl, r, C, dx, _, _, rfl, k4 _ _ (Ne.symm hdr) hr3, rc.c, rc.nf, rfl, _, rfl, d, _, rfl, DPut.t hd4 hb4 (by rw [sizeLine_eq]; omega), ?_⟩
    refine ⟨fun a o ha e => by rw [upd_ne ha]; exact k4 a o ha e, ⟨_, upd_same, ?_, fun key => ?_⟩, _, rfl⟩
    · have := len_put kvs k .non; omega
    · rw [valV_put, List.take_add_one, hk]
      by_cases z : key = k
      · subst z
        rw [if_pos rfl]
        exact ⟨fun _ => rfl, fun h => absurd (List.mem_append_right _ (List.mem_singleton.mpr rfl)) h⟩
      · rw [if_neg z]
        have e : key ∈ ks.take i ++ (some k).toList ↔ key ∈ ks.take i := by
          rw [List.mem_append]
          exact ⟨fun h => h.resolve_right fun y => z (by simpa using y), .inl⟩
        exact ⟨fun h => (vk key).1 (e.mp h), fun h => (vk key).2 fun y => h (e.mpr y)⟩
  obtain ⟨k4, ⟨kvs, hd4, lk, vk⟩, x3, rfl⟩ := hP
  rw [lout, List.take_length] at vk
  have hc4 := k4 _ _ (fun z => by rw [z, hd3] at hc3; cases hc3) hc3
  have kmem : ∀ key : List Int, kI key ∈ ks ↔ key ∈ keysOf ws := fun key => by
    rw [pk.mem_iff, List.mem_map]
    exact ⟨fun ⟨z, h1, h2⟩ => by rw [← kI_inj h2]; exact h1, fun h => ⟨key, h, rfl⟩⟩
  refine ⟨_, rfl, c, xs, rfl, SqT.of hc4, ?_⟩
  refine for_enum (k := true) (xs := xs) (fun i σ H' => (∀ a o, a ≠ d → H3 a = some o → H' a = some o) ∧ (∃ kvs : List (List Key × V), H' d = some (.dT kvs) ∧ kvs.length ≤ 64 + i ∧ (∀ (j : Nat) (u : List Int), j < i → ws[j]? = some u → valV kvs (kI u) = some (.int (j : Int))) ∧ ∀ key : List Int, key ∉ ws.take i → valV kvs (kI key) = if key ∈ keysOf ws then some V.non else none) ∧ ∃ x3 x4 x5 : Option V, σ = [some (.ref r), some (.ref c), some (.ref kp), x3, x4, x5])
    ⟨k4, ⟨kvs, hd4, by omega, fun j u hj => absurd hj (Nat.not_lt_zero _), fun key _ => by
      by_cases z : key ∈ keysOf ws
      · rw [if_pos z]; exact (vk _).1 ((kmem key).mpr z)
      · rw [if_neg z]; exact (vk _).2 fun y => z ((kmem key).mp y)⟩, _, _, _, rfl⟩ (fun i σ H' _ hP => SqT.of (hP.1 _ _ (fun z => by rw [z, hd3] at hc3; cases hc3) hc3)) (fun i x pp σ H5 hx hP hpp => ?_) (fun σ H5 hP => ?_)
  · obtain ⟨k5, ⟨kvs, hd5, lk, vw, vk⟩, x3, x4, x5, rfl⟩ := hP
    obtain ⟨u, hu, ru⟩ := Paired.right_of hw i x hx
    obtain ⟨b, rfl, hb3⟩ := word3 ru
    have s6 := same_newO hpp (.tup [.int (i : Int), .ref b])
    refine ⟨pp, _, rfl, SqT.of upd_same, rfl, _, _, rfl, _, _, rfl, rfl, ?_⟩
    have hb6 := s6 _ _ (k5 _ _ (fun z => by have y : H3 b = some (.tup (u.map V.int)) := hb3; rw [z, hd3] at y; cases y) hb3)
    have hb7 : upd H5 pp (.tup [.int (i : Int), .ref b]) b = some (.tup ((kI u).map kV)) := by rw [hb6, List.map_map]; rfl
    have iw := (List.getElem?_eq_some_iff.mp hu).1
    refine ⟨_, rfl, _, rfl, r, C, dx, _, _, rfl, s6 _ _ (k5 _ _ (Ne.symm hdr) hr3), rc.c, rc.nf, rfl, _, rfl, d, _, rfl, DPut.t (s6 _ _ hd5) hb7 (by rw [sizeLine_eq]; omega), ?_⟩
    refine ⟨fun a o ha e => by rw [upd_ne ha]; exact s6 _ _ (k5 a o ha e), ⟨_, upd_same, ?_, fun j v hj hv => ?_, fun key hk => ?_⟩, _, _, _, rfl⟩
    · have := len_put kvs (kI u) (.int (i : Int)); omega
    · rw [valV_put]
      by_cases z : j = i
      · subst z
        rw [hu] at hv
        cases hv
        rw [if_pos rfl]
      · have vu : v ≠ u := fun y => z (by
          subst y
          obtain ⟨h1, h2⟩ := List.getElem?_eq_some_iff.mp hv
          obtain ⟨h3, h4⟩ := List.getElem?_eq_some_iff.mp hu
          exact (List.getElem_inj nd).mp (h2.trans h4.symm))
        rw [if_neg (fun y => vu (kI_inj y))]
        exact vw j v (by omega) hv
    · rw [List.take_add_one, hu, List.mem_append, not_or] at hk
      have ku : key ≠ u := fun y => hk.2 (by rw [y]; simp)
      rw [valV_put, if_neg (fun y => ku (kI_inj y))]
      exact vk key hk.1
  obtain ⟨k5, ⟨kvs5, hd5, lk5, vw, vk5⟩, y3, y4, y5, rfl⟩ := hP
  have lx : xs.length = ws.length := hw.length
  rw [lx] at vw vk5
  rw [List.take_length] at vk5
  have fo : Fo ws (keysOf ws) kvs5 := ⟨fun i u h => vw i u (List.getElem?_eq_some_iff.mp h).1 h, vk5⟩
  have hr5 := k5 _ _ (Ne.symm hdr) hr3
  -- things
  refine ⟨(by show 0 ≤ sizeLine; decide), fun lt hlt => ?_⟩
  have s6 := same_newO hlt (.lst [])
  refine ⟨_, rfl, r, C, dx, _, rfl, s6 _ _ hr5, rc.c, rc.nt, (by show 1 < 1000; decide), ?_⟩
  have ltr : lt ≠ r := fun z => by rw [z, hr5] at hlt; cases hlt
  have ltd : lt ≠ d := fun z => by rw [z, hd5] at hlt; cases hlt
  rw [show putF "things" (V.ref lt) ([("found", V.ref d)] : List (Str × V)) = ([("found", .ref d), ("things", .ref lt)] : List (Str × V)) from rfl]
  have hr6 : upd (upd H5 lt (.lst [])) r (.ins C dx [("found", .ref d), ("things", .ref lt)]) r = some (.ins C dx [("found", .ref d), ("things", .ref lt)]) := upd_same
  have h6 : ∀ a o, a ≠ r → H5 a = some o → upd (upd H5 lt (.lst [])) r (.ins C dx [("found", .ref d), ("things", .ref lt)]) a = some o := fun a o ha e => by rw [upd_ne ha]; exact s6 _ _ e
  have hlt6 : upd (upd H5 lt (.lst [])) r (.ins C dx [("found", .ref d), ("things", .ref lt)]) lt = some (.lst []) := by rw [upd_ne ltr, upd_same]
  generalize upd (upd H5 lt (.lst [])) r (.ins C dx [("found", .ref d), ("things", .ref lt)]) = H6 at hr6 h6 hlt6 ⊢
  -- left
  refine ⟨(by show 0 ≤ sizeLine; decide), fun tl htl => ?_⟩
  have s7 := same_newO htl (.tup [])
  refine ⟨_, rfl, r, C, dx, _, rfl, s7 _ _ hr6, rc.c, rc.nl, (by show 2 < 1000; decide), ?_⟩
  have tlr : tl ≠ r := fun z => by rw [z, hr6] at htl; cases htl
  rw [show putF "left" (V.ref tl) ([("found", V.ref d), ("things", V.ref lt)] : List (Str × V)) = ([("found", .ref d), ("things", .ref lt), ("left", .ref tl)] : List (Str × V)) from rfl]
  have hr7 : upd (upd H6 tl (.tup [])) r (.ins C dx [("found", .ref d), ("things", .ref lt), ("left", .ref tl)]) r = some (.ins C dx [("found", .ref d), ("things", .ref lt), ("left", .ref tl)]) := upd_same
  have h7 : ∀ a o, a ≠ r → H6 a = some o → upd (upd H6 tl (.tup [])) r (.ins C dx [("found", .ref d), ("things", .ref lt), ("left", .ref tl)]) a = some o := fun a o ha e => by rw [upd_ne ha]; exact s7 _ _ e
  have htl7 : upd (upd H6 tl (.tup [])) r (.ins C dx [("found", .ref d), ("things", .ref lt), ("left", .ref tl)]) tl = some (.tup []) := by rw [upd_ne tlr, upd_same]
  generalize upd (upd H6 tl (.tup [])) r (.ins C dx [("found", .ref d), ("things", .ref lt), ("left", .ref tl)]) = H7 at hr7 h7 htl7 ⊢
  -- past
  refine ⟨(by show 0 ≤ sizeLine; decide), fun lp hlp => ?_⟩
  have s8 := same_newO hlp (.lst [])
  refine ⟨_, rfl, r, C, dx, _, rfl, s8 _ _ hr7, rc.c, rc.np, (by show 3 < 1000; decide), ?_⟩
  have lpr : lp ≠ r := fun z => by rw [z, hr7] at hlp; cases hlp
  rw [show putF "past" (V.ref lp) ([("found", V.ref d), ("things", V.ref lt), ("left", V.ref tl)] : List (Str × V)) = ([("found", .ref d), ("things", .ref lt), ("left", .ref tl), ("past", .ref lp)] : List (Str × V)) from rfl]
  have h8 : ∀ a o, a ≠ r → H7 a = some o → upd (upd H7 lp (.lst [])) r (.ins C dx [("found", .ref d), ("things", .ref lt), ("left", .ref tl), ("past", .ref lp)]) a = some o := fun a o ha e => by rw [upd_ne ha]; exact s8 _ _ e
  have kp8 : Keep [r] H (upd (upd H7 lp (.lst [])) r (.ins C dx [("found", .ref d), ("things", .ref lt), ("left", .ref tl), ("past", .ref lp)])) := fun a o ha e => by
    have ar : a ≠ r := fun z => ha (by rw [z]; exact List.mem_singleton.mpr rfl)
    have ad : a ≠ d := fun z => by rw [z, dn] at e; cases e
    exact h8 a o ar (h7 a o ar (h6 a o ar (k5 a o ad (k3 a o ha (s02 _ _ e)))))
  have free : ∀ {a : Addr} {G : Hp}, (∀ b o, b ≠ r → H b = some o → G b = some o) → G a = none → a ≠ r → H a = none := fun {a G} h e ar => by
    cases z : H a with
    | none => rfl
    | some o => rw [h a o ar z] at e; cases e
  have g5 : ∀ b o, b ≠ r → H b = some o → H5 b = some o := fun b o br e => k5 b o (fun z => by rw [z, dn] at e; cases e) (k3 b o (fun z => br (List.mem_singleton.mp z)) (s02 _ _ e))
  refine q _ d lt lp kp8 ⟨⟨dx, tl, upd_same, h8 _ _ tlr htl7⟩, ⟨kvs5, h8 _ _ hdr (h7 _ _ hdr (h6 _ _ hdr hd5)), fo⟩, h8 _ _ ltr (h7 _ _ ltr hlt6), ⟨[], by rw [upd_ne lpr, upd_same], .nil⟩, fun z => by rw [← z, h7 _ _ ltr hlt6] at hlp; cases hlp⟩ dn (free g5 hlt ltr) (free (fun b o br e => h7 b o br (h6 b o br (g5 b o br e))) hlp lpr)
end
end K23
set_option Elab.async false
set_option linter.all false
set_option maxRecDepth 100000
namespace K23
open PySem L2
end K23
namespace L2
open PySem
theorem wd_updN {H : Hp} {d : Addr} {o : HO} {x : V} {u : List Int} (hd : ∀ xs, H d ≠ some (.tup xs)) (h : Wd H x u) : Wd (upd H d o) x u := by
  obtain ⟨a', xs', rfl, e', p'⟩ := h
  refine ⟨a', xs', rfl, ?_, p'⟩
  rw [upd_ne (fun z => hd xs' (by rw [← z]; exact e'))]
  exact e'
theorem ws_updN {H : Hp} {d : Addr} {o : HO} {xs : List V} {ws : List (List Int)} (hd : ∀ xs, H d ≠ some (.tup xs)) (h : Ws H xs ws) : Ws (upd H d o) xs ws := Paired.mapP h fun _ _ q => wd_updN hd q
end L2
namespace K23
open PySem L2
section
variable {P : Program} {w : World} {K : PySem.W.Frag} {mg : Str → Option Value} {base : Heap} {f : Addr} {fd : FuncData}
/-! BadLetter(at) -/
abbrev iBad : Stmt := kid (top 5)
theorem scBad : FnScope ["self", "at"] ["self", "at"] (defScope iBad) := ⟨rfl, rfl, rfl, by decide +kernel, rfl, by decide +kernel, by decide +kernel⟩
theorem ok_binit {C : Addr} (F : Fun K "__init__" "BadLetter.__init__" iBad f fd) (es : Est K C) (n1 : NoAttr K C "at") : FnOk P w K mg base CX0 1 f fd ["self", "at"] (spJ1 C "at") := by
  refine F.ok (k := 0) scBad (fun vs H Q E h => ?_) (fun cdv A outer s H vs Q E hr h => ?_)
  · obtain ⟨e, v, rfl, _⟩ := h
    rfl
  obtain ⟨e, v, rfl, he, q⟩ := h
  refine ⟨_, pss_one (ps_xfld (pv 0) (pv 1)), ?_⟩
  refine ⟨_, rfl, _, rfl, e, C, rfl, es, n1.taker, .inl ⟨he, fun d hd hne => ?_⟩⟩
  refine q _ (fun a o ne ho => ?_) ⟨d, hne, upd_same, ?_⟩
  · have nd : a ≠ d := fun z => by rw [z, hd] at ho; cases ho
    rw [upd_ne ne, upd_ne nd]; exact ho
  · rw [upd_ne hne, upd_same]
structure ClB (P : Program) (w : World) (K : PySem.W.Frag) (mg : Str → Option Value) (base : Heap) (C : Addr) : Prop where
  g : mg "BadLetter" = some (.ref C)
  h : Hcl K C
  kp : PySem.W.keepIn K (.ref C) = true
  i : ∃ fI fd, Eci K C fI ∧ FnOk P w K mg base CX0 1 fI fd ["self", "at"] (spJ1 C "at") ∧ Binds K fd ["self", "at"] []
/-! take -/
def spTake (C CB : Addr) : Sp := fun vs H Q E => ∃ (r d lt lp : Addr) (x : Int) (ws : List (List Int)) (ths lf : List Int) (ps : List (List Int)), vs = [.ref r, .int x] ∧ RAt C ws H r d lt lp ths lf ps ∧ ths.length ≤ 9000 ∧ ps.length ≤ 9000 ∧ lf.length ≤ 900 ∧
  ((lf ++ [x] ∉ ws ∧ lf ++ [x] ∉ keysOf ws ∧ ∀ dx H', Same H H' → H' dx = some (xdO dx [("at", .int ((ps.length : Nat) : Int))]) → E (.ref CB) (some dx) H') ∨ (∃ i : Nat, ws[i]? = some (lf ++ [x]) ∧ ∀ H', Keep [r, lt, lp] H H' → RAt C ws H' r d lt lp (ths ++ [(i : Int)]) [] (ps ++ [lf]) → Q (.int (i : Int)) H') ∨
   (lf ++ [x] ∉ ws ∧ lf ++ [x] ∈ keysOf ws ∧ ∀ H', Keep [r, lt, lp] H H' → RAt C ws H' r d lt lp ths (lf ++ [x]) (ps ++ [lf]) → Q .non H'))
theorem scTake : FnScope ["self", "letter", "longer", "thing"] ["self", "letter"] (defScope sTake) := ⟨rfl, rfl, rfl, by decide +kernel, rfl, by decide +kernel, by decide +kernel⟩
theorem small9 {n : Nat} (h : n ≤ 9001) : n < sizeLine := Nat.lt_of_le_of_lt h (by decide)
abbrev flds (d lt tl lp : Addr) : List (Str × V) := [("found", .ref d), ("things", .ref lt), ("left", .ref tl), ("past", .ref lp)]
set_option maxHeartbeats 8000000 in
theorem ok_take {C CB : Addr} (F : Fun K "take" "Reader.take" sTake f fd) (rc : RC K C) (cb : ClB P w K mg base CB) (ml : mg "len" = none) : FnOk P w K mg base (CXF P w) 3 f fd ["self", "letter"] (spTake C CB) := by
  obtain ⟨fI, fdI, eI, okI, bI⟩ := cb.i
  refine F.okF (k := 2) scTake (fun vs H Q E h => ?_) (fun cdv A outer s H vs Q E hr h => ?_)
  · obtain ⟨r, d, lt, lp, x, ws, ths, lf, ps, rfl, _⟩ := h
    rfl
  obtain ⟨r, d, lt, lp, x, ws, ths, lf, ps, rfl, ra, l1, l2, l3, q⟩ := h
  obtain ⟨⟨dx, tl, hr0, htl⟩, ⟨kvs, hd0, fo⟩, hlt, ⟨pvs, hlp, hP⟩, ne⟩ := ra
  refine ⟨_, pss_cons (ps_set (i := 2) scTake.nd rfl (Or.inl rfl) (pe_op op_catG (pe_fld (pv 0) rfl) (pe_tup (pa_cons (pv 1) pa_nil))))
    (pss_cons (ps_if (pt_cmp (pc_dnotin (hu1 hr) (pv 2) (pe_fld (pv 0) rfl))) (pss_one (ps_raiseI takes_def rfl (by rfl) cb.g eI cb.h cb.kp okI hr bI (pa_cons (pe_callB call_len_seq (by rfl) ml PySem.boot_len (pa_cons (pe_fld (pv 0) rfl) pa_nil)) pa_nil))) pss_nil)
    (pss_cons (ps_expr (pe_bm PySem.F.plainAttrs_list PySem.F.slot_list_append PySem.F.type_list_append mt_append (pe_fld (pv 0) rfl) (pa_cons (pe_fld (pv 0) rfl) pa_nil)))
    (pss_cons (ps_set (i := 3) scTake.nd rfl (Or.inl rfl) (pe_dget (hu1 hr) (pe_fld (pv 0) rfl) (pv 2) (fun _ _ => rfl)))
    (pss_cons (ps_if (pt_cmp (pc_isN (pv 3))) (pss_one (ps_fld (pv 0) (pv 2) rfl))
      (pss_cons (ps_fld (pv 0) (pe_tup pa_nil) rfl) (pss_one (ps_expr (pe_bm PySem.F.plainAttrs_list PySem.F.slot_list_append PySem.F.type_list_append mt_append (pe_fld (pv 0) rfl) (pa_cons (pv 3) pa_nil))))))
    (pss_one (ps_ret (pv 3))))))), ?_⟩
  refine ⟨_, rfl, r, C, dx, _, _, rfl, hr0, rc.c, rc.nl, rfl, _, rfl, (by show 1 ≤ sizeLine; decide), fun t1 ht1 => ?_⟩
  have s1 := same_newO ht1 (.tup [.int x])
  refine ⟨tl, t1, _, _, rfl, rfl, s1 _ _ htl, upd_same, small (by rw [List.length_map]; show lf.length + 1 ≤ 1000; omega), fun p2 H2 s2 hp2 => ?_⟩
  have s02 := s1.trans s2
  have hp2' : TW H2 p2 (lf ++ [x]) := by show H2 p2 = _; rw [hp2, List.map_append]; rfl
  have key2 : H2 p2 = some (.tup ((kI (lf ++ [x])).map kV)) := by rw [show H2 p2 = _ from hp2', List.map_map]; rfl
  have hr2 := s02 _ _ hr0
  have hd2 := s02 _ _ hd0
  have hlt2 := s02 _ _ hlt
  have hlp2 := s02 _ _ hlp
  have htl2 : TW H2 tl lf := s02 _ _ htl
  have hP2 := hP.same s02
  have lpv : pvs.length = ps.length := hP.length
  rcases q with ⟨n1, n2, qx⟩ | q
  · have dg2 : DGet H2 d (.ref p2) none := by
      have e0 : valV kvs (kI (lf ++ [x])) = none := by rw [fo.k _ n1, if_neg n2]
      rw [← e0]
      exact DGet.t hd2 key2
    refine ⟨_, rfl, _, rfl, r, C, dx, _, _, rfl, hr2, rc.c, rc.nf, rfl, d, none, rfl, dg2, _, rfl, iteT ?_⟩
    refine ⟨_, rfl, r, C, dx, _, _, rfl, hr2, rc.c, rc.np, rfl, lp, _, rfl, .inl (SqL.of hlp2), (by show 1 ≤ 1000; decide), fun ea hea => ?_⟩
    exact ⟨ea, _, rfl, upd_same, fun H3 kp3 x3 => ⟨rfl, raised_of hea kp3 x3 fun dy H' sm hdy => qx dy H' (s02.trans sm) (by rw [← lpv]; exact hdy)⟩⟩
  obtain ⟨v, hv, hvc⟩ : ∃ v, valV kvs (kI (lf ++ [x])) = some v ∧ ((∃ i : Nat, v = .int (i : Int) ∧ ws[i]? = some (lf ++ [x]) ∧ ∀ H', Keep [r, lt, lp] H H' → RAt C ws H' r d lt lp (ths ++ [(i : Int)]) [] (ps ++ [lf]) → Q (.int (i : Int)) H') ∨ (v = .non ∧ ∀ H', Keep [r, lt, lp] H H' → RAt C ws H' r d lt lp ths (lf ++ [x]) (ps ++ [lf]) → Q .non H')) := by
    rcases q with ⟨i, hi, q⟩ | ⟨h1, h2, q⟩
    · exact ⟨_, fo.w i _ hi, .inl ⟨i, rfl, hi, q⟩⟩
    · exact ⟨.non, by rw [fo.k _ h1, if_pos h2], .inr ⟨rfl, q⟩⟩
  have dg2 : DGet H2 d (.ref p2) (some v) := by rw [← hv]; exact DGet.t hd2 key2
  refine ⟨_, rfl, _, rfl, r, C, dx, _, _, rfl, hr2, rc.c, rc.nf, rfl, d, some v, rfl, dg2, _, rfl, iteF ?_⟩
  refine ⟨_, rfl, r, C, dx, _, _, rfl, hr2, rc.c, rc.np, rfl, .inl ⟨rfl, _, SqL.of hlp2⟩, _, rfl, r, C, dx, _, _, rfl, hr2, rc.c, rc.nl, rfl, lp, _, _, rfl, rfl, hlp2, small9 (by omega), ?_⟩
  have rlp : r ≠ lp := ne_of hr2 hlp2 (by intro z; cases z)
  have rlt : r ≠ lt := ne_of hr2 hlt2 (by intro z; cases z)
  have dlp : d ≠ lp := ne_of hd2 hlp2 (by intro z; cases z)
  have dlt : d ≠ lt := ne_of hd2 hlt2 (by intro z; cases z)
  have dr : d ≠ r := ne_of hd2 hr2 (by intro z; cases z)
  have hr3 : upd H2 lp (.lst (pvs ++ [.ref tl])) r = some (.ins C dx (flds d lt tl lp)) := by rw [upd_ne rlp]; exact hr2
  have hd3 : upd H2 lp (.lst (pvs ++ [.ref tl])) d = some (.dT kvs) := by rw [upd_ne dlp]; exact hd2
  have hlt3 : upd H2 lp (.lst (pvs ++ [.ref tl])) lt = some (.lst (ths.map V.int)) := by rw [upd_ne ne]; exact hlt2
  have hlp3 : upd H2 lp (.lst (pvs ++ [.ref tl])) lp = some (.lst (pvs ++ [.ref tl])) := upd_same
  have hp3 : TW (upd H2 lp (.lst (pvs ++ [.ref tl]))) p2 (lf ++ [x]) := by show upd _ _ _ p2 = _; rw [upd_ne (ne_of hp2' hlp2 (by intro z; cases z))]; exact hp2'
  have hP3 : Ws (upd H2 lp (.lst (pvs ++ [.ref tl]))) (pvs ++ [.ref tl]) (ps ++ [lf]) := Ws.upd hlp2 (L2.Paired.appendP hP2 (L2.Paired.oneP (Wd.of htl2)))
  have k3 : ∀ a o, a ≠ lp → H a = some o → upd H2 lp (.lst (pvs ++ [.ref tl])) a = some o := fun a o ha e => by rw [upd_ne ha]; exact s02 _ _ e
  generalize upd H2 lp (.lst (pvs ++ [.ref tl])) = H3 at hr3 hd3 hlt3 hlp3 hp3 hP3 k3 ⊢
  have key3 : H3 p2 = some (.tup ((kI (lf ++ [x])).map kV)) := by rw [show H3 p2 = _ from hp3, List.map_map]; rfl
  have dg3 : DGet H3 d (.ref p2) (some v) := by rw [← hv]; exact DGet.t hd3 key3
  refine ⟨_, rfl, r, C, dx, _, _, rfl, hr3, rc.c, rc.nf, rfl, _, rfl, d, v, rfl, dg3, ?_⟩
  rcases hvc with ⟨i, rfl, hi, q⟩ | ⟨rfl, q⟩
  · -- a whole word
    refine ⟨_, rfl, _, rfl, ?_⟩
    rw [decide_eq_false (by intro z; cases z)]
    refine iteF ?_
    refine ⟨(by show 0 ≤ sizeLine; decide), fun t4 ht4 => ?_⟩
    have s4 := same_newO ht4 (.tup [])
    refine ⟨_, rfl, r, C, dx, _, rfl, s4 _ _ hr3, rc.c, rc.nl, (by show 4 < 1000; decide), ?_⟩
    rw [show putF "left" (V.ref t4) (flds d lt tl lp) = flds d lt t4 lp from rfl]
    have t4r : t4 ≠ r := fun z => by rw [z, hr3] at ht4; cases ht4
    have nr : ∀ xs, upd H3 t4 (.tup []) r ≠ some (.tup xs) := fun xs z => by rw [s4 _ _ hr3] at z; cases z
    have hr5 : upd (upd H3 t4 (.tup [])) r (.ins C dx (flds d lt t4 lp)) r = some (.ins C dx (flds d lt t4 lp)) := upd_same
    have k5 : ∀ a o, a ≠ r → H3 a = some o → upd (upd H3 t4 (.tup [])) r (.ins C dx (flds d lt t4 lp)) a = some o := fun a o ha e => by rw [upd_ne ha]; exact s4 _ _ e
    have ht5 : TW (upd (upd H3 t4 (.tup [])) r (.ins C dx (flds d lt t4 lp))) t4 [] := by show upd _ _ _ t4 = _; rw [upd_ne t4r, upd_same]; rfl
    have hP5 : Ws (upd (upd H3 t4 (.tup [])) r (.ins C dx (flds d lt t4 lp))) (pvs ++ [.ref tl]) (ps ++ [lf]) := ws_updN nr (hP3.same s4)
    generalize upd (upd H3 t4 (.tup [])) r (.ins C dx (flds d lt t4 lp)) = H5 at hr5 k5 ht5 hP5 ⊢
    have hlt5 := k5 _ _ (Ne.symm rlt) hlt3
    refine ⟨_, rfl, r, C, dx, _, _, rfl, hr5, rc.c, rc.nt, rfl, .inl ⟨rfl, _, SqL.of hlt5⟩, _, rfl, lt, _, _, rfl, rfl, hlt5, small9 (by rw [List.length_map]; omega), ?_⟩
    refine ⟨_, rfl, q _ (fun a o ha e => ?_) ⟨⟨dx, t4, ?_, ?_⟩, ⟨kvs, ?_, fo⟩, ?_, ⟨_, ?_, Ws.upd hlt5 hP5⟩, ne⟩⟩
    · have a1 : a ≠ r := fun z => ha (by rw [z]; exact .head _)
      have a2 : a ≠ lt := fun z => ha (by rw [z]; exact .tail _ (.head _))
      have a3 : a ≠ lp := fun z => ha (by rw [z]; exact .tail _ (.tail _ (.head _)))
      rw [upd_ne a2]
      exact k5 a o a1 (k3 a o a3 e)
    · rw [upd_ne rlt]; exact hr5
    · show upd _ _ _ t4 = _
      rw [upd_ne (ne_of ht5 hlt5 (by intro z; cases z))]; exact ht5
    · rw [upd_ne dlt]; exact k5 _ _ dr hd3
    · rw [upd_same, List.map_append]; rfl
    · rw [upd_ne (Ne.symm ne)]; exact k5 _ _ (Ne.symm rlp) hlp3
  · -- a knot
    refine ⟨_, rfl, _, rfl, ?_⟩
    rw [decide_eq_true rfl]
    refine iteT ?_
    refine ⟨_, rfl, _, rfl, r, C, dx, _, rfl, hr3, rc.c, rc.nl, (by show 4 < 1000; decide), ?_⟩
    rw [show putF "left" (V.ref p2) (flds d lt tl lp) = flds d lt p2 lp from rfl]
    have nr : ∀ xs, H3 r ≠ some (.tup xs) := fun xs z => by rw [hr3] at z; cases z
    refine ⟨_, rfl, q _ (fun a o ha e => ?_) ⟨⟨dx, p2, upd_same, ?_⟩, ⟨kvs, ?_, fo⟩, ?_, ⟨_, ?_, ws_updN nr hP3⟩, ne⟩⟩
    · have a1 : a ≠ r := fun z => ha (by rw [z]; exact .head _)
      have a3 : a ≠ lp := fun z => ha (by rw [z]; exact .tail _ (.tail _ (.head _)))
      rw [upd_ne a1]
      exact k3 a o a3 e
    · show upd _ _ _ p2 = _
      rw [upd_ne (ne_of hp3 hr3 (by intro z; cases z))]; exact hp3
    · rw [upd_ne dr]; exact hd3
    · rw [upd_ne (Ne.symm rlt)]; exact hlt3
    · rw [upd_ne (Ne.symm rlp)]; exact hlp3
end
section
variable {P : Program} {w : World} {K : PySem.W.Frag} {mg : Str → Option Value} {base : Heap} {f : Addr} {fd : FuncData}
/-! told, rest -/
def spTold (C : Addr) : Sp := fun vs H Q _ => ∃ (r d lt lp : Addr) (ws : List (List Int)) (ths lf : List Int) (ps : List (List Int)), vs = [.ref r] ∧ RAt C ws H r d lt lp ths lf ps ∧ ∀ (p : Addr) (H' : Hp), Same H H' → H p = none → H' p = some (.lst (ths.map V.int)) → Q (.ref p) H'
theorem scTold : FnScope ["self"] ["self"] (defScope sTold) := ⟨rfl, rfl, rfl, by decide +kernel, rfl, by decide +kernel, by decide +kernel⟩
theorem ok_told {C : Addr} (F : Fun K "told" "Reader.told" sTold f fd) (rc : RC K C) (mL : mg "list" = none) : FnOk P w K mg base CX0 1 f fd ["self"] (spTold C) := by
  refine F.ok (k := 0) scTold (fun vs H Q E h => ?_) (fun cdv A outer s H vs Q E hr h => ?_)
  · obtain ⟨r, d, lt, lp, ws, ths, lf, ps, rfl, _⟩ := h
    rfl
  obtain ⟨r, d, lt, lp, ws, ths, lf, ps, rfl, ra, q⟩ := h
  obtain ⟨⟨dx, tl, hr0, htl⟩, ⟨kvs, hd0, fo⟩, hlt, ⟨pvs, hlp, hP⟩, ne⟩ := ra
  refine ⟨_, pss_one (ps_ret (pe_callTy call_list_of (by rfl) mL b_list (pa_cons (pe_fld (pv 0) rfl) pa_nil))), ?_⟩
  exact ⟨_, rfl, r, C, dx, _, _, rfl, hr0, rc.c, rc.nt, rfl, lt, _, rfl, .inl (SqL.of hlt), fun p hp => q p _ (same_newO hp _) hp upd_same⟩
def spRest (C : Addr) : Sp := fun vs H Q _ => ∃ (r d lt lp : Addr) (ws : List (List Int)) (ths lf : List Int) (ps : List (List Int)), vs = [.ref r] ∧ RAt C ws H r d lt lp ths lf ps ∧ ∀ p : Addr, TW H p lf → Q (.ref p) H
theorem scRest : FnScope ["self"] ["self"] (defScope sRest) := ⟨rfl, rfl, rfl, by decide +kernel, rfl, by decide +kernel, by decide +kernel⟩
theorem ok_rest {C : Addr} (F : Fun K "rest" "Reader.rest" sRest f fd) (rc : RC K C) : FnOk P w K mg base CX0 1 f fd ["self"] (spRest C) := by
  refine F.ok (k := 0) scRest (fun vs H Q E h => ?_) (fun cdv A outer s H vs Q E hr h => ?_)
  · obtain ⟨r, d, lt, lp, ws, ths, lf, ps, rfl, _⟩ := h
    rfl
  obtain ⟨r, d, lt, lp, ws, ths, lf, ps, rfl, ra, q⟩ := h
  obtain ⟨⟨dx, tl, hr0, htl⟩, ⟨kvs, hd0, fo⟩, hlt, ⟨pvs, hlp, hP⟩, ne⟩ := ra
  refine ⟨_, pss_one (ps_ret (pe_fld (pv 0) rfl)), ?_⟩
  exact ⟨_, rfl, r, C, dx, _, _, rfl, hr0, rc.c, rc.nl, rfl, q tl htl⟩
end
section
variable {P : Program} {w : World} {K : PySem.W.Frag} {mg : Str → Option Value} {base : Heap} {f : Addr} {fd : FuncData}
/-! back -/
def spBack (C CL : Addr) : Sp := fun vs H Q E => ∃ (r d lt lp : Addr) (ws : List (List Int)) (ths lf : List Int) (ps : List (List Int)), vs = [.ref r] ∧ RAt C ws H r d lt lp ths lf ps ∧ ((ps = [] ∧ ∀ H', Same H H' → E (.ref CL) none H') ∨
  ∃ (ps' : List (List Int)) (l0 ths' : List Int), ps = ps' ++ [l0] ∧ ((lf = [] ∧ ∃ i, ths = ths' ++ [i]) ∨ (lf ≠ [] ∧ ths' = ths)) ∧ ∀ H', Keep [r, lt, lp] H H' → RAt C ws H' r d lt lp ths' l0 ps' → Q .non H')
theorem scBack : FnScope ["self"] ["self"] (defScope sBack) := ⟨rfl, rfl, rfl, by decide +kernel, rfl, by decide +kernel, by decide +kernel⟩
theorem paired_snoc {α β : Type} {R : α → β → Prop} {xs : List α} {ys : List β} {y : β} (h : Paired R xs (ys ++ [y])) : ∃ xs' x, xs = xs' ++ [x] ∧ Paired R xs' ys ∧ R x y := by
  induction ys generalizing xs with
  | nil => cases h with
    | cons r t => cases t; exact ⟨[], _, rfl, .nil, r⟩
  | cons z ys ih => cases h with
    | cons r t =>
      obtain ⟨xs', x, rfl, p, q⟩ := ih t
      exact ⟨_ :: xs', x, rfl, .cons r p, q⟩
set_option maxHeartbeats 8000000 in
theorem ok_back {C CL : Addr} (F : Fun K "back" "Reader.back" sBack f fd) (rc : RC K C) (ml : mg "len" = none) (mN : mg "NothingLeft" = some (.ref CL)) (eN : Ecl K CL) : FnOk P w K mg base (CXF P w) 1 f fd ["self"] (spBack C CL) := by
  refine F.okF (k := 0) scBack (fun vs H Q E h => ?_) (fun cdv A outer s H vs Q E hr h => ?_)
  · obtain ⟨r, d, lt, lp, ws, ths, lf, ps, rfl, _⟩ := h
    rfl
  obtain ⟨r, d, lt, lp, ws, ths, lf, ps0, rfl, ra, cs0⟩ := h
  obtain ⟨⟨dx, tl, hr0, htl⟩, ⟨kvs, hd0, fo⟩, hlt, ⟨pvs, hlp, hP⟩, ne⟩ := ra
  refine ⟨_, pss_cons (ps_if (pt_cmpR op_eq (pe_callB call_len_seq (by rfl) ml PySem.boot_len (pa_cons (pe_fld (pv 0) rfl) pa_nil)) pe_int (nomark _)) (pss_one (ps_raise takes_def rfl (by rfl) mN eN (pa_cons pe_str pa_nil))) pss_nil)
    (pss_cons (ps_mid (ps_if (pt_cmpR op_eq (pe_callB call_len_seq (by rfl) ml PySem.boot_len (pa_cons (pe_fld (pv 0) rfl) pa_nil)) pe_int (nomark _)) (pss_one (ps_expr (pe_bm0 PySem.F.plainAttrs_list PySem.F.slot_list_pop PySem.F.type_list_pop mt_pop (pe_fld (pv 0) rfl)))) pss_nil))
    (pss_one (ps_fld (pv 0) (pe_bm0 PySem.F.plainAttrs_list PySem.F.slot_list_pop PySem.F.type_list_pop mt_pop (pe_fld (pv 0) rfl)) rfl))), ?_⟩
  rcases cs0 with ⟨rfl, qx⟩ | ⟨ps, l0, ths', rfl, cs, q⟩
  · cases hP
    exact ⟨_, rfl, r, C, dx, _, _, rfl, hr0, rc.c, rc.np, rfl, lp, _, rfl, .inl (SqL.of hlp), rfl, _, rfl, iteT ⟨by decide, qx _ (Same.refl _)⟩⟩
  obtain ⟨pv', x0, rfl, hP', hx0⟩ := paired_snoc hP
  have rlp : r ≠ lp := ne_of hr0 hlp (by intro z; cases z)
  have rlt : r ≠ lt := ne_of hr0 hlt (by intro z; cases z)
  have dlp : d ≠ lp := ne_of hd0 hlp (by intro z; cases z)
  have dlt : d ≠ lt := ne_of hd0 hlt (by intro z; cases z)
  have dr : d ≠ r := ne_of hd0 hr0 (by intro z; cases z)
  refine ⟨_, rfl, r, C, dx, _, _, rfl, hr0, rc.c, rc.np, rfl, lp, _, rfl, .inl (SqL.of hlp), rfl, _, rfl, ?_⟩
  rw [decide_eq_false (by intro z; have := V.int.inj z; rw [List.length_append, List.length_singleton] at this; omega)]
  refine iteF ?_
  refine ⟨fun σ' H' => σ' = [some (.ref r)] ∧ (∀ a o, a ≠ lt → H a = some o → H' a = some o) ∧ H' lt = some (.lst (ths'.map V.int)) ∧ ∀ {xs : List V} {us : List (List Int)}, Ws H xs us → Ws H' xs us, ?_, ?_⟩
  · refine ⟨_, rfl, r, C, dx, _, _, rfl, hr0, rc.c, rc.nl, rfl, tl, _, rfl, .inr (SqT.of htl), rfl, _, rfl, ?_⟩
    rw [List.length_map]
    rcases cs with ⟨rfl, i, rfl⟩ | ⟨hl, rfl⟩
    · refine ite2 (fun _ => ?_) (fun z => absurd (decide_eq_true rfl) z)
      refine ⟨_, rfl, r, C, dx, _, _, rfl, hr0, rc.c, rc.nt, rfl, .inl ⟨rfl, _, SqL.of hlt⟩, lt, _, .int i, rfl, rfl, hlt, ?_, ?_⟩
      · rw [List.map_append, List.length_append]
        simp
      · rw [List.map_append]
        have e : (ths'.map V.int ++ [i].map V.int).dropLast = ths'.map V.int := List.dropLast_concat
        rw [e]
        exact ⟨rfl, fun a o ha e => by rw [upd_ne ha]; exact e, upd_same, fun {xs us} h => Ws.upd hlt h⟩
    · refine ite2 (fun z => ?_) (fun _ => ⟨rfl, fun _ _ _ e => e, hlt, fun {xs us} h => h⟩)
      have z1 := V.int.inj (of_decide_eq_true z)
      exact absurd (List.length_eq_zero_iff.mp (by omega)) hl
  rintro σ' H1 ⟨rfl, k1, hlt1, w1⟩
  have hr1 := k1 _ _ rlt hr0
  have hlp1 := k1 _ _ (Ne.symm ne) hlp
  refine ⟨_, rfl, r, C, dx, _, _, rfl, hr1, rc.c, rc.np, rfl, .inl ⟨rfl, _, SqL.of hlp1⟩, lp, _, x0, rfl, rfl, hlp1, ?_, ?_⟩
  · rw [List.length_append]
    simp
  rw [List.dropLast_concat]
  have hr2 : upd H1 lp (.lst pv') r = some (.ins C dx (flds d lt tl lp)) := by rw [upd_ne rlp]; exact hr1
  refine ⟨_, rfl, r, C, dx, _, rfl, hr2, rc.c, rc.nl, (by show 4 < 1000; decide), ?_⟩
  obtain ⟨b0, rfl, hb0⟩ := Wd.ti hx0
  rw [show putF "left" (V.ref b0) (flds d lt tl lp) = flds d lt b0 lp from rfl]
  have hb1 : TW H1 b0 l0 := k1 _ _ (ne_of hb0 hlt (by intro z; cases z)) hb0
  have nr : ∀ xs, upd H1 lp (.lst pv') r ≠ some (.tup xs) := fun xs z => by rw [hr2] at z; cases z
  refine q _ (fun a o ha e => ?_) ⟨⟨dx, b0, upd_same, ?_⟩, ⟨kvs, ?_, fo⟩, ?_, ⟨pv', ?_, ws_updN nr (Ws.upd hlp1 (w1 hP'))⟩, ne⟩
  · have a1 : a ≠ r := fun z => ha (by rw [z]; exact .head _)
    have a2 : a ≠ lt := fun z => ha (by rw [z]; exact .tail _ (.head _))
    have a3 : a ≠ lp := fun z => ha (by rw [z]; exact .tail _ (.tail _ (.head _)))
    rw [upd_ne a1, upd_ne a3]
    exact k1 a o a2 e
  · show upd _ _ _ b0 = _
    rw [upd_ne (ne_of hb0 hr0 (by intro z; cases z)), upd_ne (ne_of hb0 hlp (by intro z; cases z))]
    exact hb1
  · rw [upd_ne dr, upd_ne dlp]; exact k1 _ _ dlt hd0
  · rw [upd_ne (Ne.symm rlt), upd_ne ne]; exact hlt1
  · rw [upd_ne (Ne.symm rlp), upd_same]
end
end K23
set_option Elab.async false
set_option linter.all false
set_option maxRecDepth 100000
namespace K23
open PySem L2
theorem key_addW {k k' : List Int} {l : Int} {wy : List (List Int × List Int)} (h : k' ∈ wy.map (·.1) ∨ k' = k) : k' ∈ (addW k l wy).map (·.1) := by
  rcases addW_keys k l wy with ⟨e, m⟩ | ⟨e, m⟩
  · rw [e]
    rcases h with h | h
    · exact h
    · rw [h]; exact m
  · rw [e, List.mem_append]
    rcases h with h | h
    · exact .inl h
    · exact .inr (List.mem_singleton.mpr h)
theorem key_wayW {word k : List Int} {wy : List (List Int × List Int)} : ∀ n, (k ∈ wy.map (·.1) ∨ ∃ i, i < n ∧ k = word.take i) → k ∈ (wayW word n wy).map (·.1)
  | 0, h => by
    rcases h with h | ⟨i, hi, _⟩
    · exact h
    · exact absurd hi (Nat.not_lt_zero _)
  | n + 1, h => by
    rw [wayW_succ]
    refine key_addW ?_
    rcases h with h | ⟨i, hi, e⟩
    · exact .inl (key_wayW n (.inl h))
    · by_cases z : i = n
      · subst z; exact .inr e
      · exact .inl (key_wayW n (.inr ⟨i, by omega, e⟩))
theorem key_to {ws : List (List Int)} {u : List Int} {i : Nat} (hi : i < u.length) : ∀ n, n ≤ ws.length → ∀ j, j < n → ws[j]? = some u → u.take i ∈ (waysTo ws n).map (·.1)
  | 0, _, j, hj, _ => absurd hj (Nat.not_lt_zero _)
  | n + 1, hn, j, hj, hu => by
    have hw : ws[n]? = some (ws[n]'(by omega)) := List.getElem?_eq_getElem _
    rw [waysTo_succ hw]
    by_cases z : j = n
    · subst z
      rw [hw] at hu
      rw [Option.some.inj hu]
      exact key_wayW _ (.inr ⟨i, hi, rfl⟩)
    · exact key_wayW _ (.inl (key_to hi n (by omega) j (by omega) hu))
theorem key_of {ws : List (List Int)} {u : List Int} {i j : Nat} (hu : ws[j]? = some u) (hi : i < u.length) : u.take i ∈ keysOf ws := key_to hi ws.length (Nat.le_refl _) j (List.getElem?_eq_some_iff.mp hu).1 hu

theorem key_in {ws : List (List Int)} {k : List Int} (h : k ∈ keysOf ws) : ∃ u ∈ ws, ∃ n, n < u.length ∧ k = u.take n := by
  have kn : Kn (ws.flatMap fun x => (List.range x.length).map fun i => x.take i) ws := fun x hx n hn => List.mem_flatMap.mpr ⟨x, hx, List.mem_map.mpr ⟨n, List.mem_range.mpr hn, rfl⟩⟩
  have m := waysTo_sub kn ws.length (Nat.le_refl _) k h
  obtain ⟨x, hx, m⟩ := List.mem_flatMap.mp m
  obtain ⟨n, hn, rfl⟩ := List.mem_map.mp m
  exact ⟨x, hx, n, List.mem_range.mp hn, rfl⟩
/-- what is no word goes on just where it is a key -/
theorem key_iff {ws : List (List Int)} {l : List Int} (hn : l ∉ ws) : l ∈ keysOf ws ↔ ∃ u ∈ ws, u.take l.length = l := by
  constructor
  · intro h
    obtain ⟨u, hu, n, hl, rfl⟩ := key_in h
    exact ⟨u, hu, by rw [List.length_take, Nat.min_eq_left (by omega)]⟩
  · rintro ⟨u, hu, e⟩
    obtain ⟨j, hj⟩ := List.mem_iff_getElem?.mp hu
    by_cases z : l.length < u.length
    · rw [← e]
      exact key_of hj z
    · rw [List.take_of_length_le (by omega)] at e
      exact absurd (e ▸ hu) hn
/-- one letter read -/
def stp (ws : List (List Int)) (s : List Int × List Int) (x : Int) : Option (List Int × List Int) :=
  if s.2 ++ [x] ∈ ws then some (s.1 ++ [((ws.idxOf (s.2 ++ [x]) : Nat) : Int)], []) else if s.2 ++ [x] ∈ keysOf ws then some (s.1, s.2 ++ [x]) else none
def rdTo (ws : List (List Int)) (ls : List Int) : Option (List Int × List Int) := ls.foldl (fun o x => o.bind fun s => stp ws s x) (some ([], []))
end K23
set_option Elab.async false
set_option linter.all false
set_option maxRecDepth 100000
namespace K23
open PySem L2
abbrev sWords : Stmt := top 21
abbrev sDeed : Stmt := top 22
abbrev sAsk : Stmt := top 23
abbrev sPlace : Stmt := top 24
abbrev sStands : Stmt := top 25
abbrev sDone : Stmt := top 26
abbrev sLaw : Stmt := top 27
section
variable {P : Program} {w : World} {K : PySem.W.Frag} {mg : Str → Option Value} {base : Heap} {f : Addr} {fd : FuncData}
theorem not_nil {ws : List (List Int)} (h : isF ws none) (n : ws ≠ [[]]) : [] ∉ ws := fun me => by
  obtain ⟨i, hi⟩ := List.mem_iff_getElem?.mp me
  have il := (List.getElem?_eq_some_iff.mp hi).1
  by_cases one : ws.length = 1
  · apply n
    have i0 : i = 0 := by omega
    subst i0
    cases ws with
    | nil => cases me
    | cons a r =>
      cases r with
      | cons _ _ => simp at one
      | nil =>
        simp at hi
        rw [hi]
  · by_cases z : i = 0
    · subst z
      exact h 0 1 (by decide) ⟨[], ws[1]'(by omega), hi, List.getElem?_eq_getElem _, .inl (by simp)⟩
    · exact h 0 i (by omega) ⟨ws[0]'(by omega), [], List.getElem?_eq_getElem _, hi, .inr (by simp)⟩
theorem nf0 (u : List Int) : isF [u] none := fun i j hij z => by
  obtain ⟨u, v, h1, h2, _⟩ := z
  have := (List.getElem?_eq_some_iff.mp h2).1
  simp at this
  omega
/-- the words of a law -/
structure J (ws : List (List Int)) : Prop where
  nf : isF ws none
  ne : [] ∉ ws
  o : 1 ≤ ws.length
  l1 : ws.length ≤ 23
  l2 : ∀ x ∈ ws, x.length ≤ 50
  h64 : (waysOf ws).length < 64
/-- no key is a word -/
theorem J.key {ws : List (List Int)} (j : J ws) {k : List Int} (h : k ∈ keysOf ws) : k ∉ ws := fun me => by
  obtain ⟨u, hu, n, hn, e⟩ := key_in h
  obtain ⟨a, ha⟩ := List.mem_iff_getElem?.mp me
  obtain ⟨b, hb⟩ := List.mem_iff_getElem?.mp hu
  have lk : k.length = n := by rw [e, List.length_take]; omega
  have tk : u.take k.length = k := by rw [lk, ← e]
  rcases Nat.lt_trichotomy a b with z | z | z
  · exact j.nf a b z ⟨k, u, ha, hb, .inl tk⟩
  · subst z
    rw [ha] at hb
    have := Option.some.inj hb
    rw [← this] at hn
    omega
  · exact j.nf b a z ⟨u, k, hb, ha, .inr tk⟩
theorem J.nil {ws : List (List Int)} (j : J ws) : [] ∈ keysOf ws := by
  have h0 : ws[0]? = some (ws[0]'(by have := j.o; omega)) := List.getElem?_eq_getElem _
  have := key_of (i := 0) h0 (by
    cases hz : ws[0]'(by have := j.o; omega) with
    | nil => rw [hz] at h0; exact absurd (List.mem_of_getElem? h0) j.ne
    | cons a r => simp)
  rw [List.take_zero] at this
  exact this
theorem j1 (b : Int) : J [[1, b, 0]] := by
  refine ⟨nf0 _, by simp, Nat.le_refl 1, by show 1 ≤ 23; decide, fun x hx => by rw [List.mem_singleton.mp hx]; show 3 ≤ 50; decide, Nat.lt_of_le_of_lt (knots_le (S := [[], [1], [1, b]]) fun x hx n hn => ?_) (by show 3 < 64; decide)⟩
  rw [List.mem_singleton.mp hx] at hn ⊢
  have : n < 3 := hn
  have h : n = 0 ∨ n = 1 ∨ n = 2 := by omega
  rcases h with rfl | rfl | rfl
  · exact .head _
  · exact .tail _ (.head _)
  · exact .tail _ (.tail _ (.head _))
theorem paired_rev {α β : Type} {R : α → β → Prop} {xs : List α} {ys : List β} (h : Paired R xs ys) : Paired R xs.reverse ys.reverse := by
  induction h with
  | nil => exact .nil
  | cons r t ih =>
    rw [List.reverse_cons, List.reverse_cons]
    exact L2.Paired.appendP ih (L2.Paired.oneP r)
/-! _law_words -/
abbrev NWd : List Str := ["cells", "cell", "letters", "words"]
def spWords (K : PySem.W.Frag) : Sp := fun vs H Q _ => ∃ (c : Addr) (cs : List Int) (x : Int), vs = [.ref c, .int x] ∧ SqL K H c (cs.map V.int) ∧ cs.length ≤ 40 ∧
  ∀ p H' xs ws, Same H H' → H' p = some (.lst xs) → Ws H' xs ws → J ws → Q (.ref p) H'
theorem scWords : FnScope NWd ["cells", "cell"] (defScope sWords) := ⟨rfl, rfl, rfl, by decide +kernel, rfl, by decide +kernel, by decide +kernel⟩
set_option maxHeartbeats 4000000 in
theorem ok_words (F : Fun K "_law_words" "_law_words" sWords f fd) (GG : Fns P w K mg base ["cells", "letters", "most", "lone"] "_law_grown" (spGrown K) 1) (mL : mg "list" = none) (mv : mg "reversed" = none) : FnOk P w K mg base CX0 2 f fd ["cells", "cell"] (spWords K) := by
  refine F.ok (k := 1) scWords (fun vs H Q E h => ?_) (fun cdv A outer s H vs Q E hr h => ?_)
  · obtain ⟨c, cs, x, rfl, _⟩ := h
    rfl
  obtain ⟨c, cs, x, rfl, hc, l40, q⟩ := h
  refine ⟨_, pss_cons (ps_set (i := 2) scWords.nd rfl (Or.inl rfl) (pe_op op_add pe_int (pe_op op_mod (pv 1) pe_int)))
    (pss_cons (ps_set (i := 3) scWords.nd rfl (Or.inl rfl) (pe_call GG.ok hr (by rfl) GG.m GG.kp GG.b .nil pass0 (pa_cons (pv 0) (pa_cons (pv 2) (pa_cons (pe_op op_add pe_int (pe_op op_mod (pe_op op_fdiv (pv 1) pe_int) pe_int)) (pa_cons pe_bl pa_nil))))))
    (pss_cons (ps_mid (ps_if (pt_cmpR (op_eqLW (hu4 hr)) (pv 3) (pe_lst (pa_cons (pe_tup pa_nil) pa_nil)) (nomark _)) (pss_one (ps_set (i := 3) scWords.nd rfl (Or.inl rfl) (pe_lst (pa_cons (pe_tup (pa_cons pe_int (pa_cons (pe_op op_sub (pv 2) pe_int) (pa_cons pe_int pa_nil)))) pa_nil)))) pss_nil))
    (pss_one (ps_ret (pe_listrev rfl (by rfl) mL (by rfl) mv (pv 3)))))), ?_⟩
  refine ⟨_, rfl, _, _, rfl, rfl, (by show (0 : Int) < _; decide), _, _, rfl, rfl, ?_⟩
  have b2 : 2 ≤ 2 + x % 5 := by omega
  have b6 : 2 + x % 5 ≤ 6 := by omega
  dsimp only
  generalize 2 + x % 5 = b at b2 b6 ⊢
  refine ⟨_, rfl, _, rfl, _, rfl, _, _, rfl, rfl, ⟨by decide, by decide⟩, _, _, rfl, rfl, (by show (0 : Int) < _; decide), _, _, rfl, rfl, ?_⟩
  refine ⟨c, cs, b, 1 + x / 5 % 12, true, rfl, hc, b2, b6, by omega, by omega, fun p2 H2 xs ws s2 hp2 hW l1 l2 ok gr => ?_⟩
  refine ⟨fun σ' H' => ∃ (p : Addr) (xs : List V) (ws : List (List Int)), σ' = [some (.ref c), some (.int x), some (.int b), some (.ref p)] ∧ Same H H' ∧ H' p = some (.lst xs) ∧ Ws H' xs ws ∧ J ws ∧ ∀ us : List (List Int), us.Perm ws → J us, ?_, ?_⟩
  · refine ⟨_, rfl, (by show 0 ≤ sizeLine; decide), fun v1 hv1 => ?_⟩
    have sD := same_newO hv1 (.tup [])
    have gD : TW (upd H2 v1 (.tup [])) v1 [] := upd_same
    generalize upd H2 v1 (.tup []) = HD at sD gD ⊢
    refine ⟨(by show 1 ≤ sizeLine; decide), fun v2 hv2 => ?_⟩
    have sE := same_newO hv2 (.lst [.ref v1])
    have gE : upd HD v2 (.lst [.ref v1]) v2 = some (.lst [.ref v1]) := upd_same
    have gDE : TW (upd HD v2 (.lst [.ref v1])) v1 [] := sE _ _ gD
    generalize upd HD v2 (.lst [.ref v1]) = HE at sE gE gDE ⊢
    have sCE := sD.trans sE
    have tE := s2.trans sCE
    refine ⟨p2, v2, xs, [.ref v1], ws, [[]], rfl, rfl, sCE _ _ hp2, gE, hW.same sCE, .cons (Wd.of gDE) .nil, _, rfl, ?_⟩
    refine ite2 (fun z => ?_) (fun z => ?_)
    · refine ⟨_, rfl, _, _, rfl, rfl, (by show 3 ≤ sizeLine; decide), fun u1 hu1 => ?_⟩
      have s5 := same_newO hu1 (.tup [.int 1, .int (b - 1), .int 0])
      have g5 : TW (upd HE u1 (.tup [.int 1, .int (b - 1), .int 0])) u1 [1, b - 1, 0] := upd_same
      generalize upd HE u1 (.tup [.int 1, .int (b - 1), .int 0]) = H5 at s5 g5 ⊢
      refine ⟨(by show 1 ≤ sizeLine; decide), fun u2 hu2 => ?_⟩
      have s6 := same_newO hu2 (.lst [.ref u1])
      exact ⟨u2, [.ref u1], [[1, b - 1, 0]], rfl, (tE.trans s5).trans s6, upd_same, .cons (Wd.of (s6 _ _ g5)) .nil, j1 (b - 1), fun us hu => by rw [List.perm_singleton.mp hu]; exact j1 (b - 1)⟩
    · obtain ⟨S, lS, kS⟩ := kn_gr gr
      have J1 : ∀ us : List (List Int), us.Perm ws → J us := fun us pm => by
        have nf : isF us none := isF_of (PF.perm gr.pf pm)
        have ku : Kn S us := kS.sub fun x hx => pm.mem_iff.mp hx
        have := knots_le ku
        have lu := pm.length_eq
        exact ⟨nf, fun h => not_nil (isF_of gr.pf) (fun y => z (decide_eq_true y)) (pm.mem_iff.mp h), by omega, by omega, fun x hx => ok.len x (pm.mem_iff.mp hx), by omega⟩
      exact ⟨p2, xs, ws, rfl, tE, sCE _ _ hp2, hW.same sCE, J1 ws (List.Perm.refl _), J1⟩
  rintro σ' H4 ⟨p, xs, ws, rfl, t4, hp, hW, j, jp⟩
  refine ⟨_, rfl, p, xs, rfl, hp, fun p5 hp5 => ?_⟩
  have s5 := same_newO hp5 (.lst xs.reverse)
  refine q p5 _ xs.reverse ws.reverse (t4.trans s5) upd_same ?_ (jp _ (List.reverse_perm ws))
  exact Ws.same s5 (paired_rev hW)
end
end K23
set_option Elab.async false
set_option linter.all false
set_option maxRecDepth 100000
namespace K23
open PySem L2
section
variable {P : Program} {w : World} {K : PySem.W.Frag} {mg : Str → Option Value} {base : Heap} {f : Addr} {fd : FuncData}
/-! _law_deed: no letter, or some int -/
abbrev ND : List Str := ["words", "rest", "cell", "going"]
def spDeed : Sp := fun vs H Q _ => ∃ (p t : Addr) (x : Int) (xs : List V) (ws : List (List Int)) (l : List Int), vs = [.ref p, .ref t, .int x] ∧ H p = some (.lst xs) ∧ Ws H xs ws ∧ J ws ∧ TW H t l ∧ l ∈ keysOf ws ∧
  ∀ v H', Same H H' → (v = .non ∨ ∃ y, v = .int y) → Q v H'
theorem scDeed : FnScope ND ["words", "rest", "cell"] (defScope sDeed) := ⟨rfl, rfl, rfl, by decide +kernel, rfl, by decide +kernel, by decide +kernel⟩
theorem ndD : (("word" : Str) :: ND).Nodup := by decide +kernel
theorem four' {a b c d i : Int} (i0 : 0 ≤ i) (i1 : i < 4) : ∃ v, atI [V.int a, .int b, .int c, .int d] i = some (.int v) := by
  have h : i = 0 ∨ i = 1 ∨ i = 2 ∨ i = 3 := by omega
  rcases h with h | h | h | h <;> subst h <;> exact ⟨_, rfl⟩
set_option maxHeartbeats 8000000 in
theorem ok_deed (F : Fun K "_law_deed" "_law_deed" sDeed f fd) (GB : Fns P w K mg base ["one", "other"] "_law_begun" spBeg 1) (ml : mg "len" = none) : FnOk P w K mg base CX0 2 f fd ["words", "rest", "cell"] spDeed := by
  refine F.ok (k := 1) scDeed (fun vs H Q E h => ?_) (fun cdv A outer s H vs Q E hr h => ?_)
  · obtain ⟨p, t, x, xs, ws, l, rfl, _⟩ := h
    rfl
  obtain ⟨p, t, x, xs, ws, l, rfl, hp, hw, j, ht, hk, q⟩ := h
  refine ⟨_, pss_cons (ps_if (pt_cmpR op_eq (pe_op op_mod (pv 2) pe_int) pe_int (nomark _)) (pss_one (ps_ret pe_non)) pss_nil)
    (pss_cons (ps_if (pt_cmpR op_eq (pe_op op_mod (pv 2) pe_int) pe_int (nomark _)) (pss_one (ps_ret (pe_ix ix_list (pe_lst (pa_cons (pe_op op_mod (pe_op op_fdiv (pv 2) pe_int) pe_int) (pa_cons (pe_un un_neg pe_int) (pa_cons pe_int (pa_cons (pe_op op_mod (pe_op op_fdiv (pv 2) pe_int) (pe_op op_pow pe_int pe_int)) pa_nil))))) (pe_op op_mod (pe_op op_fdiv (pv 2) pe_int) pe_int) (fun _ _ => rfl)))) pss_nil)
    (pss_cons (ps_compL (i := 3) (M := ND) scDeed.nd rfl rfl rfl (CompScope.of (defScope sDeed) ND rfl rfl rfl (by decide +kernel) (by decide +kernel) (by decide +kernel) rfl (by decide +kernel)) ndD rfl (pv 0) mo_var
      (fun cl C s0 H0 fp => ⟨pts_one (pt_val (pe_call GB.ok hr (by rfl) GB.m GB.kp GB.b .nil pass0 (pa_cons (pv 2) (pa_cons (pv 0) pa_nil)))), pv 0⟩))
    (pss_one (ps_ret (pe_ix ix_tup (pe_ix ix_list (pv 3) (pe_op op_mod (pe_op op_fdiv (pv 2) pe_int) (pe_callB call_len_seq (by rfl) ml PySem.boot_len (pa_cons (pv 3) pa_nil))) (fun _ _ => rfl)) (pe_callB call_len_seq (by rfl) ml PySem.boot_len (pa_cons (pv 1) pa_nil)) (fun _ _ => rfl)))))), ?_⟩
  refine ⟨_, rfl, _, _, rfl, rfl, (by show (0 : Int) < _; decide), rfl, _, rfl, ?_⟩
  refine ite2 (fun _ => q _ _ (Same.refl _) (.inl rfl)) (fun _ => ?_)
  refine ⟨_, rfl, _, _, rfl, rfl, (by show (0 : Int) < _; decide), rfl, _, rfl, ?_⟩
  refine ite2 (fun _ => ?_) (fun _ => ?_)
  · refine ⟨_, rfl, _, _, rfl, rfl, ⟨by decide, by decide⟩, _, _, rfl, rfl, (by show (0 : Int) < _; decide), _, rfl, _, rfl, _, _, rfl, rfl, ⟨by decide, by decide⟩, _, _, rfl, rfl, ⟨by decide, by decide, by decide⟩, _, _, rfl, rfl, (by show (0 : Int) < _; decide), (by show 4 ≤ sizeLine; decide), fun o1 ho1 => ?_⟩
    have sO := same_newO ho1 (.lst [V.int (x / 6 % 6), .int (-1), .int 6, .int (x / 24 % 10 ^ (30 : Int).toNat)])
    obtain ⟨odd, hodd⟩ := four' (a := x / 6 % 6) (b := -1) (c := 6) (d := x / 24 % 10 ^ (30 : Int).toNat) (i := x / 6 % 4) (by omega) (by omega)
    refine ⟨_, rfl, _, _, rfl, rfl, ⟨by decide, by decide⟩, _, _, rfl, rfl, (by show (0 : Int) < _; decide), o1, _, _, _, rfl, rfl, SqL.of upd_same, hodd, ?_⟩
    exact q _ _ sO (.inr ⟨odd, rfl⟩)
  · have lw : xs.length = ws.length := hw.length
    have jl := j.l1
    refine ⟨_, rfl, p, _, rfl, SqL.of hp, fun d hd => ?_⟩
    refine ⟨fun k H' => Same H H' ∧ ∃ gs hs, H' d = some (.lst gs) ∧ Ws H' gs hs ∧ hs = (ws.take k).filter (fun u => decide (u.take l.length = l)) , ⟨same_newO hd _, [], [], upd_same, .nil, by simp⟩, fun k H' _ hP => SqL.of (hP.1 _ _ hp), fun k y H6 hy hP => ?_, fun H6 hP => ?_⟩
    · obtain ⟨s6, gs, hs, hd6, hG, eh⟩ := hP
      obtain ⟨u, hu, ru⟩ := Paired.right_of hw k y hy
      have kl := (List.getElem?_eq_some_iff.mp hu).1
      have lg : gs.length = hs.length := hG.length
      have lh : hs.length ≤ 23 := by
        rw [eh]
        refine Nat.le_trans (List.length_filter_le _ _) ?_
        rw [List.length_take]
        omega
      have ef : (ws.take (k + 1)).filter (fun u => decide (u.take l.length = l)) = hs ++ (if decide (u.take l.length = l) = true then [u] else []) := by
        rw [List.take_add_one, hu, List.filter_append, ← eh]
        show _ = _
        congr 1
        show [u].filter _ = _
        rw [List.filter_cons]
        split <;> rfl
      refine ⟨_, rfl, _, rfl, _, _, _, _, rfl, Wd.of (s6 _ _ ht), Wd.same s6 ru, fun H7 s7 => ⟨_, rfl, ?_⟩⟩
      refine ite2 (fun c1 => ?_) (fun c1 => ?_)
      · refine ⟨_, rfl, gs, s7 _ _ hd6, small1000 (by omega), same_upd hd (s6.trans s7), gs ++ [y], hs ++ [u], upd_same, ?_, ?_⟩
        · exact Ws.upd (s7 _ _ hd6) (L2.Paired.appendP (hG.same s7) (L2.Paired.oneP (Wd.same (s6.trans s7) ru)))
        · rw [ef, if_pos c1]
      · exact ⟨s6.trans s7, gs, hs, s7 _ _ hd6, hG.same s7, by rw [ef, if_neg c1, List.append_nil]⟩
    · obtain ⟨s6, gs, hs, hd6, hG, eh⟩ := hP
      rw [lw, List.take_length] at eh
      obtain ⟨u0, hu0, n, hn, e0⟩ := key_in hk
      have m0 : u0 ∈ hs := by
        rw [eh, List.mem_filter]
        refine ⟨hu0, decide_eq_true ?_⟩
        rw [e0, List.length_take, Nat.min_eq_left (by omega)]
      have lg : gs.length = hs.length := hG.length
      have lh : 0 < hs.length := List.length_pos_of_mem m0
      have lh2 : hs.length ≤ 23 := by
        rw [eh]
        exact Nat.le_trans (List.length_filter_le _ _) jl
      refine ⟨_, rfl, _, rfl, _, _, rfl, rfl, ⟨by decide, by decide⟩, _, rfl, d, _, rfl, .inl (SqL.of hd6), _, _, rfl, rfl, (by show (0 : Int) < _; omega), ?_⟩
      obtain ⟨m, hm⟩ : ∃ m : Nat, x / 6 % ((gs.length : Nat) : Int) = (m : Int) := ⟨(x / 6 % ((gs.length : Nat) : Int)).toNat, by have := Int.emod_nonneg (x / 6) (show ((gs.length : Nat) : Int) ≠ 0 by omega); omega⟩
      have ml' : m < gs.length := by have := Int.emod_lt_of_pos (x / 6) (show 0 < ((gs.length : Nat) : Int) by omega); omega
      obtain ⟨u, hu, ru⟩ := Paired.right_of hG m _ (List.getElem?_eq_getElem ml')
      obtain ⟨b, eb, hb⟩ := Wd.ti ru
      have mu : u ∈ hs := List.mem_of_getElem? hu
      rw [eh, List.mem_filter] at mu
      obtain ⟨mw, mt⟩ := mu
      have mt := of_decide_eq_true mt
      have ll : l.length < u.length := by
        by_cases z : l.length < u.length
        · exact z
        · rw [List.take_of_length_le (by omega)] at mt
          rw [mt] at mw
          exact absurd mw (j.key hk)
      dsimp only
      rw [hm]
      refine ⟨d, _, _, _, rfl, rfl, SqL.of hd6, atI_nat (List.getElem?_eq_getElem ml'), ?_⟩
      refine ⟨_, rfl, t, _, rfl, .inr (SqT.of (s6 _ _ ht)), b, _, _, .int (u[l.length]'ll), eb, rfl, SqT.of hb, ?_, ?_⟩
      · rw [List.length_map]
        exact atI_nat (by rw [List.getElem?_map, List.getElem?_eq_getElem ll]; rfl)
      · exact q _ _ s6 (.inr ⟨_, rfl⟩)
end
end K23
set_option Elab.async false
set_option linter.all false
set_option maxRecDepth 100000
namespace K23
open PySem L2
section
variable {P : Program} {w : World} {K : PySem.W.Frag} {mg : Str → Option Value} {base : Heap} {f : Addr} {fd : FuncData}
structure Rdr (P : Program) (w : World) (K : PySem.W.Frag) (mg : Str → Option Value) (base : Heap) (C CC CN CB CL : Addr) where
  rc : RC K C
  g : mg "Reader" = some (.ref C)
  fi : Addr
  di : FuncData
  mkk : Mk K C fi
  oki : FnOk P w K mg base (CXF P w) 5 fi di ["self", "code"] (spRInit C CC CN)
  bi : Binds K di ["self", "code"] []
  ft : Addr
  dt : FuncData
  mt : Meth K C "take" ft
  okt : FnOk P w K mg base (CXF P w) 6 ft dt ["self", "letter"] (spTake C CB)
  bt : Binds K dt ["self", "letter"] []
  fo : Addr
  do_ : FuncData
  mo : Meth K C "told" fo
  oko : FnOk P w K mg base CX0 6 fo do_ ["self"] (spTold C)
  bo : Binds K do_ ["self"] []
  fr : Addr
  dr : FuncData
  mr : Meth K C "rest" fr
  okr : FnOk P w K mg base CX0 6 fr dr ["self"] (spRest C)
  br : Binds K dr ["self"] []
  fb : Addr
  db : FuncData
  mb : Meth K C "back" fb
  okb : FnOk P w K mg base (CXF P w) 6 fb db ["self"] (spBack C CL)
  bb : Binds K db ["self"] []
structure Cl (K : PySem.W.Frag) (mg : Str → Option Value) (D CB CL : Addr) : Prop where
  gD : mg "TollError" = some (.ref D)
  gB : mg "BadLetter" = some (.ref CB)
  gL : mg "NothingLeft" = some (.ref CL)
  gV : mg "ValueError" = none
  xD : XC K D
  xB : XC K CB
  xL : XC K CL
  es : Est K CB
  na : NoAttr K CB "at"
  bD : PySem.W.subIn K (.ref CB) (.ref D) = some true
  lD : PySem.W.subIn K (.ref CL) (.ref D) = some true
  bL : PySem.W.subIn K (.ref CB) (.ref CL) = some false
  lB : PySem.W.subIn K (.ref CL) (.ref CB) = some false
theorem RAt.at_ {C : Addr} {ws : List (List Int)} {H : Hp} {r d lt lp : Addr} {ths lf : List Int} {ps : List (List Int)} (h : RAt C ws H r d lt lp ths lf ps) (m : Str) (hm : (["found", "things", "left", "past"] : List Str).contains m = false) : ∃ dx fs, H r = some (.ins C dx fs) ∧ fs.lookup m = none := by
  obtain ⟨⟨dx, tl, h1, h2⟩, _⟩ := h
  refine ⟨dx, _, h1, ?_⟩
  simp only [List.contains_cons, List.contains_nil, Bool.or_eq_false_iff] at hm
  obtain ⟨m1, m2, m3, m4, _⟩ := hm
  simp only [List.lookup, m1, m2, m3, m4]
theorem Keep.same {L : List Addr} {H H1 H2 : Hp} (k : Keep L H H1) (s : Same H1 H2) : Keep L H H2 := fun a o ha e => s _ _ (k a o ha e)
/-! _law_told -/
abbrev NA : List Str := ["reader", "letter", "told", "number", "e"]
/-- what is told of a letter, or of one taken back -/
def spAsk (C : Addr) : Sp := fun vs H Q _ => ∃ (r d lt lp : Addr) (ws : List (List Int)) (ths lf : List Int) (ps : List (List Int)) (v : V), vs = [.ref r, v] ∧ RAt C ws H r d lt lp ths lf ps ∧ ths.length ≤ 9000 ∧ ps.length ≤ 9000 ∧ lf.length ≤ 900 ∧
  ((v = .non ∧ ps = [] ∧ ∀ t H', Same H H' → H' t = some (.tup [.str "left", .non]) → Q (.ref t) H') ∨
   (v = .non ∧ ∃ (ps' : List (List Int)) (l0 ths' : List Int), ps = ps' ++ [l0] ∧ ((lf = [] ∧ ∃ i, ths = ths' ++ [i]) ∨ (lf ≠ [] ∧ ths' = ths)) ∧ ∀ t H', Keep [r, lt, lp] H H' → RAt C ws H' r d lt lp ths' l0 ps' → H' t = some (.tup [.str "done", .non]) → Q (.ref t) H') ∨
   (∃ x : Int, v = .int x ∧ ((lf ++ [x] ∉ ws ∧ lf ++ [x] ∉ keysOf ws ∧ ∀ t H', Same H H' → H' t = some (.tup [.str "none", .non]) → Q (.ref t) H') ∨
     (∃ i : Nat, ws[i]? = some (lf ++ [x]) ∧ ∀ t H', Keep [r, lt, lp] H H' → RAt C ws H' r d lt lp (ths ++ [(i : Int)]) [] (ps ++ [lf]) → H' t = some (.tup [.str "done", .int (i : Int)]) → Q (.ref t) H') ∨
     (lf ++ [x] ∉ ws ∧ lf ++ [x] ∈ keysOf ws ∧ ∀ t H', Keep [r, lt, lp] H H' → RAt C ws H' r d lt lp ths (lf ++ [x]) (ps ++ [lf]) → H' t = some (.tup [.str "done", .non]) → Q (.ref t) H'))))
theorem scAsk : FnScope NA ["reader", "letter"] (defScope sAsk) := ⟨rfl, rfl, rfl, by decide +kernel, rfl, by decide +kernel, by decide +kernel⟩
set_option maxHeartbeats 8000000 in
theorem ok_ask {C D CC CN CB CL : Addr} (F : Fun K "_law_told" "_law_told" sAsk f fd) (R : Rdr P w K mg base C CC CN CB CL) (c : Cl K mg D CB CL) (mi : mg "isinstance" = none) : FnOk P w K mg base CX0 7 f fd ["reader", "letter"] (spAsk C) := by
  refine F.ok (k := 6) scAsk (fun vs H Q E h => ?_) (fun cdv A outer s H vs Q E hr h => ?_)
  · obtain ⟨r, d, lt, lp, ws, ths, lf, ps, v, rfl, _⟩ := h
    rfl
  obtain ⟨r, d, lt, lp, ws, ths, lf, ps, v, rfl, ra, l1, l2, l3, q⟩ := h
  refine ⟨_, pss_cons (ps_set (i := 2) scAsk.nd rfl (Or.inl rfl) pe_str)
    (pss_cons (ps_set (i := 3) scAsk.nd rfl (Or.inl rfl) pe_non)
    (pss_cons (ps_try (i := 4) rfl ⟨rfl, rfl⟩ (fun pn xe Ex hx => pss_cons (ps_if (pt_cmp (pc_isN (pv 1))) (pss_one (ps_set (i := 3) scAsk.nd rfl (Or.inl rfl) (pe_meth0X (pv 0) R.rc.c R.mb R.okb hr R.bb hx))) (pss_one (ps_set (i := 3) scAsk.nd rfl (Or.inl rfl) (pe_methX (pv 0) R.rc.c R.mt R.okt hr R.bt hx (pa_cons (pv 1) pa_nil)))))
        (pss_one (ps_set (i := 2) scAsk.nd rfl (Or.inl rfl) pe_str)))
      (fun ea => pss_one (ps_if (PW.pt (pw_and (pt_val (pe_callB (call_or (isiE K) (isiO K)) (by rfl) mi b_isi (pa_cons (pv 4) (pa_cons (pe_glob (v := .ref CL) (by rfl) c.gL rfl) pa_nil))))
          (pw_and (pt_not (pt_val (pe_callB (call_or (isiE K) (isiO K)) (by rfl) mi b_isi (pa_cons (pv 4) (pa_cons (pe_glob (v := .ref CB) (by rfl) c.gB rfl) pa_nil)))))
          (pw_and1 (pt_val (pe_callB (call_or (isiE K) (isiO K)) (by rfl) mi b_isi (pa_cons (pv 4) (pa_cons (pe_bltn (v := .ty "ValueError") (by rfl) c.gV b_VE rfl) pa_nil)))))))) (pss_one (ps_set (i := 2) scAsk.nd rfl (Or.inl rfl) pe_str)) pss_nil))
      scAsk.nd rfl rfl (by rfl) c.gD c.xD.h)
    (pss_one (ps_ret (pe_tup (pa_cons (pv 2) (pa_cons (pv 3) pa_nil))))))), ?_⟩
  rcases q with ⟨rfl, rfl, q⟩ | ⟨rfl, ps', l0, ths', rfl, cs, q⟩ | ⟨x, rfl, q⟩
  · refine ⟨_, rfl, _, rfl, ?_⟩
    rw [decide_eq_true rfl]
    refine iteT ?_
    obtain ⟨dx, fs, hr2, lk⟩ := RAt.at_ ra "back" (by decide)
    refine ⟨_, rfl, r, dx, fs, rfl, hr2, lk, r, d, lt, lp, ws, ths, lf, [], rfl, ra, .inl ⟨rfl, fun H3 s3 => ?_⟩⟩
    refine ⟨CL, rfl, c.lD, fun ea hea => ?_⟩
    have s4 := same_newO hea (excO ea CL none)
    have hE : upd H3 ea (excO ea CL none) ea = some (excO ea CL none) := upd_same
    generalize upd H3 ea (excO ea CL none) = H4 at s4 hE ⊢
    refine ⟨_, rfl, .inl ⟨ea, CL, none, _, true, rfl, hE, c.xL.e, .inl rfl, .inl ⟨CL, rfl, kit_t c.xL.h c.xL.sf⟩, _, rfl, iteT ?_⟩⟩
    refine ⟨_, rfl, .inl ⟨ea, CL, none, _, false, rfl, hE, c.xL.e, .inl rfl, .inl ⟨CB, rfl, kit_f c.xL c.xB.h c.lB⟩, _, rfl, iteT ?_⟩⟩
    refine ⟨_, rfl, .inl ⟨ea, CL, none, _, true, rfl, hE, c.xL.e, .inl rfl, .inr ⟨"ValueError", rfl, kit_ve c.xL⟩, _, rfl, iteT ?_⟩⟩
    refine ⟨_, rfl, _, rfl, (by show 2 ≤ sizeLine; decide), fun t5 ht5 => ?_⟩
    have s5 := same_newO ht5 (.tup [.str "left", .non])
    exact q t5 _ ((s3.trans s4).trans s5) upd_same
  · refine ⟨_, rfl, _, rfl, ?_⟩
    rw [decide_eq_true rfl]
    refine iteT ?_
    obtain ⟨dx, fs, hr2, lk⟩ := RAt.at_ ra "back" (by decide)
    refine ⟨_, rfl, r, dx, fs, rfl, hr2, lk, r, d, lt, lp, ws, ths, lf, _, rfl, ra, .inr ⟨ps', l0, ths', rfl, cs, fun H3 k3 ra3 => ?_⟩⟩
    refine ⟨_, rfl, _, rfl, (by show 2 ≤ sizeLine; decide), fun t5 ht5 => ?_⟩
    have s5 := same_newO ht5 (.tup [.str "done", .non])
    exact q t5 _ (k3.same s5) (ra3.same s5) upd_same
  · refine ⟨_, rfl, _, rfl, ?_⟩
    rw [decide_eq_false (by intro z; cases z)]
    refine iteF ?_
    obtain ⟨dx, fs, hr2, lk⟩ := RAt.at_ ra "take" (by decide)
    refine ⟨_, rfl, r, dx, fs, rfl, hr2, lk, _, rfl, r, d, lt, lp, x, ws, ths, lf, ps, rfl, ra, l1, l2, l3, ?_⟩
    rcases q with ⟨n1, n2, q⟩ | ⟨i, hi, q⟩ | ⟨n1, n2, q⟩
    · refine .inl ⟨n1, n2, fun dy H3 s3 hdy => ?_⟩
      refine ⟨CB, rfl, c.bD, fun ea hea => ?_⟩
      have s4 := same_newO hea (excO ea CB (some dy))
      have hE := caught_of (C := CB) hea hdy
      generalize upd H3 ea (excO ea CB (some dy)) = H4 at s4 hE ⊢
      refine ⟨_, rfl, .inr ⟨ea, CB, _, _, false, rfl, hE, c.xB.e, .inl ⟨CL, rfl, kit_f c.xB c.xL.h c.bL⟩, _, rfl, iteF ?_⟩⟩
      refine iteF ?_
      refine ⟨_, rfl, _, rfl, (by show 2 ≤ sizeLine; decide), fun t5 ht5 => ?_⟩
      have s5 := same_newO ht5 (.tup [.str "none", .non])
      exact q t5 _ ((s3.trans s4).trans s5) upd_same
    · refine .inr (.inl ⟨i, hi, fun H3 k3 ra3 => ?_⟩)
      refine ⟨_, rfl, _, rfl, (by show 2 ≤ sizeLine; decide), fun t5 ht5 => ?_⟩
      have s5 := same_newO ht5 (.tup [.str "done", .int (i : Int)])
      exact q t5 _ (k3.same s5) (ra3.same s5) upd_same
    · refine .inr (.inr ⟨n1, n2, fun H3 k3 ra3 => ?_⟩)
      refine ⟨_, rfl, _, rfl, (by show 2 ≤ sizeLine; decide), fun t5 ht5 => ?_⟩
      have s5 := same_newO ht5 (.tup [.str "done", .non])
      exact q t5 _ (k3.same s5) (ra3.same s5) upd_same
end
end K23
set_option Elab.async false
set_option linter.all false
set_option maxRecDepth 100000
namespace K23
open PySem L2
/-! what changes: lists and instances -/
def Mu (L : List Addr) (H : Hp) : Prop := ∀ a ∈ L, ∃ o, H a = some o ∧ ((∃ xs, o = .lst xs) ∨ ∃ C dx fs, o = .ins C dx fs)
theorem Mu.tup {L : List Addr} {H : Hp} (m : Mu L H) {a : Addr} {xs : List V} (e : H a = some (.tup xs)) : a ∉ L := fun z => by
  obtain ⟨o, h, c⟩ := m a z
  rw [e] at h
  cases h
  rcases c with ⟨_, c⟩ | ⟨_, _, _, c⟩ <;> cases c
theorem Mu.dT {L : List Addr} {H : Hp} (m : Mu L H) {a : Addr} {xs : List (List Key × V)} (e : H a = some (.dT xs)) : a ∉ L := fun z => by
  obtain ⟨o, h, c⟩ := m a z
  rw [e] at h
  cases h
  rcases c with ⟨_, c⟩ | ⟨_, _, _, c⟩ <;> cases c
theorem Mu.free {L : List Addr} {H : Hp} (m : Mu L H) {a : Addr} (e : H a = none) : a ∉ L := fun z => by
  obtain ⟨o, h, c⟩ := m a z
  rw [e] at h
  cases h
theorem Mu.same {L : List Addr} {H H' : Hp} (m : Mu L H) (s : Same H H') : Mu L H' := fun a ha => by
  obtain ⟨o, h, c⟩ := m a ha
  exact ⟨o, s _ _ h, c⟩
theorem Mu.upd {L : List Addr} {H : Hp} (m : Mu L H) {a : Addr} {xs : List V} : Mu L (L2.upd H a (.lst xs)) := fun b hb => by
  by_cases z : b = a
  · subst z
    exact ⟨_, upd_same, .inl ⟨_, rfl⟩⟩
  · obtain ⟨o, h, c⟩ := m b hb
    exact ⟨o, by rw [upd_ne z]; exact h, c⟩
theorem Mu.keep {L M : List Addr} {H H' : Hp} (m : Mu L H) (k : Keep M H H') (n : Mu M H') : Mu L H' := fun b hb => by
  by_cases z : b ∈ M
  · exact n b z
  · obtain ⟨o, h, c⟩ := m b hb
    exact ⟨o, k _ _ z h, c⟩
theorem Mu.sub {L M : List Addr} {H : Hp} (m : Mu L H) (h : ∀ a ∈ M, a ∈ L) : Mu M H := fun b hb => m b (h b hb)
theorem Keep.sub {L M : List Addr} {H H' : Hp} (k : Keep M H H') (h : ∀ a ∈ M, a ∈ L) : Keep L H H' := fun a o ha e => k a o (fun z => ha (h a z)) e
theorem Keep.trans {L : List Addr} {H H' H2 : Hp} (k : Keep L H H') (k2 : Keep L H' H2) : Keep L H H2 := fun a o ha e => k2 a o ha (k a o ha e)
theorem Keep.of {L : List Addr} {H H' : Hp} (s : Same H H') : Keep L H H' := fun a o _ e => s _ _ e
theorem Keep.upd {L : List Addr} {H : Hp} {a : Addr} {o : HO} (h : a ∈ L) : Keep L H (L2.upd H a o) := fun b o' hb e => by
  rw [upd_ne (fun z => hb (by rw [z]; exact h))]
  exact e
theorem Keep.ws {L : List Addr} {H H' : Hp} {xs : List V} {ws : List (List Int)} (k : Keep L H H') (m : Mu L H) (h : Ws H xs ws) : Ws H' xs ws := Paired.mapP h fun x u q => by
  obtain ⟨a, ys, rfl, e, p⟩ := q
  exact ⟨a, ys, rfl, k _ _ (m.tup e) e, p⟩
theorem RAt.mu {C : Addr} {ws : List (List Int)} {H : Hp} {r d lt lp : Addr} {ths lf : List Int} {ps : List (List Int)} (h : RAt C ws H r d lt lp ths lf ps) : Mu [r, lt, lp] H := by
  obtain ⟨⟨dx, tl, h1, h2⟩, ⟨kvs, h3, h4⟩, h5, ⟨pv, h6, h7⟩, h8⟩ := h
  intro a ha
  simp only [List.mem_cons, List.not_mem_nil, or_false] at ha
  rcases ha with rfl | rfl | rfl
  · exact ⟨_, h1, .inr ⟨_, _, _, rfl⟩⟩
  · exact ⟨_, h5, .inl ⟨_, rfl⟩⟩
  · exact ⟨_, h6, .inl ⟨_, rfl⟩⟩
theorem RAt.keep {C : Addr} {ws : List (List Int)} {H H' : Hp} {r d lt lp : Addr} {ths lf : List Int} {ps : List (List Int)} {M : List Addr} (h : RAt C ws H r d lt lp ths lf ps) (k : Keep M H H') (m : Mu M H) (n1 : r ∉ M) (n2 : lt ∉ M) (n3 : lp ∉ M) : RAt C ws H' r d lt lp ths lf ps := by
  obtain ⟨⟨dx, tl, h1, h2⟩, ⟨kvs, h3, h4⟩, h5, ⟨pv, h6, h7⟩, h8⟩ := h
  exact ⟨⟨dx, tl, k _ _ n1 h1, k _ _ (m.tup h2) h2⟩, ⟨kvs, k _ _ (m.dT h3) h3, h4⟩, k _ _ n2 h5, ⟨pv, k _ _ n3 h6, k.ws m h7⟩, h8⟩
/-! the history -/
inductive Hi (ws : List (List Int)) : List (List Int × List Int) → List Int × List Int → Prop
  | nil : Hi ws [] ([], [])
  | word {f a l} (i : Int) : Hi ws f (a, l) → Hi ws (f ++ [(a, l)]) (a ++ [i], [])
  | knot {f a l l'} : Hi ws f (a, l) → l' ∈ keysOf ws → l' ≠ [] → Hi ws (f ++ [(a, l)]) (a, l')
theorem Hi.key {ws : List (List Int)} (j : J ws) {f : List (List Int × List Int)} {s : List Int × List Int} (h : Hi ws f s) : s.2 ∈ keysOf ws := by
  cases h with
  | nil => exact j.nil
  | word i h => exact j.nil
  | knot h h1 h2 => exact h1
theorem Hi.len {ws : List (List Int)} {f : List (List Int × List Int)} {s : List Int × List Int} (h : Hi ws f s) : s.1.length ≤ f.length := by
  induction h with
  | nil => exact Nat.le_refl _
  | word i h ih => simp at ih ⊢; exact ih
  | knot h h1 h2 ih => simp at ih ⊢; omega
theorem Hi.back {ws : List (List Int)} {f f0 : List (List Int × List Int)} {s0 s : List Int × List Int} (h : Hi ws f s) (e : f = f0 ++ [s0]) : Hi ws f0 s0 ∧ ((s.2 = [] ∧ ∃ i, s.1 = s0.1 ++ [i]) ∨ (s.2 ≠ [] ∧ s0.1 = s.1)) := by
  cases h with
  | nil => simp at e
  | word i h =>
    obtain ⟨rfl, e2⟩ := List.append_inj' e rfl
    cases e2
    exact ⟨h, .inl ⟨rfl, i, rfl⟩⟩
  | knot h h1 h2 =>
    obtain ⟨rfl, e2⟩ := List.append_inj' e rfl
    cases e2
    exact ⟨h, .inr ⟨h2, rfl⟩⟩
theorem J.klen {ws : List (List Int)} (j : J ws) {k : List Int} (h : k ∈ keysOf ws) : k.length ≤ 50 := by
  obtain ⟨u, hu, n, hn, e⟩ := key_in h
  have := j.l2 u hu
  rw [e, List.length_take]
  omega
/-- an entry of the past -/
def Ent (L : List Addr) (H : Hp) (x : V) (h : List Int × List Int) : Prop := ∃ t l u, x = .ref t ∧ t ∉ L ∧ l ∉ L ∧ u ∉ L ∧ H t = some (.tup [.ref l, .ref u]) ∧ H l = some (.lst (h.1.map V.int)) ∧ TW H u h.2
abbrev Past (L : List Addr) (H : Hp) (xs : List V) (hs : List (List Int × List Int)) : Prop := Paired (Ent L H) xs hs
theorem Ent.keep {L : List Addr} {H H' : Hp} {x : V} {h : List Int × List Int} (k : Keep L H H') (e : Ent L H x h) : Ent L H' x h := by
  obtain ⟨t, l, u, rfl, n1, n2, n3, e1, e2, e3⟩ := e
  exact ⟨t, l, u, rfl, n1, n2, n3, k _ _ n1 e1, k _ _ n2 e2, k _ _ n3 e3⟩
theorem Past.keep {L : List Addr} {H H' : Hp} {xs : List V} {hs : List (List Int × List Int)} (k : Keep L H H') (e : Past L H xs hs) : Past L H' xs hs := Paired.mapP e fun _ _ q => q.keep k
/-- a reader and what was told of it -/
structure Sd (C : Addr) (L : List Addr) (ws : List (List Int)) (H : Hp) (r d lt lp pp : Addr) (f : List (List Int × List Int)) (s : List Int × List Int) : Prop where
  ra : RAt C ws H r d lt lp s.1 s.2 (f.map (·.2))
  hi : Hi ws f s
  pa : ∃ es, H pp = some (.lst es) ∧ Past L H es (f ++ [s])
theorem Sd.last {C : Addr} {L : List Addr} {ws : List (List Int)} {H : Hp} {r d lt lp pp : Addr} {f : List (List Int × List Int)} {s : List Int × List Int} (h : Sd C L ws H r d lt lp pp f s) : ∃ es x, H pp = some (.lst (es ++ [x])) ∧ Past L H es f ∧ Ent L H x s := by
  obtain ⟨es, h1, h2⟩ := h.pa
  obtain ⟨es', x, rfl, h3, h4⟩ := paired_snoc h2
  exact ⟨es', x, h1, h3, h4⟩
theorem Sd.keep {C : Addr} {L M : List Addr} {ws : List (List Int)} {H H' : Hp} {r d lt lp pp : Addr} {f : List (List Int × List Int)} {s : List Int × List Int} (h : Sd C L ws H r d lt lp pp f s) (k : Keep M H H') (m : Mu M H) (sb : ∀ a ∈ M, a ∈ L) (n1 : r ∉ M) (n2 : lt ∉ M) (n3 : lp ∉ M) (n4 : pp ∉ M) : Sd C L ws H' r d lt lp pp f s := by
  obtain ⟨es, h1, h2⟩ := h.pa
  exact ⟨h.ra.keep k m n1 n2 n3, h.hi, es, k _ _ n4 h1, h2.keep (k.sub sb)⟩
theorem Sd.same {C : Addr} {L : List Addr} {ws : List (List Int)} {H H' : Hp} {r d lt lp pp : Addr} {f : List (List Int × List Int)} {s : List Int × List Int} (h : Sd C L ws H r d lt lp pp f s) (k : Same H H') : Sd C L ws H' r d lt lp pp f s := by
  obtain ⟨es, h1, h2⟩ := h.pa
  exact ⟨h.ra.same k, h.hi, es, k _ _ h1, h2.keep (Keep.of k)⟩
section
variable {P : Program} {w : World} {K : PySem.W.Frag} {mg : Str → Option Value} {base : Heap} {f : Addr} {fd : FuncData}
/-! _law_place -/
def spPlace (C : Addr) : Sp := fun vs H Q _ => ∃ (r d lt lp : Addr) (ws : List (List Int)) (ths lf : List Int) (ps : List (List Int)) (x : Int), vs = [.ref r, .int x] ∧ RAt C ws H r d lt lp ths lf ps ∧ ths.length ≤ 9000 ∧ ps.length ≤ 9000 ∧ lf.length ≤ 900 ∧ lf ++ [x] ∉ ws ∧ lf ++ [x] ∉ keysOf ws ∧
  ∀ H', Same H H' → Q (.int ((ps.length : Nat) : Int)) H'
abbrev NPl : List Str := ["reader", "letter", "place", "e"]
theorem scPlace : FnScope NPl ["reader", "letter"] (defScope sPlace) := ⟨rfl, rfl, rfl, by decide +kernel, rfl, by decide +kernel, by decide +kernel⟩
set_option maxHeartbeats 8000000 in
theorem ok_place {C D CC CN CB CL : Addr} (F : Fun K "_law_place" "_law_place" sPlace f fd) (R : Rdr P w K mg base C CC CN CB CL) (c : Cl K mg D CB CL) : FnOk P w K mg base CX0 7 f fd ["reader", "letter"] (spPlace C) := by
  refine F.ok (k := 6) scPlace (fun vs H Q E h => ?_) (fun cdv A outer s H vs Q E hr h => ?_)
  · obtain ⟨r, d, lt, lp, ws, ths, lf, ps, v, rfl, _⟩ := h
    rfl
  obtain ⟨r, d, lt, lp, ws, ths, lf, ps, x, rfl, ra, l1, l2, l3, n1, n2, q⟩ := h
  refine ⟨_, pss_cons (ps_set (i := 2) scPlace.nd rfl (Or.inl rfl) pe_non)
    (pss_cons (ps_try (i := 3) rfl ⟨rfl, rfl⟩ (fun pn xe Ex hx => pss_one (ps_expr (pe_methX (pv 0) R.rc.c R.mt R.okt hr R.bt hx (pa_cons (pv 1) pa_nil))))
      (fun ea => pss_one (ps_set (i := 2) scPlace.nd rfl (Or.inl rfl) (pe_xo K (pv 3))))
      scPlace.nd rfl rfl (by rfl) c.gB c.xB.h)
    (pss_one (ps_ret (pv 2)))), ?_⟩
  obtain ⟨dx, fs, hr2, lk⟩ := RAt.at_ ra "take" (by decide)
  refine ⟨_, rfl, r, dx, fs, rfl, hr2, lk, _, rfl, r, d, lt, lp, x, ws, ths, lf, ps, rfl, ra, l1, l2, l3, .inl ⟨n1, n2, fun dy H3 s3 hdy => ?_⟩⟩
  refine ⟨CB, rfl, c.xB.sf, fun ea hea => ?_⟩
  have s4 := same_newO hea (excO ea CB (some dy))
  have hE := caught_of (C := CB) hea hdy
  generalize upd H3 ea (excO ea CB (some dy)) = H4 at s4 hE ⊢
  exact ⟨_, rfl, ea, CB, _, _, rfl, hE, c.xB.e, c.es, c.na, rfl, _, rfl, q _ (s3.trans s4)⟩
/-! _law_stands -/
abbrev NSt : List Str := ["reader", "past", "things", "rest", "found"]
def spStands (C : Addr) : Sp := fun vs H Q _ => ∃ (L : List Addr) (r d lt lp pp : Addr) (ws : List (List Int)) (f : List (List Int × List Int)) (s : List Int × List Int), vs = [.ref r, .ref pp] ∧ Sd C L ws H r d lt lp pp f s ∧ f.length ≤ 9000 ∧ ∀ H', Same H H' → Q (.bl true) H'
theorem scStands : FnScope NSt ["reader", "past"] (defScope sStands) := ⟨rfl, rfl, rfl, by decide +kernel, rfl, by decide +kernel, by decide +kernel⟩
theorem ndSt : (("thing" : Str) :: NSt).Nodup := by decide +kernel
set_option maxHeartbeats 8000000 in
theorem ok_stands {C CC CN CB CL : Addr} (F : Fun K "_law_stands" "_law_stands" sStands f fd) (R : Rdr P w K mg base C CC CN CB CL) (GH : Fns P w K mg base ["found"] "_law_whole" spWhole 6) (mi : mg "isinstance" = none) (mL : mg "list" = none) (mt : mg "tuple" = none) (ma : mg "all" = none) : FnOk P w K mg base CX0 7 f fd ["reader", "past"] (spStands C) := by
  refine F.ok (k := 6) scStands (fun vs H Q E h => ?_) (fun cdv A outer s H vs Q E hr h => ?_)
  · obtain ⟨L, r, d, lt, lp, pp, ws, f, s, rfl, _⟩ := h
    rfl
  obtain ⟨L, r, d, lt, lp, pp, ws, f, st, rfl, sd, lf, q⟩ := h
  refine ⟨_, pss_cons (ps_asg (pe_ix ix_list (pv 1) (pe_un un_neg pe_int) (fun _ _ => rfl)) (pg_tup rfl (pgs_cons (pg_name (i := 2) scStands.nd rfl (Or.inl rfl)) (pgs_cons (pg_name (i := 3) scStands.nd rfl (Or.inl rfl)) pgs_nil))))
    (pss_cons (ps_set (i := 4) scStands.nd rfl (Or.inl rfl) (pe_meth0 (pv 0) R.rc.c R.mo R.oko hr R.bo .nil pass0))
    (pss_cons (ps_if (PW.pt (pw_or (pt_not (pt_val (pe_callB call_isi (by rfl) mi b_isi (pa_cons (pv 4) (pa_cons (pe_bltn (v := .ty "list") (by rfl) mL b_list rfl) pa_nil)))))
        (pw_or (pt_cmpR (op_neLI (hu4 hr)) (pv 4) (pv 2) (nomark _))
        (pw_or1 (pt_not (pt_val (pe_callB (call_all rfl) (by rfl) ma b_all (pa_cons (pe_compL (M := NSt) rfl (CompScope.of (defScope sStands) NSt rfl rfl rfl (by decide +kernel) (by decide +kernel) (by decide +kernel) rfl (by decide +kernel)) ndSt rfl (pv 4) mo_var
          (fun cl C s0 H0 fp => ⟨pts_nil, pe_call GH.ok hr (by rfl) GH.m GH.kp GH.b .nil pass0 (pa_cons (pv 0) pa_nil)⟩)) pa_nil)))))))) (pss_one (ps_ret pe_bl)) pss_nil)
    (pss_cons (ps_expr (pe_bm PySem.F.plainAttrs_list PySem.F.slot_list_append PySem.F.type_list_append mt_append (pv 4) (pa_cons pe_int pa_nil)))
    (pss_one (ps_ret (pe_and (pe_callB call_isi (by rfl) mi b_isi (pa_cons (pe_meth0 (pv 0) R.rc.c R.mr R.okr hr R.br .nil pass0) (pa_cons (pe_bltn (v := .ty "tuple") (by rfl) mt b_tuple rfl) pa_nil))) (pe_one (pe_cmpR (op_eqTI (hu4 hr)) (pe_meth0 (pv 0) R.rc.c R.mr R.okr hr R.br .nil pass0) (pv 3) (nomark _))))))))), ?_⟩
  obtain ⟨es, x, hpp, _, t, l, u, rfl, n1, n2, n3, ht, hl, hu⟩ := sd.last
  have ln := sd.hi.len
  refine ⟨_, rfl, _, rfl, pp, _, _, _, rfl, rfl, SqL.of hpp, atI_last _ _, ?_⟩
  refine ⟨t, _, rfl, SqT.of ht, rfl, _, _, rfl, _, _, rfl, rfl, ?_⟩
  obtain ⟨dx, fs, hr2, lk⟩ := RAt.at_ sd.ra "told" (by decide)
  refine ⟨_, rfl, r, dx, fs, rfl, hr2, lk, r, d, lt, lp, ws, st.1, st.2, _, rfl, sd.ra, fun p H1 s1 fp hp => ?_⟩
  refine ⟨_, rfl, _, _, _, _, rfl, .lst hp, kit_list_list _, _, rfl, iteF ?_⟩
  refine ⟨_, rfl, _, rfl, p, l, _, _, rfl, rfl, hp, s1 _ _ hl, _, rfl, iteNS rfl ?_⟩
  refine ⟨_, rfl, p, _, rfl, SqL.of hp, fun d2 hd => ?_⟩
  refine ⟨fun i H' => Same H1 H' ∧ H' d2 = some (.lst ((List.replicate i true).map V.bl)), ⟨same_newO hd _, upd_same⟩, fun i H' _ hP => SqL.of (hP.1 _ _ hp), fun i x H' hx hP => ?_, fun H' hP => ?_⟩
  · obtain ⟨s5, hd'⟩ := hP
    have il := (List.getElem?_eq_some_iff.mp hx).1
    rw [List.length_map] at il
    rw [List.getElem?_map] at hx
    obtain ⟨z, hz, rfl⟩ := Option.map_eq_some_iff.mp hx
    refine turn_all ⟨_, rfl, z, rfl, _, hd', ?_, same_upd hd s5, ?_⟩
    · rw [List.length_map, List.length_replicate]
      exact small9 (by omega)
    · rw [upd_same, List.replicate_succ', List.map_append]; rfl
  · obtain ⟨s5, hd'⟩ := hP
    refine ⟨d2, _, rfl, hd', _, rfl, ?_⟩
    have e : (List.replicate (st.1.map V.int).length true).all id = true := by rw [List.all_eq_true]; intro z hz; rw [List.eq_of_mem_replicate hz]; rfl
    rw [e]
    refine iteF ?_
    have hp5 := s5 _ _ hp
    have sd5 := sd.same (s1.trans s5)
    refine ⟨_, rfl, .inl ⟨rfl, _, SqL.of hp5⟩, p, _, _, rfl, rfl, hp5, small9 (by rw [List.length_map]; omega), ?_⟩
    have s6 : Same H (upd H' p (.lst (st.1.map V.int ++ [.int 77]))) := same_upd fp (s1.trans s5)
    generalize upd H' p (.lst (st.1.map V.int ++ [.int 77])) = H6 at s6 ⊢
    have ra6 := sd.ra.same s6
    obtain ⟨dx6, fs6, hr6, lk6⟩ := RAt.at_ ra6 "rest" (by decide)
    refine ⟨_, rfl, r, dx6, fs6, rfl, hr6, lk6, r, d, lt, lp, ws, st.1, st.2, _, rfl, ra6, fun p7 hp7 => ?_⟩
    refine ⟨_, _, _, _, rfl, .tup hp7, kit_tuple_tuple _, ?_⟩
    refine ⟨true, rfl, iteT ?_⟩
    refine ⟨_, rfl, r, dx6, fs6, rfl, hr6, lk6, r, d, lt, lp, ws, st.1, st.2, _, rfl, ra6, fun p8 hp8 => ?_⟩
    refine ⟨_, rfl, _, _, rtup_ints hp8, rtup_ints (s6 _ _ hu), ?_⟩
    rw [decide_eq_true rfl]
    exact q _ s6
end
end K23
set_option Elab.async false
set_option linter.all false
set_option maxRecDepth 100000
namespace K23
open PySem L2
section
variable {P : Program} {w : World} {K : PySem.W.Frag} {mg : Str → Option Value} {base : Heap} {f : Addr} {fd : FuncData}
abbrev NDn : List Str := ["reader", "words", "past", "letter", "things", "rest", "due", "longer", "place"]
def spDone (C : Addr) : Sp := fun vs H Q _ => ∃ (L : List Addr) (r d lt lp pp wl : Addr) (xs : List V) (ws : List (List Int)) (f : List (List Int × List Int)) (s : List Int × List Int) (v : V), vs = [.ref r, .ref wl, .ref pp, v] ∧ Sd C L ws H r d lt lp pp f s ∧ Mu L H ∧ (∀ a ∈ [r, lt, lp, pp], a ∈ L) ∧ lt ≠ pp ∧ lp ≠ pp ∧ H wl = some (.lst xs) ∧ wl ∉ L ∧ Ws H xs ws ∧ J ws ∧ f.length ≤ 8000 ∧ (v = .non ∨ ∃ x, v = .int x) ∧
  ∀ H' f' s', Keep [r, lt, lp, pp] H H' → Mu L H' → Sd C L ws H' r d lt lp pp f' s' → f'.length ≤ f.length + 1 → Q (.bl true) H'
theorem scDone : FnScope NDn ["reader", "words", "past", "letter"] (defScope sDone) := ⟨rfl, rfl, rfl, by decide +kernel, rfl, by decide +kernel, by decide +kernel⟩
theorem ndDn : (("word" : Str) :: NDn).Nodup := by decide +kernel
theorem in4 {r lt lp pp : Addr} : ∀ a ∈ [r, lt, lp], a ∈ [r, lt, lp, pp] := fun a h => by
  simp only [List.mem_cons, List.not_mem_nil, or_false] at h ⊢
  rcases h with h | h | h
  · exact .inl h
  · exact .inr (.inl h)
  · exact .inr (.inr (.inl h))
theorem not_in1 {a b : Addr} (h : a ≠ b) : a ∉ [b] := fun z => h (List.mem_singleton.mp z)
theorem not_in3 {a r lt lp : Addr} (h1 : a ≠ r) (h2 : a ≠ lt) (h3 : a ≠ lp) : a ∉ [r, lt, lp] := fun z => by
  simp only [List.mem_cons, List.not_mem_nil, or_false] at z
  rcases z with z | z | z
  · exact h1 z
  · exact h2 z
  · exact h3 z
set_option maxHeartbeats 8000000 in
theorem ok_done {C : Addr} (F : Fun K "_law_done" "_law_done" sDone f fd) (GA : Fns P w K mg base ["reader", "letter"] "_law_told" (spAsk C) 7) (GP : Fns P w K mg base ["reader", "letter"] "_law_place" (spPlace C) 7) (GH : Fns P w K mg base ["found"] "_law_whole" spWhole 7) (GB : Fns P w K mg base ["one", "other"] "_law_begun" spBeg 7) (ml : mg "len" = none) (mI : mg "int" = none) (my : mg "any" = none) : FnOk P w K mg base CX0 8 f fd ["reader", "words", "past", "letter"] (spDone C) := by
  refine F.ok (k := 7) scDone (fun vs H Q E h => ?_) (fun cdv A outer s H vs Q E hr h => ?_)
  · obtain ⟨L, r, d, lt, lp, pp, wl, xs, ws, f, s, v, rfl, _⟩ := h
    rfl
  obtain ⟨L, r, d, lt, lp, pp, wl, xs, ws, f, st, v, rfl, sd, mu, sL, ne1, ne2, hwl, nwl, hw, j, l8, hv, q⟩ := h
  refine ⟨_, pss_cons (ps_asg (pe_ix ix_list (pv 2) (pe_un un_neg pe_int) (fun _ _ => rfl)) (pg_tup rfl (pgs_cons (pg_name (i := 4) scDone.nd rfl (Or.inl rfl)) (pgs_cons (pg_name (i := 5) scDone.nd rfl (Or.inl rfl)) pgs_nil))))
    (pss_cons (ps_if (pt_cmp (pc_isN (pv 3)))
      (pss_cons (ps_set (i := 6) scDone.nd rfl (Or.inl rfl) (pe_ix ix_list (pe_lst (pa_cons pe_str (pa_cons pe_str pa_nil))) (pe_callTy call_int1 (by rfl) mI b_int (pa_cons (pe_cmpR op_eq (pe_callB call_len_seq (by rfl) ml PySem.boot_len (pa_cons (pv 2) pa_nil)) pe_int (nomark _)) pa_nil)) (fun _ _ => rfl)))
      (pss_cons (ps_if (pt_cmpR op_gt (pe_callB call_len_seq (by rfl) ml PySem.boot_len (pa_cons (pv 2) pa_nil)) pe_int (nomark _)) (pss_one (ps_expr (pe_bm0 PySem.F.plainAttrs_list PySem.F.slot_list_pop PySem.F.type_list_pop mt_pop (pv 2)))) pss_nil)
      (pss_one (ps_ret (pe_cmpR (op_eqS2 (hu4 hr)) (pe_call GA.ok hr (by rfl) GA.m GA.kp GA.b .nil pass0 (pa_cons (pv 0) (pa_cons pe_non pa_nil))) (pe_tup (pa_cons (pv 6) (pa_cons pe_non pa_nil))) (nomark _))))))
      pss_nil)
    (pss_cons (ps_set (i := 7) scDone.nd rfl (Or.inr rfl) (pe_op op_catG (pv 5) (pe_tup (pa_cons (pv 3) pa_nil))))
    (pss_cons (ps_if (pt_not (pt_val (pe_callB (call_any rfl) (by rfl) my b_any (pa_cons (pe_compL (M := NDn) rfl (CompScope.of (defScope sDone) NDn rfl rfl rfl (by decide +kernel) (by decide +kernel) (by decide +kernel) rfl (by decide +kernel)) ndDn rfl (pv 1) mo_var
          (fun cl C s0 H0 fp => ⟨pts_nil, pe_call GB.ok hr (by rfl) GB.m GB.kp GB.b .nil pass0 (pa_cons (pv 8) (pa_cons (pv 0) pa_nil))⟩)) pa_nil))))
      (pss_cons (ps_set (i := 8) scDone.nd rfl (Or.inl rfl) (pe_call GP.ok hr (by rfl) GP.m GP.kp GP.b .nil pass0 (pa_cons (pv 0) (pa_cons (pv 3) pa_nil))))
      (pss_one (ps_ret (pe_and (pe_call GH.ok hr (by rfl) GH.m GH.kp GH.b .nil pass0 (pa_cons (pv 8) pa_nil)) (pe_and (pe_cmpR op_eq (pv 8) (pe_op op_sub (pe_callB call_len_seq (by rfl) ml PySem.boot_len (pa_cons (pv 2) pa_nil)) pe_int) (nomark _)) (pe_one (pe_cmpR (op_eqS2 (hu4 hr)) (pe_call GA.ok hr (by rfl) GA.m GA.kp GA.b .nil pass0 (pa_cons (pv 0) (pa_cons (pv 3) pa_nil))) (pe_tup (pa_cons pe_str (pa_cons pe_non pa_nil))) (nomark _))))))))
      pss_nil)
    (pss_cons (ps_if (pt_cmpR (op_inLW (hu4 hr)) (pv 7) (pv 1) rfl)
      (pss_cons (ps_expr (pe_bm PySem.F.plainAttrs_list PySem.F.slot_list_append PySem.F.type_list_append mt_append (pv 2) (pa_cons (pe_tup (pa_cons (pe_op op_cat (pv 4) (pe_lst (pa_cons (pe_bm PySem.F.plainAttrs_list PySem.F.slot_list_index PySem.F.type_list_index (mt_indexW (hu4 hr)) (pv 1) (pa_cons (pv 7) pa_nil)) pa_nil))) (pa_cons (pe_tup pa_nil) pa_nil))) pa_nil)))
      (pss_one (ps_ret (pe_cmpR (op_eqS2 (hu4 hr)) (pe_call GA.ok hr (by rfl) GA.m GA.kp GA.b .nil pass0 (pa_cons (pv 0) (pa_cons (pv 3) pa_nil))) (pe_tup (pa_cons pe_str (pa_cons (pe_bm PySem.F.plainAttrs_list PySem.F.slot_list_index PySem.F.type_list_index (mt_indexW (hu4 hr)) (pv 1) (pa_cons (pv 7) pa_nil)) pa_nil))) (nomark _)))))
      pss_nil)
    (pss_cons (ps_expr (pe_bm PySem.F.plainAttrs_list PySem.F.slot_list_append PySem.F.type_list_append mt_append (pv 2) (pa_cons (pe_tup (pa_cons (pv 4) (pa_cons (pv 7) pa_nil))) pa_nil)))
    (pss_one (ps_ret (pe_cmpR (op_eqS2 (hu4 hr)) (pe_call GA.ok hr (by rfl) GA.m GA.kp GA.b .nil pass0 (pa_cons (pv 0) (pa_cons (pv 3) pa_nil))) (pe_tup (pa_cons pe_str (pa_cons pe_non pa_nil))) (nomark _))))))))), ?_⟩
  obtain ⟨es, x0, hpp, hes, t, l, u, rfl, n1, n2, n3, ht, hl, hu⟩ := sd.last
  have ra := sd.ra
  have ln := sd.hi.len
  have kin := sd.hi.key j
  have lk := j.klen kin
  have les : es.length = f.length := hes.length
  have lps : (f.map (·.2)).length = f.length := List.length_map ..
  have lw : xs.length = ws.length := hw.length
  have jl := j.l1
  have inr : r ∈ L := sL _ (.head _)
  have inlt : lt ∈ L := sL _ (.tail _ (.head _))
  have inlp : lp ∈ L := sL _ (.tail _ (.tail _ (.head _)))
  have inpp : pp ∈ L := sL _ (.tail _ (.tail _ (.tail _ (.head _))))
  have nrp : r ≠ pp := by
    obtain ⟨dx, tl, h1, _⟩ := ra.ob
    exact ne_of h1 hpp (by intro z; cases z)
  have mup : ∀ {G : Hp}, Mu L G → Mu [pp] G := fun m => m.sub fun a ha => by rw [List.mem_singleton.mp ha]; exact inpp
  have kpp : ∀ {G : Hp} {o : HO}, Keep [pp] G (upd G pp o) := Keep.upd (.head _)
  have p4 : pp ∈ [r, lt, lp, pp] := .tail _ (.tail _ (.tail _ (.head _)))
  have np3 : pp ∉ [r, lt, lp] := not_in3 (Ne.symm nrp) (Ne.symm ne1) (Ne.symm ne2)
  refine ⟨_, rfl, _, rfl, pp, _, _, _, rfl, rfl, SqL.of hpp, atI_last _ _, ?_⟩
  refine ⟨t, _, rfl, SqT.of ht, rfl, _, _, rfl, _, _, rfl, rfl, ?_⟩
  refine ⟨_, rfl, _, rfl, ?_⟩
  rcases hv with rfl | ⟨x, rfl⟩
  · rw [decide_eq_true rfl]
    refine iteT ?_
    refine ⟨(by show 2 ≤ sizeLine; decide), fun o1 ho1 => ?_⟩
    have sO := same_newO ho1 (.lst [.str "done", .str "left"])
    have gO : upd H o1 (.lst [.str "done", .str "left"]) o1 = some (.lst [.str "done", .str "left"]) := upd_same
    generalize upd H o1 (.lst [.str "done", .str "left"]) = H1 at sO gO ⊢
    have hpp1 := sO _ _ hpp
    refine ⟨_, rfl, pp, _, rfl, .inl (SqL.of hpp1), rfl, .inr ⟨_, rfl, ?_⟩⟩
    rcases List.eq_nil_or_concat f with e0 | ⟨f0, s0, e0⟩
    · subst e0
      have es0 : es = [] := List.length_eq_zero_iff.mp les
      subst es0
      refine ⟨o1, _, _, _, rfl, rfl, SqL.of gO, (rfl : atI [V.str "done", .str "left"] 1 = _), ?_⟩
      refine ⟨_, rfl, pp, _, rfl, .inl (SqL.of hpp1), _, _, rfl, rfl, _, rfl, iteF ?_⟩
      have sd1 := sd.same sO
      refine ⟨_, rfl, r, d, lt, lp, ws, st.1, st.2, _, _, rfl, sd1.ra, by omega, by omega, by omega, .inl ⟨rfl, rfl, fun t2 H2 s2 ht2 => ?_⟩⟩
      refine ⟨_, rfl, (by show 2 ≤ sizeLine; decide), fun t3 ht3 => ?_⟩
      have s3 := same_newO ht3 (.tup [.str "left", .non])
      have sA := (sO.trans s2).trans s3
      exact ⟨t2, t3, _, _, rfl, rfl, s3 _ _ ht2, upd_same, .inl rfl, q _ [] st (Keep.of sA) (mu.same sA) (sd.same sA) (Nat.zero_le _)⟩
    · rw [List.concat_eq_append] at e0
      subst e0
      obtain ⟨hb, cs⟩ := sd.hi.back rfl
      obtain ⟨es', x', rfl, hes', hx'⟩ := paired_snoc hes
      have lf0 : (f0 ++ [s0]).length = f0.length + 1 := by simp
      have le0 : (es' ++ [x'] ++ [V.ref t]).length = es'.length + 2 := by simp
      rw [decide_eq_false (by intro z; have := V.int.inj z; rw [le0] at this; omega)]
      refine ⟨o1, _, _, _, rfl, rfl, SqL.of gO, (rfl : atI [V.str "done", .str "left"] 0 = _), ?_⟩
      refine ⟨_, rfl, pp, _, rfl, .inl (SqL.of hpp1), _, _, rfl, rfl, _, rfl, ?_⟩
      rw [decide_eq_true (show (1 : Int) < (((es' ++ [x'] ++ [V.ref t]).length : Nat) : Int) by rw [le0]; omega)]
      refine iteT ?_
      refine ⟨_, rfl, .inl ⟨rfl, _, SqL.of hpp1⟩, pp, _, .ref t, rfl, rfl, hpp1, ?_, ?_⟩
      · rw [le0]
        rw [List.getElem?_append_right (by simp)]
        simp
      rw [List.dropLast_concat]
      have mu1 := mu.same sO
      have sd1 := sd.same sO
      have k2 : Keep [pp] H1 (upd H1 pp (.lst (es' ++ [x']))) := kpp
      have hpp2 : upd H1 pp (.lst (es' ++ [x'])) pp = some (.lst (es' ++ [x'])) := upd_same
      have mu2 : Mu L (upd H1 pp (.lst (es' ++ [x']))) := mu1.upd
      generalize upd H1 pp (.lst (es' ++ [x'])) = H2 at k2 hpp2 mu2 ⊢
      have ra2 := sd1.ra.keep k2 (mup mu1) (not_in1 nrp) (not_in1 ne1) (not_in1 ne2)
      have pa2 : Past L H2 (es' ++ [x']) (f0 ++ [s0]) := Past.keep (k2.sub fun a ha => by rw [List.mem_singleton.mp ha]; exact inpp) (Past.keep (Keep.of sO) (L2.Paired.appendP hes' (L2.Paired.oneP hx')))
      refine ⟨_, rfl, r, d, lt, lp, ws, st.1, st.2, _, _, rfl, ra2, by omega, by omega, by omega, .inr (.inl ⟨rfl, f0.map (·.2), s0.2, s0.1, by rw [List.map_append]; rfl, cs, fun t3 H3 k3 ra3 ht3 => ?_⟩)⟩
      refine ⟨_, rfl, (by show 2 ≤ sizeLine; decide), fun t4 ht4 => ?_⟩
      have s4 := same_newO ht4 (.tup [.str "done", .non])
      have kA : Keep [r, lt, lp, pp] H (upd H3 t4 (.tup [.str "done", .non])) := ((((Keep.of sO).trans (k2.sub fun a ha => by rw [List.mem_singleton.mp ha]; exact p4)).trans (k3.sub in4)).same s4)
      refine ⟨t3, t4, _, _, rfl, rfl, s4 _ _ ht3, upd_same, .inl rfl, q _ f0 s0 kA ((mu2.keep k3 ra3.mu).same s4) ⟨ra3.same s4, hb, _, s4 _ _ (k3 _ _ np3 hpp2), Past.keep (Keep.of s4) (Past.keep (k3.sub fun a ha => sL a (in4 a ha)) pa2)⟩ (by omega)⟩
  · rw [decide_eq_false (by intro z; cases z)]
    refine iteF ?_
    refine ⟨_, rfl, _, rfl, (by show 1 ≤ sizeLine; decide), fun t1 ht1 => ?_⟩
    have s1 := same_newO ht1 (.tup [.int x])
    have g1 : upd H t1 (.tup [.int x]) t1 = some (.tup [.int x]) := upd_same
    generalize upd H t1 (.tup [.int x]) = H1 at s1 g1 ⊢
    refine ⟨u, t1, _, _, rfl, rfl, s1 _ _ hu, g1, small (by rw [List.length_map]; show st.2.length + 1 ≤ 1000; omega), fun p5 H5 s15 hp5 => ?_⟩
    have hp5' : TW H5 p5 (st.2 ++ [x]) := by show H5 p5 = _; rw [hp5, List.map_append]; rfl
    have s5 := s1.trans s15
    have hwl5 := s5 _ _ hwl
    have hw5 := hw.same s5
    refine ⟨_, rfl, wl, _, rfl, SqL.of hwl5, fun d2 hd => ?_⟩
    refine ⟨fun k H' => Same H5 H' ∧ H' d2 = some (.lst (((ws.take k).map fun u => decide (u.take (st.2 ++ [x]).length = st.2 ++ [x])).map V.bl)), ⟨same_newO hd _, upd_same⟩, fun k H' _ hP => SqL.of (hP.1 _ _ hwl5), fun k y H6 hy hP => ?_, fun H6 hP => ?_⟩
    · obtain ⟨s6, hd6⟩ := hP
      obtain ⟨u, hu, ru⟩ := Paired.right_of hw5 k y hy
      have kl := (List.getElem?_eq_some_iff.mp hu).1
      refine turn_all ⟨_, rfl, _, rfl, _, _, _, _, rfl, Wd.of (s6 _ _ hp5'), Wd.same s6 ru, fun H7 s7 => ⟨_, s7 _ _ hd6, ?_, same_upd hd (s6.trans s7), ?_⟩⟩
      · rw [List.length_map, List.length_map, List.length_take]; exact small1000 (by omega)
      · rw [upd_same, List.take_add_one, hu, List.map_append, List.map_append]; rfl
    · obtain ⟨s56, hd6⟩ := hP
      rw [lw, List.take_length] at hd6
      refine ⟨d2, _, rfl, hd6, _, rfl, ?_⟩
      have s6 := s5.trans s56
      have hp6 : TW H6 p5 (st.2 ++ [x]) := s56 _ _ hp5'
      have hpp6 := s6 _ _ hpp
      have hwl6 := s6 _ _ hwl
      have hw6 := hw.same s6
      have sd6 := sd.same s6
      have mu6 := mu.same s6
      have ht6 := s6 _ _ ht
      have hl6 := s6 _ _ hl
      have pa6 : Past L H6 es f := hes.keep (Keep.of s6)
      have ent6 : Ent L H6 (.ref t) st := ⟨t, l, u, rfl, n1, n2, n3, ht6, hl6, s6 _ _ hu⟩
      clear hd6 hd hw5 hwl5 hp5' hp5
      by_cases m1 : st.2 ++ [x] ∈ ws
      · -- a word
        have ea : (ws.map fun u => decide (u.take (st.2 ++ [x]).length = st.2 ++ [x])).any id = true := by
          rw [List.any_eq_true]
          exact ⟨_, List.mem_map.mpr ⟨_, m1, rfl⟩, decide_eq_true (List.take_length)⟩
        rw [ea]
        refine iteF ?_
        refine ⟨_, rfl, _, rfl, wl, xs, ws, st.2 ++ [x], rfl, Wd.of hp6, hwl6, hw6, _, rfl, ?_⟩
        rw [decide_eq_true m1]
        refine iteT ?_
        generalize hi : ws.idxOf (st.2 ++ [x]) = i
        have gi : ws[i]? = some (st.2 ++ [x]) := by
          rw [← hi]
          have := List.idxOf_lt_length_of_mem m1
          rw [List.getElem?_eq_getElem this, List.getElem_idxOf]
        refine ⟨_, rfl, .inl ⟨rfl, _, SqL.of hpp6⟩, _, rfl, _, rfl, .inl ⟨rfl, _, SqL.of hwl6⟩, _, rfl, wl, _, xs, ws, st.2 ++ [x], rfl, rfl, Wd.of hp6, hwl6, hw6, m1, ?_⟩
        rw [hi]
        refine ⟨(by show 1 ≤ sizeLine; decide), fun a7 ha7 => ?_⟩
        have s7 := same_newO ha7 (.lst [.int (i : Int)])
        have g7 : upd H6 a7 (.lst [.int (i : Int)]) a7 = some (.lst [.int (i : Int)]) := upd_same
        generalize upd H6 a7 (.lst [.int (i : Int)]) = H7 at s7 g7 ⊢
        refine ⟨l, a7, _, _, rfl, rfl, s7 _ _ hl6, g7, ?_, fun a8 ha8 => ?_⟩
        · rw [List.length_map]
          exact Nat.le_of_lt (small9 (by show st.1.length + 1 ≤ 9001; omega))
        have s8 := same_newO ha8 (.lst (st.1.map V.int ++ [.int (i : Int)]))
        have na8 : a8 ∉ L := (mu6.same s7).free ha8
        have g8 : upd H7 a8 (.lst (st.1.map V.int ++ [.int (i : Int)])) a8 = some (.lst ((st.1 ++ [(i : Int)]).map V.int)) := by rw [upd_same, List.map_append]; rfl
        generalize upd H7 a8 (.lst (st.1.map V.int ++ [.int (i : Int)])) = H8 at s8 g8 ⊢
        refine ⟨(by show 0 ≤ sizeLine; decide), fun a9 ha9 => ?_⟩
        have s9 := same_newO ha9 (.tup [])
        have g9 : TW (upd H8 a9 (.tup [])) a9 [] := upd_same
        generalize upd H8 a9 (.tup []) = H9 at s9 g9 ⊢
        refine ⟨(by show 2 ≤ sizeLine; decide), fun aA haA => ?_⟩
        have sA := same_newO haA (.tup [.ref a8, .ref a9])
        have gA : upd H9 aA (.tup [.ref a8, .ref a9]) aA = some (.tup [.ref a8, .ref a9]) := upd_same
        generalize upd H9 aA (.tup [.ref a8, .ref a9]) = HA at sA gA ⊢
        have s6A := ((s7.trans s8).trans s9).trans sA
        have hppA := s6A _ _ hpp6
        have muA := mu6.same s6A
        have entA : Ent L HA (.ref aA) (st.1 ++ [(i : Int)], []) := ⟨aA, a8, a9, rfl, muA.tup gA, na8, muA.tup (sA _ _ g9), gA, (s9.trans sA) _ _ g8, sA _ _ g9⟩
        refine ⟨pp, _, _, rfl, rfl, hppA, small9 (by rw [List.length_append, List.length_singleton]; omega), ?_⟩
        have kB : Keep [pp] HA (upd HA pp (.lst (es ++ [.ref t] ++ [.ref aA]))) := kpp
        have hppB : upd HA pp (.lst (es ++ [.ref t] ++ [.ref aA])) pp = some (.lst (es ++ [.ref t] ++ [.ref aA])) := upd_same
        have muB : Mu L (upd HA pp (.lst (es ++ [.ref t] ++ [.ref aA]))) := muA.upd
        generalize upd HA pp (.lst (es ++ [.ref t] ++ [.ref aA])) = HB at kB hppB muB ⊢
        have kBL : Keep L HA HB := kB.sub fun a ha => by rw [List.mem_singleton.mp ha]; exact inpp
        have raB := (sd6.same s6A).ra.keep kB (mup muA) (not_in1 nrp) (not_in1 ne1) (not_in1 ne2)
        have paB : Past L HB (es ++ [.ref t] ++ [.ref aA]) (f ++ [st] ++ [(st.1 ++ [(i : Int)], [])]) := L2.Paired.appendP (Past.keep kBL (Past.keep (Keep.of s6A) (L2.Paired.appendP pa6 (L2.Paired.oneP ent6)))) (L2.Paired.oneP (entA.keep kBL))
        have hwlB := kB _ _ (not_in1 (fun z => nwl (by rw [z]; exact inpp))) (s6A _ _ hwl6)
        have hwB := kB.ws (mup muA) (hw6.same s6A)
        have hpB : TW HB p5 (st.2 ++ [x]) := kB _ _ ((mup muA).tup (s6A _ _ hp6)) (s6A _ _ hp6)
        refine ⟨_, rfl, _, rfl, r, d, lt, lp, ws, st.1, st.2, _, _, rfl, raB, by omega, by omega, by omega, .inr (.inr ⟨x, rfl, .inr (.inl ⟨i, gi, fun tC HC kC raC htC => ?_⟩)⟩)⟩
        have kCL : Keep L HB HC := kC.sub fun a ha => sL a (in4 a ha)
        have nwl3 : wl ∉ [r, lt, lp] := fun z => nwl (sL _ (in4 _ z))
        have mu3 : Mu [r, lt, lp] HB := muB.sub fun a ha => sL a (in4 a ha)
        have hwlC := kC _ _ nwl3 hwlB
        have hwC := kC.ws mu3 hwB
        have hpC : TW HC p5 (st.2 ++ [x]) := kC _ _ (mu3.tup hpB) hpB
        refine ⟨_, rfl, .inl ⟨rfl, _, SqL.of hwlC⟩, _, rfl, wl, _, xs, ws, st.2 ++ [x], rfl, rfl, Wd.of hpC, hwlC, hwC, m1, ?_⟩
        rw [hi]
        refine ⟨(by show 2 ≤ sizeLine; decide), fun tD htD => ?_⟩
        have sD := same_newO htD (.tup [.str "done", .int (i : Int)])
        have kA : Keep [r, lt, lp, pp] H (upd HC tD (.tup [.str "done", .int (i : Int)])) := ((((Keep.of (s6.trans s6A)).trans (kB.sub fun a ha => by rw [List.mem_singleton.mp ha]; exact p4)).trans (kC.sub in4)).same sD)
        refine ⟨tC, tD, _, _, rfl, rfl, sD _ _ htC, upd_same, .inr ⟨_, rfl⟩, q _ (f ++ [st]) (st.1 ++ [(i : Int)], []) kA ((muB.keep kC raC.mu).same sD) ⟨?_, sd.hi.word (i : Int), _, sD _ _ (kC _ _ np3 hppB), Past.keep (Keep.of sD) (Past.keep kCL paB)⟩ (by simp)⟩
        rw [List.map_append]
        exact raC.same sD
      · have ea : (ws.map fun u => decide (u.take (st.2 ++ [x]).length = st.2 ++ [x])).any id = decide (st.2 ++ [x] ∈ keysOf ws) := by
          rw [Bool.eq_iff_iff, decide_eq_true_eq, key_iff m1, List.any_eq_true]
          constructor
          · rintro ⟨b, hb, hb'⟩
            obtain ⟨u, hu, rfl⟩ := List.mem_map.mp hb
            exact ⟨u, hu, of_decide_eq_true hb'⟩
          · rintro ⟨u, hu, e⟩
            exact ⟨_, List.mem_map.mpr ⟨u, hu, rfl⟩, decide_eq_true e⟩
        rw [ea]
        by_cases m2 : st.2 ++ [x] ∈ keysOf ws
        · -- a knot
          rw [decide_eq_true m2]
          refine iteF ?_
          refine ⟨_, rfl, _, rfl, wl, xs, ws, st.2 ++ [x], rfl, Wd.of hp6, hwl6, hw6, _, rfl, ?_⟩
          rw [decide_eq_false m1]
          refine iteF ?_
          refine ⟨_, rfl, .inl ⟨rfl, _, SqL.of hpp6⟩, _, rfl, _, rfl, (by show 2 ≤ sizeLine; decide), fun aA haA => ?_⟩
          have s6A := same_newO haA (.tup [.ref l, .ref p5])
          have gA : upd H6 aA (.tup [.ref l, .ref p5]) aA = some (.tup [.ref l, .ref p5]) := upd_same
          generalize upd H6 aA (.tup [.ref l, .ref p5]) = HA at s6A gA ⊢
          have hppA := s6A _ _ hpp6
          have muA := mu6.same s6A
          have entA : Ent L HA (.ref aA) (st.1, st.2 ++ [x]) := ⟨aA, l, p5, rfl, muA.tup gA, n2, mu6.tup hp6, gA, s6A _ _ hl6, s6A _ _ hp6⟩
          refine ⟨pp, _, _, rfl, rfl, hppA, small9 (by rw [List.length_append, List.length_singleton]; omega), ?_⟩
          have kB : Keep [pp] HA (upd HA pp (.lst (es ++ [.ref t] ++ [.ref aA]))) := kpp
          have hppB : upd HA pp (.lst (es ++ [.ref t] ++ [.ref aA])) pp = some (.lst (es ++ [.ref t] ++ [.ref aA])) := upd_same
          have muB : Mu L (upd HA pp (.lst (es ++ [.ref t] ++ [.ref aA]))) := muA.upd
          generalize upd HA pp (.lst (es ++ [.ref t] ++ [.ref aA])) = HB at kB hppB muB ⊢
          have kBL : Keep L HA HB := kB.sub fun a ha => by rw [List.mem_singleton.mp ha]; exact inpp
          have raB := (sd6.same s6A).ra.keep kB (mup muA) (not_in1 nrp) (not_in1 ne1) (not_in1 ne2)
          have paB : Past L HB (es ++ [.ref t] ++ [.ref aA]) (f ++ [st] ++ [(st.1, st.2 ++ [x])]) := L2.Paired.appendP (Past.keep kBL (Past.keep (Keep.of s6A) (L2.Paired.appendP pa6 (L2.Paired.oneP ent6)))) (L2.Paired.oneP (entA.keep kBL))
          refine ⟨_, rfl, _, rfl, r, d, lt, lp, ws, st.1, st.2, _, _, rfl, raB, by omega, by omega, by omega, .inr (.inr ⟨x, rfl, .inr (.inr ⟨m1, m2, fun tC HC kC raC htC => ?_⟩)⟩)⟩
          have kCL : Keep L HB HC := kC.sub fun a ha => sL a (in4 a ha)
          refine ⟨(by show 2 ≤ sizeLine; decide), fun tD htD => ?_⟩
          have sD := same_newO htD (.tup [.str "done", .non])
          have kA : Keep [r, lt, lp, pp] H (upd HC tD (.tup [.str "done", .non])) := ((((Keep.of (s6.trans s6A)).trans (kB.sub fun a ha => by rw [List.mem_singleton.mp ha]; exact p4)).trans (kC.sub in4)).same sD)
          refine ⟨tC, tD, _, _, rfl, rfl, sD _ _ htC, upd_same, .inl rfl, q _ (f ++ [st]) (st.1, st.2 ++ [x]) kA ((muB.keep kC raC.mu).same sD) ⟨?_, sd.hi.knot m2 (by simp), _, sD _ _ (kC _ _ np3 hppB), Past.keep (Keep.of sD) (Past.keep kCL paB)⟩ (by simp)⟩
          rw [List.map_append]
          exact raC.same sD
        · -- nothing
          rw [decide_eq_false m2]
          refine iteT ?_
          refine ⟨_, rfl, _, rfl, r, d, lt, lp, ws, st.1, st.2, _, x, rfl, sd6.ra, by omega, by omega, by omega, m1, m2, fun H7 s7 => ?_⟩
          refine ⟨_, rfl, _, rfl, true, rfl, iteT ?_⟩
          refine ⟨_, rfl, _, rfl, pp, _, rfl, .inl (SqL.of (s7 _ _ hpp6)), _, _, rfl, rfl, rfl, true, ?_, iteT ?_⟩
          · rw [decide_eq_true]
            rw [lps, List.length_append, List.length_singleton, les]
            congr 1
            omega
          have sd7 := sd6.same s7
          refine ⟨_, rfl, _, rfl, r, d, lt, lp, ws, st.1, st.2, _, _, rfl, sd7.ra, by omega, by omega, by omega, .inr (.inr ⟨x, rfl, .inl ⟨m1, m2, fun t8 H8 s8 ht8 => ?_⟩⟩)⟩
          refine ⟨(by show 2 ≤ sizeLine; decide), fun t9 ht9 => ?_⟩
          have s9 := same_newO ht9 (.tup [.str "none", .non])
          have sA := ((s6.trans s7).trans s8).trans s9
          exact ⟨t8, t9, _, _, rfl, rfl, s9 _ _ ht8, upd_same, .inl rfl, q _ f st (Keep.of sA) (mu.same sA) (sd.same sA) (Nat.le_succ _)⟩
end
end K23
set_option Elab.async false
set_option linter.all false
set_option maxRecDepth 100000
namespace K23
open PySem L2
theorem keep_same {L : List Addr} {H H1 H2 : Hp} (s : Same H H1) (k : Keep L H1 H2) (n : ∀ a ∈ L, H a = none) : Same H H2 := fun a o e => k a o (fun z => by rw [n a z] at e; cases e) (s a o e)
theorem same_made {H : Hp} {x dx C : Addr} (hx : H x = none) (hdx : H dx = none) : Same H (upd (upd H dx (.own x)) x (.ins C dx [])) := same_upd hx (same_newO hdx _)
/-- one of the two -/
structure Side where
  r : Addr
  d : Addr
  lt : Addr
  lp : Addr
  pp : Addr
  wl : Addr
  xs : List V
  ws : List (List Int)
abbrev Side.g (A : Side) : List Addr := [A.r, A.lt, A.lp, A.pp]
abbrev Side.at (A : Side) (C : Addr) (L : List Addr) (H : Hp) (f : List (List Int × List Int)) (s : List Int × List Int) : Prop := Sd C L A.ws H A.r A.d A.lt A.lp A.pp f s
/-- what stays -/
structure Std (L : List Addr) (hd : Addr) (S : Nat → Side) (H : Hp) : Prop where
  sub : ∀ i, i < 2 → ∀ a ∈ (S i).g, a ∈ L
  hin : hd ∈ L
  n1 : ∀ i, i < 2 → (S i).lt ≠ (S i).pp
  n2 : ∀ i, i < 2 → (S i).lp ≠ (S i).pp
  dis : ∀ i, i < 2 → ∀ j, j < 2 → j ≠ i → ∀ a ∈ (S j).g, a ∉ (S i).g
  hdn : ∀ i, i < 2 → hd ∉ (S i).g
  wl : ∀ i, i < 2 → H (S i).wl = some (.lst (S i).xs)
  wn : ∀ i, i < 2 → (S i).wl ∉ L
  ww : ∀ i, i < 2 → Ws H (S i).xs (S i).ws
  jj : ∀ i, i < 2 → J (S i).ws
def HEn (L : List Addr) (H : Hp) (x : V) : Prop := ∃ (t a b : Addr) (ns : List Int), x = .ref t ∧ t ∉ L ∧ a ∉ L ∧ b ∉ L ∧ H t = some (.tup [.ref a, .ref b]) ∧ H a = some (.lst (ns.map V.int)) ∧ H b = some (.lst (ns.map V.int))
theorem HEn.keep {L : List Addr} {H H' : Hp} {x : V} (h : HEn L H x) (k : Keep L H H') : HEn L H' x := by
  obtain ⟨t, a, b, ns, rfl, n1, n2, n3, h1, h2, h3⟩ := h
  exact ⟨t, a, b, ns, rfl, n1, n2, n3, k _ _ n1 h1, k _ _ n2 h2, k _ _ n3 h3⟩
theorem two_at {S : Nat → V} {k : Nat} (h : k < 2) : atI [S 0, S 1] (k : Int) = some (S k) := by
  have : k = 0 ∨ k = 1 := by omega
  rcases this with rfl | rfl <;> rfl
section
variable {P : Program} {w : World} {K : PySem.W.Frag} {mg : Str → Option Value} {base : Heap} {f : Addr} {fd : FuncData}
abbrev NLw : List Str := ["script", "cells", "words", "readers", "pasts", "held", "cell", "k", "letter"]
def spLaw (K : PySem.W.Frag) : Sp := fun vs H Q _ => ∃ (a : Addr) (ns : List Int), vs = [.ref a] ∧ SqL K H a (ns.map V.int) ∧ ns.length ≤ 63 ∧ ∀ H', Q (.bl true) H'
theorem scLaw : FnScope NLw ["script"] (defScope sLaw) := ⟨rfl, rfl, rfl, by decide +kernel, rfl, by decide +kernel, by decide +kernel⟩
theorem ndLw : (("told" : Str) :: "kept" :: NLw).Nodup := by decide +kernel
set_option maxHeartbeats 16000000 in
theorem ok_law {C CC CN CB CL : Addr} {e : Addr} {ed : FuncData} (F : Fun K "law" "law" sLaw e ed) (GA : Fns P w K mg base ["script", "k"] "_law_cell_at" (spCell K) 8) (GW : Fns P w K mg base ["cells", "cell"] "_law_words" (spWords K) 8) (GD : Fns P w K mg base ["words", "rest", "cell"] "_law_deed" spDeed 8)
    (GN : Fns P w K mg base ["reader", "words", "past", "letter"] "_law_done" (spDone C) 8) (GS : Fns P w K mg base ["reader", "past"] "_law_stands" (spStands C) 8) (R : Rdr P w K mg base C CC CN CB CL)
    (mL : mg "list" = none) (mt : mg "tuple" = none) (mv : mg "reversed" = none) (ma : mg "all" = none) : FnOk P w K mg base CX0 9 e ed ["script"] (spLaw K) := by
  refine F.ok (k := 8) scLaw (fun vs H Q E h => ?_) (fun cdv A outer s H vs Q E hr h => ?_)
  · obtain ⟨a, ns, rfl, _⟩ := h
    rfl
  obtain ⟨a, ns, rfl, hS, h63, q⟩ := h
  refine ⟨_, pss_cons (ps_set (i := 1) scLaw.nd rfl (Or.inl rfl) (pe_callTy call_list_of (by rfl) mL b_list (pa_cons (pe_slice sl_list (pv 0) (po_some pe_int) (po_some pe_int)) pa_nil)))
    (pss_cons (ps_set (i := 2) scLaw.nd rfl (Or.inl rfl) (pe_lst (pa_cons (pe_call GW.ok hr (by rfl) GW.m GW.kp GW.b .nil pass0 (pa_cons (pv 1) (pa_cons (pe_call GA.ok hr (by rfl) GA.m GA.kp GA.b .nil pass0 (pa_cons (pv 0) (pa_cons pe_int pa_nil))) pa_nil))) pa_nil)))
    (pss_cons (ps_expr (pe_bm PySem.F.plainAttrs_list PySem.F.slot_list_append PySem.F.type_list_append mt_append (pv 2) (pa_cons (pe_call GW.ok hr (by rfl) GW.m GW.kp GW.b .nil pass0 (pa_cons (pe_listrev rfl (by rfl) mL (by rfl) mv (pv 1)) (pa_cons (pe_call GA.ok hr (by rfl) GA.m GA.kp GA.b .nil pass0 (pa_cons (pv 0) (pa_cons pe_int pa_nil))) pa_nil))) pa_nil)))
    (pss_cons (ps_set (i := 3) scLaw.nd rfl (Or.inl rfl) (pe_lst (pa_cons (pe_make R.mkk (R.oki.mono (k := 7) (by decide)) hr (by rfl) R.g R.bi .nil passN (pa_cons (pe_callTy call_tuple_of (by rfl) mt b_tuple (pa_cons (pe_ix ix_list (pv 2) pe_int (fun _ _ => rfl)) pa_nil)) pa_nil))
      (pa_cons (pe_make R.mkk (R.oki.mono (k := 7) (by decide)) hr (by rfl) R.g R.bi .nil passN (pa_cons (pe_callTy call_tuple_of (by rfl) mt b_tuple (pa_cons (pe_ix ix_list (pv 2) pe_int (fun _ _ => rfl)) pa_nil)) pa_nil)) pa_nil))))
    (pss_cons (ps_set (i := 4) scLaw.nd rfl (Or.inl rfl) (pe_lst (pa_cons (pe_lst (pa_cons (pe_tup (pa_cons (pe_lst pa_nil) (pa_cons (pe_tup pa_nil) pa_nil))) pa_nil)) (pa_cons (pe_lst (pa_cons (pe_tup (pa_cons (pe_lst pa_nil) (pa_cons (pe_tup pa_nil) pa_nil))) pa_nil)) pa_nil))))
    (pss_cons (ps_set (i := 5) scLaw.nd rfl (Or.inl rfl) (pe_lst pa_nil))
    (pss_cons (ps_for PassesOwn.never rfl (pi_list (pe_op op_cat (pe_lst (pa_cons pe_int pa_nil)) (pe_callTy call_list_of (by rfl) mL b_list (pa_cons (pe_slice sl_list (pv 0) (po_some pe_int) po_none) pa_nil)))) (pg_name (i := 6) scLaw.nd rfl (Or.inl rfl))
      (pss_cons (ps_set (i := 7) scLaw.nd rfl (Or.inl rfl) (pe_op op_mod (pe_op op_fdiv (pv 6) pe_int) pe_int))
      (pss_cons (ps_set (i := 8) scLaw.nd rfl (Or.inl rfl) (pe_call GD.ok hr (by rfl) GD.m GD.kp GD.b .nil pass0 (pa_cons (pe_ix ix_list (pv 2) (pv 7) (fun _ _ => rfl)) (pa_cons (pe_ix ix_tup (pe_ix ix_list (pe_ix ix_list (pv 4) (pv 7) (fun _ _ => rfl)) (pe_un un_neg pe_int) (fun _ _ => rfl)) pe_int (fun _ _ => rfl)) (pa_cons (pe_op op_fdiv (pv 6) pe_int) pa_nil)))))
      (pss_cons (ps_if (pt_not (pt_val (pe_call GN.ok hr (by rfl) GN.m GN.kp GN.b .nil pass0 (pa_cons (pe_ix ix_list (pv 3) (pv 7) (fun _ _ => rfl)) (pa_cons (pe_ix ix_list (pv 2) (pv 7) (fun _ _ => rfl)) (pa_cons (pe_ix ix_list (pv 4) (pv 7) (fun _ _ => rfl)) (pa_cons (pv 8) pa_nil))))))) (pss_one (ps_ret pe_bl)) pss_nil)
      (pss_cons (ps_if (PW.pt (pw_or (pt_not (pt_val (pe_call GS.ok hr (by rfl) GS.m GS.kp GS.b .nil pass0 (pa_cons (pe_ix ix_list (pv 3) pe_int (fun _ _ => rfl)) (pa_cons (pe_ix ix_list (pv 4) pe_int (fun _ _ => rfl)) pa_nil)))))
          (pw_or1 (pt_not (pt_val (pe_call GS.ok hr (by rfl) GS.m GS.kp GS.b .nil pass0 (pa_cons (pe_ix ix_list (pv 3) pe_int (fun _ _ => rfl)) (pa_cons (pe_ix ix_list (pv 4) pe_int (fun _ _ => rfl)) pa_nil)))))))) (pss_one (ps_ret pe_bl)) pss_nil)
      (pss_one (ps_expr (pe_bm PySem.F.plainAttrs_list PySem.F.slot_list_append PySem.F.type_list_append mt_append (pv 5) (pa_cons (pe_tup (pa_cons (pe_meth0 (pe_ix ix_list (pv 3) (pv 7) (fun _ _ => rfl)) R.rc.c R.mo (R.oko.mono (k := 8) (by decide)) hr R.bo .nil pass0) (pa_cons (pe_ix ix_tup (pe_ix ix_list (pe_ix ix_list (pv 4) (pv 7) (fun _ _ => rfl)) (pe_un un_neg pe_int) (fun _ _ => rfl)) pe_int (fun _ _ => rfl)) pa_nil))) pa_nil)))))))))
    (pss_one (ps_ret (pe_callB (call_all rfl) (by rfl) ma b_all (pa_cons (pe_compP K (M := NLw) rfl (CompScope.of (defScope sLaw) NLw rfl rfl rfl (by decide +kernel) (by decide +kernel) (by decide +kernel) rfl (by decide +kernel)) ndLw rfl rfl (pv 5) mo_var
      (fun cl C s0 H0 fp pins σ bk => ⟨pts_nil, pe_cmpR (op_eqLI (hu4 hr)) (pv 0) (pv 1) (nomark _)⟩)) pa_nil)))))))))), ?_⟩
  obtain ⟨ms, em, lm⟩ := cuts_ints ns (some 2) (some 20)
  have lm40 : ms.length ≤ 40 := by
    have e : (ms.map V.int).length = ms.length := List.length_map ..
    rw [← e, ← em]
    unfold cutV
    rw [List.length_take]
    have h2 : HT.sIx (ns.map V.int).length 0 (some 2) = min 2 (ns.map V.int).length := HT.sIx_nat ..
    have h18 : HT.sIx (ns.map V.int).length (ns.map V.int).length (some 20) = min 20 (ns.map V.int).length := HT.sIx_nat ..
    rw [h2, h18]
    omega
  refine ⟨_, rfl, _, rfl, _, rfl, a, _, rfl, hS, fun p0 hp0 => ?_⟩
  have s0 := same_newO hp0 (.lst (cutV (ns.map V.int) (some 2) (some 20)))
  have g0 : upd H p0 (.lst (cutV (ns.map V.int) (some 2) (some 20))) p0 = some (.lst (ms.map V.int)) := by rw [upd_same, em]
  generalize upd H p0 (.lst (cutV (ns.map V.int) (some 2) (some 20))) = H0 at s0 g0 ⊢
  refine ⟨p0, _, rfl, .inl (SqL.of g0), fun p1 hp1 => ?_⟩
  have s1 := same_newO hp1 (.lst (ms.map V.int))
  have g1 : upd H0 p1 (.lst (ms.map V.int)) p1 = some (.lst (ms.map V.int)) := upd_same
  have t1 := s0.trans s1
  generalize upd H0 p1 (.lst (ms.map V.int)) = H1 at t1 g1 ⊢
  refine ⟨_, rfl, _, rfl, a, ns, 0, rfl, t1.seq hS, by decide, fun c0 => ?_⟩
  refine ⟨p1, ms, c0, rfl, SqL.of g1, lm40, fun w0 H2 xs0 ws0 s2 hw0 hW0 j0 => ?_⟩
  have t2 := t1.trans s2
  refine ⟨(by show 1 ≤ sizeLine; decide), fun wL hwL => ?_⟩
  have s3 := same_newO hwL (.lst [.ref w0])
  have g3 : upd H2 wL (.lst [.ref w0]) wL = some (.lst [.ref w0]) := upd_same
  generalize upd H2 wL (.lst [.ref w0]) = H3 at s3 g3 ⊢
  have t3 := t2.trans s3
  refine ⟨_, rfl, .inl ⟨rfl, _, SqL.of g3⟩, _, rfl, p1, _, rfl, s3 _ _ (s2 _ _ g1), fun p4 hp4 => ?_⟩
  have s4 := same_newO hp4 (.lst (ms.map V.int).reverse)
  have g4 : upd H3 p4 (.lst (ms.map V.int).reverse) p4 = some (.lst (ms.reverse.map V.int)) := by rw [upd_same, List.map_reverse]
  generalize upd H3 p4 (.lst (ms.map V.int).reverse) = H4 at s4 g4 ⊢
  have t4 := t3.trans s4
  refine ⟨_, rfl, a, ns, 1, rfl, t4.seq hS, by decide, fun c1 => ?_⟩
  refine ⟨p4, ms.reverse, c1, rfl, SqL.of g4, by rw [List.length_reverse]; exact lm40, fun w1 H5 xs1 ws1 s5 hw1 hW1 j1 => ?_⟩
  have s35 := s4.trans s5
  have g5 := s35 _ _ g3
  have s25 := s3.trans s35
  have nw : w1 ≠ wL := fun z => by
    rw [z, g5] at hw1
    have e1 : [V.ref w0] = xs1 := by cases hw1; rfl
    have jo := j1.o
    rw [← e1] at hW1
    cases hW1 with
    | cons r _ =>
      obtain ⟨b, eb, hb⟩ := Wd.ti r
      cases eb
      have := s25 _ _ hw0
      rw [show H5 w0 = _ from hb] at this
      cases this
  refine ⟨wL, _, _, rfl, rfl, g5, small1000 (by show 1 ≤ 1000; decide), ?_⟩
  have g6 : upd H5 wL (.lst [.ref w0, .ref w1]) wL = some (.lst [.ref w0, .ref w1]) := upd_same
  have s26 : Same H2 (upd H5 wL (.lst [.ref w0, .ref w1])) := same_upd hwL s25
  have hw16 : upd H5 wL (.lst [.ref w0, .ref w1]) w1 = some (.lst xs1) := by rw [upd_ne nw]; exact hw1
  have hW16 : Ws (upd H5 wL (.lst [.ref w0, .ref w1])) xs1 ws1 := Ws.upd g5 hW1
  rw [show [V.ref w0] ++ [V.ref w1] = [.ref w0, .ref w1] from rfl]
  generalize upd H5 wL (.lst [.ref w0, .ref w1]) = H6 at g6 s26 hw16 hW16 ⊢
  have t6 := t2.trans s26
  have hw06 := s26 _ _ hw0
  have hW06 := hW0.same s26
  clear hW1 hw1 nw g5 s25 s35 hW0 hw0 s26 t4 t3 t2 t1 g4 g3 g1 g0 s0
  -- the readers
  refine ⟨_, rfl, wL, _, _, _, rfl, rfl, SqL.of g6, (rfl : atI [V.ref w0, .ref w1] 0 = _), w0, _, rfl, .inl ⟨SqL.of hw06, fun tt htt => ?_⟩⟩
  have s7 := same_newO htt (.tup xs0)
  have g7 : upd H6 tt (.tup xs0) tt = some (.tup xs0) := upd_same
  generalize upd H6 tt (.tup xs0) = H7 at s7 g7 ⊢
  refine fun r0 dx0 rn0 hdx0 _ => ?_
  have sm := same_made (C := C) rn0 hdx0
  refine ⟨r0, dx0, tt, xs0, ws0, rfl, upd_same, sm _ _ g7, (hW06.same s7).same sm, by have := j0.l1; omega, fun x hx => by have := j0.l2 x hx; omega, fun _ => j0.h64, fun i j io => (by cases isF_inj io j0.nf), fun _ me => absurd me j0.ne, fun _ _ H8 d0 lt0 lp0 k8 ra0 dn0 ltn0 lpn0 => ⟨rfl, ?_⟩⟩
  have s78 : Same H7 H8 := keep_same sm k8 fun a ha => by rw [List.mem_singleton.mp ha]; exact rn0
  have s68 := s7.trans s78
  have fr0 : ∀ a ∈ [r0, lt0, lp0], H6 a = none := fun a ha => by
    simp only [List.mem_cons, List.not_mem_nil, or_false] at ha
    rcases ha with rfl | rfl | rfl
    · exact s7.free rn0
    · exact s7.free (sm.free ltn0)
    · exact s7.free (sm.free lpn0)
  refine ⟨_, rfl, wL, _, _, _, rfl, rfl, SqL.of (s68 _ _ g6), (rfl : atI [V.ref w0, .ref w1] 1 = _), w1, _, rfl, .inl ⟨SqL.of (s68 _ _ hw16), fun tu htu => ?_⟩⟩
  have s9 := same_newO htu (.tup xs1)
  have g9 : upd H8 tu (.tup xs1) tu = some (.tup xs1) := upd_same
  generalize upd H8 tu (.tup xs1) = H9 at s9 g9 ⊢
  refine fun r1 dx1 rn1 hdx1 _ => ?_
  have sn := same_made (C := C) rn1 hdx1
  have s69 := s68.trans s9
  refine ⟨r1, dx1, tu, xs1, ws1, rfl, upd_same, sn _ _ g9, (hW16.same s69).same sn, by have := j1.l1; omega, fun x hx => by have := j1.l2 x hx; omega, fun _ => j1.h64, fun i j io => (by cases isF_inj io j1.nf), fun _ me => absurd me j1.ne, fun _ _ HA d1 lt1 lp1 kA ra1 dn1 ltn1 lpn1 => ⟨rfl, ?_⟩⟩
  have s9A : Same H9 HA := keep_same sn kA fun a ha => by rw [List.mem_singleton.mp ha]; exact rn1
  have s8A := s9.trans s9A
  have s6A := s68.trans s8A
  have fr1 : ∀ a ∈ [r1, lt1, lp1], H8 a = none := fun a ha => by
    simp only [List.mem_cons, List.not_mem_nil, or_false] at ha
    rcases ha with rfl | rfl | rfl
    · exact s9.free rn1
    · exact s9.free (sn.free ltn1)
    · exact s9.free (sn.free lpn1)
  have ra0A := ra0.same s8A
  have mu0 := ra0.mu
  have d01 : ∀ a ∈ [r1, lt1, lp1], a ∉ [r0, lt0, lp0] := fun a ha => mu0.free (fr1 a ha)
  have m0A := ra0A.mu
  have m1A := ra1.mu
  refine ⟨(by show 2 ≤ sizeLine; decide), fun rl hrl => ?_⟩
  have sB := same_newO hrl (.lst [.ref r0, .ref r1])
  have gB : upd HA rl (.lst [.ref r0, .ref r1]) rl = some (.lst [.ref r0, .ref r1]) := upd_same
  generalize upd HA rl (.lst [.ref r0, .ref r1]) = HB at sB gB ⊢
  -- the pasts
  refine ⟨(by show 0 ≤ sizeLine; decide), fun e0 he0 => ?_⟩
  have sC := same_newO he0 (.lst [])
  have gC : upd HB e0 (.lst []) e0 = some (.lst (([] : List Int).map V.int)) := upd_same
  generalize upd HB e0 (.lst []) = HC at sC gC ⊢
  refine ⟨(by show 0 ≤ sizeLine; decide), fun u0 hu0 => ?_⟩
  have sD := same_newO hu0 (.tup [])
  have gD : TW (upd HC u0 (.tup [])) u0 [] := upd_same
  generalize upd HC u0 (.tup []) = HD at sD gD ⊢
  refine ⟨(by show 2 ≤ sizeLine; decide), fun t0 ht0 => ?_⟩
  have sE := same_newO ht0 (.tup [.ref e0, .ref u0])
  have gE : upd HD t0 (.tup [.ref e0, .ref u0]) t0 = some (.tup [.ref e0, .ref u0]) := upd_same
  generalize upd HD t0 (.tup [.ref e0, .ref u0]) = HE at sE gE ⊢
  refine ⟨(by show 1 ≤ sizeLine; decide), fun pp0 hpp0 => ?_⟩
  have sF := same_newO hpp0 (.lst [.ref t0])
  have gF : upd HE pp0 (.lst [.ref t0]) pp0 = some (.lst [.ref t0]) := upd_same
  generalize upd HE pp0 (.lst [.ref t0]) = HF at sF gF ⊢
  refine ⟨(by show 0 ≤ sizeLine; decide), fun e1 he1 => ?_⟩
  have sG := same_newO he1 (.lst [])
  have gG : upd HF e1 (.lst []) e1 = some (.lst (([] : List Int).map V.int)) := upd_same
  generalize upd HF e1 (.lst []) = HG at sG gG ⊢
  refine ⟨(by show 0 ≤ sizeLine; decide), fun u1 hu1 => ?_⟩
  have sI := same_newO hu1 (.tup [])
  have gI : TW (upd HG u1 (.tup [])) u1 [] := upd_same
  generalize upd HG u1 (.tup []) = HI at sI gI ⊢
  refine ⟨(by show 2 ≤ sizeLine; decide), fun t1 ht1 => ?_⟩
  have sJ := same_newO ht1 (.tup [.ref e1, .ref u1])
  have gJ : upd HI t1 (.tup [.ref e1, .ref u1]) t1 = some (.tup [.ref e1, .ref u1]) := upd_same
  generalize upd HI t1 (.tup [.ref e1, .ref u1]) = HJ at sJ gJ ⊢
  refine ⟨(by show 1 ≤ sizeLine; decide), fun pp1 hpp1 => ?_⟩
  have sK := same_newO hpp1 (.lst [.ref t1])
  have gK : upd HJ pp1 (.lst [.ref t1]) pp1 = some (.lst [.ref t1]) := upd_same
  generalize upd HJ pp1 (.lst [.ref t1]) = HK at sK gK ⊢
  refine ⟨(by show 2 ≤ sizeLine; decide), fun pL hpL => ?_⟩
  have sL := same_newO hpL (.lst [.ref pp0, .ref pp1])
  have gL : upd HK pL (.lst [.ref pp0, .ref pp1]) pL = some (.lst [.ref pp0, .ref pp1]) := upd_same
  generalize upd HK pL (.lst [.ref pp0, .ref pp1]) = HL at sL gL ⊢
  -- held
  refine ⟨(by show 0 ≤ sizeLine; decide), fun hd hhd => ?_⟩
  have sM := same_newO hhd (.lst [])
  have gM : upd HL hd (.lst []) hd = some (.lst []) := upd_same
  generalize upd HL hd (.lst []) = HM at sM gM ⊢
  have sJM := (sK.trans sL).trans sM
  have sFJ := (sG.trans sI).trans sJ
  have sBE := (sC.trans sD).trans sE
  have sAM := (((sB.trans sBE).trans sF).trans sFJ).trans sJM
  have sFM := sFJ.trans sJM
  -- where each is new
  have fpp0 : HA pp0 = none := (sB.trans sBE).free hpp0
  have fpp1 : HF pp1 = none := sFJ.free hpp1
  have sAF := (sB.trans sBE).trans sF
  have fpp1A : HA pp1 = none := sAF.free fpp1
  have fhdA : HA hd = none := (((sAF.trans sFJ).trans sK).trans sL).free hhd
  have n_pp : pp1 ≠ pp0 := fun z => by rw [z, gF] at fpp1; cases fpp1
  have n_hp0 : hd ≠ pp0 := fun z => by
    have := ((sFJ.trans sK).trans sL) _ _ gF
    rw [← z, hhd] at this
    cases this
  have n_hp1 : hd ≠ pp1 := fun z => by
    have := sL _ _ gK
    rw [← z, hhd] at this
    cases this
  let S : Nat → Side := fun i => if i = 0 then ⟨r0, d0, lt0, lp0, pp0, w0, xs0, ws0⟩ else ⟨r1, d1, lt1, lp1, pp1, w1, xs1, ws1⟩
  have in2 : ∀ i, i < 2 → i = 0 ∨ i = 1 := fun i h => by omega
  generalize eL : [r0, lt0, lp0, pp0, r1, lt1, lp1, pp1, hd] = L
  have memL : ∀ a, a ∈ L ↔ a ∈ [r0, lt0, lp0] ∨ a = pp0 ∨ a ∈ [r1, lt1, lp1] ∨ a = pp1 ∨ a = hd := fun a => by
    rw [← eL]
    simp only [List.mem_cons, List.not_mem_nil, or_false, or_assoc]
  have memG : ∀ (r lt lp pp a : Addr), a ∈ [r, lt, lp, pp] ↔ a ∈ [r, lt, lp] ∨ a = pp := fun r lt lp pp a => by
    simp only [List.mem_cons, List.not_mem_nil, or_false, or_assoc]
  have frL : ∀ a ∈ L, H6 a = none := fun a ha => by
    rcases (memL a).mp ha with h | rfl | h | rfl | rfl
    · exact fr0 a h
    · exact s6A.free fpp0
    · exact s68.free (fr1 a h)
    · exact s6A.free fpp1A
    · exact s6A.free fhdA
  have nol6 : ∀ {a o}, H6 a = some o → a ∉ L := fun e z => by rw [frL _ z] at e; cases e
  have muM : Mu L HM := fun a ha => by
    rcases (memL a).mp ha with h | rfl | h | rfl | rfl
    · exact (m0A.same sAM) a h
    · exact ⟨_, sFM _ _ gF, .inl ⟨_, rfl⟩⟩
    · exact (m1A.same sAM) a h
    · exact ⟨_, (sL.trans sM) _ _ gK, .inl ⟨_, rfl⟩⟩
    · exact ⟨_, gM, .inl ⟨_, rfl⟩⟩
  -- what a list of L holds
  have holds : ∀ a ∈ L, ∀ x y ys, HM a ≠ some (.lst (x :: y :: ys)) := fun a ha x y ys z => by
    rcases (memL a).mp ha with h | rfl | h | rfl | rfl
    · have r := ra0A.same sAM
      obtain ⟨⟨dx, tl, h1, h2⟩, _, h5, ⟨pv, h6, h7⟩, _⟩ := r
      cases h7
      simp only [List.mem_cons, List.not_mem_nil, or_false] at h
      rcases h with rfl | rfl | rfl
      · rw [h1] at z; cases z
      · rw [h5] at z; cases z
      · rw [h6] at z; cases z
    · rw [sFM _ _ gF] at z; cases z
    · have r := ra1.same sAM
      obtain ⟨⟨dx, tl, h1, h2⟩, _, h5, ⟨pv, h6, h7⟩, _⟩ := r
      cases h7
      simp only [List.mem_cons, List.not_mem_nil, or_false] at h
      rcases h with rfl | rfl | rfl
      · rw [h1] at z; cases z
      · rw [h5] at z; cases z
      · rw [h6] at z; cases z
    · rw [(sL.trans sM) _ _ gK] at z; cases z
    · rw [gM] at z; cases z
  have frE0 : e0 ∉ L := fun z => by
    rcases (memL e0).mp z with h | h | h | h | h
    · exact (m0A.same sB).free he0 h
    · rw [h] at gC
      have := (sD.trans sE) _ _ gC
      rw [hpp0] at this; cases this
    · exact (m1A.same sB).free he0 h
    · have := (((sD.trans sE).trans sF).trans sFJ) _ _ gC
      rw [h, hpp1] at this; cases this
    · have := (((((sD.trans sE).trans sF).trans sFJ).trans sK).trans sL) _ _ gC
      rw [h, hhd] at this; cases this
  have frE1 : e1 ∉ L := fun z => by
    rcases (memL e1).mp z with h | h | h | h | h
    · exact (m0A.same sAF).free he1 h
    · rw [h, gF] at he1; cases he1
    · exact (m1A.same sAF).free he1 h
    · have := (sI.trans sJ) _ _ gG
      rw [h, hpp1] at this; cases this
    · have := (((sI.trans sJ).trans sK).trans sL) _ _ gG
      rw [h, hhd] at this; cases this
  have sd0 : Sd C L ws0 HM r0 d0 lt0 lp0 pp0 [] ([], []) := by
    refine ⟨ra0A.same sAM, .nil, [.ref t0], sFM _ _ gF, .cons ⟨t0, e0, u0, rfl, ?_, frE0, ?_, (sF.trans sFM) _ _ gE, ((sD.trans sE).trans (sF.trans sFM)) _ _ gC, (sE.trans (sF.trans sFM)) _ _ gD⟩ .nil⟩
    · exact muM.tup ((sF.trans sFM) _ _ gE)
    · exact muM.tup ((sE.trans (sF.trans sFM)) _ _ gD)
  have sd1 : Sd C L ws1 HM r1 d1 lt1 lp1 pp1 [] ([], []) := by
    refine ⟨ra1.same sAM, .nil, [.ref t1], (sL.trans sM) _ _ gK, .cons ⟨t1, e1, u1, rfl, ?_, frE1, ?_, sJM _ _ gJ, ((sI.trans sJ).trans sJM) _ _ gG, (sJ.trans sJM) _ _ gI⟩ .nil⟩
    · exact muM.tup (sJM _ _ gJ)
    · exact muM.tup ((sJ.trans sJM) _ _ gI)
  have sdS : ∀ i, i < 2 → (S i).at C L HM [] ([], []) := fun i hi => by
    rcases in2 i hi with rfl | rfl
    · exact sd0
    · exact sd1
  have np00 : pp0 ∉ [r0, lt0, lp0] := m0A.free fpp0
  have np01 : pp0 ∉ [r1, lt1, lp1] := m1A.free fpp0
  have np10 : pp1 ∉ [r0, lt0, lp0] := m0A.free fpp1A
  have np11 : pp1 ∉ [r1, lt1, lp1] := m1A.free fpp1A
  have nh0 : hd ∉ [r0, lt0, lp0] := m0A.free fhdA
  have nh1 : hd ∉ [r1, lt1, lp1] := m1A.free fhdA
  have s6M := s6A.trans sAM
  have st : Std L hd S HM := by
    refine ⟨fun i hi a ha => ?_, (memL hd).mpr (.inr (.inr (.inr (.inr rfl)))), fun i hi => ?_, fun i hi => ?_, fun i hi j hj hij a ha z => ?_, fun i hi z => ?_, fun i hi => ?_, fun i hi => ?_, fun i hi => ?_, fun i hi => ?_⟩
    · rcases in2 i hi with rfl | rfl
      · rcases (memG _ _ _ _ _).mp ha with h | h
        · exact (memL a).mpr (.inl h)
        · exact (memL a).mpr (.inr (.inl h))
      · rcases (memG _ _ _ _ _).mp ha with h | h
        · exact (memL a).mpr (.inr (.inr (.inl h)))
        · exact (memL a).mpr (.inr (.inr (.inr (.inl h))))
    · rcases in2 i hi with rfl | rfl
      · exact fun z => np00 (by rw [← show lt0 = pp0 from z]; exact .tail _ (.head _))
      · exact fun z => np11 (by rw [← show lt1 = pp1 from z]; exact .tail _ (.head _))
    · rcases in2 i hi with rfl | rfl
      · exact fun z => np00 (by rw [← show lp0 = pp0 from z]; exact .tail _ (.tail _ (.head _)))
      · exact fun z => np11 (by rw [← show lp1 = pp1 from z]; exact .tail _ (.tail _ (.head _)))
    · rcases in2 i hi with rfl | rfl <;> rcases in2 j hj with rfl | rfl
      · exact hij rfl
      · rcases (memG _ _ _ _ _).mp ha with h | h <;> rcases (memG _ _ _ _ _).mp z with y | y
        · exact d01 a h y
        · exact np01 (by rw [← show a = pp0 from y]; exact h)
        · exact np10 (by rw [← show a = pp1 from h]; exact y)
        · exact n_pp ((show a = pp1 from h).symm.trans y)
      · rcases (memG _ _ _ _ _).mp ha with h | h <;> rcases (memG _ _ _ _ _).mp z with y | y
        · exact d01 a y h
        · exact np10 (by rw [← show a = pp1 from y]; exact h)
        · exact np01 (by rw [← show a = pp0 from h]; exact y)
        · exact n_pp ((show a = pp1 from y).symm.trans h)
      · exact hij rfl
    · rcases in2 i hi with rfl | rfl
      · rcases (memG _ _ _ _ _).mp z with y | y
        · exact nh0 y
        · exact n_hp0 y
      · rcases (memG _ _ _ _ _).mp z with y | y
        · exact nh1 y
        · exact n_hp1 y
    · rcases in2 i hi with rfl | rfl
      · exact s6M _ _ hw06
      · exact s6M _ _ hw16
    · rcases in2 i hi with rfl | rfl
      · exact nol6 hw06
      · exact nol6 hw16
    · rcases in2 i hi with rfl | rfl
      · exact hW06.same s6M
      · exact hW16.same s6M
    · rcases in2 i hi with rfl | rfl
      · exact j0
      · exact j1
  have hwLM : HM wL = some (.lst [.ref (S 0).wl, .ref (S 1).wl]) := s6M _ _ g6
  have hrlM : HM rl = some (.lst [.ref (S 0).r, .ref (S 1).r]) := ((sBE.trans sF).trans sFM) _ _ gB
  have hpLM : HM pL = some (.lst [.ref (S 0).pp, .ref (S 1).pp]) := sM _ _ gL
  have tM := t6.trans s6M
  have nwL : wL ∉ L := fun z => holds _ z _ _ _ hwLM
  have nrl : rl ∉ L := fun z => holds _ z _ _ _ hrlM
  have npL : pL ∉ L := fun z => holds _ z _ _ _ hpLM
  clear_value S
  clear sd0 sd1 holds frE0 frE1 d01 np00 np01 np10 np11 nh0 nh1 nol6 frL memL memG n_pp n_hp0 n_hp1 fpp0 fpp1 fpp1A fhdA
  -- what is walked
  refine ⟨(by show 1 ≤ sizeLine; decide), fun z0 hz0 => ?_⟩
  have sN := same_newO hz0 (.lst [.int 0])
  have gN : upd HM z0 (.lst [.int 0]) z0 = some (.lst [.int 0]) := upd_same
  generalize upd HM z0 (.lst [.int 0]) = HN at sN gN ⊢
  obtain ⟨ks, ek, lk⟩ := cuts_ints ns (some 20) none
  refine ⟨_, rfl, _, rfl, a, _, rfl, (tM.trans sN).seq hS, fun z1 hz1 => ?_⟩
  have sO := same_newO hz1 (.lst (cutV (ns.map V.int) (some 20) none))
  have gO : upd HN z1 (.lst (cutV (ns.map V.int) (some 20) none)) z1 = some (.lst (ks.map V.int)) := by rw [upd_same, ek]
  generalize upd HN z1 (.lst (cutV (ns.map V.int) (some 20) none)) = HO at sO gO ⊢
  refine ⟨z1, _, rfl, .inl (SqL.of gO), fun z2 hz2 => ?_⟩
  have sP := same_newO hz2 (.lst (ks.map V.int))
  have gP : upd HO z2 (.lst (ks.map V.int)) z2 = some (.lst (ks.map V.int)) := upd_same
  generalize upd HO z2 (.lst (ks.map V.int)) = HP at sP gP ⊢
  have sNP := sO.trans sP
  refine ⟨z0, z2, _, _, rfl, rfl, sNP _ _ gN, gP, Nat.le_of_lt (small9 (by rw [List.length_map]; show 1 + ks.length ≤ 9001; omega)), fun zL hzL => ?_⟩
  have sQ := same_newO hzL (.lst ([V.int 0] ++ ks.map V.int))
  have gQ : upd HP zL (.lst ([V.int 0] ++ ks.map V.int)) zL = some (.lst ((0 :: ks).map V.int)) := upd_same
  have nzL : zL ∉ L := ((muM.same (sN.trans sNP))).free hzL
  generalize upd HP zL (.lst ([V.int 0] ++ ks.map V.int)) = HQ at sQ gQ ⊢
  have sMQ := (sN.trans sNP).trans sQ
  refine ⟨zL, rfl, ⟨_, SqL.of gQ⟩, ?_⟩
  refine for_list (xs := (0 :: ks).map V.int) (fun i σ H' => Keep L HM H' ∧ H' zL = some (.lst ((0 :: ks).map V.int)) ∧ Mu L H' ∧ (∃ (f : Nat → List (List Int × List Int)) (s : Nat → List Int × List Int) (hs : List V), (∀ k, k < 2 → (S k).at C L H' (f k) (s k) ∧ (f k).length ≤ i) ∧ H' hd = some (.lst hs) ∧ hs.length = i ∧ ∀ x ∈ hs, HEn L H' x) ∧ ∃ x6 x7 x8 : Option V, σ = [some (.ref a), some (.ref p1), some (.ref wL), some (.ref rl), some (.ref pL), some (.ref hd), x6, x7, x8])
    ⟨Keep.of sMQ, gQ, muM.same sMQ, ⟨fun _ => [], fun _ => ([], []), [], fun k hk => ⟨(sdS k hk).same sMQ, Nat.zero_le _⟩, sMQ _ _ gM, rfl, fun x hx => by cases hx⟩, _, _, _, rfl⟩ (fun i σ H' _ hP => SqL.of hP.2.1) (fun i x σ HR hx hP => ?_) (fun σ HR hP => ?_)
  · obtain ⟨kR, hzR, muR, ⟨f, s, hs, sds, hhR, lhs, ens⟩, x6, x7, x8, rfl⟩ := hP
    have il := (List.getElem?_eq_some_iff.mp hx).1
    rw [List.length_map, List.length_cons] at il
    rw [List.getElem?_map] at hx
    obtain ⟨z, hz, rfl⟩ := Option.map_eq_some_iff.mp hx
    refine ⟨_, rfl, _, _, rfl, rfl, ⟨by decide, by decide⟩, _, _, rfl, rfl, (by show (0 : Int) < _; decide), ?_⟩
    obtain ⟨k, hk⟩ : ∃ k : Nat, z / 36 % 2 = (k : Int) := ⟨(z / 36 % 2).toNat, by omega⟩
    have k2 : k < 2 := by omega
    dsimp only
    rw [hk]
    obtain ⟨sdk, lk'⟩ := sds k k2
    obtain ⟨es, x0, hpp, hes, t, l, u, rfl, n1, n2, n3, ht, hl, hu⟩ := sdk.last
    have j := st.jj k k2
    -- the letter
    refine ⟨_, rfl, _, rfl, wL, _, _, _, rfl, rfl, SqL.of (kR _ _ nwL hwLM), two_at (S := fun i => .ref (S i).wl) k2, ?_⟩
    refine ⟨_, rfl, _, rfl, pL, _, _, _, rfl, rfl, SqL.of (kR _ _ npL hpLM), two_at (S := fun i => .ref (S i).pp) k2, _, rfl, _, _, _, _, rfl, rfl, SqL.of hpp, atI_last _ _, t, _, _, _, rfl, rfl, SqT.of ht, (rfl : atI [V.ref l, .ref u] 1 = _), ?_⟩
    refine ⟨_, rfl, _, _, rfl, rfl, ⟨by decide, by decide⟩, ?_⟩
    refine ⟨(S k).wl, u, z / 72, (S k).xs, (S k).ws, (s k).2, rfl, kR _ _ (st.wn k k2) (st.wl k k2), kR.ws muM (st.ww k k2), j, hu, sdk.hi.key j, fun v HS sS hv => ?_⟩
    have kS := kR.same sS
    have muS := muR.same sS
    -- done
    refine ⟨_, rfl, _, rfl, rl, _, _, _, rfl, rfl, SqL.of (kS _ _ nrl hrlM), two_at (S := fun i => .ref (S i).r) k2, ?_⟩
    refine ⟨_, rfl, _, rfl, wL, _, _, _, rfl, rfl, SqL.of (kS _ _ nwL hwLM), two_at (S := fun i => .ref (S i).wl) k2, ?_⟩
    refine ⟨_, rfl, _, rfl, pL, _, _, _, rfl, rfl, SqL.of (kS _ _ npL hpLM), two_at (S := fun i => .ref (S i).pp) k2, ?_⟩
    refine ⟨_, rfl, L, (S k).r, (S k).d, (S k).lt, (S k).lp, (S k).pp, (S k).wl, (S k).xs, (S k).ws, f k, s k, v, rfl, sdk.same sS, muS, st.sub k k2, st.n1 k k2, st.n2 k k2, kS _ _ (st.wn k k2) (st.wl k k2), st.wn k k2, kS.ws muM (st.ww k k2), j, by omega, hv, fun HT f' s' kT muT sdT lf' => ?_⟩
    have kTL : Keep L HS HT := kT.sub (st.sub k k2)
    have mug : Mu (S k).g HS := muS.sub (st.sub k k2)
    have kMT := kS.trans kTL
    refine ⟨true, rfl, iteF ?_⟩
    -- both as they are now
    have all : ∀ m, m < 2 → ∃ fm sm, (S m).at C L HT fm sm ∧ fm.length ≤ i + 1 ∧ (m = k → sm = s') := fun m hm => by
      by_cases e : m = k
      · subst e
        exact ⟨f', s', sdT, by omega, fun _ => rfl⟩
      · obtain ⟨sdm, lm⟩ := sds m hm
        have dm := st.dis k k2 m hm e
        exact ⟨f m, s m, (sdm.same sS).keep kT mug (st.sub k k2) (dm _ (.head _)) (dm _ (.tail _ (.head _))) (dm _ (.tail _ (.tail _ (.head _)))) (dm _ (.tail _ (.tail _ (.tail _ (.head _))))), by omega, fun z => absurd z e⟩
    obtain ⟨f0, z0', sd0, lf0, ek0⟩ := all 0 (by decide)
    obtain ⟨f1, z1', sd1, lf1, ek1⟩ := all 1 (by decide)
    have hhT : HT hd = some (.lst hs) := kT _ _ (st.hdn k k2) (sS _ _ hhR)
    -- stands
    refine ⟨_, rfl, rl, _, _, _, rfl, rfl, SqL.of (kMT _ _ nrl hrlM), (rfl : atI [V.ref (S 0).r, .ref (S 1).r] 0 = _), _, rfl, pL, _, _, _, rfl, rfl, SqL.of (kMT _ _ npL hpLM), (rfl : atI [V.ref (S 0).pp, .ref (S 1).pp] 0 = _), ?_⟩
    refine ⟨L, (S 0).r, (S 0).d, (S 0).lt, (S 0).lp, (S 0).pp, (S 0).ws, f0, z0', rfl, sd0, by omega, fun HU sU => ⟨true, rfl, iteF ?_⟩⟩
    have kMU := kMT.same sU
    refine ⟨_, rfl, rl, _, _, _, rfl, rfl, SqL.of (kMU _ _ nrl hrlM), (rfl : atI [V.ref (S 0).r, .ref (S 1).r] 1 = _), _, rfl, pL, _, _, _, rfl, rfl, SqL.of (kMU _ _ npL hpLM), (rfl : atI [V.ref (S 0).pp, .ref (S 1).pp] 1 = _), ?_⟩
    refine ⟨L, (S 1).r, (S 1).d, (S 1).lt, (S 1).lp, (S 1).pp, (S 1).ws, f1, z1', rfl, sd1.same sU, by omega, fun HV sV => ⟨true, rfl, iteF ?_⟩⟩
    have sTV := sU.trans sV
    have kMV := kMU.same sV
    have sdV := sdT.same sTV
    -- held
    have hhV := sTV _ _ hhT
    obtain ⟨dx, fs, hr2, lk2⟩ := RAt.at_ sdV.ra "told" (by decide)
    refine ⟨_, rfl, .inl ⟨rfl, _, SqL.of hhV⟩, _, rfl, _, rfl, rl, _, _, _, rfl, rfl, SqL.of (kMV _ _ nrl hrlM), two_at (S := fun i => .ref (S i).r) k2, ?_⟩
    refine ⟨(S k).r, dx, fs, rfl, hr2, lk2, (S k).r, (S k).d, (S k).lt, (S k).lp, (S k).ws, s'.1, s'.2, _, rfl, sdV.ra, fun p HW sW fp hp => ?_⟩
    have kMW := kMV.same sW
    have sdW := sdV.same sW
    have muV := muT.same sTV
    have muW := muV.same sW
    obtain ⟨es2, x2, hpp2, hes2, t2, l2, u2, rfl, m1, m2, m3, ht2, hl2, hu2⟩ := sdW.last
    refine ⟨_, rfl, _, rfl, pL, _, _, _, rfl, rfl, SqL.of (kMW _ _ npL hpLM), two_at (S := fun i => .ref (S i).pp) k2, _, rfl, _, _, _, _, rfl, rfl, SqL.of hpp2, atI_last _ _, t2, _, _, _, rfl, rfl, SqT.of ht2, (rfl : atI [V.ref l2, .ref u2] 0 = _), ?_⟩
    refine ⟨(by show 2 ≤ sizeLine; decide), fun tX htX => ?_⟩
    have sX := same_newO htX (.tup [.ref p, .ref l2])
    have gX : upd HW tX (.tup [.ref p, .ref l2]) tX = some (.tup [.ref p, .ref l2]) := upd_same
    generalize upd HW tX (.tup [.ref p, .ref l2]) = HX at sX gX ⊢
    have muX := muW.same sX
    have sTX := (sTV.trans sW).trans sX
    have hhX := sTX _ _ hhT
    refine ⟨hd, _, _, rfl, rfl, hhX, small9 (by omega), ?_⟩
    have kY : Keep [hd] HX (upd HX hd (.lst (hs ++ [.ref tX]))) := Keep.upd (.head _)
    have kYL : Keep L HX (upd HX hd (.lst (hs ++ [.ref tX]))) := Keep.upd st.hin
    have gY : upd HX hd (.lst (hs ++ [.ref tX])) hd = some (.lst (hs ++ [.ref tX])) := upd_same
    have muY : Mu L (upd HX hd (.lst (hs ++ [.ref tX]))) := muX.upd
    generalize upd HX hd (.lst (hs ++ [.ref tX])) = HY at kY kYL gY muY ⊢
    have muh : Mu [hd] HX := muX.sub fun a ha => by rw [List.mem_singleton.mp ha]; exact st.hin
    have subh : ∀ a ∈ [hd], a ∈ L := fun a ha => by rw [List.mem_singleton.mp ha]; exact st.hin
    have nh : ∀ m, m < 2 → ∀ a ∈ (S m).g, a ∉ [hd] := fun m hm a ha z => st.hdn m hm (by rw [← List.mem_singleton.mp z]; exact ha)
    have kRT : Keep L HR HT := (Keep.of sS).trans kTL
    have kRY : Keep L HR HY := (kRT.same sTX).trans kYL
    have two : ∀ m, m < 2 → ∀ fm sm, (S m).at C L HT fm sm → (S m).at C L HY fm sm := fun m hm fm sm h => (h.same sTX).keep kY muh subh (nh m hm _ (.head _)) (nh m hm _ (.tail _ (.head _))) (nh m hm _ (.tail _ (.tail _ (.head _)))) (nh m hm _ (.tail _ (.tail _ (.tail _ (.head _)))))
    refine ⟨kR.trans kRY, kRY _ _ nzL hzR, muY, ⟨fun m => if m = 0 then f0 else f1, fun m => if m = 0 then z0' else z1', hs ++ [.ref tX], fun m hm => ?_, gY, by rw [List.length_append, lhs]; rfl, fun y hy => ?_⟩, _, _, _, rfl⟩
    · rcases in2 m hm with rfl | rfl
      · exact ⟨two 0 hm _ _ sd0, lf0⟩
      · exact ⟨two 1 hm _ _ sd1, lf1⟩
    · rcases List.mem_append.mp hy with h | h
      · exact (ens y h).keep kRY
      · rw [List.mem_singleton.mp h]
        refine HEn.keep ⟨tX, p, l2, s'.1, rfl, muX.tup gX, muV.free fp, m2, gX, sX _ _ hp, sX _ _ hl2⟩ kYL
  · obtain ⟨kR, hzR, muR, ⟨f, s, hs, sds, hhR, lhs, ens⟩, x6, x7, x8, rfl⟩ := hP
    have lh : hs.length ≤ 100 := by
      rw [lhs, List.length_map, List.length_cons]
      omega
    refine ⟨_, rfl, hd, _, rfl, SqL.of hhR, fun d2 hd2 => ?_⟩
    refine ⟨fun i H' => Same HR H' ∧ H' d2 = some (.lst ((List.replicate i true).map V.bl)), ⟨same_newO hd2 _, upd_same⟩, fun i H' _ hP => SqL.of (hP.1 _ _ hhR), fun i x H' hx hP => ?_, fun H' hP => ?_⟩
    · obtain ⟨s5, hd'⟩ := hP
      have il := (List.getElem?_eq_some_iff.mp hx).1
      obtain ⟨t, b1, b2, vs, rfl, _, _, _, h1, h2, h3⟩ := (ens x (List.mem_of_getElem? hx)).keep (Keep.of s5)
      refine ⟨t, _, _, rfl, SqT.of h1, turnZ_all ⟨_, rfl, _, rfl, b1, b2, vs, vs, rfl, rfl, h2, h3, _, hd', ?_, same_upd hd2 s5, ?_⟩⟩
      · rw [List.length_map, List.length_replicate]
        exact small1000 (by omega)
      · rw [upd_same, List.replicate_succ', List.map_append, decide_eq_true rfl]; rfl
    · obtain ⟨s5, hd'⟩ := hP
      refine ⟨d2, _, rfl, hd', ?_⟩
      have e : (List.replicate hs.length true).all id = true := by rw [List.all_eq_true]; intro z hz; rw [List.eq_of_mem_replicate hz]; rfl
      rw [e]
      exact q _
end
end K23
set_option Elab.async false
set_option linter.all false
set_option maxRecDepth 100000
namespace K23
open PySem L2
theorem all_mk {l : PySem.W.OpenLaw} {w : World} {K : PySem.W.Frag} {h : Heap} {mg : Str → Option Value} {fa f1 f2 f3 f4 f5 f6 f7 f8 f9 f10 f11 f12 f13 f14 f15 f16 : Addr} (X : K.In h) (G : h.Ns mainGlobals mg) (hfa : mg "law" = some (.ref fa))
    {od1 an1 od2 an2 od3 an3 od4 an4 od5 an5 od6 an6 od7 an7 od8 an8 od9 an9 od10 an10 od11 an11 od12 an12 od13 an13 od14 an14 od15 an15 od16 an16 : Option Addr} {sl1 sl2 sl3 sl4 sl5 sl6 sl7 sl8 sl9 sl10 sl11 sl12 sl13 sl14 sl15 sl16 : Array (Option Value)}
    {oc1 kV1 dc1 pm1 cd1 ct1 oc2 kV2 dc2 pm2 cd2 ct2 oc3 kV3 dc3 pm3 cd3 ct3 oc4 kV4 dc4 pm4 cd4 ct4 oc5 kV5 dc5 pm5 cd5 ct5 oc6 kV6 dc6 pm6 cd6 ct6 oc7 kV7 dc7 pm7 cd7 ct7 oc8 kV8 dc8 pm8 cd8 ct8 oc9 kV9 dc9 pm9 cd9 ct9 oc10 kV10 dc10 pm10 cd10 ct10 oc11 kV11 dc11 pm11 cd11 ct11 oc12 kV12 dc12 pm12 cd12 ct12 oc13 kV13 dc13 pm13 cd13 ct13 oc14 kV14 dc14 pm14 cd14 ct14 oc15 kV15 dc15 pm15 cd15 ct15 oc16 kV16 dc16 pm16 cd16 ct16 : Value}
    (a1 : PySem.W.nsIn K mainGlobals "ways_on" = some (some (.ref f1))) (l1 : K.lookup f1 = some ⟨oc1, od1, .func (PySem.W.fnOf "ways_on" "ways_on" (defArgs sWays) (defBody sWays) (defScope sWays) .none kV1 dc1 pm1 an1 cd1 ct1), sl1⟩) (c1 : PySem.W.codeIn K cd1 "ways_on" = true) (k1 : PySem.W.keepIn K (.ref f1) = true)
    (a2 : PySem.W.nsIn K mainGlobals "begins" = some (some (.ref f2))) (l2 : K.lookup f2 = some ⟨oc2, od2, .func (PySem.W.fnOf "begins" "begins" (defArgs sBegins) (defBody sBegins) (defScope sBegins) .none kV2 dc2 pm2 an2 cd2 ct2), sl2⟩) (c2 : PySem.W.codeIn K cd2 "begins" = true) (k2 : PySem.W.keepIn K (.ref f2) = true)
    (a3 : PySem.W.nsIn K mainGlobals "clash" = some (some (.ref f3))) (l3 : K.lookup f3 = some ⟨oc3, od3, .func (PySem.W.fnOf "clash" "clash" (defArgs sClash) (defBody sClash) (defScope sClash) .none kV3 dc3 pm3 an3 cd3 ct3), sl3⟩) (c3 : PySem.W.codeIn K cd3 "clash" = true) (k3 : PySem.W.keepIn K (.ref f3) = true)
    (a4 : PySem.W.nsIn K mainGlobals "refuse_clash" = some (some (.ref f4))) (l4 : K.lookup f4 = some ⟨oc4, od4, .func (PySem.W.fnOf "refuse_clash" "refuse_clash" (defArgs sRefuse) (defBody sRefuse) (defScope sRefuse) .none kV4 dc4 pm4 an4 cd4 ct4), sl4⟩) (c4 : PySem.W.codeIn K cd4 "refuse_clash" = true) (k4 : PySem.W.keepIn K (.ref f4) = true)
    (a5 : PySem.W.nsIn K mainGlobals "knots_of" = some (some (.ref f5))) (l5 : K.lookup f5 = some ⟨oc5, od5, .func (PySem.W.fnOf "knots_of" "knots_of" (defArgs sKnots) (defBody sKnots) (defScope sKnots) .none kV5 dc5 pm5 an5 cd5 ct5), sl5⟩) (c5 : PySem.W.codeIn K cd5 "knots_of" = true) (k5 : PySem.W.keepIn K (.ref f5) = true)
    (a6 : PySem.W.nsIn K mainGlobals "_law_cell_at" = some (some (.ref f6))) (l6 : K.lookup f6 = some ⟨oc6, od6, .func (PySem.W.fnOf "_law_cell_at" "_law_cell_at" (defArgs sCell) (defBody sCell) (defScope sCell) .none kV6 dc6 pm6 an6 cd6 ct6), sl6⟩) (c6 : PySem.W.codeIn K cd6 "_law_cell_at" = true) (k6 : PySem.W.keepIn K (.ref f6) = true)
    (a7 : PySem.W.nsIn K mainGlobals "_law_whole" = some (some (.ref f7))) (l7 : K.lookup f7 = some ⟨oc7, od7, .func (PySem.W.fnOf "_law_whole" "_law_whole" (defArgs sWhole) (defBody sWhole) (defScope sWhole) .none kV7 dc7 pm7 an7 cd7 ct7), sl7⟩) (c7 : PySem.W.codeIn K cd7 "_law_whole" = true) (k7 : PySem.W.keepIn K (.ref f7) = true)
    (a8 : PySem.W.nsIn K mainGlobals "_law_grown" = some (some (.ref f8))) (l8 : K.lookup f8 = some ⟨oc8, od8, .func (PySem.W.fnOf "_law_grown" "_law_grown" (defArgs sGrown) (defBody sGrown) (defScope sGrown) .none kV8 dc8 pm8 an8 cd8 ct8), sl8⟩) (c8 : PySem.W.codeIn K cd8 "_law_grown" = true) (k8 : PySem.W.keepIn K (.ref f8) = true)
    (a9 : PySem.W.nsIn K mainGlobals "_law_begun" = some (some (.ref f9))) (l9 : K.lookup f9 = some ⟨oc9, od9, .func (PySem.W.fnOf "_law_begun" "_law_begun" (defArgs sBegun) (defBody sBegun) (defScope sBegun) .none kV9 dc9 pm9 an9 cd9 ct9), sl9⟩) (c9 : PySem.W.codeIn K cd9 "_law_begun" = true) (k9 : PySem.W.keepIn K (.ref f9) = true)
    (a10 : PySem.W.nsIn K mainGlobals "_law_words" = some (some (.ref f10))) (l10 : K.lookup f10 = some ⟨oc10, od10, .func (PySem.W.fnOf "_law_words" "_law_words" (defArgs sWords) (defBody sWords) (defScope sWords) .none kV10 dc10 pm10 an10 cd10 ct10), sl10⟩) (c10 : PySem.W.codeIn K cd10 "_law_words" = true) (k10 : PySem.W.keepIn K (.ref f10) = true)
    (a11 : PySem.W.nsIn K mainGlobals "_law_deed" = some (some (.ref f11))) (l11 : K.lookup f11 = some ⟨oc11, od11, .func (PySem.W.fnOf "_law_deed" "_law_deed" (defArgs sDeed) (defBody sDeed) (defScope sDeed) .none kV11 dc11 pm11 an11 cd11 ct11), sl11⟩) (c11 : PySem.W.codeIn K cd11 "_law_deed" = true) (k11 : PySem.W.keepIn K (.ref f11) = true)
    (a12 : PySem.W.nsIn K mainGlobals "_law_told" = some (some (.ref f12))) (l12 : K.lookup f12 = some ⟨oc12, od12, .func (PySem.W.fnOf "_law_told" "_law_told" (defArgs sAsk) (defBody sAsk) (defScope sAsk) .none kV12 dc12 pm12 an12 cd12 ct12), sl12⟩) (c12 : PySem.W.codeIn K cd12 "_law_told" = true) (k12 : PySem.W.keepIn K (.ref f12) = true)
    (a13 : PySem.W.nsIn K mainGlobals "_law_place" = some (some (.ref f13))) (l13 : K.lookup f13 = some ⟨oc13, od13, .func (PySem.W.fnOf "_law_place" "_law_place" (defArgs sPlace) (defBody sPlace) (defScope sPlace) .none kV13 dc13 pm13 an13 cd13 ct13), sl13⟩) (c13 : PySem.W.codeIn K cd13 "_law_place" = true) (k13 : PySem.W.keepIn K (.ref f13) = true)
    (a14 : PySem.W.nsIn K mainGlobals "_law_stands" = some (some (.ref f14))) (l14 : K.lookup f14 = some ⟨oc14, od14, .func (PySem.W.fnOf "_law_stands" "_law_stands" (defArgs sStands) (defBody sStands) (defScope sStands) .none kV14 dc14 pm14 an14 cd14 ct14), sl14⟩) (c14 : PySem.W.codeIn K cd14 "_law_stands" = true) (k14 : PySem.W.keepIn K (.ref f14) = true)
    (a15 : PySem.W.nsIn K mainGlobals "_law_done" = some (some (.ref f15))) (l15 : K.lookup f15 = some ⟨oc15, od15, .func (PySem.W.fnOf "_law_done" "_law_done" (defArgs sDone) (defBody sDone) (defScope sDone) .none kV15 dc15 pm15 an15 cd15 ct15), sl15⟩) (c15 : PySem.W.codeIn K cd15 "_law_done" = true) (k15 : PySem.W.keepIn K (.ref f15) = true)
    (a16 : PySem.W.nsIn K mainGlobals "law" = some (some (.ref f16))) (l16 : K.lookup f16 = some ⟨oc16, od16, .func (PySem.W.fnOf "law" "law" (defArgs sLaw) (defBody sLaw) (defScope sLaw) .none kV16 dc16 pm16 an16 cd16 ct16), sl16⟩) (c16 : PySem.W.codeIn K cd16 "law" = true) (k16 : PySem.W.keepIn K (.ref f16) = true)
    (z1 : PySem.W.nsIn K mainGlobals "len" = some none)
    (z2 : PySem.W.nsIn K mainGlobals "range" = some none)
    (z3 : PySem.W.nsIn K mainGlobals "isinstance" = some none)
    (z4 : PySem.W.nsIn K mainGlobals "int" = some none)
    (z5 : PySem.W.nsIn K mainGlobals "bool" = some none)
    (z6 : PySem.W.nsIn K mainGlobals "tuple" = some none)
    (z7 : PySem.W.nsIn K mainGlobals "list" = some none)
    (z8 : PySem.W.nsIn K mainGlobals "all" = some none)
    (z9 : PySem.W.nsIn K mainGlobals "any" = some none)
    (z10 : PySem.W.nsIn K mainGlobals "sorted" = some none)
    (z11 : PySem.W.nsIn K mainGlobals "enumerate" = some none)
    (z12 : PySem.W.nsIn K mainGlobals "reversed" = some none)
    (z13 : PySem.W.nsIn K mainGlobals "ValueError" = some none)
    {D : Addr} (gD : PySem.W.nsIn K mainGlobals "TollError" = some (some (.ref D)))
    (xD : xcIn K D = true)
    (eD : PySem.W.excIn K D bmVE newVE = true)
    {CC : Addr} (gCC : PySem.W.nsIn K mainGlobals "Clash" = some (some (.ref CC)))
    (xCC : xcIn K CC = true)
    {CN : Addr} (gCN : PySem.W.nsIn K mainGlobals "NoReading" = some (some (.ref CN)))
    (xCN : xcIn K CN = true)
    (eCN : PySem.W.excIn K CN bmVE newVE = true)
    {CB : Addr} (gCB : PySem.W.nsIn K mainGlobals "BadLetter" = some (some (.ref CB)))
    (xCB : xcIn K CB = true)
    {CL : Addr} (gCL : PySem.W.nsIn K mainGlobals "NothingLeft" = some (some (.ref CL)))
    (xCL : xcIn K CL = true)
    (eCL : PySem.W.excIn K CL bmVE newVE = true)
    (sCBD : PySem.W.subIn K (.ref CB) (.ref D) = some true)
    (sCLD : PySem.W.subIn K (.ref CL) (.ref D) = some true)
    (sCBCL : PySem.W.subIn K (.ref CB) (.ref CL) = some false)
    (sCLCB : PySem.W.subIn K (.ref CL) (.ref CB) = some false)
    {i8 : Addr} (fi8 : PySem.W.findIn K (.ref CC) "__init__" = some (some (.ref i8)))
    (xi8 : exiIn K CC i8 = true)
    {oi8 : Value} {di8 : Option Addr} {ki8 ui8 mi8 : Value} {ni8 : Option Addr} {vi8 ti8 : Value} {si8 : Array (Option Value)} (li8 : K.lookup i8 = some ⟨oi8, di8, .func (PySem.W.fnOf "__init__" "Clash.__init__" (defArgs iClash) (defBody iClash) (defScope iClash) .none ki8 ui8 mi8 ni8 vi8 ti8), si8⟩)
    (ci8 : PySem.W.codeIn K vi8 "Clash.__init__" = true)
    (kki8 : PySem.W.keepIn K (.ref i8) = true)
    (es8 : estIn K CC = true)
    (kc8 : PySem.W.keepIn K (.ref CC) = true)
    (na8one : PySem.W.findIn K (.ref CC) "one" = some none)
    (na8other : PySem.W.findIn K (.ref CC) "other" = some none)
    {i9 : Addr} (fi9 : PySem.W.findIn K (.ref CB) "__init__" = some (some (.ref i9)))
    (xi9 : exiIn K CB i9 = true)
    {oi9 : Value} {di9 : Option Addr} {ki9 ui9 mi9 : Value} {ni9 : Option Addr} {vi9 ti9 : Value} {si9 : Array (Option Value)} (li9 : K.lookup i9 = some ⟨oi9, di9, .func (PySem.W.fnOf "__init__" "BadLetter.__init__" (defArgs iBad) (defBody iBad) (defScope iBad) .none ki9 ui9 mi9 ni9 vi9 ti9), si9⟩)
    (ci9 : PySem.W.codeIn K vi9 "BadLetter.__init__" = true)
    (kki9 : PySem.W.keepIn K (.ref i9) = true)
    (es9 : estIn K CB = true)
    (kc9 : PySem.W.keepIn K (.ref CB) = true)
    (na9at : PySem.W.findIn K (.ref CB) "at" = some none)
    {C : Addr} (gC : PySem.W.nsIn K mainGlobals "Reader" = some (some (.ref C)))
    {qCinit : Addr} (faCinit : PySem.W.findIn K (.ref C) "__init__" = some (some (.ref qCinit)))
    (fiCinit : PySem.W.isFn K (.ref qCinit) = true)
    {oiCinit : Value} {diCinit : Option Addr} {kiCinit : Value} {uiCinit : Value} {miCinit : Value} {niCinit : Option Addr} {viCinit : Value} {tiCinit : Value} {siCinit : Array (Option Value)} (liCinit : K.lookup qCinit = some ⟨oiCinit, diCinit, .func (PySem.W.fnOf "__init__" "Reader.__init__" (defArgs iRead) (defBody iRead) (defScope iRead) .none kiCinit uiCinit miCinit niCinit viCinit tiCinit), siCinit⟩)
    (ciCinit : PySem.W.codeIn K viCinit "Reader.__init__" = true)
    (kkCinit : PySem.W.keepIn K (.ref qCinit) = true)
    {qCtake : Addr} (faCtake : PySem.W.findIn K (.ref C) "take" = some (some (.ref qCtake)))
    (fiCtake : PySem.W.isFn K (.ref qCtake) = true)
    {oiCtake : Value} {diCtake : Option Addr} {kiCtake : Value} {uiCtake : Value} {miCtake : Value} {niCtake : Option Addr} {viCtake : Value} {tiCtake : Value} {siCtake : Array (Option Value)} (liCtake : K.lookup qCtake = some ⟨oiCtake, diCtake, .func (PySem.W.fnOf "take" "Reader.take" (defArgs sTake) (defBody sTake) (defScope sTake) .none kiCtake uiCtake miCtake niCtake viCtake tiCtake), siCtake⟩)
    (ciCtake : PySem.W.codeIn K viCtake "Reader.take" = true)
    (kkCtake : PySem.W.keepIn K (.ref qCtake) = true)
    {qCtold : Addr} (faCtold : PySem.W.findIn K (.ref C) "told" = some (some (.ref qCtold)))
    (fiCtold : PySem.W.isFn K (.ref qCtold) = true)
    {oiCtold : Value} {diCtold : Option Addr} {kiCtold : Value} {uiCtold : Value} {miCtold : Value} {niCtold : Option Addr} {viCtold : Value} {tiCtold : Value} {siCtold : Array (Option Value)} (liCtold : K.lookup qCtold = some ⟨oiCtold, diCtold, .func (PySem.W.fnOf "told" "Reader.told" (defArgs sTold) (defBody sTold) (defScope sTold) .none kiCtold uiCtold miCtold niCtold viCtold tiCtold), siCtold⟩)
    (ciCtold : PySem.W.codeIn K viCtold "Reader.told" = true)
    (kkCtold : PySem.W.keepIn K (.ref qCtold) = true)
    {qCrest : Addr} (faCrest : PySem.W.findIn K (.ref C) "rest" = some (some (.ref qCrest)))
    (fiCrest : PySem.W.isFn K (.ref qCrest) = true)
    {oiCrest : Value} {diCrest : Option Addr} {kiCrest : Value} {uiCrest : Value} {miCrest : Value} {niCrest : Option Addr} {viCrest : Value} {tiCrest : Value} {siCrest : Array (Option Value)} (liCrest : K.lookup qCrest = some ⟨oiCrest, diCrest, .func (PySem.W.fnOf "rest" "Reader.rest" (defArgs sRest) (defBody sRest) (defScope sRest) .none kiCrest uiCrest miCrest niCrest viCrest tiCrest), siCrest⟩)
    (ciCrest : PySem.W.codeIn K viCrest "Reader.rest" = true)
    (kkCrest : PySem.W.keepIn K (.ref qCrest) = true)
    {qCback : Addr} (faCback : PySem.W.findIn K (.ref C) "back" = some (some (.ref qCback)))
    (fiCback : PySem.W.isFn K (.ref qCback) = true)
    {oiCback : Value} {diCback : Option Addr} {kiCback : Value} {uiCback : Value} {miCback : Value} {niCback : Option Addr} {viCback : Value} {tiCback : Value} {siCback : Array (Option Value)} (liCback : K.lookup qCback = some ⟨oiCback, diCback, .func (PySem.W.fnOf "back" "Reader.back" (defArgs sBack) (defBody sBack) (defScope sBack) .none kiCback uiCback miCback niCback viCback tiCback), siCback⟩)
    (ciCback : PySem.W.codeIn K viCback "Reader.back" = true)
    (kkCback : PySem.W.keepIn K (.ref qCback) = true)
    (pgC : PySem.W.plainGet K C Str.empty = true)
    (hdC : PySem.W.hasDictIn K C = true)
    (poC : PySem.W.plainOver K C = true)
    (saC : PySem.W.findIn K (.ref C) "__setattr__" = some (some (.builtin "object.__setattr__")))
    (mkC : PySem.W.makesIn K C = true)
    (kcC : PySem.W.keepIn K (.ref C) = true)
    (naCfound : PySem.W.findIn K (.ref C) "found" = some none)
    (naCthings : PySem.W.findIn K (.ref C) "things" = some none)
    (naCleft : PySem.W.findIn K (.ref C) "left" = some none)
    (naCpast : PySem.W.findIn K (.ref C) "past" = some none) :
    ∃ fd : FuncData, (∀ (s : Shared) (v : Value), BindsTo s fd ⟨[v], []⟩ [("script", v)]) ∧ ∀ base : Heap, K.In base → base.Ns mainGlobals mg → FnOk l.prog w K mg base CX0 9 fa fd ["script"] (spLaw K) := by
  have e := hfa.symm.trans (PySem.W.mg_of X G a16)
  cases e
  have F1 := fun_mk (st := sWays) l1 c1 k1
  have m1 := PySem.W.mg_of X G a1
  have b1 := F1.binds (ps := ["code"]) fun _ _ _ _ _ _ us hl => match us, hl with | [_], _ => rfl
  have F2 := fun_mk (st := sBegins) l2 c2 k2
  have m2 := PySem.W.mg_of X G a2
  have b2 := F2.binds (ps := ["one", "other"]) fun _ _ _ _ _ _ us hl => match us, hl with | [_, _], _ => rfl
  have F3 := fun_mk (st := sClash) l3 c3 k3
  have m3 := PySem.W.mg_of X G a3
  have b3 := F3.binds (ps := ["code"]) fun _ _ _ _ _ _ us hl => match us, hl with | [_], _ => rfl
  have F4 := fun_mk (st := sRefuse) l4 c4 k4
  have m4 := PySem.W.mg_of X G a4
  have b4 := F4.binds (ps := ["code"]) fun _ _ _ _ _ _ us hl => match us, hl with | [_], _ => rfl
  have F5 := fun_mk (st := sKnots) l5 c5 k5
  have m5 := PySem.W.mg_of X G a5
  have b5 := F5.binds (ps := ["code"]) fun _ _ _ _ _ _ us hl => match us, hl with | [_], _ => rfl
  have F6 := fun_mk (st := sCell) l6 c6 k6
  have m6 := PySem.W.mg_of X G a6
  have b6 := F6.binds (ps := ["script", "k"]) fun _ _ _ _ _ _ us hl => match us, hl with | [_, _], _ => rfl
  have F7 := fun_mk (st := sWhole) l7 c7 k7
  have m7 := PySem.W.mg_of X G a7
  have b7 := F7.binds (ps := ["found"]) fun _ _ _ _ _ _ us hl => match us, hl with | [_], _ => rfl
  have F8 := fun_mk (st := sGrown) l8 c8 k8
  have m8 := PySem.W.mg_of X G a8
  have b8 := F8.binds (ps := ["cells", "letters", "most", "lone"]) fun _ _ _ _ _ _ us hl => match us, hl with | [_, _, _, _], _ => rfl
  have F9 := fun_mk (st := sBegun) l9 c9 k9
  have m9 := PySem.W.mg_of X G a9
  have b9 := F9.binds (ps := ["one", "other"]) fun _ _ _ _ _ _ us hl => match us, hl with | [_, _], _ => rfl
  have F10 := fun_mk (st := sWords) l10 c10 k10
  have m10 := PySem.W.mg_of X G a10
  have b10 := F10.binds (ps := ["cells", "cell"]) fun _ _ _ _ _ _ us hl => match us, hl with | [_, _], _ => rfl
  have F11 := fun_mk (st := sDeed) l11 c11 k11
  have m11 := PySem.W.mg_of X G a11
  have b11 := F11.binds (ps := ["words", "rest", "cell"]) fun _ _ _ _ _ _ us hl => match us, hl with | [_, _, _], _ => rfl
  have F12 := fun_mk (st := sAsk) l12 c12 k12
  have m12 := PySem.W.mg_of X G a12
  have b12 := F12.binds (ps := ["reader", "letter"]) fun _ _ _ _ _ _ us hl => match us, hl with | [_, _], _ => rfl
  have F13 := fun_mk (st := sPlace) l13 c13 k13
  have m13 := PySem.W.mg_of X G a13
  have b13 := F13.binds (ps := ["reader", "letter"]) fun _ _ _ _ _ _ us hl => match us, hl with | [_, _], _ => rfl
  have F14 := fun_mk (st := sStands) l14 c14 k14
  have m14 := PySem.W.mg_of X G a14
  have b14 := F14.binds (ps := ["reader", "past"]) fun _ _ _ _ _ _ us hl => match us, hl with | [_, _], _ => rfl
  have F15 := fun_mk (st := sDone) l15 c15 k15
  have m15 := PySem.W.mg_of X G a15
  have b15 := F15.binds (ps := ["reader", "words", "past", "letter"]) fun _ _ _ _ _ _ us hl => match us, hl with | [_, _, _, _], _ => rfl
  have F16 := fun_mk (st := sLaw) l16 c16 k16
  have m16 := PySem.W.mg_of X G a16
  have B_len := PySem.W.mg_none_of X G z1
  have B_range := PySem.W.mg_none_of X G z2
  have B_isinstance := PySem.W.mg_none_of X G z3
  have B_int := PySem.W.mg_none_of X G z4
  have B_bool := PySem.W.mg_none_of X G z5
  have B_tuple := PySem.W.mg_none_of X G z6
  have B_list := PySem.W.mg_none_of X G z7
  have B_all := PySem.W.mg_none_of X G z8
  have B_any := PySem.W.mg_none_of X G z9
  have B_sorted := PySem.W.mg_none_of X G z10
  have B_enumerate := PySem.W.mg_none_of X G z11
  have B_reversed := PySem.W.mg_none_of X G z12
  have B_ValueError := PySem.W.mg_none_of X G z13
  refine ⟨PySem.W.fnOf "law" "law" (defArgs sLaw) (defBody sLaw) (defScope sLaw) .none kV16 dc16 pm16 an16 cd16 ct16, fun s v => .of_eq rfl, fun base _ _ => ?_⟩
  have rc : RC K C := ⟨⟨pgC, hdC, poC, saC⟩, naCfound, naCthings, naCleft, naCpast⟩
  have FI := fun_mk (st := iRead) liCinit ciCinit kkCinit
  have bI := FI.binds (ps := ["self", "code"]) fun _ _ _ _ _ _ us hl => match us, hl with | [_, _], _ => rfl
  have FT := fun_mk (st := sTake) liCtake ciCtake kkCtake
  have bT := FT.binds (ps := ["self", "letter"]) fun _ _ _ _ _ _ us hl => match us, hl with | [_, _], _ => rfl
  have FO := fun_mk (st := sTold) liCtold ciCtold kkCtold
  have bO := FO.binds (ps := ["self"]) fun _ _ _ _ _ _ us hl => match us, hl with | [_], _ => rfl
  have FR := fun_mk (st := sRest) liCrest ciCrest kkCrest
  have bR := FR.binds (ps := ["self"]) fun _ _ _ _ _ _ us hl => match us, hl with | [_], _ => rfl
  have FK := fun_mk (st := sBack) liCback ciCback kkCback
  have bK := FK.binds (ps := ["self"]) fun _ _ _ _ _ _ us hl => match us, hl with | [_], _ => rfl
  have cc : Cl K mg D CB CL := ⟨PySem.W.mg_of X G gD, PySem.W.mg_of X G gCB, PySem.W.mg_of X G gCL, B_ValueError, .of xD, .of xCB, .of xCL, Est.of es9, na9at, sCBD, sCLD, sCBCL, sCLCB⟩
  have FC := fun_mk (st := iClash) li8 ci8 kki8
  have bC := FC.binds (ps := ["self", "one", "other"]) fun _ _ _ _ _ _ us hl => match us, hl with | [_, _, _], _ => rfl
  have kc : ClC l.prog w K mg base CC := ⟨PySem.W.mg_of X G gCC, (XC.of xCC).h, kc8, _, _, ⟨xi8⟩, ok_init FC (Est.of es8) na8one na8other, bC⟩
  have FB := fun_mk (st := iBad) li9 ci9 kki9
  have bB := FB.binds (ps := ["self", "at"]) fun _ _ _ _ _ _ us hl => match us, hl with | [_, _], _ => rfl
  have kb : ClB l.prog w K mg base CB := ⟨cc.gB, cc.xB.h, kc9, _, _, ⟨xi9⟩, ok_binit FB (Est.of es9) na9at, bB⟩
  have B1 : Fns l.prog w K mg base ["code"] "ways_on" spWays 3 := ⟨_, _, (ok_ways F1 B_len B_range).mono (by decide), b1, k1, m1⟩
  have B2 : Fns l.prog w K mg base ["one", "other"] "begins" spBeg 1 := ⟨_, _, ok_begins F2 B_len, b2, k2, m2⟩
  have B3 : Fns l.prog w K mg base ["code"] "clash" spClash 2 := ⟨_, _, ok_spClash F3 B2 B_len B_range, b3, k3, m3⟩
  have B4 : Fns' l.prog w K mg base ["code"] "refuse_clash" (spRC CC) 3 := ⟨_, _, ok_refuse F4 B3 kc, b4, k4, m4⟩
  have B5 : Fns' l.prog w K mg base ["code"] "knots_of" (spKnots CC) 4 := ⟨_, _, ok_knots F5 B4 B1 B_sorted, b5, k5, m5⟩
  have R : Rdr l.prog w K mg base C CC CN CB CL := ⟨rc, PySem.W.mg_of X G gC, _, _, ⟨mkC, faCinit, fiCinit, kcC⟩, ok_rinit FI B5 rc (PySem.W.mg_of X G gCN) ⟨eCN⟩ B_enumerate, bI, _, _, ⟨faCtake, fiCtake, kkCtake⟩, (ok_take FT rc kb B_len).mono (by decide), bT, _, _, ⟨faCtold, fiCtold, kkCtold⟩, (ok_told FO rc B_list).mono (by decide), bO, _, _, ⟨faCrest, fiCrest, kkCrest⟩, (ok_rest FR rc).mono (by decide), bR, _, _, ⟨faCback, fiCback, kkCback⟩, (ok_back FK rc B_len cc.gL ⟨eCL⟩).mono (by decide), bK⟩
  have B6 : Fns l.prog w K mg base ["script", "k"] "_law_cell_at" (spCell K) 8 := ⟨_, _, (ok_cell F6 B_len).mono (by decide), b6, k6, m6⟩
  have B7 : Fns l.prog w K mg base ["found"] "_law_whole" spWhole 1 := ⟨_, _, ok_whole F7 B_isinstance B_int B_bool, b7, k7, m7⟩
  have B8 : Fns l.prog w K mg base ["cells", "letters", "most", "lone"] "_law_grown" (spGrown K) 1 := ⟨_, _, (ok_grown F8 B_len B_range).mono (by decide), b8, k8, m8⟩
  have B9 : Fns l.prog w K mg base ["one", "other"] "_law_begun" spBeg 1 := ⟨_, _, ok_begun F9 B_len, b9, k9, m9⟩
  have B10 : Fns l.prog w K mg base ["cells", "cell"] "_law_words" (spWords K) 8 := ⟨_, _, (ok_words F10 B8 B_list B_reversed).mono (by decide), b10, k10, m10⟩
  have B11 : Fns l.prog w K mg base ["words", "rest", "cell"] "_law_deed" spDeed 8 := ⟨_, _, (ok_deed F11 B9 B_len).mono (by decide), b11, k11, m11⟩
  have B12 : Fns l.prog w K mg base ["reader", "letter"] "_law_told" (spAsk C) 7 := ⟨_, _, ok_ask F12 R cc B_isinstance, b12, k12, m12⟩
  have B13 : Fns l.prog w K mg base ["reader", "letter"] "_law_place" (spPlace C) 7 := ⟨_, _, ok_place F13 R cc, b13, k13, m13⟩
  have B14 : Fns l.prog w K mg base ["reader", "past"] "_law_stands" (spStands C) 8 := ⟨_, _, (ok_stands F14 R (B7.up (by decide)) B_isinstance B_list B_tuple B_all).mono (by decide), b14, k14, m14⟩
  have B15 : Fns l.prog w K mg base ["reader", "words", "past", "letter"] "_law_done" (spDone C) 8 := ⟨_, _, ok_done F15 B12 B13 (B7.up (by decide)) (B9.up (by decide)) B_len B_int B_any, b15, k15, m15⟩
  exact ok_law F16 B6 B10 B11 B15 B14 R B_list B_tuple B_reversed B_all
theorem walk {l : PySem.W.OpenLaw} {q : Program} {loose : List Str} {XP : (Str → Option Value) → Heap → Prop} {YP : World → Heap → Prop} {d : DefRec} {K : Params → PySem.W.Frag} (hn : l.most = some 63) (hdf : d.params.defaults = [])
    (hY : ∀ (w : World) (h : Heap), YP w h → (K w.params).In h)
    (F : ∀ (w : World) (mg : Str → Option Value) (fa : Addr) (h : Heap), (K w.params).In h → h.Ns mainGlobals mg → mg d.name = some (.ref fa) →
      ∃ fd : FuncData, (∀ (s : Shared) (u : Value), BindsTo s fd ⟨[u], []⟩ [("script", u)]) ∧ ∀ base : Heap, (K w.params).In base → base.Ns mainGlobals mg → FnOk l.prog w (K w.params) mg base CX0 9 fa fd ["script"] (spLaw (K w.params))) :
    PySem.W.WalkO q loose XP YP l.row.toRowW d [] (fun f vs => PySem.call f vs) :=
  L2.walk_of (n := 63) (k := 9) (x := "script") (CX := fun _ => CX0) (sp := fun w => spLaw (K w.params)) hn (by decide) hdf ⟨rfl, by decide, by decide⟩ hY F (fun _ _ a ns hl _ hS => ⟨a, ns, rfl, hS, hl, fun _ => rfl⟩) fun _ _ _ _ _ z => z
end K23
open PySem PySem.W PyProof.Rows
set_option maxRecDepth 100000 in
set_option maxHeartbeats 0 in
theorem PySem.Challenge.cw_lettertoll_k23_readers_asked_holds : PySem.Challenge.rw_lettertoll_k23_readers_asked.Holds := by
  w_on; o_law; k_head; (case hw => w_witness2)
  k_fill
  refine K23.walk (l := PySem.Challenge.rw_lettertoll_k23_readers_asked) rfl rfl (fun w h Y => PySem.W.kIn_of Y) ?F
  case F =>
    intro w mg fa h KX G hmg
    refine' K23.all_mk KX G hmg ?a1 ?l1 ?c1 ?k1 ?a2 ?l2 ?c2 ?k2 ?a3 ?l3 ?c3 ?k3 ?a4 ?l4 ?c4 ?k4 ?a5 ?l5 ?c5 ?k5 ?a6 ?l6 ?c6 ?k6 ?a7 ?l7 ?c7 ?k7 ?a8 ?l8 ?c8 ?k8 ?a9 ?l9 ?c9 ?k9 ?a10 ?l10 ?c10 ?k10 ?a11 ?l11 ?c11 ?k11 ?a12 ?l12 ?c12 ?k12 ?a13 ?l13 ?c13 ?k13 ?a14 ?l14 ?c14 ?k14 ?a15 ?l15 ?c15 ?k15 ?a16 ?l16 ?c16 ?k16 ?z1 ?z2 ?z3 ?z4 ?z5 ?z6 ?z7 ?z8 ?z9 ?z10 ?z11 ?z12 ?z13 ?gD ?xD ?eD ?gCC ?xCC ?gCN ?xCN ?eCN ?gCB ?xCB ?gCL ?xCL ?eCL ?sCBD ?sCLD ?sCBCL ?sCLCB ?fi8 ?xi8 ?li8 ?ci8 ?kki8 ?es8 ?kc8 ?na8one ?na8other ?fi9 ?xi9 ?li9 ?ci9 ?kki9 ?es9 ?kc9 ?na9at ?gC ?faCinit ?fiCinit ?liCinit ?ciCinit ?kkCinit ?faCtake ?fiCtake ?liCtake ?ciCtake ?kkCtake ?faCtold ?fiCtold ?liCtold ?ciCtold ?kkCtold ?faCrest ?fiCrest ?liCrest ?ciCrest ?kkCrest ?faCback ?fiCback ?liCback ?ciCback ?kkCback ?pgC ?hdC ?poC ?saC ?mkC ?kcC ?naCfound ?naCthings ?naCleft ?naCpast
    (case a1 => k_is); (case l1 => k_is); (case c1 => k_is); (case k1 => k_is)
    (case a2 => k_is); (case l2 => k_is); (case c2 => k_is); (case k2 => k_is)
    (case a3 => k_is); (case l3 => k_is); (case c3 => k_is); (case k3 => k_is)
    (case a4 => k_is); (case l4 => k_is); (case c4 => k_is); (case k4 => k_is)
    (case a5 => k_is); (case l5 => k_is); (case c5 => k_is); (case k5 => k_is)
    (case a6 => k_is); (case l6 => k_is); (case c6 => k_is); (case k6 => k_is)
    (case a7 => k_is); (case l7 => k_is); (case c7 => k_is); (case k7 => k_is)
    (case a8 => k_is); (case l8 => k_is); (case c8 => k_is); (case k8 => k_is)
    (case a9 => k_is); (case l9 => k_is); (case c9 => k_is); (case k9 => k_is)
    (case a10 => k_is); (case l10 => k_is); (case c10 => k_is); (case k10 => k_is)
    (case a11 => k_is); (case l11 => k_is); (case c11 => k_is); (case k11 => k_is)
    (case a12 => k_is); (case l12 => k_is); (case c12 => k_is); (case k12 => k_is)
    (case a13 => k_is); (case l13 => k_is); (case c13 => k_is); (case k13 => k_is)
    (case a14 => k_is); (case l14 => k_is); (case c14 => k_is); (case k14 => k_is)
    (case a15 => k_is); (case l15 => k_is); (case c15 => k_is); (case k15 => k_is)
    (case a16 => k_is); (case l16 => k_is); (case c16 => k_is); (case k16 => k_is)
    (case z1 => k_is)
    (case z2 => k_is)
    (case z3 => k_is)
    (case z4 => k_is)
    (case z5 => k_is)
    (case z6 => k_is)
    (case z7 => k_is)
    (case z8 => k_is)
    (case z9 => k_is)
    (case z10 => k_is)
    (case z11 => k_is)
    (case z12 => k_is)
    (case z13 => k_is)
    (case gD => k_is)
    (case xD => kernel_rfl)
    (case eD => kernel_rfl)
    (case gCC => k_is)
    (case xCC => kernel_rfl)
    (case gCN => k_is)
    (case xCN => kernel_rfl)
    (case eCN => kernel_rfl)
    (case gCB => k_is)
    (case xCB => kernel_rfl)
    (case gCL => k_is)
    (case xCL => kernel_rfl)
    (case eCL => kernel_rfl)
    (case sCBD => k_is)
    (case sCLD => k_is)
    (case sCBCL => k_is)
    (case sCLCB => k_is)
    (case fi8 => k_is)
    (case xi8 => kernel_rfl)
    (case li8 => k_is)
    (case ci8 => k_is)
    (case kki8 => k_is)
    (case es8 => kernel_rfl)
    (case kc8 => k_is)
    (case na8one => k_is)
    (case na8other => k_is)
    (case fi9 => k_is)
    (case xi9 => kernel_rfl)
    (case li9 => k_is)
    (case ci9 => k_is)
    (case kki9 => k_is)
    (case es9 => kernel_rfl)
    (case kc9 => k_is)
    (case na9at => k_is)
    (case gC => k_is)
    (case faCinit => k_is)
    (case fiCinit => k_is)
    (case liCinit => k_is)
    (case ciCinit => k_is)
    (case kkCinit => k_is)
    (case faCtake => k_is)
    (case fiCtake => k_is)
    (case liCtake => k_is)
    (case ciCtake => k_is)
    (case kkCtake => k_is)
    (case faCtold => k_is)
    (case fiCtold => k_is)
    (case liCtold => k_is)
    (case ciCtold => k_is)
    (case kkCtold => k_is)
    (case faCrest => k_is)
    (case fiCrest => k_is)
    (case liCrest => k_is)
    (case ciCrest => k_is)
    (case kkCrest => k_is)
    (case faCback => k_is)
    (case fiCback => k_is)
    (case liCback => k_is)
    (case ciCback => k_is)
    (case kkCback => k_is)
    (case pgC => k_is)
    (case hdC => k_is)
    (case poC => k_is)
    (case saC => k_is)
    (case mkC => k_is)
    (case kcC => k_is)
    (case naCfound => k_is)
    (case naCthings => k_is)
    (case naCleft => k_is)
    (case naCpast => k_is)
