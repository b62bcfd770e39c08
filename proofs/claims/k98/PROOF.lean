import PyProof.Rows.All
import Wide.All
import OpenK.AllK
import Wide.FinOn
import Lean
import PyProof.EqAt
import PyProof.EqKinds
import PyProof.TupleCall
import PyProof.NeKinds
import PyProof.ConsumeWalk
import PyProof.SumAny
import PyProof.Rows.SumGenD
import PyProof.ZipIter
import KE.IntBitsLaws
import PyProof.WalkInts
import PyProof.MinMaxWalk
import PyProof.TupleOfSeq
import PyProof.Rows.SortShell
import PyProof.WalksS
import PyProof.SeqWrite
import PyProof.Rows.Range3
import KE.KLam
import KE.KNestM
import PyProof.SliceSyntax
import PySem.Challenge.RW_lettertoll_k98_whole_costs_of_moved_numb
set_option Elab.async false
set_option linter.all false
set_option maxRecDepth 100000
namespace L2
open PySem PySem.Spec PyProof.Rows
abbrev Key := Sum Int Str
def keyIs : Key → Value → Bool
  | .inl k, v => Value.isInt k v
  | .inr x, v => Value.isStrOf x v
def keyH (w : World) : Key → Int
  | .inl k => hashInt k
  | .inr x => hashStr w x
theorem keyIs_shape : ∀ {k : Key} {v : Value}, keyIs k v = true → (∃ i t, k = Sum.inl i ∧ v = Value.int i t) ∨ (∃ x t, k = Sum.inr x ∧ v = Value.str x t)
  | .inl i, v, h => by
    obtain ⟨t, e⟩ := Value.isInt_shape (k := i) (v := v) h
    exact .inl ⟨i, t, rfl, e⟩
  | .inr x, v, h => by
    obtain ⟨t, e⟩ := Value.isStrOf_shape (x := x) (v := v) h
    exact .inr ⟨x, t, rfl, e⟩
theorem key_ll (a b : Int) : decide ((Sum.inl a : Key) = Sum.inl b) = (a == b) := by
  by_cases e : a = b
  · subst e; simp
  · have h : ¬ (Sum.inl a : Key) = Sum.inl b := fun q => e (Sum.inl.inj q)
    rw [decide_eq_false h]
    exact (beq_eq_false_iff_ne.mpr e).symm
theorem key_rr (a b : Str) : decide ((Sum.inr a : Key) = Sum.inr b) = decide (a = b) := by
  by_cases e : a = b
  · subst e; simp
  · have h : ¬ (Sum.inr a : Key) = Sum.inr b := fun q => e (Sum.inr.inj q)
    rw [decide_eq_false h, decide_eq_false e]
theorem key_lr (a : Int) (b : Str) : decide ((Sum.inl a : Key) = Sum.inr b) = false := decide_eq_false (fun q => nomatch q)
theorem key_rl (a : Str) (b : Int) : decide ((Sum.inr a : Key) = Sum.inl b) = false := decide_eq_false (fun q => nomatch q)
def mixKind (prog : Program) (w : World) : PySem.KeyKind prog w Key where
  is := keyIs
  hash := keyH w
  inj := fun v a b ha hb => by
    rcases keyIs_shape ha with ⟨i, t, rfl, rfl⟩ | ⟨x, t, rfl, rfl⟩
    · rcases keyIs_shape hb with ⟨j, u, rfl, e⟩ | ⟨y, u, rfl, e⟩
      · injection e with e1 _; rw [e1]
      · exact nomatch e
    · rcases keyIs_shape hb with ⟨j, u, rfl, e⟩ | ⟨y, u, rfl, e⟩
      · exact nomatch e
      · injection e with e1 _; rw [e1]
  byValue := fun k v h => by
    rcases keyIs_shape h with ⟨i, t, rfl, rfl⟩ | ⟨x, t, rfl, rfl⟩ <;> rfl
  pyHash := fun hv h => by
    rcases keyIs_shape hv with ⟨i, t, rfl, rfl⟩ | ⟨x, t, rfl, rfl⟩
    · exact wpAny_pyHash_int h
    · exact wpAny_pyHash_str h
  eqBool := fun hu hv h => by
    rcases keyIs_shape hu with ⟨i, t, rfl, rfl⟩ | ⟨x, t, rfl, rfl⟩
    · rcases keyIs_shape hv with ⟨j, u, rfl, rfl⟩ | ⟨y, u, rfl, rfl⟩
      · rw [key_ll] at h; exact wpAny_eqBool_int h
      · rw [key_lr] at h; exact SeqAt.EqAt.int_str i t y u _ _ _ _ h
    · rcases keyIs_shape hv with ⟨j, u, rfl, rfl⟩ | ⟨y, u, rfl, rfl⟩
      · rw [key_rl] at h; exact SeqAt.EqAt.str_int x t j u _ _ _ _ h
      · rw [key_rr] at h; exact wpAny_eqBool_str h
  «strs» := fun k x t v h => by
    rcases keyIs_shape h with ⟨i, u, rfl, e⟩ | ⟨y, u, rfl, e⟩
    · exact nomatch e
    · injection e with e1 _
      subst e1
      cases v <;> rfl
end L2
namespace L2
open PySem PySem.Spec PyProof.Rows
inductive V where
  | non | bl (b : Bool) | int (i : Int) | str (x : Str) | byt (b : Array UInt8) | flt (b : UInt64) | ref (a : Addr) | ty (n : String)
  deriving DecidableEq
def RelV : V → Value → Prop
  | .non, u => u = Value.none
  | .bl b, u => u = Value.bool b
  | .int i, u => ∃ t, u = Value.int i t
  | .str x, u => ∃ t, u = Value.str x t
  | .byt b, u => ∃ t, u = Value.bytes b t
  | .flt b, u => ∃ t, u = Value.float b t
  | .ref a, u => u = Value.ref a
  | .ty n, u => u = Value.type n
abbrev Vals : List V → List Value → Prop := Paired RelV
theorem Vals.length {xs : List V} {us : List Value} (r : Vals xs us) : xs.length = us.length := Paired.length r
theorem Vals.get : ∀ {xs : List V} {us : List Value} {i : Nat} {x : V}, Vals xs us → xs[i]? = some x → ∃ u, us[i]? = some u ∧ RelV x u
  | _, _, _, _, .nil, e => by simp at e
  | _, _, 0, _, .cons r _, e => by simp at e; subst e; exact ⟨_, rfl, r⟩
  | _, _, i + 1, x, .cons _ t, e => by
    obtain ⟨u, h1, h2⟩ := Vals.get (i := i) (x := x) t (by simpa using e)
    exact ⟨u, by simpa using h1, h2⟩
theorem Vals.set {x : V} {u : Value} (r : RelV x u) : ∀ {xs : List V} {us : List Value} (i : Nat), Vals xs us → Vals (xs.set i x) (us.set i u)
  | _, _, _, .nil => .nil
  | _, _, 0, .cons _ t => .cons r t
  | _, _, i + 1, .cons q t => .cons q (Vals.set r i t)
theorem Vals.append : ∀ {xs ys : List V} {us ws : List Value}, Vals xs us → Vals ys ws → Vals (xs ++ ys) (us ++ ws)
  | _, _, _, _, .nil, s => s
  | _, _, _, _, .cons r t, s => .cons r (Vals.append t s)
theorem Vals.take : ∀ {xs : List V} {us : List Value} (n : Nat), Vals xs us → Vals (xs.take n) (us.take n)
  | _, _, 0, _ => .nil
  | _, _, _ + 1, .nil => .nil
  | _, _, n + 1, .cons r t => .cons r (Vals.take n t)
theorem Vals.drop : ∀ {xs : List V} {us : List Value} (n : Nat), Vals xs us → Vals (xs.drop n) (us.drop n)
  | _, _, 0, r => r
  | _, _, _ + 1, .nil => .nil
  | _, _, n + 1, .cons _ t => Vals.drop n t
def RelO : Option V → Option Value → Prop
  | some v, some u => RelV v u
  | none, none => True
  | _, _ => False
def KV {κ : Type} : List (κ × V) → List (κ × Value) → Prop := Paired fun (p : κ × V) (q : κ × Value) => p.1 = q.1 ∧ RelV p.2 q.2
def kV : Key → V
  | .inl i => .int i
  | .inr x => .str x
inductive HO where
  | lst (xs : List V)
  | tup (xs : List V)
  | dK (kvs : List (Key × V)) | dT (kvs : List (List Key × V))
  | set (S : Int → Bool) (n : Nat)
  | ins (C dx : Addr) (fs : List (Str × V))
  | own (x : Addr)
  | xd (fs : List (Str × V))
  | met (f x : Addr)
  | rng (lo hi : Int)
  | frz (o : Obj) (u : HO)
  | tbl (ps : Array Value)
  | ext (φ : Heap → Prop)
abbrev Hp := Addr → Option HO
def upd (H : Hp) (a : Addr) (o : HO) : Hp := fun b => if b = a then some o else H b
theorem upd_same {H : Hp} {a : Addr} {o : HO} : upd H a o a = some o := by unfold upd; rw [if_pos rfl]
theorem upd_ne {H : Hp} {a b : Addr} {o : HO} (h : b ≠ a) : upd H a o b = H b := by unfold upd; rw [if_neg h]
theorem ne_of {H : Hp} {a b : Addr} {o u : HO} (h : H a = some o) (h' : H b = some u) (d : o ≠ u) : a ≠ b := by
  intro e; subst e; rw [h] at h'; exact d (Option.some.inj h')
theorem ne_of_none {H : Hp} {a b : Addr} {o : HO} (h : H a = some o) (h' : H b = none) : a ≠ b := by
  intro e; subst e; rw [h] at h'; cases h'
def IsTp (h : Heap) (a : Addr) (items : Array Value) : Prop := ∃ o, h.get? a = some o ∧ ∃ n, o = { cls := .type "tuple", data := .seq items n }
theorem IsTp.is {h : Heap} {a : Addr} {items : Array Value} (x : IsTp h a items) : IsTup h a items := by
  obtain ⟨o, e, n, rfl⟩ := x
  exact ⟨_, e, rfl, n, rfl⟩
instance {h : Heap} {a : Addr} {items : Array Value} : Coe (IsTp h a items) (IsTup h a items) := ⟨IsTp.is⟩
instance {h : Heap} {a : Addr} {items : Array Value} : Coe (IsTp h a items) (Heap.IsTuple h a items) := ⟨fun x => x.is⟩
theorem IsTp.lt {h : Heap} {a : Addr} {items : Array Value} (x : IsTp h a items) : a < h.objs.size := x.is.lt
theorem IsTp.new (h : Heap) (items : Array Value) : IsTp (h.push { cls := .type "tuple", data := .seq items }) h.objs.size items := ⟨_, Heap.get?_push_size _ rfl, _, rfl⟩
section
variable (P : Program) (w : World)
def ObjOk (H : Hp) (h : Heap) (a : Addr) : HO → Prop
  | .lst xs => xs.length ≤ sizeLine ∧ ∃ (its : List Value) (n : Nat), Vals xs its ∧ h.get? a = some { cls := .type "list", data := .seq its.toArray n }
  | .tup xs => xs.length ≤ sizeLine ∧ ∃ its : List Value, Vals xs its ∧ IsTp h a its.toArray
  | .dK kvs => kvs.length ≤ sizeLine ∧ (a == sysModules) = false ∧ ∃ vs, KV kvs vs ∧ h.DictOf (mixKind P w) a vs
  | .dT kvs => kvs.length ≤ sizeLine ∧ (a == sysModules) = false ∧ ∃ xs : List (List Key × Addr × Value),
      Paired (fun (p : List Key × V) (q : List Key × Addr × Value) => p.1 = q.1 ∧ H q.2.1 = some (.tup (p.1.map kV)) ∧ RelV p.2 q.2.2) kvs xs ∧
      ∃ o es ep, h.get? a = some o ∧ o.ExactDict ∧ o.data = .dict es ep ∧ es.toList = xs.map (entryOfKey (tupleKind (mixKind P w))) ∧ (xs.map (·.1)).Nodup
  | .set S n => h.SetOf (intKind P w) a S n
  | .ins C dx fs => H dx = some (.own a) ∧ fs.length ≤ 1000 ∧ dx ≠ a ∧ h.get? a = some (PySem.W.instObj C dx) ∧
      ∃ mA, h.Ns1 dx mA ∧ (∀ f, RelO (fs.lookup f) (mA f)) ∧ PySem.Within mA (fs.map (·.1))
  | .own _ => ∃ o, h.get? a = some o
  | .xd fs => ∃ mA, h.Ns1 a mA ∧ ∀ f, RelO (fs.lookup f) (mA f)
  | .rng lo hi => ∃ t u v, h.get? a = some { cls := .type "range", data := .fields #[.int lo t, .int hi u, .int 1 v] }
  | .frz o u => h.get? a = some o ∧ ObjOk H h a u
  | .tbl ps => h.get? a = some { cls := .none, data := .fields ps }
  | .met f x => h.get? a = some (PySem.W.methodObj (.ref f) (.ref x))
  | .ext φ => φ h ∧ (∃ o, h.get? a = some o) ∧ ∀ h1 h2 : Heap, φ h1 → (∀ o, h1.get? a = some o → h2.get? a = some o) → φ h2
def HOk (H : Hp) (h : Heap) : Prop := ∀ a o, H a = some o → ObjOk P w H h a o
end
section
variable {P : Program} {w : World} {H H' : Hp} {h h' : Heap} {a : Addr} {o : HO}
theorem ObjOk.lt (x : ObjOk P w H h a o) : a < h.objs.size := by
  cases o with
  | lst xs => obtain ⟨_, _, _, _, e⟩ := x; exact Heap.lt_size e
  | tup xs => obtain ⟨_, _, _, p⟩ := x; exact p.lt
  | dK kvs => obtain ⟨_, _, _, _, o, _, _, e, _⟩ := x; exact Heap.lt_size e
  | dT kvs => obtain ⟨_, _, _, _, o, _, _, e, _⟩ := x; exact Heap.lt_size e
  | set S n => obtain ⟨o, _, _, _, e, _⟩ := x; exact Heap.lt_size e
  | ins C dx fs => obtain ⟨_, _, _, e, _⟩ := x; exact Heap.lt_size e
  | own y => obtain ⟨_, e⟩ := x; exact Heap.lt_size e
  | xd fs => obtain ⟨_, ⟨_, _, _, e, _⟩, _⟩ := x; exact Heap.lt_size e
  | rng lo hi => obtain ⟨_, _, _, e⟩ := x; exact Heap.lt_size e
  | frz ob u => obtain ⟨e, _⟩ := x; exact Heap.lt_size e
  | tbl ps => exact Heap.lt_size (show h.get? a = some _ from x)
  | met f y => exact Heap.lt_size (show h.get? a = some _ from x)
  | ext φ => obtain ⟨_, ⟨_, e⟩, _⟩ := x; exact Heap.lt_size e
theorem Paired.mapP {α β : Type} {F G : α → β → Prop} : ∀ {l₁ : List α} {l₂ : List β}, Paired F l₁ l₂ → (∀ a b, F a b → G a b) → Paired G l₁ l₂
  | _, _, .nil, _ => .nil
  | _, _, .cons r t, f => .cons (f _ _ r) (Paired.mapP t f)
theorem ObjOk.stay (x : ObjOk P w H h a o) (k : ∀ b u, (b = a ∨ H b = some (.own a)) → h.get? b = some u → h'.get? b = some u)
    (ho : ∀ b, H b = some (.own a) → H' b = some (.own a)) (ht : ∀ b xs, H b = some (.tup xs) → H' b = some (.tup xs)) : ObjOk P w H' h' a o := by
  induction o with
  | lst xs => obtain ⟨z, its, n, r, e⟩ := x; exact ⟨z, its, n, r, k _ _ (.inl rfl) e⟩
  | tup xs => obtain ⟨z, its, r, ob, e, c⟩ := x; exact ⟨z, its, r, ob, k _ _ (.inl rfl) e, c⟩
  | dK kvs => obtain ⟨z, y, vs, r, ob, es, ep, e, c⟩ := x; exact ⟨z, y, vs, r, ob, es, ep, k _ _ (.inl rfl) e, c⟩
  | dT kvs =>
    obtain ⟨z, y, xs, r, ob, es, ep, e, c⟩ := x
    exact ⟨z, y, xs, Paired.mapP r fun p q z => ⟨z.1, ht _ _ z.2.1, z.2.2⟩, ob, es, ep, k _ _ (.inl rfl) e, c⟩
  | set S n => obtain ⟨ob, es, ep, t, e, c⟩ := x; exact ⟨ob, es, ep, t, k _ _ (.inl rfl) e, c⟩
  | ins C dx fs =>
    obtain ⟨d, z, ne, e, mA, ⟨od, es, ep, e2, c⟩, r⟩ := x
    exact ⟨ho _ d, z, ne, k _ _ (.inl rfl) e, mA, ⟨od, es, ep, k _ _ (.inr d) e2, c⟩, r⟩
  | own y => obtain ⟨ob, e⟩ := x; exact ⟨ob, k _ _ (.inl rfl) e⟩
  | xd fs => obtain ⟨mA, ⟨od, es, ep, e, c⟩, r⟩ := x; exact ⟨mA, ⟨od, es, ep, k _ _ (.inl rfl) e, c⟩, r⟩
  | rng lo hi => obtain ⟨t, u, v, e⟩ := x; exact ⟨t, u, v, k _ _ (.inl rfl) e⟩
  | frz ob u ih => obtain ⟨e, q⟩ := x; exact ⟨k _ _ (.inl rfl) e, ih q⟩
  | tbl ps =>
    have e : h.get? a = some { cls := .none, data := .fields ps } := x
    show h'.get? a = some { cls := .none, data := .fields ps }
    exact k a _ (.inl rfl) e
  | met f y =>
    have e : h.get? a = some (PySem.W.methodObj (.ref f) (.ref y)) := x
    show h'.get? a = some (PySem.W.methodObj (.ref f) (.ref y))
    exact k a _ (.inl rfl) e
  | ext φ => obtain ⟨p, ⟨o, e⟩, st⟩ := x; exact ⟨st _ _ p fun o q => k _ _ (.inl rfl) q, ⟨o, k _ _ (.inl rfl) e⟩, st⟩
theorem HOk.lt (x : HOk P w H h) (e : H a = some o) : a < h.objs.size := (x a o e).lt
theorem HOk.fresh (x : HOk P w H h) (e : h.objs.size ≤ a) : H a = none := by
  cases q : H a with
  | none => rfl
  | some u => exact absurd (Nat.lt_of_lt_of_le (x.lt q) e) (Nat.lt_irrefl _)
theorem HOk.kept (x : HOk P w H h) (k : ∀ b u, h.get? b = some u → h'.get? b = some u) : HOk P w H h' := fun a o e =>
  (x a o e).stay (fun b u _ q => k b u q) (fun _ q => q) fun _ _ q => q
theorem HOk.laid (x : HOk P w H h) (k : ∀ b u, h.get? b = some u → h'.get? b = some u) (hp : h.objs.size ≤ a) (new : ObjOk P w (upd H a o) h' a o) : HOk P w (upd H a o) h' := fun b u e => by
  have hn := x.fresh hp
  by_cases hb : b = a
  · subst hb; rw [upd_same] at e; cases e; exact new
  · rw [upd_ne hb] at e
    exact (x b u e).stay (fun c v _ q => k c v q) (fun c q => by rw [upd_ne (ne_of_none q hn)]; exact q) fun c xs q => by rw [upd_ne (ne_of_none q hn)]; exact q
end
def Rd (H : Hp) (a : Addr) (u : HO) : Prop := H a = some u ∨ ∃ o, H a = some (.frz o u)
theorem Rd.ok {P : Program} {w : World} {H : Hp} {h : Heap} {a : Addr} {u : HO} (r : Rd H a u) (x : HOk P w H h) : ObjOk P w H h a u := by
  rcases r with r | ⟨o, r⟩
  · exact x a u r
  · obtain ⟨_, q⟩ := x a _ r
    exact q
def Mut : Option HO → Prop
  | some (.lst _) => True
  | some (.dK _) => True
  | some (.dT _) => True
  | some (.set _ _) => True
  | some (.ins _ _ _) => True
  | some (.ext _) => True
  | _ => False
section
variable {P : Program} {w : World} {H : Hp} {h h' : Heap} {x e : Addr} {o' : HO}
theorem HOk.write (ok : HOk P w H h) (mu : Mut (H x)) (he : e = x ∨ H e = some (.own x)) (k : ∀ b u, b ≠ e → h.get? b = some u → h'.get? b = some u) (heo : ∃ u, h'.get? e = some u)
    (new : ObjOk P w (upd H x o') h' x o') : HOk P w (upd H x o') h' := fun b u q => by
  have nown : ∀ c y, H c = some (.own y) → c ≠ x := fun c y r z => by subst z; rw [r] at mu; exact mu
  have ntup : ∀ c xs, H c = some (.tup xs) → c ≠ x := fun c xs r z => by subst z; rw [r] at mu; exact mu
  by_cases hb : b = x
  · subst hb; rw [upd_same] at q; cases q; exact new
  · rw [upd_ne hb] at q
    by_cases hbe : b = e
    · have q' : H b = some (.own x) := by
        rcases he with z | z
        · exact absurd (hbe.trans z) hb
        · rw [hbe]; exact z
      rw [q] at q'; cases q'
      obtain ⟨v, hv⟩ := heo
      exact ⟨v, by rw [hbe]; exact hv⟩
    · refine (ok b u q).stay (fun c v hc r => k c v ?_ r) (fun c r => by rw [upd_ne (nown c b r)]; exact r) fun c xs r => by rw [upd_ne (ntup c xs r)]; exact r
      rcases hc with rfl | hc
      · exact hbe
      · rintro rfl
        rcases he with z | z
        · exact nown c b hc z
        · rw [hc] at z; cases z; exact hb rfl
end
structure Un (fs ex : List Addr) (H H' : Hp) (h h' : Heap) : Prop where
  keep : ∀ b o, h.get? b = some o → H b = none → b ∉ fs → b ∉ ex → h'.get? b = some o
  slot : ∀ b o, h.get? b = some o → H b = none → b ∈ fs → b ∉ ex → ∃ sl, h'.get? b = some { o with slots := sl }
  free : ∀ b o, h.get? b = some o → H b = none → b ∉ ex → H' b = none
  there : ∀ b o, h.get? b = some o → b ∉ ex → ∃ o', h'.get? b = some o'
  tups : ∀ b xs, H b = some (.tup xs) → H' b = some (.tup xs)
  frzs : ∀ b o u, H b = some (.frz o u) → H' b = some (.frz o u)
  tbls : ∀ b ps, H b = some (.tbl ps) → ∃ more, H' b = some (.tbl (ps ++ more))
section
variable {fs fs' ex ex' : List Addr} {H H1 H2 : Hp} {h h1 h2 h' : Heap} {a x e : Addr} {o : HO}
theorem Un.any (u : Un fs ex H H1 h h1) {b : Addr} {ob : Obj} (q : h.get? b = some ob) (n : H b = none) (hx : b ∉ ex) : ∃ sl, h1.get? b = some { ob with slots := sl } := by
  by_cases hb : b ∈ fs
  · exact u.slot b ob q n hb hx
  · exact ⟨ob.slots, u.keep b ob q n hb hx⟩
theorem Un.kept (k : ∀ b u, h.get? b = some u → h'.get? b = some u) : Un fs ex H H h h' :=
  ⟨fun b ob q _ _ _ => k b ob q, fun b ob q _ _ _ => ⟨ob.slots, k b ob q⟩, fun _ _ _ n _ => n, fun b ob q _ => ⟨ob, k b ob q⟩, fun _ _ q => q, fun _ _ _ q => q, fun _ ps q => ⟨#[], by rw [q]; simp⟩⟩
theorem Un.refl : Un fs ex H H h h := Un.kept fun _ _ q => q
theorem Un.laid (k : ∀ b u, h.get? b = some u → h'.get? b = some u) (hp : h.objs.size ≤ a) (hn : H a = none) : Un fs ex H (upd H a o) h h' where
  keep := fun b u q _ _ _ => k b u q
  slot := fun b u q _ _ _ => ⟨u.slots, k b u q⟩
  free := fun b u q n _ => by rw [upd_ne (Nat.ne_of_lt (Nat.lt_of_lt_of_le (Heap.lt_size q) hp))]; exact n
  there := fun b u q _ => ⟨u, k b u q⟩
  tups := fun b xs q => by rw [upd_ne (ne_of_none q hn)]; exact q
  frzs := fun b u xs q => by rw [upd_ne (ne_of_none q hn)]; exact q
  tbls := fun b ps q => ⟨#[], by rw [upd_ne (ne_of_none q hn), q]; simp⟩
theorem Un.write (mu : Mut (H x)) (he : e = x ∨ H e = some (.own x)) (k : ∀ b u, b ≠ e → h.get? b = some u → h'.get? b = some u) (heo : ∃ u, h'.get? e = some u) : Un fs ex H (upd H x o) h h' := by
  have hx : ∀ b, H b = none → b ≠ x := fun b n z => by subst z; rw [n] at mu; exact mu
  have hb : ∀ b, H b = none → b ≠ e := fun b n z => by
    subst z
    rcases he with r | r
    · exact hx b n r
    · rw [n] at r; cases r
  have hm : ∀ b u, H b = some u → ¬ Mut (some u) → b ≠ x := fun b u q nm z => by subst z; rw [q] at mu; exact nm mu
  refine ⟨fun b u q n _ _ => k b u (hb b n) q, fun b u q n _ _ => ⟨u.slots, k b u (hb b n) q⟩, fun b u q n _ => by rw [upd_ne (hx b n)]; exact n, fun b u q _ => ?_,
    fun b xs q => by rw [upd_ne (hm b _ q fun z => z)]; exact q, fun b u xs q => by rw [upd_ne (hm b _ q fun z => z)]; exact q, fun b ps q => ⟨#[], by rw [upd_ne (hm b _ q fun z => z), q]; simp⟩⟩
  by_cases hbe : b = e
  · subst hbe; exact heo
  · exact ⟨u, k b u hbe q⟩
end
def trk (h : Heap) (H : Hp) : List Addr := (List.range h.objs.size).filter fun a => (H a).isSome
def hidT (h : Heap) (H : Hp) : Heap := PySem.W.hideAll h (trk h H)
theorem hidT_size (h : Heap) (H : Hp) : (hidT h H).objs.size = h.objs.size := PySem.W.hideAll_size _ _
theorem hidT_get {h : Heap} {H : Hp} {b : Addr} {o : Obj} (e : h.get? b = some o) (n : H b = none) : (hidT h H).get? b = some o :=
  PySem.W.hideAll_get _ e fun hm => by
    have q : (H b).isSome = true := (List.mem_filter.mp hm).2
    rw [n] at q; simp at q
theorem of_hidT {h : Heap} {H : Hp} {b : Addr} {o : Obj} (e : (hidT h H).get? b = some o) : h.get? b = some o ∧ H b = none := by
  have e' : h.get? b = some o := PySem.W.of_hideAll (trk h H) e
  refine ⟨e', ?_⟩
  cases q : H b with
  | none => rfl
  | some x =>
    have hm : b ∈ trk h H := List.mem_filter.mpr ⟨List.mem_range.mpr (Heap.lt_size e'), by simp [q]⟩
    have z : (hidT h H).get? b = none := PySem.W.hideAll_none (trk h H) hm
    rw [z] at e; cases e
def allNews (g h : Heap) (L : Addr) : List (Addr × Obj) := (List.range h.objs.size).filterMap fun a => if a = L ∨ (g.get? a).isSome = true then none else (h.get? a).map fun o => (a, o)
def rest (g h : Heap) (L d : Addr) : List (Addr × Obj) := (allNews g h L).filter fun p => decide (p.1 ≠ d)
end L2
namespace L2
open PySem PySem.Spec PyProof.Rows
structure Mod (K : PySem.W.Frag) (mg : Str → Option Value) (base : Heap) : Prop where
  kin : K.In base
  glob : base.Ns mainGlobals mg
  blt : ∃ mb, base.Ns builtinsNs mb ∧ ∀ x : Str, x ≠ "__name__" → mb x = bootBuiltins x
  nolimit : base.NoLimit
structure Cx where
  prog : Program
  w : World
  K : PySem.W.Frag
  mg : Str → Option Value
  base : Heap
  A : Around
  N : List Str
  s₀ : Shared
  H₀ : Hp
  env : Env
  outer : List Env
  stack : List Env
  ex : List Addr
  fn : Str → Bool
  calm : Bool
  pn : List (Addr × Obj)
  xe : Value → Shared → Prop
def frs (l : List Env) : List Addr := l.filterMap (·.frame)
abbrev Cx.fs (X : Cx) : List Addr := frs X.outer
def Vis (sc : Scope) (x : Str) : Prop := sc.names.lookup x = some .local ∨ sc.names.lookup x = some .cell ∨ sc.names.lookup x = some .free
def Loc (sc : Scope) (x : Str) : Prop := sc.names.lookup x = some .local ∨ sc.names.lookup x = some .cell
def Look (env : Env) (h : Heap) (m : Str → Option Value) (x : Str) (u : Value) : Prop :=
  (env.kindOf x = some .local ∧ m x = some u) ∨ ((env.kindOf x = some .cell ∨ env.kindOf x = some .free) ∧ ∃ c, env.cells.lookup x = some c ∧ h.IsCell c (some u))
structure Cx.Ok (X : Cx) : Prop where
  mod : Mod X.K X.mg X.base
  kind : X.env.scope.kind = .function
  glob : X.env.globals = mainGlobals
  blt : X.env.builtins = builtinsNs
  above : X.s₀.heap.objs.size ≤ X.env.locals
  inj : ∀ x y c, X.env.cells.lookup x = some c → X.env.cells.lookup y = some c → x = y
  has : ∀ x, (X.env.kindOf x = some .cell ∨ X.env.kindOf x = some .free) → ∃ c, X.env.cells.lookup x = some c
  cab : ∀ x c, X.fn x = true → X.env.cells.lookup x = some c → X.s₀.heap.objs.size ≤ c
  hd : X.calm = true → X.A.handled = none
  frames : X.A.frames = some X.stack
  stk : X.stack = X.outer ∨ (X.stack = X.env :: X.outer ∧ X.env.frame = some X.env.locals)
  exf : ∀ b ∈ X.ex, b ≠ X.env.locals ∧ ∀ x c, X.env.cells.lookup x = some c → c ≠ b
  bs : ∀ b o, X.base.get? b = some o → X.s₀.heap.get? b = some o ∧ X.H₀ b = none
  bsz : X.base.objs.size ≤ X.s₀.heap.objs.size
  noex : ∀ b o, X.base.get? b = some o → b ∉ X.ex
  exfs : ∀ b ∈ X.ex, b ∉ X.fs
  funs : X.s₀.heap.FunFrames X.base X.outer
  frf : ∀ b ∈ X.fs, X.H₀ b = none
structure Inv (X : Cx) (pins : List (Addr × Obj)) (σ : List (Option V)) (H : Hp) (s : Shared) : Prop where
  ok : X.Ok
  os : s.os = X.s₀.os
  bare : AllBare s.gens
  base : Un X.fs X.ex X.H₀ H X.s₀.heap s.heap
  loc : ∃ m, s.heap.Ns X.env.locals m ∧ ∀ (i : Nat) (x : Str) (v : V), X.N[i]? = some x → σ[i]? = some (some v) → Vis X.env.scope x → ∃ u, RelV v u ∧ Look X.env s.heap m x u
  cell : ∀ x c, X.env.cells.lookup x = some c → ∃ v, s.heap.IsCell c v
  free : H X.env.locals = none
  freeC : ∀ x c, X.env.cells.lookup x = some c → H c = none
  pin : ∀ p ∈ X.pn ++ pins, s.heap.get? p.1 = some p.2 ∧ H p.1 = none ∧ p.1 ≠ X.env.locals ∧ p.1 ∉ X.fs ∧ ∀ v, p.2.data ≠ .cell v
  hok : HOk X.prog X.w H s.heap
  len : σ.length = X.N.length
section
variable {X : Cx} {pins : List (Addr × Obj)} {σ : List (Option V)} {H H' : Hp} {s : Shared} {h' : Heap}
theorem Cx.Ok.nofr (ok : X.Ok) {b : Addr} {o : Obj} (e : X.base.get? b = some o) : b ∉ X.fs := fun hb => by
  have := (ok.funs.mem hb).1
  rw [e] at this; cases this
theorem Inv.bs (I : Inv X pins σ H s) : ∀ b o, X.base.get? b = some o → s.heap.get? b = some o ∧ H b = none := fun b o e =>
  ⟨I.base.keep b o (I.ok.bs b o e).1 (I.ok.bs b o e).2 (I.ok.nofr e) (I.ok.noex b o e), I.base.free b o (I.ok.bs b o e).1 (I.ok.bs b o e).2 (I.ok.noex b o e)⟩
theorem Inv.bk (I : Inv X pins σ H s) : ∀ b o, X.base.get? b = some o → s.heap.get? b = some o := fun b o e => (I.bs b o e).1
theorem Inv.mod (I : Inv X pins σ H s) : Mod X.K X.mg X.base := I.ok.mod
theorem Inv.kIn (I : Inv X pins σ H s) : X.K.In s.heap := I.ok.mod.kin.keeps I.bk
theorem Inv.lt (I : Inv X pins σ H s) : X.env.locals < s.heap.objs.size := let ⟨_, hn, _⟩ := I.loc; hn.lt
theorem Inv.sz (I : Inv X pins σ H s) : X.s₀.heap.objs.size ≤ s.heap.objs.size := Nat.le_trans I.ok.above (Nat.le_of_lt I.lt)
theorem Inv.nofs (I : Inv X pins σ H s) {a : Addr} (h : s.heap.objs.size ≤ a) : a ∉ X.fs := fun hb => by
  obtain ⟨_, o, ho, _⟩ := I.ok.funs.mem hb
  exact absurd (Nat.lt_of_lt_of_le (Heap.lt_size ho) (Nat.le_trans I.sz h)) (Nat.lt_irrefl _)
theorem Inv.cne (I : Inv X pins σ H s) : ∀ x c, X.env.cells.lookup x = some c → c ≠ X.env.locals := fun x c e z => by
  obtain ⟨v, o, ho, hd⟩ := I.cell x c e
  obtain ⟨m, ⟨o', es, ep, ho', hd', _⟩, _⟩ := I.loc
  rw [z, ho'] at ho; cases ho; rw [hd'] at hd; cases hd
theorem Inv.funs (I : Inv X pins σ H s) : s.heap.FunFrames X.base X.outer := by
  have all : ∀ (l : List Env), (∀ b ∈ frs l, b ∈ X.fs) → X.s₀.heap.FunFrames X.base l → s.heap.FunFrames X.base l := by
    intro l
    induction l with
    | nil => intro _ _; trivial
    | cons env r ih =>
      intro hs hl
      obtain ⟨hk, ⟨L, o, hf, hn, ho, hd⟩, hr⟩ := hl
      have hL : L ∈ X.fs := hs L (by unfold frs; rw [List.filterMap_cons, hf]; exact List.mem_cons_self)
      obtain ⟨sl, e⟩ := I.base.slot L o ho (I.ok.frf L hL) hL fun z => I.ok.exfs L z hL
      exact ⟨hk, ⟨L, _, hf, hn, e, hd⟩, ih (fun b hb => hs b (by unfold frs; rw [List.filterMap_cons, hf]; exact List.mem_cons_of_mem _ hb)) hr⟩
  exact all X.outer (fun _ hb => hb) I.ok.funs
theorem Inv.stack (I : Inv X pins σ H s) : s.heap.FunFrames X.base X.stack := by
  rcases I.ok.stk with e | ⟨e, hf⟩
  · rw [e]; exact I.funs
  · rw [e]
    obtain ⟨m, hn, _⟩ := I.loc
    refine .cons (by rw [I.ok.kind]; decide) hf hn ?_ I.funs
    exact Heap.get?_none_of_le (Nat.le_trans I.ok.bsz I.ok.above)
theorem Inv.stkSub (I : Inv X pins σ H s) : ∀ b ∈ frs X.stack, b ∈ X.env.locals :: X.fs := fun b hb => by
  rcases I.ok.stk with e | ⟨e, hf⟩
  · rw [e] at hb; exact List.mem_cons_of_mem _ hb
  · rw [e] at hb
    unfold frs at hb
    rw [List.filterMap_cons, hf] at hb
    exact hb
theorem Inv.stkFree (I : Inv X pins σ H s) : ∀ b ∈ frs X.stack, H b = none := fun b hb => by
  rcases List.mem_cons.mp (I.stkSub b hb) with e | hb
  · rw [e]; exact I.free
  · obtain ⟨_, o, ho, _⟩ := I.ok.funs.mem hb
    exact I.base.free b o ho (I.ok.frf b hb) fun z => I.ok.exfs b z hb
theorem Inv.step {g' : Array GenState} {t' : Nat} {d' : Drawn} {ch : List Addr} (I : Inv X pins σ H s)
    (hch : ∀ b ∈ ch, (b ∈ X.ex ∨ X.s₀.heap.objs.size ≤ b) ∧ b ≠ X.env.locals ∧ (∀ x c, X.env.cells.lookup x = some c → c ≠ b) ∧ ∀ p ∈ X.pn ++ pins, p.1 ≠ b)
    (keep : ∀ b o, b ≠ X.env.locals → b ∉ X.fs → b ∉ ch → s.heap.get? b = some o → H b = none → h'.get? b = some o)
    (slot : ∀ b o, b ≠ X.env.locals → b ∈ X.fs → b ∉ ch → s.heap.get? b = some o → H b = none → ∃ sl, h'.get? b = some { o with slots := sl }) (free : ∀ b o, b ∉ ch → s.heap.get? b = some o → H b = none → H' b = none)
    (there : ∀ b o, b ∉ ch → s.heap.get? b = some o → ∃ o', h'.get? b = some o')
    (tups : ∀ b xs, H b = some (.tup xs) → H' b = some (.tup xs)) (frzs : ∀ b o u, H b = some (.frz o u) → H' b = some (.frz o u)) (tbls : ∀ b ps, H b = some (.tbl ps) → ∃ more, H' b = some (.tbl (ps ++ more)))
    (ns : ∀ m, s.heap.Ns X.env.locals m → h'.Ns X.env.locals m) (hok : HOk X.prog X.w H' h') (hg : AllBare g') :
    Inv X pins σ H' { s with heap := h', gens := g', drawn := d', toks := t' } := by
  have neL : ∀ b o, X.s₀.heap.get? b = some o → b ≠ X.env.locals := fun b o e => Nat.ne_of_lt (Nat.lt_of_lt_of_le (Heap.lt_size e) I.ok.above)
  have neC : ∀ b o, X.s₀.heap.get? b = some o → b ∉ X.ex → b ∉ ch := fun b o e hx hb => by
    rcases (hch b hb).1 with z | z
    · exact hx z
    · exact absurd (Nat.lt_of_lt_of_le (Heap.lt_size e) z) (Nat.lt_irrefl _)
  have cellK : ∀ x c, X.env.cells.lookup x = some c → ∀ v, s.heap.IsCell c v → h'.IsCell c v := fun x c e v ⟨o, ho, hd⟩ => by
    have nch : c ∉ ch := fun z => (hch c z).2.2.1 x c e rfl
    by_cases hc : c ∈ X.fs
    · obtain ⟨sl, q⟩ := slot c o (I.cne x c e) hc nch ho (I.freeC x c e)
      exact ⟨_, q, hd⟩
    · exact ⟨o, keep c o (I.cne x c e) hc nch ho (I.freeC x c e), hd⟩
  refine ⟨I.ok, I.os, hg, ⟨fun b o e n hb hx => ?_, fun b o e n hb hx => ?_, fun b o e n hx => ?_, fun b o e hx => ?_, fun b xs e => tups b xs (I.base.tups b xs e), fun b o xs e => frzs b o xs (I.base.frzs b o xs e), fun b ps e => ?_⟩, ?_, fun x c e => ?_, ?_, fun x c e => ?_, fun p hp => ?_, hok, I.len⟩
  · exact keep b o (neL b o e) hb (neC b o e hx) (I.base.keep b o e n hb hx) (I.base.free b o e n hx)
  · obtain ⟨sl, e1⟩ := I.base.slot b o e n hb hx
    obtain ⟨sl', e2⟩ := slot b _ (neL b o e) hb (neC b o e hx) e1 (I.base.free b o e n hx)
    exact ⟨sl', e2⟩
  · obtain ⟨o', e1⟩ := I.base.there b o e hx
    exact free b o' (neC b o e hx) e1 (I.base.free b o e n hx)
  · obtain ⟨o', e1⟩ := I.base.there b o e hx
    exact there b o' (neC b o e hx) e1
  · obtain ⟨m1, e1⟩ := I.base.tbls b ps e
    obtain ⟨m2, e2⟩ := tbls b _ e1
    exact ⟨m1 ++ m2, by rw [e2, Array.append_assoc]⟩
  · obtain ⟨m, hn, hl⟩ := I.loc
    refine ⟨m, ns m hn, fun i x v e1 e2 e3 => ?_⟩
    obtain ⟨u, r, l⟩ := hl i x v e1 e2 e3
    refine ⟨u, r, ?_⟩
    rcases l with l | ⟨k, c, e, z⟩
    · exact .inl l
    · exact .inr ⟨k, c, e, cellK x c e _ z⟩
  · obtain ⟨v, z⟩ := I.cell x c e
    exact ⟨v, cellK x c e v z⟩
  · obtain ⟨m, ⟨o, _, _, ho, _⟩, _⟩ := I.loc
    exact free _ o (fun z => (hch _ z).2.1 rfl) ho I.free
  · obtain ⟨v, o, ho, hd⟩ := I.cell x c e
    exact free c o (fun z => (hch c z).2.2.1 x c e rfl) ho (I.freeC x c e)
  · obtain ⟨e, n, ne, nf, d⟩ := I.pin p hp
    have nch : p.1 ∉ ch := fun z => (hch p.1 z).2.2.2 p hp rfl
    exact ⟨keep p.1 p.2 ne nf nch e n, free p.1 p.2 nch e n, ne, nf, d⟩
theorem Inv.un {t' : Nat} (I : Inv X pins σ H s) (u : Un X.fs [] H H' s.heap h') (hok : HOk X.prog X.w H' h') : Inv X pins σ H' { s with heap := h', toks := t' } := by
  obtain ⟨m, ⟨o, es, ep, ho, r⟩, _⟩ := id I.loc
  obtain ⟨sl, hL⟩ := u.any ho I.free (by simp)
  exact I.step (g' := s.gens) (d' := s.drawn) (ch := []) (fun _ z => nomatch z) (fun b o _ hb _ e n => u.keep b o e n hb (by simp)) (fun b o _ hb _ e n => u.slot b o e n hb (by simp)) (fun b o _ e n => u.free b o e n (by simp)) (fun b o _ e => u.there b o e (by simp)) u.tups u.frzs u.tbls (fun m' hm => by
    obtain ⟨o', es', ep', ho', r'⟩ := hm
    rw [ho] at ho'; cases ho'
    exact ⟨_, es', ep', hL, r'⟩) hok I.bare
theorem Inv.call {g' : Array GenState} {t' : Nat} {d' : Drawn} {ch : List Addr} (I : Inv X pins σ H s) (u : Un (frs X.stack) ch H H' s.heap h') (hok : HOk X.prog X.w H' h') (hg : AllBare g')
    (hch : ∀ b ∈ ch, (b ∈ X.ex ∨ X.s₀.heap.objs.size ≤ b) ∧ b ≠ X.env.locals ∧ (∀ x c, X.env.cells.lookup x = some c → c ≠ b) ∧ ∀ p ∈ X.pn ++ pins, p.1 ≠ b) :
    Inv X pins σ H' { s with heap := h', gens := g', drawn := d', toks := t' } := by
  obtain ⟨m, ⟨o, es, ep, ho, r⟩, _⟩ := id I.loc
  obtain ⟨sl, hL⟩ := u.any ho I.free fun z => (hch _ z).2.1 rfl
  exact I.step (ch := ch) hch (fun b o hL hb hc e n => u.keep b o e n (fun z => (List.mem_cons.mp (I.stkSub b z)).elim hL hb) hc) (fun b o _ _ hc e n => u.any e n hc) (fun b o hc e n => u.free b o e n hc) (fun b o hc e => u.there b o e hc) u.tups u.frzs u.tbls (fun m' hm => by
    obtain ⟨o', es', ep', ho', r'⟩ := hm
    rw [ho] at ho'; cases ho'
    exact ⟨_, es', ep', hL, r'⟩) hok hg
theorem Inv.turned {t' : Nat} {it : Addr} (I : Inv X pins σ H s) (k : ∀ b o, b ≠ it → s.heap.get? b = some o → h'.get? b = some o) (hn : H it = none) (hL : it ≠ X.env.locals)
    (h1 : it ∈ X.ex ∨ X.s₀.heap.objs.size ≤ it) (h2 : ∀ x c, X.env.cells.lookup x = some c → c ≠ it) (h3 : ∀ p ∈ X.pn ++ pins, p.1 ≠ it) : Inv X pins σ H { s with heap := h', toks := t' } := by
  have nit : ∀ b u, H b = some u → b ≠ it := fun b u e z => by rw [z, hn] at e; cases e
  refine I.step (g' := s.gens) (d' := s.drawn) (ch := [it]) (fun b hb => ?_) (fun b o _ _ hc e _ => k b o (fun z => hc (by simp [z])) e) (fun b o _ _ hc e _ => ⟨o.slots, k b o (fun z => hc (by simp [z])) e⟩) (fun _ _ _ _ n => n)
    (fun b o hc e => ⟨o, k b o (fun z => hc (by simp [z])) e⟩) (fun _ _ e => e) (fun _ _ _ e => e) (fun b ps e => ⟨#[], by rw [e]; simp⟩) (fun m hm => ?_) (fun b u e => ?_) I.bare
  · have e : b = it := by simpa using hb
    subst e
    exact ⟨h1, hL, h2, h3⟩
  · obtain ⟨o, es, ep, ho, r⟩ := hm
    exact ⟨o, es, ep, k _ o (Ne.symm hL) ho, r⟩
  · refine (I.hok b u e).stay (fun c v hc q => k c v ?_ q) (fun _ q => q) fun _ _ q => q
    rcases hc with z | z
    · rw [z]; exact nit b u e
    · exact nit c _ z
theorem Inv.tok (I : Inv X pins σ H s) (t : Nat) : Inv X pins σ H { s with toks := t } := I.un (h' := s.heap) (t' := t) Un.refl I.hok
theorem Inv.kept {t' : Nat} (I : Inv X pins σ H s) (k : ∀ b u, s.heap.get? b = some u → h'.get? b = some u) : Inv X pins σ H { s with heap := h', toks := t' } := I.un (Un.kept k) (I.hok.kept k)
theorem Inv.laid {a : Addr} {o : HO} {t' : Nat} (I : Inv X pins σ H s) (k : ∀ b u, s.heap.get? b = some u → h'.get? b = some u) (hp : s.heap.objs.size ≤ a) (new : ObjOk X.prog X.w (upd H a o) h' a o) :
    Inv X pins σ (upd H a o) { s with heap := h', toks := t' } := I.un (Un.laid k hp (I.hok.fresh hp)) (I.hok.laid k hp new)
theorem Inv.write {x e : Addr} {o : HO} {t' : Nat} (I : Inv X pins σ H s) (mu : Mut (H x)) (he : e = x ∨ H e = some (.own x)) (k : ∀ b u, b ≠ e → s.heap.get? b = some u → h'.get? b = some u) (heo : ∃ u, h'.get? e = some u)
    (new : ObjOk X.prog X.w (upd H x o) h' x o) : Inv X pins σ (upd H x o) { s with heap := h', toks := t' } := I.un (Un.write mu he k heo) (I.hok.write mu he k heo new)
theorem Inv.weak {σ' : List (Option V)} (I : Inv X pins σ H s) (hl : σ'.length = σ.length) (w : ∀ (i : Nat) v, σ'[i]? = some (some v) → σ[i]? = some (some v)) : Inv X pins σ' H s :=
  ⟨I.ok, I.os, I.bare, I.base, let ⟨m, hn, hl'⟩ := I.loc; ⟨m, hn, fun i x v e1 e2 e3 => hl' i x v e1 (w i v e2) e3⟩, I.cell, I.free, I.freeC, I.pin, I.hok, hl.trans I.len⟩
theorem Inv.pins_of {pins' : List (Addr × Obj)} (I : Inv X pins σ H s) (h : ∀ p ∈ pins', s.heap.get? p.1 = some p.2 ∧ H p.1 = none ∧ p.1 ≠ X.env.locals ∧ p.1 ∉ X.fs ∧ ∀ v, p.2.data ≠ .cell v) : Inv X pins' σ H s :=
  ⟨I.ok, I.os, I.bare, I.base, I.loc, I.cell, I.free, I.freeC, fun p hp => (List.mem_append.mp hp).elim (fun z => I.pin p (List.mem_append_left _ z)) (h p), I.hok, I.len⟩
theorem nodup_ix {N : List Str} (hN : N.Nodup) {i j : Nat} {x : Str} (a : N[i]? = some x) (b : N[j]? = some x) : i = j := by
  obtain ⟨h1, e1⟩ := List.getElem?_eq_some_iff.mp a
  obtain ⟨h2, e2⟩ := List.getElem?_eq_some_iff.mp b
  exact (List.getElem_inj hN).mp (e1.trans e2.symm)
theorem store_ok2 {M : Model} {A : Around} {E : Value → Shared → Prop} {i : Nat} {x : Str} {v : V} {u : Value} {Q : Unit → Shared → Prop} (I : Inv X pins σ H s) (hN : X.N.Nodup) (hi : X.N[i]? = some x) (hx : Loc X.env.scope x) (r : RelV v u)
    (h : ∀ s', Inv X pins (σ.set i (some v)) H s' → (∃ a, Heap.SameBut a s.heap s'.heap ∧ (a = X.env.locals ∨ X.env.cells.lookup x = some a)) → Q () s') (hf : X.fn x = true ∨ X.env.scope.names.lookup x = some .local := by first | exact .inl rfl | exact .inr rfl | assumption) : wpAny M A (storeName X.env x u) Q E s := by
  obtain ⟨m, hn, hl⟩ := id I.loc
  have hcls : (X.env.scope.kind == .class || (X.env.scope.kind == .module && X.env.locals != X.env.globals)) = false := by rw [I.ok.kind]; rfl
  have hiσ : i < σ.length := by rw [I.len]; exact (List.getElem?_eq_some_iff.mp hi).1
  have cne := I.cne
  have tracked : ∀ {a : Addr} {h' : Heap}, (∃ o, s.heap.get? a = some o ∧ H a = none) → Heap.SameBut a s.heap h' → HOk X.prog X.w H h' := fun {a h'} ha hs b ob e => by
    obtain ⟨_, _, hfree⟩ := ha
    refine (I.hok b ob e).stay (fun c w' hc q => (hs.2 c ?_).trans q) (fun _ q => q) fun _ _ q => q
    rintro rfl
    rcases hc with rfl | hc
    · rw [hfree] at e; cases e
    · rw [hfree] at hc; cases hc
  rcases hx with hk | hk
  · refine wpAny_storeName_local hk hn (fun h' hn' hs => ?_) hcls
    obtain ⟨oL, _, _, hoL, _⟩ := id hn
    refine h _ ⟨I.ok, I.os, I.bare, ⟨fun b o e n hb hx => ?_, fun b o e n hb hx => ?_, I.base.free, fun b o e hx => ?_, I.base.tups, I.base.frzs, I.base.tbls⟩, ⟨_, hn', fun j y v' e1 e2 e3 => ?_⟩, fun y c e => ?_, I.free, I.freeC, fun p hp => ?_, tracked ⟨oL, hoL, I.free⟩ hs, by simpa using I.len⟩ ⟨_, hs, .inl rfl⟩
    · exact (hs.2 b (Nat.ne_of_lt (Nat.lt_of_lt_of_le (Heap.lt_size e) I.ok.above))).trans (I.base.keep b o e n hb hx)
    · obtain ⟨sl, e1⟩ := I.base.slot b o e n hb hx
      exact ⟨sl, (hs.2 b (Nat.ne_of_lt (Nat.lt_of_lt_of_le (Heap.lt_size e) I.ok.above))).trans e1⟩
    · obtain ⟨o', e1⟩ := I.base.there b o e hx
      exact ⟨o', (hs.2 b (Nat.ne_of_lt (Nat.lt_of_lt_of_le (Heap.lt_size e) I.ok.above))).trans e1⟩
    · by_cases hj : j = i
      · subst hj
        rw [hi] at e1; cases e1
        rw [List.getElem?_set_self hiσ] at e2
        cases e2
        exact ⟨u, r, .inl ⟨hk, by simp⟩⟩
      · rw [List.getElem?_set_ne (Ne.symm hj)] at e2
        obtain ⟨u', r', q⟩ := hl j y v' e1 e2 e3
        refine ⟨u', r', ?_⟩
        rcases q with ⟨k, e⟩ | ⟨k, c, e, z⟩
        · refine .inl ⟨k, ?_⟩
          have : y ≠ x := fun e => hj (nodup_ix hN e1 (e ▸ hi))
          simp [this, e]
        · exact .inr ⟨k, c, e, z.sameBut hs (cne y c e)⟩
    · obtain ⟨w', z⟩ := I.cell y c e
      exact ⟨w', z.sameBut hs (cne y c e)⟩
    · obtain ⟨e, n, ne, nf, d⟩ := I.pin p hp
      exact ⟨(hs.2 p.1 ne).trans e, n, ne, nf, d⟩
  · have hfn : X.fn x = true := by
      rcases hf with z | z
      · exact z
      · rw [z] at hk; cases hk
    obtain ⟨c, hc⟩ := I.ok.has x (.inl hk)
    obtain ⟨w', z⟩ := I.cell x c hc
    refine wpAny_storeName_cell I.ok.kind hk hc z (fun h' hc' hs => ?_)
    obtain ⟨oc, hoc, hocd⟩ := id z
    refine h { s with heap := h' } ⟨I.ok, I.os, I.bare, ⟨fun b o e n hb hx => ?_, fun b o e n hb hx => ?_, I.base.free, fun b o e hx => ?_, I.base.tups, I.base.frzs, I.base.tbls⟩, ⟨m, hn.sameBut hs (Ne.symm (cne x c hc)), fun j y v' e1 e2 e3 => ?_⟩, fun y c' e => ?_, I.free, I.freeC, fun p hp => ?_, tracked ⟨oc, hoc, I.freeC x c hc⟩ hs, by simpa using I.len⟩ ⟨c, hs, .inr hc⟩
    · exact (hs.2 b (Nat.ne_of_lt (Nat.lt_of_lt_of_le (Heap.lt_size e) (I.ok.cab x c hfn hc)))).trans (I.base.keep b o e n hb hx)
    · obtain ⟨sl, e1⟩ := I.base.slot b o e n hb hx
      exact ⟨sl, (hs.2 b (Nat.ne_of_lt (Nat.lt_of_lt_of_le (Heap.lt_size e) (I.ok.cab x c hfn hc)))).trans e1⟩
    · obtain ⟨o', e1⟩ := I.base.there b o e hx
      exact ⟨o', (hs.2 b (Nat.ne_of_lt (Nat.lt_of_lt_of_le (Heap.lt_size e) (I.ok.cab x c hfn hc)))).trans e1⟩
    · by_cases hj : j = i
      · subst hj
        rw [hi] at e1; cases e1
        rw [List.getElem?_set_self hiσ] at e2
        cases e2
        exact ⟨u, r, .inr ⟨.inl hk, c, hc, hc'⟩⟩
      · rw [List.getElem?_set_ne (Ne.symm hj)] at e2
        obtain ⟨u', r', q⟩ := hl j y v' e1 e2 e3
        refine ⟨u', r', ?_⟩
        rcases q with q | ⟨k, c', e, z'⟩
        · exact .inl q
        · refine .inr ⟨k, c', e, z'.sameBut hs ?_⟩
          rintro rfl
          exact hj (nodup_ix hN e1 (I.ok.inj _ _ _ e hc ▸ hi))
    · by_cases hcc : c' = c
      · subst hcc; exact ⟨_, hc'⟩
      · obtain ⟨w2, z2⟩ := I.cell y c' e
        exact ⟨w2, z2.sameBut hs hcc⟩
    · obtain ⟨e, n, ne, nf, d⟩ := I.pin p hp
      refine ⟨(hs.2 p.1 ?_).trans e, n, ne, nf, d⟩
      intro q
      rw [q, hoc] at e
      have q' : oc = p.2 := Option.some.inj e
      exact d w' (by rw [← q']; exact hocd)
theorem store_ok {M : Model} {A : Around} {E : Value → Shared → Prop} {i : Nat} {x : Str} {v : V} {u : Value} {Q : Unit → Shared → Prop} (I : Inv X pins σ H s) (hN : X.N.Nodup) (hi : X.N[i]? = some x) (hx : Loc X.env.scope x) (r : RelV v u)
    (h : ∀ s', Inv X pins (σ.set i (some v)) H s' → Q () s') (hf : X.fn x = true ∨ X.env.scope.names.lookup x = some .local := by first | exact .inl rfl | exact .inr rfl | assumption) : wpAny M A (storeName X.env x u) Q E s :=
  store_ok2 I hN hi hx r (fun s' I' _ => h s' I') hf
theorem Inv.call' {s' : Shared} {ch : List Addr} (I : Inv X pins σ H s) (ho : s'.os = s.os) (u : Un (frs X.stack) ch H H' s.heap s'.heap) (hok : HOk X.prog X.w H' s'.heap) (hg : AllBare s'.gens)
    (hch : ∀ b ∈ ch, (b ∈ X.ex ∨ X.s₀.heap.objs.size ≤ b) ∧ b ≠ X.env.locals ∧ (∀ x c, X.env.cells.lookup x = some c → c ≠ b) ∧ ∀ p ∈ X.pn ++ pins, p.1 ≠ b) : Inv X pins σ H' s' := by
  obtain ⟨h', g', d', t', o'⟩ := s'
  have e : o' = s.os := ho
  subst e
  exact I.call (g' := g') (t' := t') (d' := d') u hok hg hch
end
abbrev XK := Value → Option Addr → Hp → Prop
abbrev St := List (Option V)
abbrev VK := V → Hp → Prop
abbrev TE := St → Hp → VK → Prop
abbrev TT := St → Hp → (Bool → Hp → Prop) → Prop
abbrev TA := St → Hp → (List V → Hp → Prop) → Prop
structure Ends where
  nx : St → Hp → Prop
  rt : VK
  bk : St → Hp → Prop := fun _ _ => False
  ct : St → Hp → Prop := fun _ _ => False
abbrev TS := Ends → St → Hp → Prop
def EP (X : Cx) (pins : List (Addr × Obj)) (σ : St) (Q : VK) (u : Value) (s' : Shared) : Prop := ∃ v H', Inv X pins σ H' s' ∧ RelV v u ∧ Q v H'
def TP (X : Cx) (pins : List (Addr × Obj)) (σ : St) (Q : Bool → Hp → Prop) (b : Bool) (s' : Shared) : Prop := ∃ H', Inv X pins σ H' s' ∧ Q b H'
def AP (X : Cx) (pins : List (Addr × Obj)) (σ : St) (Q : List V → Hp → Prop) (us : List Value) (s' : Shared) : Prop := ∃ vs H', Inv X pins σ H' s' ∧ Vals vs us ∧ Q vs H'
def SP (X : Cx) (pins : List (Addr × Obj)) (D : Ends) (f : Flow) (s' : Shared) : Prop :=
  match f with
  | .next => ∃ σ' H', Inv X pins σ' H' s' ∧ D.nx σ' H'
  | .brk => ∃ σ' H', Inv X pins σ' H' s' ∧ D.bk σ' H'
  | .cont => ∃ σ' H', Inv X pins σ' H' s' ∧ D.ct σ' H'
  | .ret u => ∃ v σ' H', Inv X pins σ' H' s' ∧ RelV v u ∧ D.rt v H'
def PE (X : Cx) (e : Expr) (t : TE) : Prop :=
  ∀ (pins : List (Addr × Obj)) (s : Shared) (σ : St) (H : Hp) (Q : VK), Inv X pins σ H s → t σ H Q → wpAny (model X.prog X.w) X.A (eval e X.env) (EP X pins σ Q) X.xe s
def PT (X : Cx) (e : Expr) (t : TT) : Prop :=
  ∀ (pins : List (Addr × Obj)) (s : Shared) (σ : St) (H : Hp) (Q : Bool → Hp → Prop), Inv X pins σ H s → t σ H Q → wpAny (model X.prog X.w) X.A (isTrue e X.env (eval e X.env)) (TP X pins σ Q) X.xe s
def PW (X : Cx) (e : Expr) (t : TT) : Prop :=
  ∀ (whole : Sem Value) (pins : List (Addr × Obj)) (s : Shared) (σ : St) (H : Hp) (Q : Bool → Hp → Prop), Inv X pins σ H s → t σ H Q → wpAny (model X.prog X.w) X.A (isTrue e X.env whole) (TP X pins σ Q) X.xe s
theorem PW.pt {X : Cx} {e : Expr} {t : TT} (h : PW X e t) : PT X e t := h _
def PA (X : Cx) (es : List Expr) (t : TA) : Prop :=
  ∀ (pos : Pos) (pins : List (Addr × Obj)) (s : Shared) (σ : St) (H : Hp) (Q : List V → Hp → Prop), Inv X pins σ H s → t σ H Q → wpAny (model X.prog X.w) X.A (spliced (backTo pos (starEach es X.env))) (AP X pins σ Q) X.xe s
def PS (X : Cx) (st : Stmt) (t : TS) : Prop :=
  ∀ (pins : List (Addr × Obj)) (s : Shared) (σ : St) (H : Hp) (D : Ends), Inv X pins σ H s → t D σ H → wpAny (model X.prog X.w) X.A (exec st X.env) (SP X pins D) X.xe s
def PSs (X : Cx) (st : List Stmt) (t : TS) : Prop :=
  ∀ (pins : List (Addr × Obj)) (s : Shared) (σ : St) (H : Hp) (D : Ends), Inv X pins σ H s → t D σ H → wpAny (model X.prog X.w) X.A (execs st X.env) (SP X pins D) X.xe s
theorem thn {α : Type} {t : Sem α} {Q Q' : α → Shared → Prop} {M : Model} {A : Around} {E : Value → Shared → Prop} {s : Shared} (h : wpAny M A t Q E s) (hQ : ∀ a s, Q a s → Q' a s) : wpAny M A t Q' E s := wpAny_mono h hQ fun _ _ x => x
end L2
namespace L2
open PySem PySem.Spec PyProof.Rows
section
variable {X : Cx}
def tVar (i : Nat) : TE := fun σ H Q => ∃ v, σ[i]? = some (some v) ∧ Q v H
def tC (v : V) : TE := fun _ H Q => Q v H
theorem pe_var {i : Nat} {x : Str} {pos : Pos} (hN : X.N[i]? = some x) (hv : Vis X.env.scope x) (hd : (x == ("__debug__" : Str)) = false := by decide) (hcd : (x == ("__classdict__" : Str)) = false := by decide) : PE X (.Name x pos) (tVar i) := by
  intro pins s σ H Q I h
  obtain ⟨v, e, h⟩ := h
  obtain ⟨m, hn, hl⟩ := I.loc
  obtain ⟨u, r, l⟩ := hl i x v hN e hv
  have fin : EP X pins σ Q u s := ⟨v, H, I, r, h⟩
  rcases l with ⟨hk, hm⟩ | ⟨hk, c, hc, hcell⟩
  · exact wpAny_Name (wpAny_loadName_local I.ok.kind hk hn hm fin) hd
  · rcases hk with hk | hk
    · exact wpAny_Name (wpAny_loadName_cell I.ok.kind hk hc hcell fin) hd
    · exact wpAny_Name (wpAny_loadName_free I.ok.kind hk hc hcell fin hcd) hd
theorem pe_int {i j pos} : PE X (.Constant (.int i) j pos) (tC (.int i)) := fun _ _ _ H _ I h => wpAny_Constant_int ⟨.int i, H, I.tok _, ⟨_, rfl⟩, h⟩
theorem pe_bl {b j pos} : PE X (.Constant (.bool b) j pos) (tC (.bl b)) := fun _ _ _ H _ I h => Constant_bool ⟨.bl b, H, I, rfl, h⟩
theorem pe_non {j pos} : PE X (.Constant .none j pos) (tC .non) := fun _ _ _ H _ I h => Constant_none ⟨.non, H, I, rfl, h⟩
def Gl (X : Cx) (x : Str) : Prop := X.env.kindOf x = some .globalImplicit
theorem ld_glob {E : Value → Shared → Prop} {pins : List (Addr × Obj)} {s : Shared} {σ : St} {H : Hp} {x : Str} {u : Value} {pos : Pos} {Q : Value → Shared → Prop} (I : Inv X pins σ H s) (hg : Gl X x) (hm : X.mg x = some u) (h : Q u s)
    (hd : (x == ("__debug__" : Str)) = false := by decide) : wpAny (model X.prog X.w) X.A (eval (.Name x pos) X.env) Q E s :=
  Calls.Name_function_global I.ok.kind hg (Calls.loadGlobal_global (by rw [I.ok.glob]; exact I.mod.glob.keeps I.bk) hm h) hd
theorem ld_blt {E : Value → Shared → Prop} {pins : List (Addr × Obj)} {s : Shared} {σ : St} {H : Hp} {x : Str} {u : Value} {pos : Pos} {Q : Value → Shared → Prop} (I : Inv X pins σ H s) (hg : Gl X x) (hm : X.mg x = none) (hv : bootBuiltins x = some u) (h : Q u s)
    (hn : x ≠ "__name__" := by decide) (hd : (x == ("__debug__" : Str)) = false := by decide) : wpAny (model X.prog X.w) X.A (eval (.Name x pos) X.env) Q E s := by
  obtain ⟨mb, h1, h2⟩ := I.mod.blt
  exact Calls.Name_function_global I.ok.kind hg (Calls.loadGlobal_builtin (by rw [I.ok.glob]; exact I.mod.glob.keeps I.bk) hm (by rw [I.ok.blt]; exact h1.keeps I.bk) ((h2 x hn).trans hv) h) hd
def t2I (ta tb : TE) (k : Int → Int → Hp → Prop) : St → Hp → Prop := fun σ H => ta σ H fun x H1 => tb σ H1 fun y H2 => ∃ i j, x = .int i ∧ y = .int j ∧ k i j H2
def tMul (ta tb : TE) : TE := fun σ H Q => t2I ta tb (fun i j H2 => (-(2 ^ 64) < i ∧ i < 2 ^ 64) ∧ Q (.int (i * j)) H2) σ H
variable {a b : Expr} {ta tb : TE} {pos : Pos}
def PC (X : Cx) (op : CmpOp) (a b : Expr) (t : TE) : Prop :=
  ∀ (pins : List (Addr × Obj)) (s : Shared) (σ : St) (H : Hp) (Q : VK), Inv X pins σ H s → t σ H Q →
    wpAny (model X.prog X.w) X.A (eval a X.env) (fun v s₁ => wpAny (model X.prog X.w) X.A (eval b X.env) (fun u s₂ => wpAny (model X.prog X.w) X.A (compareOp op v u) (EP X pins σ Q) X.xe s₂) X.xe s₁) X.xe s
theorem nobehind (b : Expr) {op : CmpOp} (h : op ≠ .In) (h2 : op ≠ .NotIn) : behindInMarks op b = false := by
  have e1 : (op == CmpOp.In) = false := by cases op <;> first | rfl | exact absurd rfl h
  have e2 : (op == CmpOp.NotIn) = false := by cases op <;> first | rfl | exact absurd rfl h2
  cases b <;> simp [behindInMarks, e1, e2]
def tIsN (ta : TE) : TE := fun σ H Q => ta σ H fun x H1 => Q (.bl (decide (x = .non))) H1
def tNotN (ta : TE) : TE := fun σ H Q => ta σ H fun x H1 => Q (.bl (!decide (x = .non))) H1
theorem RelV.none_iff {x : V} {v : Value} (r : RelV x v) : (v == Value.none) = decide (x = .non) := by
  cases x with
  | non => cases r; rfl
  | bl _ => cases r; rfl
  | int _ => obtain ⟨t, rfl⟩ := r; rfl
  | str _ => obtain ⟨t, rfl⟩ := r; rfl
  | byt _ => obtain ⟨t, rfl⟩ := r; rfl
  | flt _ => obtain ⟨t, rfl⟩ := r; rfl
  | ref _ => cases r; rfl
  | ty _ => cases r; rfl
theorem pc_isN {j pos'} (ha : PE X a ta) : PC X .Is a (.Constant .none j pos') (tIsN ta) := by
  intro pins s σ H Q I h
  refine thn (ha pins s σ H _ I h) fun v s1 ⟨x, H1, I1, r1, q1⟩ => ?_
  exact Constant_none (is_none_gen ⟨.bl _, H1, I1, by rw [r1.none_iff]; rfl, q1⟩)
theorem pc_notN {j pos'} (ha : PE X a ta) : PC X .IsNot a (.Constant .none j pos') (tNotN ta) := by
  intro pins s σ H Q I h
  refine thn (ha pins s σ H _ I h) fun v s1 ⟨x, H1, I1, r1, q1⟩ => ?_
  exact Constant_none (isnot_none_gen ⟨.bl _, H1, I1, by rw [r1.none_iff]; rfl, q1⟩)
def tB (t : TE) : TT := fun σ H Q => t σ H fun x H1 => ∃ c, x = .bl c ∧ Q c H1
theorem pe_cmp {op : CmpOp} {t : TE} (h : PC X op a b t) (h1 : behindInMarks op b = false := by first | exact nobehind _ (by decide) (by decide) | rfl) : PE X (.Compare a [op] [b] pos) t := fun pins s σ H Q I hw => wpAny_Compare1 (h pins s σ H Q I hw) h1
theorem pt_cmp {op : CmpOp} {t : TE} (h : PC X op a b t) (h1 : behindInMarks op b = false := by first | exact nobehind _ (by decide) (by decide) | rfl) : PT X (.Compare a [op] [b] pos) (tB t) := by
  intro pins s σ H Q I hw
  refine wpAny_isTrue_Compare1 (thn (h pins s σ H _ I hw) fun v s1 h1 => thn h1 fun u s2 h2 => thn h2 fun c s3 ⟨x, H1, I1, r1, q1⟩ => ?_) h1
  obtain ⟨d, rfl, q⟩ := q1
  cases r1
  exact wpAny_truthy_bool ⟨H1, I1, q⟩
theorem pt_val {e : Expr} {t : TE} (h : PE X e t) (he : ∀ whole, isTrue e X.env whole = (do let v ← whole; standAt e.pos; holding [v] (truthy v)) := by intro _; rfl) : PT X e (tB t) := by
  intro pins s σ H Q I hw
  refine isTrue_plain (thn (h pins s σ H _ I hw) fun v s1 ⟨x, H1, I1, r1, q1⟩ => ?_) (he _)
  obtain ⟨d, rfl, q⟩ := q1
  cases r1
  exact wpAny_truthy_bool ⟨H1, I1, q⟩
variable {tA tB' : TT} {rest : List Expr}
def tOr (t u : TT) : TT := fun σ H Q => t σ H fun c H1 => if c = true then Q true H1 else u σ H1 Q
def tNot (t : TT) : TT := fun σ H Q => t σ H fun c H1 => Q (!c) H1
theorem pw_or1 (ha : PT X a tA) : PW X (.BoolOp .Or [a] pos) tA := by
  intro wh pins s σ H Q I h
  refine isTrue_or (thn (ha pins s σ H Q I h) fun c s1 e => ?_)
  cases c with
  | false => exact isTrue_or_nil e
  | true => exact e
theorem pw_or (ha : PT X a tA) (hb : PW X (.BoolOp .Or (b :: rest) pos) tB') : PW X (.BoolOp .Or (a :: b :: rest) pos) (tOr tA tB') := by
  intro wh pins s σ H Q I h
  refine isTrue_or (thn (ha pins s σ H _ I h) fun c s1 ⟨H1, I1, q1⟩ => ?_)
  cases c with
  | true => exact ⟨H1, I1, q1⟩
  | false => exact hb wh pins s1 σ H1 Q I1 q1
theorem pt_not (ha : PT X a tA) : PT X (.UnaryOp .Not a pos) (tNot tA) := by
  intro pins s σ H Q I h
  exact isTrue_not (ha pins s σ H (fun c H1 => Q (!c) H1) I h)
def tAndV (ta tb : TE) : TE := fun σ H Q => ta σ H fun x H1 => ∃ c, x = .bl c ∧ if c = true then tb σ H1 Q else Q (.bl false) H1
theorem pe_one {op} {t : TE} (h : PE X a t) : PE X (.BoolOp op [a] pos) t := fun pins s σ H Q I hw => BoolOp_one (h pins s σ H Q I hw)
theorem pe_and (ha : PE X a ta) (hb : PE X (.BoolOp .And (b :: rest) pos) tb) : PE X (.BoolOp .And (a :: b :: rest) pos) (tAndV ta tb) := by
  intro pins s σ H Q I h
  refine BoolOp_and (thn (ha pins s σ H _ I h) fun v s1 ⟨x, H1, I1, r1, q1⟩ => ?_)
  obtain ⟨c, rfl, q1⟩ := q1
  cases r1
  refine wpAny_truthy_bool ?_
  cases c with
  | true => exact hb pins s1 σ H1 Q I1 q1
  | false => exact ⟨.bl false, H1, I1, rfl, q1⟩
def tIf (t : TT) (ta tb : TE) : TE := fun σ H Q => t σ H fun c H1 => if c = true then ta σ H1 Q else tb σ H1 Q
theorem pe_ifExp {c : Expr} (hc : PT X c tA) (ha : PE X a ta) (hb : PE X b tb) : PE X (.IfExp c a b pos) (tIf tA ta tb) := by
  intro pins s σ H Q I h
  refine wpAny_IfExp (thn (hc pins s σ H _ I h) fun d s1 ⟨H1, I1, q1⟩ => ?_)
  cases d with
  | true => exact ha pins s1 σ H1 Q I1 q1
  | false => exact hb pins s1 σ H1 Q I1 q1
end
end L2
namespace L2
open PySem PySem.Spec PyProof.Rows
def SqL (K : PySem.W.Frag) (H : Hp) (a : Addr) (xs : List V) : Prop :=
  Rd H a (.lst xs) ∨
    ∃ (o : Obj) (its : Array Value) (n : Nat), K.lookup a = some o ∧ o.cls = .type "list" ∧ o.dict = none ∧ o.data = .seq its n ∧ its.size ≤ sizeLine ∧ Vals xs its.toList
def SqT (K : PySem.W.Frag) (H : Hp) (a : Addr) (xs : List V) : Prop :=
  Rd H a (.tup xs) ∨
    ∃ (o : Obj) (its : Array Value) (n : Nat), K.lookup a = some o ∧ o.cls = .type "tuple" ∧ o.data = .seq its n ∧ its.size ≤ sizeLine ∧ Vals xs its.toList
def absV : Value → Option V
  | .none => some .non
  | .bool b => some (.bl b)
  | .int i _ => some (.int i)
  | .str x _ => some (.str x)
  | .bytes b _ => some (.byt b)
  | .float b _ => some (.flt b)
  | .ref a => some (.ref a)
  | .type n => some (.ty n)
  | _ => none
theorem RelV.abs {x : V} {u : Value} (r : RelV x u) : absV u = some x := by
  cases x with
  | non => cases r; rfl
  | bl _ => cases r; rfl
  | int _ => obtain ⟨t, rfl⟩ := r; rfl
  | str _ => obtain ⟨t, rfl⟩ := r; rfl
  | byt _ => obtain ⟨t, rfl⟩ := r; rfl
  | flt _ => obtain ⟨t, rfl⟩ := r; rfl
  | ref _ => cases r; rfl
  | ty _ => cases r; rfl
theorem RelV.inj {x y : V} {u : Value} (r : RelV x u) (q : RelV y u) : x = y := Option.some.inj (r.abs.symm.trans q.abs)
theorem Vals.inj : ∀ {xs ys : List V} {us : List Value}, Vals xs us → Vals ys us → xs = ys
  | _, _, _, .nil, .nil => rfl
  | _, _, _, .cons r t, .cons r' t' => by rw [r.inj r', Vals.inj t t']
section
variable {X : Cx} {pins : List (Addr × Obj)} {σ : St} {H : Hp} {s : Shared} {a : Addr} {xs ys : List V}
theorem SqL.of {K : PySem.W.Frag} (h : H a = some (.lst xs)) : SqL K H a xs := .inl (.inl h)
theorem SqT.of {K : PySem.W.Frag} (h : H a = some (.tup xs)) : SqT K H a xs := .inl (.inl h)
theorem Inv.list (I : Inv X pins σ H s) (h : SqL X.K H a xs) : ∃ its : List Value, Vals xs its ∧ PlainL s.heap a its.toArray ∧ xs.length ≤ sizeLine := by
  rcases h with h | ⟨o, its, n, hk, hc, hd, hs, hz, r⟩
  · obtain ⟨z, its, n, r, e⟩ := h.ok I.hok
    exact ⟨its, r, ⟨_, n, e, rfl, rfl, rfl⟩, z⟩
  · refine ⟨its.toList, r, ⟨o, n, I.kIn a o hk, hc, hd, by simpa using hs⟩, ?_⟩
    have e := r.length
    simp only [Array.length_toList] at e
    omega
theorem Inv.tuple (I : Inv X pins σ H s) (h : SqT X.K H a xs) : ∃ its : List Value, Vals xs its ∧ IsTup s.heap a its.toArray ∧ xs.length ≤ sizeLine := by
  rcases h with h | ⟨o, its, n, hk, hc, hs, hz, r⟩
  · obtain ⟨z, its, r, p⟩ := h.ok I.hok
    exact ⟨its, r, p.is, z⟩
  · refine ⟨its.toList, r, ⟨o, I.kIn a o hk, hc, n, by simpa using hs⟩, ?_⟩
    have e := r.length
    simp only [Array.length_toList] at e
    omega
theorem Inv.list_inj (I : Inv X pins σ H s) (h : SqL X.K H a xs) (h' : SqL X.K H a ys) : xs = ys := by
  obtain ⟨its, r, ⟨o, n, e, _, _, d⟩, _⟩ := I.list h
  obtain ⟨its', r', ⟨o', n', e', _, _, d'⟩, _⟩ := I.list h'
  rw [e] at e'; cases e'
  rw [d] at d'
  injection d' with d1 _
  have : its = its' := by simpa using congrArg Array.toList d1
  subst this
  exact r.inj r'
theorem Inv.tuple_inj (I : Inv X pins σ H s) (h : SqT X.K H a xs) (h' : SqT X.K H a ys) : xs = ys := by
  obtain ⟨its, r, ⟨o, e, _, n, d⟩, _⟩ := I.tuple h
  obtain ⟨its', r', ⟨o', e', _, n', d'⟩, _⟩ := I.tuple h'
  rw [e] at e'; cases e'
  rw [d] at d'
  injection d' with d1 _
  have : its = its' := by simpa using congrArg Array.toList d1
  subst this
  exact r.inj r'
end
abbrev Cx.wish (X : Cx) (E : Value → Shared → Prop) : Cx := { X with xe := E }
abbrev Cx.nox (X : Cx) : Cx := X.wish fun _ _ => False
theorem Cx.Ok.wish {X : Cx} (ok : X.Ok) (E : Value → Shared → Prop) : (X.wish E).Ok :=
  ⟨ok.mod, ok.kind, ok.glob, ok.blt, ok.above, ok.inj, ok.has, ok.cab, ok.hd, ok.frames, ok.stk, ok.exf, ok.bs, ok.bsz, ok.noex, ok.exfs, ok.funs, ok.frf⟩
theorem Cx.Ok.unwish {X : Cx} {E : Value → Shared → Prop} (ok : (X.wish E).Ok) : X.Ok :=
  ⟨ok.mod, ok.kind, ok.glob, ok.blt, ok.above, ok.inj, ok.has, ok.cab, ok.hd, ok.frames, ok.stk, ok.exf, ok.bs, ok.bsz, ok.noex, ok.exfs, ok.funs, ok.frf⟩
section
variable {X : Cx} {pins : List (Addr × Obj)} {σ : St} {H : Hp} {s : Shared} {E : Value → Shared → Prop}
theorem Inv.wish (I : Inv X pins σ H s) (E : Value → Shared → Prop) : Inv (X.wish E) pins σ H s := ⟨I.ok.wish E, I.os, I.bare, I.base, I.loc, I.cell, I.free, I.freeC, I.pin, I.hok, I.len⟩
theorem Inv.unwish (I : Inv (X.wish E) pins σ H s) : Inv X pins σ H s := ⟨I.ok.unwish, I.os, I.bare, I.base, I.loc, I.cell, I.free, I.freeC, I.pin, I.hok, I.len⟩
theorem SP.unwish {D : Ends} {f : Flow} {s' : Shared} (h : SP (X.wish E) pins D f s') : SP X pins D f s' := by
  cases f with
  | next => obtain ⟨σ', H', I, q⟩ := h; exact ⟨σ', H', I.unwish, q⟩
  | brk => obtain ⟨σ', H', I, q⟩ := h; exact ⟨σ', H', I.unwish, q⟩
  | cont => obtain ⟨σ', H', I, q⟩ := h; exact ⟨σ', H', I.unwish, q⟩
  | ret u => obtain ⟨v, σ', H', I, r, q⟩ := h; exact ⟨v, σ', H', I.unwish, r, q⟩
theorem PSs.nox {st : List Stmt} {t : TS} (h : PSs X.nox st t) : PSs X st t := fun pins s σ H D I hw =>
  wpAny_mono (h pins s σ H D (I.wish _) hw) (fun _ _ q => q.unwish) fun _ _ z => False.elim z
end
section
variable {X : Cx} {st : Stmt} {rest : List Stmt} {t u : TS} {e : Expr} {te : TE} {pos : Pos}
def tNext : TS := fun D σ H => D.nx σ H
def tSeq (t u : TS) : TS := fun D σ H => t { D with nx := u D } σ H
theorem pss_nil : PSs X [] tNext := fun _ _ σ H _ I h => wpAny_execs_nil ⟨σ, H, I, h⟩
theorem pss_cons (h1 : PS X st t) (h2 : PSs X rest u) : PSs X (st :: rest) (tSeq t u) := by
  intro pins s σ H D I h
  refine wpAny_execs_cons (thn (h1 pins s σ H { D with nx := u D } I h) fun f s1 q => ?_)
  cases f with
  | next =>
    obtain ⟨σ', H', I', q⟩ := q
    exact h2 pins s1 σ' H' D I' q
  | ret v => exact q
  | brk => exact q
  | cont => exact q
theorem pss_one (h1 : PS X st t) : PSs X [st] t := by
  intro pins s σ H D I h
  refine wpAny_execs_cons (thn (h1 pins s σ H D I h) fun f s1 q => ?_)
  cases f with
  | next => exact wpAny_execs_nil q
  | ret v => exact q
  | brk => exact q
  | cont => exact q
theorem Inv.quiet {pins : List (Addr × Obj)} {σ : St} {H : Hp} {s : Shared} (I : Inv X pins σ H s) : interactive X.env = false := by simp [interactive, I.ok.kind]
def tDrop (te : TE) : TS := fun D σ H => te σ H fun _ H1 => D.nx σ H1
theorem ps_expr (he : PE X e te) (hs : swapsWith e none pos.line X.env = pure false := by rfl) : PS X (.Expr e pos) (tDrop te) := by
  intro pins s σ H D I h
  exact wpAny_Expr_any (thn (he pins s σ H _ I h) fun v s1 ⟨x, H1, I1, r1, q1⟩ => ⟨σ, H1, I1, q1⟩) I.quiet hs
def tRet (te : TE) : TS := fun D σ H => te σ H D.rt
theorem ps_ret (he : PE X e te) : PS X (.Return (some e) pos) (tRet te) := by
  intro pins s σ H D I h
  exact wpAny_Return_some (thn (he pins s σ H _ I h) fun v s1 ⟨x, H1, I1, r1, q1⟩ => ⟨x, σ, H1, I1, r1, q1⟩)
def tIfS (c : TT) (t u : TS) : TS := fun D σ H => c σ H fun b H1 => if b = true then t D σ H1 else u D σ H1
theorem ps_if {c : Expr} {a b : List Stmt} {tc : TT} (hc : PT X c tc) (ha : PSs X a t) (hb : PSs X b u) : PS X (.If c a b pos) (tIfS tc t u) := by
  intro pins s σ H D I h
  refine wpAny_If (thn (hc pins s σ H _ I h) fun d s1 ⟨H1, I1, q1⟩ => ?_)
  cases d with
  | true => exact ha pins s1 σ H1 D I1 q1
  | false => exact hb pins s1 σ H1 D I1 q1
def tNever : TS := fun _ _ _ => False
end
abbrev TG := V → St → Hp → (St → Hp → Prop) → Prop
abbrev TGs := List V → St → Hp → (St → Hp → Prop) → Prop
def PG (X : Cx) (target : Expr) (t : TG) : Prop :=
  ∀ (pins : List (Addr × Obj)) (s : Shared) (σ : St) (H : Hp) (v : V) (u : Value) (Q : St → Hp → Prop), Inv X pins σ H s → RelV v u → t v σ H Q →
    wpAny (model X.prog X.w) X.A (assign target X.env u) (fun _ s' => ∃ σ' H', Inv X pins σ' H' s' ∧ Q σ' H') X.xe s
def PGs (X : Cx) (ts : List Expr) (t : TGs) : Prop :=
  ∀ (pins : List (Addr × Obj)) (s : Shared) (σ : St) (H : Hp) (vs : List V) (us : List Value) (Q : St → Hp → Prop), Inv X pins σ H s → Vals vs us → t vs σ H Q →
    wpAny (model X.prog X.w) X.A (assignInOrder ((assignEach ts X.env).map (·.2)) us) (fun _ s' => ∃ σ' H', Inv X pins σ' H' s' ∧ Q σ' H') X.xe s
abbrev TSet := V → V → V → Hp → (Hp → Prop) → Prop
def PSet (X : Cx) (t : TSet) : Prop :=
  ∀ (pins : List (Addr × Obj)) (s : Shared) (σ : St) (H : Hp) (o i v : V) (ov iv u : Value) (Q : Hp → Prop), Inv X pins σ H s → RelV o ov → RelV i iv → RelV v u → t o i v H Q →
    wpAny (model X.prog X.w) X.A (setItem ov iv u) (fun _ s' => ∃ H', Inv X pins σ H' s' ∧ Q H') X.xe s
abbrev TIp := V → V → Hp → VK → Prop
def PIp (X : Cx) (op : Operator) (t : TIp) : Prop :=
  ∀ (pins : List (Addr × Obj)) (s : Shared) (σ : St) (H : Hp) (x y : V) (v u : Value) (Q : VK), Inv X pins σ H s → RelV x v → RelV y u → t x y H Q →
    wpAny (model X.prog X.w) X.A (inplaceOp op v u) (EP X pins σ Q) X.xe s
section
variable {X : Cx} {pos : Pos}
def gName (i : Nat) : TG := fun v σ H Q => Q (σ.set i (some v)) H
theorem pg_name {i : Nat} {x : Str} (hN : X.N.Nodup) (hi : X.N[i]? = some x) (hx : Loc X.env.scope x) (hf : X.fn x = true ∨ X.env.scope.names.lookup x = some .local := by first | exact .inl rfl | exact .inr rfl | assumption) : PG X (.Name x pos) (gName i) := by
  intro pins s σ H v u Q I r h
  exact wpAny_assign_Name (store_ok I hN hi hx r (fun s' I' => ⟨_, H, I', h⟩) hf)
def gNil : TGs := fun vs σ H Q => vs = [] ∧ Q σ H
def gCons (t : TG) (u : TGs) : TGs := fun vs σ H Q => ∃ v r, vs = v :: r ∧ t v σ H fun σ' H' => u r σ' H' Q
theorem pgs_nil : PGs X [] gNil := by
  intro pins s σ H vs us Q I r h
  obtain ⟨e, h⟩ := h
  subst e
  cases r
  exact assignInOrder_nil ⟨σ, H, I, h⟩
theorem pgs_cons {e : Expr} {es : List Expr} {t : TG} {u : TGs} (h1 : PG X e t) (h2 : PGs X es u)
    (hs : (assignEach (e :: es) X.env).map (·.2) = assign e X.env :: (assignEach es X.env).map (·.2) := by rfl) : PGs X (e :: es) (gCons t u) := by
  intro pins s σ H vs us Q I r h
  obtain ⟨v, vr, e1, h⟩ := h
  subst e1
  cases r with
  | cons r rr =>
    rw [hs]
    refine assignInOrder_cons (thn (h1 pins s σ H _ _ _ I r h) fun _ s1 ⟨σ1, H1, I1, q1⟩ => ?_)
    exact h2 pins s1 σ1 H1 _ _ Q I1 rr q1
def gTup (K : PySem.W.Frag) (n : Nat) (t : TGs) : TG := fun v σ H Q => ∃ a xs, v = .ref a ∧ SqT K H a xs ∧ xs.length = n ∧ t xs σ H Q
theorem pg_tup {es : List Expr} {k : Nat} {t : TGs} {n : Nat} (hc : X.calm = true) (h : PGs X es t)
    (hn : (assignEach es X.env).length = n := by rfl) (hst : (assignEach es X.env).findIdx? (·.1) = none := by rfl) : PG X (.Tuple es k pos) (gTup X.K n t) := by
  intro pins s σ H v u Q I r hw
  obtain ⟨a, xs, e1, hq, hl, hw⟩ := hw
  subst e1
  cases r
  obtain ⟨its, rv, ht, hz⟩ := I.tuple hq
  refine assign_Tuple_tuple (I.ok.hd hc) ht (by simp [hn, ← hl, rv.length]) hst fun h' hx => ?_
  have I1 : Inv X pins σ H { s with heap := h' } := I.kept (t' := s.toks) fun b o e => hx b o (Nat.ne_of_lt (Heap.lt_size e)) e
  exact h pins _ σ H xs _ Q I1 (by simpa using rv) hw
def gSub (to ti : TE) (t : TSet) : TG := fun v σ H Q => to σ H fun o H1 => ti σ H1 fun i H2 => t o i v H2 fun H3 => Q σ H3
theorem pg_sub {o i : Expr} {to ti : TE} {t : TSet} (ho : PE X o to) (hi : PE X i ti) (hs : PSet X t)
    (ha : ∀ v, assign (.Subscript o i pos) X.env v = (do
      let ov ← holding [v] (eval o X.env)
      let iv ← holding [v, ov] (eval i X.env)
      standAt pos
      holding [v, ov, iv] (setItem ov iv v)
      release [v, ov, iv] []) := by intro _; rfl) : PG X (.Subscript o i pos) (gSub to ti t) := by
  intro pins s σ H v u Q I r h
  rw [ha]
  refine wpAny_bind (wpAny_holding (thn (ho pins s σ H _ I h) fun ov s1 ⟨x, H1, I1, r1, q1⟩ => ?_))
  refine wpAny_bind (wpAny_holding (thn (hi pins s1 σ H1 _ I1 q1) fun iv s2 ⟨y, H2, I2, r2, q2⟩ => ?_))
  refine wpAny_bind (wpAny_standAt (wpAny_bind (wpAny_holding (thn (hs pins s2 σ H2 x y v ov iv u _ I2 r1 r2 r q2) fun _ s3 ⟨H3, I3, q3⟩ => ?_))))
  exact wpAny_release ⟨σ, H3, I3, q3⟩
def tAsg (te : TE) (g : TG) : TS := fun D σ H => te σ H fun x H1 => g x σ H1 D.nx
theorem ps_asg {tg e : Expr} {te : TE} {g : TG} (he : PE X e te) (hg : PG X tg g) (hs : swapsWithSole [tg] e pos.line X.env = pure false := by rfl) (hw : swappedStores [tg] e X.env = pure none := by rfl)
    (h1 : (assignEach [tg] X.env).map (·.2) = [assign tg X.env] := by rfl) : PS X (.Assign [tg] e pos) (tAsg te g) := by
  intro pins s σ H D I h
  refine wpAny_Assign_stores (thn (he pins s σ H _ I h) fun v s1 ⟨x, H1, I1, r1, q1⟩ => ?_) hs hw
  rw [h1]
  exact thn (hg pins s1 σ H1 x v _ I1 r1 q1) fun _ s2 q => q
theorem ps_set {i : Nat} {x : Str} {e : Expr} {te : TE} {pos' : Pos} (hN : X.N.Nodup) (hi : X.N[i]? = some x) (hx : Loc X.env.scope x) (he : PE X e te) (hs : swapsWith e (some (.Name x pos')) pos.line X.env = pure false := by rfl) (hf : X.fn x = true ∨ X.env.scope.names.lookup x = some .local := by first | exact .inl rfl | exact .inr rfl | assumption) :
    PS X (.Assign [.Name x pos'] e pos) (tAsg te (gName i)) := by
  intro pins s σ H D I h
  refine wpAny_Assign_Name (thn (he pins s σ H _ I h) fun v s1 ⟨y, H1, I1, r1, q1⟩ => ?_) hs
  exact store_ok I1 hN hi hx r1 (fun s2 I2 => ⟨_, H1, I2, q1⟩) hf
def tPar (i j : Nat) (ta : TA) : TS := fun D σ H => ta σ H fun vs H1 => ∃ v w, vs = [v, w] ∧ D.nx ((σ.set i (some v)).set j (some w)) H1
def tAug (i : Nat) (te : TE) (ti : TIp) : TS := fun D σ H => ∃ x, σ[i]? = some (some x) ∧ te σ H fun y H1 => ti x y H1 fun z H2 => D.nx (σ.set i (some z)) H2
theorem ps_aug {i : Nat} {x : Str} {e : Expr} {te : TE} {op : Operator} {ti : TIp} {pos' : Pos} (hN : X.N.Nodup) (hi : X.N[i]? = some x) (hx : Loc X.env.scope x) (he : PE X e te) (ho : PIp X op ti) (hf : X.fn x = true ∨ X.env.scope.names.lookup x = some .local := by first | exact .inl rfl | exact .inr rfl | assumption) :
    PS X (.AugAssign (.Name x pos') op e pos) (tAug i te ti) := by
  intro pins s σ H D I h
  obtain ⟨v, e1, h⟩ := h
  obtain ⟨m, hn, hl⟩ := I.loc
  have vis : Vis X.env.scope x := by rcases hx with k | k; exact .inl k; exact .inr (.inl k)
  obtain ⟨u, r, l⟩ := hl i x v hi e1 vis
  refine wpAny_AugAssign_Name ?_
  have go : wpAny (model X.prog X.w) X.A (eval e X.env) (fun w s₂ => wpAny (model X.prog X.w) X.A (inplaceOp op u w) (fun r s₃ => wpAny (model X.prog X.w) X.A (storeName X.env x r) (fun _ => SP X pins D .next) X.xe s₃) X.xe s₂) X.xe s := by
    refine thn (he pins s σ H _ I h) fun w s1 ⟨y, H1, I1, r1, q1⟩ => ?_
    refine thn (ho pins s1 σ H1 v y u w _ I1 r r1 q1) fun z s2 ⟨zv, H2, I2, r2, q2⟩ => ?_
    exact store_ok I2 hN hi hx r2 (fun s3 I3 => ⟨_, H2, I3, q2⟩) hf
  rcases l with ⟨hk, hm⟩ | ⟨hk, c, hc, hcell⟩
  · exact wpAny_loadName_local I.ok.kind hk hn hm go
  · rcases hk with hk | hk
    · exact wpAny_loadName_cell I.ok.kind hk hc hcell go
    · rcases hx with k | k
      · have : X.env.scope.names.lookup x = some .free := hk
        rw [k] at this; cases this
      · have : X.env.scope.names.lookup x = some .free := hk
        rw [k] at this; cases this
def tAugS (to ti te : TE) (tget : V → V → Hp → VK → Prop) (tip : TIp) (tset : TSet) : TS := fun D σ H => to σ H fun o H1 => ti σ H1 fun i H2 => tget o i H2 fun x H3 => te σ H3 fun y H4 => tip x y H4 fun z H5 => tset o i z H5 fun H6 => D.nx σ H6
def PGet (X : Cx) (t : V → V → Hp → VK → Prop) : Prop :=
  ∀ (pins : List (Addr × Obj)) (s : Shared) (σ : St) (H : Hp) (o i : V) (ov iv : Value) (Q : VK), Inv X pins σ H s → RelV o ov → RelV i iv → t o i H Q →
    wpAny (model X.prog X.w) X.A (getItem ov iv) (EP X pins σ Q) X.xe s
def ipI (f : Int → Int → Int) : TIp := fun x y H Q => ∃ i j, x = .int i ∧ y = .int j ∧ Q (.int (f i j)) H
theorem ip_add : PIp X .Add (ipI fun i j => i + j) := by
  intro pins s σ H x y v u Q I r1 r2 h
  obtain ⟨i, j, e1, e2, q⟩ := h
  subst e1; subst e2
  obtain ⟨t, rfl⟩ := r1
  obtain ⟨t', rfl⟩ := r2
  exact iadd_int ⟨.int _, H, I.tok _, ⟨_, rfl⟩, q⟩
end
section
variable {X : Cx} {pos : Pos}
def tWhile (c : TT) (tb : TS) : TS := fun D σ H => ∃ W : Nat → St → Hp → Prop, (∃ m, W m σ H) ∧ ∀ m σ H, W m σ H →
  c σ H fun b H1 => if b = true then ∃ N : St → Hp → Prop, (∀ σ' H', N σ' H' → ∃ m', m' < m ∧ W m' σ' H') ∧ tb { D with nx := N, ct := N, bk := D.nx } σ H1 else D.nx σ H1
theorem ps_while {c : Expr} {body : List Stmt} {tc : TT} {tb : TS} (hp : PassesOwn (model X.prog X.w) X.A X.env X.xe) (hc : PT X c tc) (hb : PSs X body tb) : PS X (.While c body [] pos) (tWhile tc tb) := by
  intro pins s σ H D I h
  obtain ⟨W, ⟨m0, w0⟩, turn⟩ := h
  refine wpAny_While (codeAny_whileLoop (fun n s' => ∃ σ' H', Inv X pins σ' H' s' ∧ W n σ' H') ?_ m0 ⟨σ, H, I, w0⟩)
  rintro n s1 ⟨σ1, H1, I1, w1⟩
  refine wpAny_passesOwn hp (thn (hc pins s1 σ1 H1 _ I1 (turn n σ1 H1 w1)) fun b s2 ⟨H2, I2, q2⟩ => ?_)
  cases b with
  | true =>
    obtain ⟨N, hN, q2⟩ := q2
    rw [if_pos rfl]
    refine wpAny_passesOwn hp (thn (hb pins s2 σ1 H2 _ I2 q2) fun f s3 q3 => ?_)
    cases f with
    | next =>
      obtain ⟨σ3, H3, I3, n3⟩ := q3
      obtain ⟨m', hm, w3⟩ := hN σ3 H3 n3
      exact ⟨m', hm, σ3, H3, I3, w3⟩
    | cont =>
      obtain ⟨σ3, H3, I3, n3⟩ := q3
      obtain ⟨m', hm, w3⟩ := hN σ3 H3 n3
      exact ⟨m', hm, σ3, H3, I3, w3⟩
    | brk => exact q3
    | ret v => exact q3
  | false =>
    rw [if_neg Bool.false_ne_true]
    exact wpAny_execs_nil ⟨σ1, H2, I2, q2⟩
end
structure It where
  go : Nat → Hp → Prop
  yld : Nat → Hp → V → Hp → Prop
  stop : Nat → Hp → Prop
def FpOk (X : Cx) (pins : List (Addr × Obj)) (H : Hp) (b : Addr) : Prop :=
  H b = none ∧ b ≠ X.env.locals ∧ b ∉ X.fs ∧ (b ∈ X.ex ∨ X.s₀.heap.objs.size ≤ b) ∧ (∀ x c, X.env.cells.lookup x = some c → c ≠ b) ∧ ∀ p ∈ X.pn ++ pins, p.1 ≠ b
theorem Inv.fpOk {X : Cx} {pins : List (Addr × Obj)} {σ : St} {H H' : Hp} {s : Shared} {b : Addr} (I : Inv X pins σ H s) (hb : s.heap.objs.size ≤ b) (hn : H' b = none) : FpOk X pins H' b := by
  refine ⟨hn, Nat.ne_of_gt (Nat.lt_of_lt_of_le I.lt hb), I.nofs hb, .inr (Nat.le_trans I.sz hb), fun x c e z => ?_, fun p hp z => ?_⟩
  · obtain ⟨v, q⟩ := I.cell x c e
    exact absurd (Nat.lt_of_lt_of_le q.lt (by rw [z]; exact hb)) (Nat.lt_irrefl _)
  · exact absurd (Nat.lt_of_lt_of_le (Heap.lt_size (I.pin p hp).1) (by rw [z]; exact hb)) (Nat.lt_irrefl _)
structure Turn (P : Program) (w : World) (K : PySem.W.Frag) (tg : Expr) (J : It) (fp : List Addr) (it : Addr) (tn : Nat → Heap → Prop) : Prop where
  mem : it ∈ fp
  obj : ∀ i h, tn i h → ∀ b ∈ fp, ∃ o, h.get? b = some o ∧ ∀ v, o.data ≠ .cell v
  keep : ∀ i h h', tn i h → (∀ b ∈ fp, ∀ o, h.get? b = some o → h'.get? b = some o) → tn i h'
  item : ∀ (X : Cx), X.prog = P → X.w = w → X.K = K → X.calm = true → ∀ (i : Nat) (pins : List (Addr × Obj)) (s : Shared) (σ : St) (H : Hp) (E : Value → Shared → Prop), Inv X pins σ H s → (∀ b ∈ fp, FpOk X pins H b) → tn i s.heap → J.go i H →
    wpAny (model P w) X.A (pyNext (.ref it)) (fun r s1 => ∃ u, r = some u ∧
      wpAny (model P w) X.A (letOwnedTupleGo tg (.ref it) u) (fun _ s2 => ∃ x H', Inv X pins σ H' s2 ∧ RelV x u ∧ J.yld i H x H' ∧ tn (i + 1) s2.heap ∧ ∀ b ∈ fp, H' b = none) E s1) E s
  done : ∀ (X : Cx), X.prog = P → X.w = w → X.K = K → X.calm = true → ∀ (i : Nat) (pins : List (Addr × Obj)) (s : Shared) (σ : St) (H : Hp) (E : Value → Shared → Prop), Inv X pins σ H s → (∀ b ∈ fp, FpOk X pins H b) → tn i s.heap → J.stop i H →
    wpAny (model P w) X.A (pyNext (.ref it)) (fun r s1 => r = none ∧ Inv X pins σ H s1) E s
  self : ∀ (A : Around) (i : Nat) (s : Shared) (Q : Value → Shared → Prop) (E : Value → Shared → Prop), tn i s.heap → Q (.ref it) s → wpAny (model P w) A (pyIter (.ref it)) Q E s
abbrev TI := St → Hp → (It → Hp → Prop) → Prop
def PIE (X : Cx) (pins : List (Addr × Obj)) (σ : St) (tg : Expr) (R : It → Hp → Prop) (itv : Value) (s2 : Shared) : Prop :=
  ∃ (it : Addr) (fp : List Addr) (tn : Nat → Heap → Prop) (J : It) (H' : Hp), itv = .ref it ∧ Inv X pins σ H' s2 ∧ Turn X.prog X.w X.K tg J fp it tn ∧ tn 0 s2.heap ∧ (∀ b ∈ fp, FpOk X pins H' b) ∧ R J H'
def PI (X : Cx) (tg iter : Expr) (wi : TI) : Prop :=
  ∀ (pins : List (Addr × Obj)) (s : Shared) (σ : St) (H : Hp) (R : It → Hp → Prop), Inv X pins σ H s → wi σ H R →
    wpAny (model X.prog X.w) X.A (eval iter X.env) (fun v s1 => wpAny (model X.prog X.w) X.A (pyIter v) (PIE X pins σ tg R) X.xe s1) X.xe s
theorem go_of {M : Model} {A : Around} {E : Value → Shared → Prop} {s : Shared} {tg : Expr} {it : Addr} {u : Value} {o : Obj} {n : String} {vs : Array Value} {Q : Unit → Shared → Prop} (ho : s.heap.get? it = some o) (hc : o.cls = .type n) (hd : o.data = .fields vs)
    (hn : ["enumerate", "zip", "dict_itemiterator", "dict_reverseitemiterator", "odict_iterator", "itertools.zip_longest", "itertools.pairwise"].contains n = false) (hQ : Q () s) : wpAny M A (letOwnedTupleGo tg (.ref it) u) Q E s := by
  unfold letOwnedTupleGo
  cases tg <;> first
    | exact wpAny_pure hQ
    | (cases u <;> first
        | exact wpAny_pure hQ
        | (refine wpAny_bind (wpAny_load ho ?_)
           rw [hc, hd]
           show wpAny M A (if (["enumerate", "zip", "dict_itemiterator", "dict_reverseitemiterator", "odict_iterator", "itertools.zip_longest", "itertools.pairwise"].contains n && vs[0]? == some (rawInt _)) = true then _ else _) Q E s
           rw [if_neg (by intro h; rw [hn, Bool.false_and] at h; cases h)]
           exact wpAny_pure hQ))
def Itl (K : PySem.W.Frag) (a : Addr) : It :=
  ⟨fun i H => ∃ xs x, SqL K H a xs ∧ xs[i]? = some x, fun i H x H' => H' = H ∧ ∀ xs, SqL K H a xs → xs[i]? = some x, fun i H => ∃ xs, SqL K H a xs ∧ xs.length ≤ i⟩
def Itt (K : PySem.W.Frag) (a : Addr) : It :=
  ⟨fun i H => ∃ xs x, SqT K H a xs ∧ xs[i]? = some x, fun i H x H' => H' = H ∧ ∀ xs, SqT K H a xs → xs[i]? = some x, fun i H => ∃ xs, SqT K H a xs ∧ xs.length ≤ i⟩
def Itr (lo : Int) (n : Nat) : It := ⟨fun i _ => i < n, fun i H x H' => H' = H ∧ x = .int (lo + i), fun i _ => n ≤ i⟩
theorem turn_list {P : Program} {w : World} {K : PySem.W.Frag} {tg : Expr} (a it : Addr) : Turn P w K tg (Itl K a) [it] it (fun i h => h.IsListIter it a i) where
  mem := by simp
  obj := fun i h st b hb => by
    have e : b = it := by simpa using hb
    subst e
    obtain ⟨o, e, c, d⟩ := st
    exact ⟨o, e, fun v z => by rw [d] at z; cases z⟩
  keep := fun i h h' st k => st.at fun o e => k it (by simp) o e
  item := by
    intro X hP hw hK hc i pins s σ H E I hf st hg
    subst hP hw hK
    obtain ⟨xs, x, hq, hx⟩ := hg
    obtain ⟨its, rv, p, hz⟩ := I.list hq
    obtain ⟨u, hu, ru⟩ := rv.get hx
    obtain ⟨f0, f1, f2, f3, f4, f5⟩ := hf it (by simp)
    refine wpAny_pyNext_list_item st p.isList (x := u) (by simpa using hu) fun h' st' sb => ?_
    have I1 : Inv X pins σ H { s with heap := h' } := I.turned (t' := s.toks) (fun b o hb e => (sb.2 b hb).trans e) f0 f1 f3 f4 f5
    obtain ⟨o, e, c, d⟩ := id st'
    exact ⟨u, rfl, go_of (s := { s with heap := h' }) e c d (by decide) ⟨x, H, I1, ru, ⟨rfl, fun ys hy => by rw [I.list_inj hy hq]; exact hx⟩, st', fun b hb => (hf b hb).1⟩⟩
  done := by
    intro X hP hw hK hc i pins s σ H E I hf st hg
    subst hP hw hK
    obtain ⟨xs, hq, hx⟩ := hg
    obtain ⟨its, rv, p, hz⟩ := I.list hq
    obtain ⟨f0, f1, f2, f3, f4, f5⟩ := hf it (by simp)
    have hl := rv.length
    exact wpAny_pyNext_list_end (I.ok.hd hc) st p.isList (by simp; omega) fun h' eb => ⟨rfl, I.turned (t' := s.toks) (fun b o hb e => eb b o hb e) f0 f1 f3 f4 f5⟩
  self := fun _ _ _ _ _ st h => wpAny_pyIter_listiter st h
theorem turn_tuple {P : Program} {w : World} {K : PySem.W.Frag} {tg : Expr} (a it : Addr) : Turn P w K tg (Itt K a) [it] it (fun i h => h.IsTupleIter it a i) where
  mem := by simp
  obj := fun i h st b hb => by
    have e : b = it := by simpa using hb
    subst e
    obtain ⟨o, e, c, d⟩ := st
    exact ⟨o, e, fun v z => by rw [d] at z; cases z⟩
  keep := fun i h h' st k => st.at fun o e => k it (by simp) o e
  item := by
    intro X hP hw hK hc i pins s σ H E I hf st hg
    subst hP hw hK
    obtain ⟨xs, x, hq, hx⟩ := hg
    obtain ⟨its, rv, p, hz⟩ := I.tuple hq
    obtain ⟨u, hu, ru⟩ := rv.get hx
    obtain ⟨f0, f1, f2, f3, f4, f5⟩ := hf it (by simp)
    refine wpAny_pyNext_tuple_item st (show s.heap.IsTuple a its.toArray from p) (x := u) (by simpa using hu) fun h' st' sb => ?_
    have I1 : Inv X pins σ H { s with heap := h' } := I.turned (t' := s.toks) (fun b o hb e => (sb.2 b hb).trans e) f0 f1 f3 f4 f5
    obtain ⟨o, e, c, d⟩ := id st'
    exact ⟨u, rfl, go_of (s := { s with heap := h' }) e c d (by decide) ⟨x, H, I1, ru, ⟨rfl, fun ys hy => by rw [I.tuple_inj hy hq]; exact hx⟩, st', fun b hb => (hf b hb).1⟩⟩
  done := by
    intro X hP hw hK hc i pins s σ H E I hf st hg
    subst hP hw hK
    obtain ⟨xs, hq, hx⟩ := hg
    obtain ⟨its, rv, p, hz⟩ := I.tuple hq
    obtain ⟨f0, f1, f2, f3, f4, f5⟩ := hf it (by simp)
    have hl := rv.length
    exact wpAny_pyNext_tuple_end (I.ok.hd hc) st (show s.heap.IsTuple a its.toArray from p) (by simp; omega) fun h' eb => ⟨rfl, I.turned (t' := s.toks) (fun b o hb e => eb b o hb e) f0 f1 f3 f4 f5⟩
  self := fun _ _ _ _ _ st h => wpAny_pyIter_tupleiter st h
theorem turn_range {P : Program} {w : World} {K : PySem.W.Frag} {tg : Expr} (it : Addr) (lo : Int) (n : Nat) : Turn P w K tg (Itr lo n) [it] it (fun i h => IsRangeIter h it (lo + (i : Nat) * 1) ((n : Int) - (i : Nat)) 1) where
  mem := by simp
  obj := fun i h st b hb => by
    have e : b = it := by simpa using hb
    subst e
    exact ⟨_, st, fun v z => by
      have z' : Data.fields _ = Data.cell v := z
      cases z'⟩
  keep := fun i h h' st k => k it (by simp) _ st
  item := by
    intro X hP hw hK hc i pins s σ H E I hf st hg
    subst hP hw hK
    obtain ⟨f0, f1, f2, f3, f4, f5⟩ := hf it (by simp)
    have W := Walks.range (prog := X.prog) (w := X.w) (I.ok.hd hc) it lo 1 n
    refine W.item i s _ _ hg st fun v h' tk hv st' kk => ?_
    obtain ⟨t, rfl⟩ := hv
    have I1 : Inv X pins σ H { s with heap := h', toks := tk } := I.turned (fun b o hb e => kk b o (by simpa using hb) e) f0 f1 f3 f4 f5
    refine ⟨_, rfl, go_of (s := { s with heap := h', toks := tk }) (n := "range_iterator") st' rfl rfl (by decide) ⟨.int (lo + i), H, I1, ⟨t, ?_⟩, ⟨rfl, rfl⟩, st', fun b hb => (hf b hb).1⟩⟩
    rw [Int.mul_one]
  done := by
    intro X hP hw hK hc i pins s σ H E I hf st hg
    subst hP hw hK
    obtain ⟨f0, f1, f2, f3, f4, f5⟩ := hf it (by simp)
    exact wpAny_pyNext_range_end (I.ok.hd hc) st (by have : n ≤ i := hg; omega) fun h' eb => ⟨rfl, I.turned (t' := s.toks) (fun b o hb e => eb b o hb e) f0 f1 f3 f4 f5⟩
  self := fun _ _ _ _ _ st h => wpAny_pyIter_rangeiter st h
end L2
namespace L2
open PySem PySem.Spec PyProof.Rows
section
variable {X : Cx} {tg : Expr}
def iList (K : PySem.W.Frag) (tl : TE) : TI := fun σ H R => tl σ H fun x H1 => ∃ a, x = .ref a ∧ (∃ xs, SqL K H1 a xs) ∧ R (Itl K a) H1
def iTup (K : PySem.W.Frag) (tl : TE) : TI := fun σ H R => tl σ H fun x H1 => ∃ a, x = .ref a ∧ (∃ xs, SqT K H1 a xs) ∧ R (Itt K a) H1
theorem pi_list {l : Expr} {tl : TE} (hl : PE X l tl) : PI X tg l (iList X.K tl) := by
  intro pins s σ H R I h
  refine thn (hl pins s σ H _ I h) fun v s1 ⟨x, H1, I1, r1, q1⟩ => ?_
  obtain ⟨a, e, ⟨xs, hq⟩, q⟩ := q1
  subst e
  cases r1
  obtain ⟨its, rv, p, hz⟩ := I1.list hq
  refine wpAny_pyIter_list p.isList ?_
  refine ⟨s1.heap.objs.size, [s1.heap.objs.size], _, _, H1, rfl, I1.kept (t' := s1.toks) fun b o e => Heap.get?_push_of_some _ e, turn_list a _, ⟨_, Heap.get?_push_size _ rfl, rfl, rfl⟩, fun b hb => ?_, q⟩
  have e : b = s1.heap.objs.size := by simpa using hb
  subst e
  exact I1.fpOk (Nat.le_refl _) (I1.hok.fresh (Nat.le_refl _))
theorem pi_tup {l : Expr} {tl : TE} (hl : PE X l tl) : PI X tg l (iTup X.K tl) := by
  intro pins s σ H R I h
  refine thn (hl pins s σ H _ I h) fun v s1 ⟨x, H1, I1, r1, q1⟩ => ?_
  obtain ⟨a, e, ⟨xs, hq⟩, q⟩ := q1
  subst e
  cases r1
  obtain ⟨its, rv, p, hz⟩ := I1.tuple hq
  refine wpAny_pyIter_tuple (show s1.heap.IsTuple a its.toArray from p) ?_
  refine ⟨s1.heap.objs.size, [s1.heap.objs.size], _, _, H1, rfl, I1.kept (t' := s1.toks) fun b o e => Heap.get?_push_of_some _ e, turn_tuple a _, ⟨_, Heap.get?_push_size _ rfl, rfl, rfl⟩, fun b hb => ?_, q⟩
  have e : b = s1.heap.objs.size := by simpa using hb
  subst e
  exact I1.fpOk (Nat.le_refl _) (I1.hok.fresh (Nat.le_refl _))
theorem range_it {pins : List (Addr × Obj)} {σ : St} {H : Hp} {s : Shared} {R : It → Hp → Prop} {E : Value → Shared → Prop} {lo hi : Int} {t u v : Tok} {tk : Nat} (I : Inv X pins σ H s) (h1 : -(2 ^ 62) ≤ lo) (h2 : lo < 2 ^ 62) (h3 : -(2 ^ 62) ≤ hi) (h4 : hi < 2 ^ 62)
    (q : R (Itr lo (hi - lo).toNat) H) : wpAny (model X.prog X.w) X.A (pyIter (.ref s.heap.objs.size)) (PIE X pins σ tg R) E { s with heap := s.heap.push { cls := .type "range", data := .fields #[.int lo t, .int hi u, .int 1 v] }, toks := tk } := by
  refine wpAny_pyIter_range (IsRange.new ..) (small_one h1 h2 h3 h4) ?_
  have I1 : Inv X pins σ H { s with heap := s.heap.push { cls := .type "range", data := .fields #[.int lo t, .int hi u, .int 1 v] }, toks := tk } := I.kept fun b o e => Heap.get?_push_of_some _ e
  refine ⟨(s.heap.push { cls := .type "range", data := .fields #[.int lo t, .int hi u, .int 1 v] }).objs.size, [(s.heap.push { cls := .type "range", data := .fields #[.int lo t, .int hi u, .int 1 v] }).objs.size], _, _, H, rfl,
    I1.kept (t' := tk) fun b o e => Heap.get?_push_of_some _ e, turn_range _ lo (hi - lo).toNat, ?_, fun b hb => ?_, q⟩
  · have e1 : lo + ((0 : Nat) : Int) * 1 = lo := by simp
    have e2 : (((hi - lo).toNat : Nat) : Int) - ((0 : Nat) : Int) = Builtin.Range.rangeSize lo hi 1 := by rw [rangeSize_one]; split <;> omega
    show IsRangeIter _ _ (lo + ((0 : Nat) : Int) * 1) ((((hi - lo).toNat : Nat) : Int) - ((0 : Nat) : Int)) 1
    rw [e1, e2]
    exact Heap.get?_push_size _ rfl
  · have e : b = (s.heap.push { cls := .type "range", data := .fields #[.int lo t, .int hi u, .int 1 v] }).objs.size := by simpa using hb
    subst e
    exact I1.fpOk (Nat.le_refl _) (I1.hok.fresh (Nat.le_refl _))
def iRng1 (ta : TA) : TI := fun σ H R => ta σ H fun vs H1 => ∃ j : Int, vs = [.int j] ∧ -(2 ^ 62) ≤ j ∧ j < 2 ^ 62 ∧ R (Itr 0 j.toNat) H1
def iRng2 (ta : TA) : TI := fun σ H R => ta σ H fun vs H1 => ∃ i j : Int, vs = [.int i, .int j] ∧ (-(2 ^ 62) ≤ i ∧ i < 2 ^ 62 ∧ -(2 ^ 62) ≤ j ∧ j < 2 ^ 62) ∧ R (Itr i (j - i).toNat) H1
theorem pi_range1 {a : Expr} {ta : TA} {p pos : Pos} (hg : Gl X "range") (hm : X.mg "range" = none) (ha : PA X [a] ta) (hs : starEach [a] X.env = [(false, eval a X.env)] := by rfl) : PI X tg (.Call (.Name "range" p) [a] [] pos) (iRng1 ta) := by
  intro pins s σ H R I h
  refine Call_ (ld_blt I hg hm boot_range (PyProof.Rows.callWith_type1 (thn (ha pos pins s σ H _ I h) fun us s1 ⟨vs, H1, I1, r1, q1⟩ => ?_) hs rfl))
  obtain ⟨j, e, q1, q2, q⟩ := q1
  subst e
  cases r1 with
  | cons r rr =>
    cases rr
    obtain ⟨t, rfl⟩ := r
    exact call_range_1 (range_it I1 (by omega) (by omega) q1 q2 (by simpa using q))
theorem pi_range2 {a b : Expr} {ta : TA} {p pos : Pos} (hg : Gl X "range") (hm : X.mg "range" = none) (ha : PA X [a, b] ta) (hs : starEach [a, b] X.env = [(false, eval a X.env), (false, eval b X.env)] := by rfl) (hs2 : starEach [b] X.env = [(false, eval b X.env)] := by rfl) :
    PI X tg (.Call (.Name "range" p) [a, b] [] pos) (iRng2 ta) := by
  intro pins s σ H R I h
  refine Call_ (ld_blt I hg hm boot_range (PyProof.Rows.callWith_type1 (thn (ha pos pins s σ H _ I h) fun us s1 ⟨vs, H1, I1, r1, q1⟩ => ?_) (by rw [hs, hs2]) (by rw [hs2]; rfl)))
  obtain ⟨i, j, e, ⟨q1, q2, q3, q4⟩, q⟩ := q1
  subst e
  cases r1 with
  | cons r rr =>
    cases rr with
    | cons r' rr =>
      cases rr
      obtain ⟨t, rfl⟩ := r
      obtain ⟨t', rfl⟩ := r'
      exact call_range_2 (range_it I1 q1 q2 q3 q4 q)
def tFor (wi : TI) (g : TG) (tb : TS) : TS := fun D σ H => wi σ H fun J H1 => ∃ W : Nat → Nat → St → Hp → Prop, (∃ m, W 0 m σ H1) ∧ ∀ i m σ H, W i m σ H →
  (J.stop i H ∧ D.nx σ H) ∨ (J.go i H ∧ ∃ N : St → Hp → Prop, (∀ σ' H', N σ' H' → ∃ m', m' < m ∧ W (i + 1) m' σ' H') ∧ ∀ x H', J.yld i H x H' → g x σ H' fun σ2 H2 => tb { D with nx := N, ct := N, bk := D.nx } σ2 H2)
def pinsAt (fp : List Addr) (h : Heap) : List (Addr × Obj) := fp.filterMap fun b => (h.get? b).map fun o => (b, o)
theorem mem_pinsAt {fp : List Addr} {h : Heap} {b : Addr} {o : Obj} (hb : b ∈ fp) (e : h.get? b = some o) : (b, o) ∈ pinsAt fp h := List.mem_filterMap.mpr ⟨b, hb, by rw [e]; rfl⟩
theorem of_pinsAt {fp : List Addr} {h : Heap} {p : Addr × Obj} (hp : p ∈ pinsAt fp h) : p.1 ∈ fp ∧ h.get? p.1 = some p.2 := by
  obtain ⟨b, hb, e⟩ := List.mem_filterMap.mp hp
  cases q : h.get? b with
  | none => rw [q] at e; cases e
  | some o =>
    rw [q] at e
    have e' : (b, o) = p := Option.some.inj e
    subst e'
    exact ⟨hb, q⟩
theorem Inv.pinned {pins : List (Addr × Obj)} {σ : St} {H : Hp} {s : Shared} {fp : List Addr} (I : Inv X pins σ H s) (hf : ∀ b ∈ fp, FpOk X pins H b) (ho : ∀ b ∈ fp, ∃ o, s.heap.get? b = some o ∧ ∀ v, o.data ≠ .cell v) : Inv X (pins ++ pinsAt fp s.heap) σ H s :=
  I.pins_of fun p hp => (List.mem_append.mp hp).elim (fun z => I.pin p (List.mem_append_right _ z)) fun z => by
    obtain ⟨hb, e⟩ := of_pinsAt z
    obtain ⟨f0, f1, f2, _⟩ := hf p.1 hb
    obtain ⟨o, e', d⟩ := ho p.1 hb
    rw [e] at e'; cases e'
    exact ⟨e, f0, f1, f2, d⟩
theorem Inv.unpinned {pins pl : List (Addr × Obj)} {σ : St} {H : Hp} {s : Shared} (I : Inv X (pins ++ pl) σ H s) : Inv X pins σ H s := I.pins_of fun p hp => I.pin p (List.mem_append_right _ (List.mem_append_left _ hp))
theorem ps_for {iter : Expr} {body : List Stmt} {wi : TI} {g : TG} {tb : TS} {pos : Pos} (hp : PassesOwn (model X.prog X.w) X.A X.env X.xe) (hc : X.calm = true) (hi : PI X tg iter wi) (hg : PG X tg g) (hb : PSs X body tb)
    (hs : ∀ x, foldedSetIterable iter X.env x = pure x := by intro _; rfl) : PS X (.For tg iter body [] pos) (tFor wi g tb) := by
  intro pins s σ H D I h
  refine wpAny_For (thn (hi pins s σ H _ I h) fun v s1 h1 => thn h1 fun itv s2 h2 => ?_) hs
  obtain ⟨it, fp, tn, J, H2, e, I2, T, st2, f2, W, ⟨m0, w0⟩, turn⟩ := h2
  subst e
  have stat : ∀ {H' : Hp}, (∀ b ∈ fp, H' b = none) → ∀ b ∈ fp, FpOk X pins H' b := fun hn b hb => ⟨hn b hb, (f2 b hb).2⟩
  refine codeAny_forLoop_any (fun n s' => ∃ i σ' H', Inv X pins σ' H' s' ∧ tn i s'.heap ∧ (∀ b ∈ fp, H' b = none) ∧ W i n σ' H') ?_ m0 ⟨0, σ, H2, I2, st2, fun b hb => (f2 b hb).1, w0⟩
  rintro n s3 ⟨i, σ3, H3, I3, st3, fr3, w3⟩
  rcases turn i n σ3 H3 w3 with ⟨stop, qn⟩ | ⟨go, N, hN, step⟩
  · refine wpAny_passesOwn hp (thn (T.done X rfl rfl rfl hc i pins s3 σ3 H3 X.xe I3 (stat fr3) st3 stop) fun r s4 ⟨hr, I4⟩ => ?_)
    subst hr
    exact wpAny_execs_nil ⟨σ3, H3, I4, qn⟩
  · refine wpAny_passesOwn hp (thn (T.item X rfl rfl rfl hc i pins s3 σ3 H3 X.xe I3 (stat fr3) st3 go) fun r s4 ⟨u, hr, h4⟩ => ?_)
    subst hr
    refine wpAny_passesOwn hp (thn h4 fun _ s5 ⟨x, H5, I5, r5, y5, st5, fr5⟩ => ?_)
    have I5' := I5.pinned (stat fr5) (T.obj _ _ st5)
    refine wpAny_passesOwn hp (thn (hg _ s5 σ3 H5 x u _ I5' r5 (step x H5 y5)) fun _ s6 ⟨σ6, H6, I6, q6⟩ => ?_)
    refine wpAny_passesOwn hp (thn (hb _ s6 σ6 H6 _ I6 q6) fun f s7 q7 => ?_)
    have again : ∀ {σ7 : St} {H7 : Hp}, Inv X (pins ++ pinsAt fp s5.heap) σ7 H7 s7 → N σ7 H7 → ∃ m, m < n ∧ ∃ i σ' H', Inv X pins σ' H' s7 ∧ tn i s7.heap ∧ (∀ b ∈ fp, H' b = none) ∧ W i m σ' H' := fun {σ7 H7} I7 n7 => by
      obtain ⟨m', hm, w7⟩ := hN σ7 H7 n7
      refine ⟨m', hm, i + 1, σ7, H7, I7.unpinned, T.keep _ _ _ st5 fun b hb o e => (I7.pin (b, o) (List.mem_append_right _ (List.mem_append_right _ (mem_pinsAt hb e)))).1, fun b hb => ?_, w7⟩
      obtain ⟨o, e, d⟩ := T.obj _ _ st5 b hb
      exact (I7.pin (b, o) (List.mem_append_right _ (List.mem_append_right _ (mem_pinsAt hb e)))).2.1
    cases f with
    | next => obtain ⟨σ7, H7, I7, n7⟩ := q7; exact again I7 n7
    | cont => obtain ⟨σ7, H7, I7, n7⟩ := q7; exact again I7 n7
    | brk => obtain ⟨σ7, H7, I7, q7⟩ := q7; exact ⟨σ7, H7, I7.unpinned, q7⟩
    | ret v => obtain ⟨x7, σ7, H7, I7, r7, q7⟩ := q7; exact ⟨x7, σ7, H7, I7.unpinned, r7, q7⟩
end
theorem for_list {K : PySem.W.Frag} {a : Addr} {xs : List V} {g : TG} {tb : TS} {D : Ends} {σ : St} {H : Hp} (Pv : Nat → St → Hp → Prop) (h0 : Pv 0 σ H) (hl : ∀ i σ H, i ≤ xs.length → Pv i σ H → SqL K H a xs)
    (hs : ∀ i x σ H, xs[i]? = some x → Pv i σ H → g x σ H fun σ2 H2 => tb { D with nx := Pv (i + 1), ct := Pv (i + 1), bk := D.nx } σ2 H2) (hd : ∀ σ H, Pv xs.length σ H → D.nx σ H) :
    ∃ W : Nat → Nat → St → Hp → Prop, (∃ m, W 0 m σ H) ∧ ∀ i m σ H, W i m σ H →
      ((Itl K a).stop i H ∧ D.nx σ H) ∨ ((Itl K a).go i H ∧ ∃ N : St → Hp → Prop, (∀ σ' H', N σ' H' → ∃ m', m' < m ∧ W (i + 1) m' σ' H') ∧ ∀ x H', (Itl K a).yld i H x H' → g x σ H' fun σ2 H2 => tb { D with nx := N, ct := N, bk := D.nx } σ2 H2) := by
  refine ⟨fun i m σ H => m = xs.length - i ∧ i ≤ xs.length ∧ Pv i σ H, ⟨xs.length, by simp, Nat.zero_le _, h0⟩, ?_⟩
  rintro i m σ H ⟨rfl, hi, p⟩
  have q := hl i σ H hi p
  by_cases hlt : i < xs.length
  · refine .inr ⟨⟨xs, xs[i], q, by simp [hlt]⟩, Pv (i + 1), fun σ' H' p' => ⟨xs.length - (i + 1), by omega, rfl, hlt, p'⟩, fun x H' y => ?_⟩
    obtain ⟨e, y⟩ := y
    subst e
    exact hs i x σ _ (y xs q) p
  · have e : i = xs.length := by omega
    subst e
    exact .inl ⟨⟨xs, q, Nat.le_refl _⟩, hd σ H p⟩
theorem for_tup {K : PySem.W.Frag} {a : Addr} {xs : List V} {g : TG} {tb : TS} {D : Ends} {σ : St} {H : Hp} (Pv : Nat → St → Hp → Prop) (h0 : Pv 0 σ H) (hl : ∀ i σ H, i ≤ xs.length → Pv i σ H → SqT K H a xs)
    (hs : ∀ i x σ H, xs[i]? = some x → Pv i σ H → g x σ H fun σ2 H2 => tb { D with nx := Pv (i + 1), ct := Pv (i + 1), bk := D.nx } σ2 H2) (hd : ∀ σ H, Pv xs.length σ H → D.nx σ H) :
    ∃ W : Nat → Nat → St → Hp → Prop, (∃ m, W 0 m σ H) ∧ ∀ i m σ H, W i m σ H →
      ((Itt K a).stop i H ∧ D.nx σ H) ∨ ((Itt K a).go i H ∧ ∃ N : St → Hp → Prop, (∀ σ' H', N σ' H' → ∃ m', m' < m ∧ W (i + 1) m' σ' H') ∧ ∀ x H', (Itt K a).yld i H x H' → g x σ H' fun σ2 H2 => tb { D with nx := N, ct := N, bk := D.nx } σ2 H2) := by
  refine ⟨fun i m σ H => m = xs.length - i ∧ i ≤ xs.length ∧ Pv i σ H, ⟨xs.length, by simp, Nat.zero_le _, h0⟩, ?_⟩
  rintro i m σ H ⟨rfl, hi, p⟩
  have q := hl i σ H hi p
  by_cases hlt : i < xs.length
  · refine .inr ⟨⟨xs, xs[i], q, by simp [hlt]⟩, Pv (i + 1), fun σ' H' p' => ⟨xs.length - (i + 1), by omega, rfl, hlt, p'⟩, fun x H' y => ?_⟩
    obtain ⟨e, y⟩ := y
    subst e
    exact hs i x σ _ (y xs q) p
  · have e : i = xs.length := by omega
    subst e
    exact .inl ⟨⟨xs, q, Nat.le_refl _⟩, hd σ H p⟩
theorem for_range {lo : Int} {n : Nat} {g : TG} {tb : TS} {D : Ends} {σ : St} {H : Hp} (Pv : Nat → St → Hp → Prop) (h0 : Pv 0 σ H)
    (hs : ∀ i σ H, i < n → Pv i σ H → g (.int (lo + i)) σ H fun σ2 H2 => tb { D with nx := Pv (i + 1), ct := Pv (i + 1), bk := D.nx } σ2 H2) (hd : ∀ σ H, Pv n σ H → D.nx σ H) :
    ∃ W : Nat → Nat → St → Hp → Prop, (∃ m, W 0 m σ H) ∧ ∀ i m σ H, W i m σ H →
      ((Itr lo n).stop i H ∧ D.nx σ H) ∨ ((Itr lo n).go i H ∧ ∃ N : St → Hp → Prop, (∀ σ' H', N σ' H' → ∃ m', m' < m ∧ W (i + 1) m' σ' H') ∧ ∀ x H', (Itr lo n).yld i H x H' → g x σ H' fun σ2 H2 => tb { D with nx := N, ct := N, bk := D.nx } σ2 H2) := by
  refine ⟨fun i m σ H => m = n - i ∧ i ≤ n ∧ Pv i σ H, ⟨n, by simp, Nat.zero_le _, h0⟩, ?_⟩
  rintro i m σ H ⟨rfl, hi, p⟩
  by_cases hlt : i < n
  · refine .inr ⟨hlt, Pv (i + 1), fun σ' H' p' => ⟨n - (i + 1), by omega, rfl, hlt, p'⟩, fun x H' y => ?_⟩
    obtain ⟨e, y⟩ := y
    subst e y
    exact hs i σ _ hlt p
  · have e : i = n := by omega
    subst e
    exact .inl ⟨Nat.le_refl _, hd σ H p⟩
end L2
namespace L2
open PySem PySem.Spec PyProof.Rows
abbrev R2 := V → V → Hp → VK → Prop
def OpR (X : Cx) (f : Value → Value → Sem Value) (r : R2) : Prop :=
  ∀ (pins : List (Addr × Obj)) (s : Shared) (σ : St) (H : Hp) (x y : V) (v u : Value) (Q : VK), Inv X pins σ H s → RelV x v → RelV y u → r x y H Q →
    wpAny (model X.prog X.w) X.A (f v u) (EP X pins σ Q) X.xe s
def UnR (X : Cx) (f : Value → Sem Value) (r : V → Hp → VK → Prop) : Prop :=
  ∀ (pins : List (Addr × Obj)) (s : Shared) (σ : St) (H : Hp) (x : V) (v : Value) (Q : VK), Inv X pins σ H s → RelV x v → r x H Q →
    wpAny (model X.prog X.w) X.A (f v) (EP X pins σ Q) X.xe s
def CallR (X : Cx) (f : Value) (r : List V → Hp → VK → Prop) : Prop :=
  ∀ (pins : List (Addr × Obj)) (s : Shared) (σ : St) (H : Hp) (xs : List V) (us : List Value) (Q : VK), Inv X pins σ H s → Vals xs us → r xs H Q →
    wpAny (model X.prog X.w) X.A (call f us) (EP X pins σ Q) X.xe s
def TruR (X : Cx) (r : V → Hp → (Bool → Hp → Prop) → Prop) : Prop :=
  ∀ (pins : List (Addr × Obj)) (s : Shared) (σ : St) (H : Hp) (x : V) (v : Value) (Q : Bool → Hp → Prop), Inv X pins σ H s → RelV x v → r x H Q →
    wpAny (model X.prog X.w) X.A (truthy v) (TP X pins σ Q) X.xe s
def tOp (r : R2) (ta tb : TE) : TE := fun σ H Q => ta σ H fun x H1 => tb σ H1 fun y H2 => r x y H2 Q
def tUn (r : V → Hp → VK → Prop) (ta : TE) : TE := fun σ H Q => ta σ H fun x H1 => r x H1 Q
def rI (C : Int → Int → Prop) (g : Int → Int → V) : R2 := fun x y H Q => ∃ i j, x = .int i ∧ y = .int j ∧ C i j ∧ Q (g i j) H
def rI0 (g : Int → Int → V) : R2 := fun x y H Q => ∃ i j, x = .int i ∧ y = .int j ∧ Q (g i j) H
def rU (g : Int → V) : V → Hp → VK → Prop := fun x H Q => ∃ i, x = .int i ∧ Q (g i) H
section
variable {X : Cx} {a b c : Expr} {ta tb tc : TE} {pos : Pos}
theorem binT (ha : PE X a ta) (hb : PE X b tb) {pins : List (Addr × Obj)} {s : Shared} {σ : St} {H : Hp} {R : V → V → Hp → Prop} (I : Inv X pins σ H s)
    (h : ta σ H fun x H1 => tb σ H1 fun y H2 => R x y H2) {Q : Value → Shared → Prop} {f : Value → Value → Sem Value}
    (hf : ∀ v u s2 x y H2, Inv X pins σ H2 s2 → RelV x v → RelV y u → R x y H2 → wpAny (model X.prog X.w) X.A (f v u) Q X.xe s2) :
    wpAny (model X.prog X.w) X.A (eval a X.env) (fun v s₁ => wpAny (model X.prog X.w) X.A (eval b X.env) (fun u s₂ => wpAny (model X.prog X.w) X.A (f v u) Q X.xe s₂) X.xe s₁) X.xe s := by
  refine thn (ha pins s σ H _ I h) fun v s1 ⟨x, H1, I1, r1, q1⟩ => ?_
  refine thn (hb pins s1 σ H1 _ I1 q1) fun u s2 ⟨y, H2, I2, r2, q2⟩ => ?_
  exact hf v u s2 x y H2 I2 r1 r2 q2
theorem pe_op {op : Operator} {r : R2} (ho : OpR X (binaryOp op) r) (ha : PE X a ta) (hb : PE X b tb) : PE X (.BinOp a op b pos) (tOp r ta tb) := by
  intro pins s σ H Q I h
  exact wpAny_BinOp (binT ha hb I h fun v u s2 x y H2 I2 rx ry q => ho pins s2 σ H2 x y v u Q I2 rx ry q)
theorem pe_un {op : UnaryOp} {r : V → Hp → VK → Prop} (ho : UnR X (unaryOp op) r) (ha : PE X a ta) : PE X (.UnaryOp op a pos) (tUn r ta) := by
  intro pins s σ H Q I h
  exact UnaryOp_ (thn (ha pins s σ H _ I h) fun v s1 ⟨x, H1, I1, r1, q1⟩ => ho pins s1 σ H1 x v Q I1 r1 q1)
theorem opI {f : Value → Value → Sem Value} {C : Int → Int → Prop} {g : Int → Int → Int}
    (rule : ∀ (i j : Int) (t u : Tok) (s : Shared) (Q : Value → Shared → Prop) (E : Value → Shared → Prop), C i j → Q (.int (g i j) s.toks) { s with toks := s.toks + 1 } → wpAny (model X.prog X.w) X.A (f (.int i t) (.int j u)) Q E s) :
    OpR X f (rI C fun i j => .int (g i j)) := by
  intro pins s σ H x y v u Q I rx ry h
  obtain ⟨i, j, rfl, rfl, hc, q⟩ := h
  obtain ⟨t, rfl⟩ := rx
  obtain ⟨t', rfl⟩ := ry
  exact rule i j t t' s _ _ hc ⟨.int (g i j), H, I.tok _, ⟨_, rfl⟩, q⟩
theorem opI0 {f : Value → Value → Sem Value} {g : Int → Int → Int}
    (rule : ∀ (i j : Int) (t u : Tok) (s : Shared) (Q : Value → Shared → Prop) (E : Value → Shared → Prop), Q (.int (g i j) s.toks) { s with toks := s.toks + 1 } → wpAny (model X.prog X.w) X.A (f (.int i t) (.int j u)) Q E s) :
    OpR X f (rI0 fun i j => .int (g i j)) := by
  intro pins s σ H x y v u Q I rx ry h
  obtain ⟨i, j, rfl, rfl, q⟩ := h
  obtain ⟨t, rfl⟩ := rx
  obtain ⟨t', rfl⟩ := ry
  exact rule i j t t' s _ _ ⟨.int (g i j), H, I.tok _, ⟨_, rfl⟩, q⟩
theorem opB0 {f : Value → Value → Sem Value} {g : Int → Int → Bool}
    (rule : ∀ (i j : Int) (t u : Tok) (s : Shared) (Q : Value → Shared → Prop) (E : Value → Shared → Prop), Q (.bool (g i j)) s → wpAny (model X.prog X.w) X.A (f (.int i t) (.int j u)) Q E s) :
    OpR X f (rI0 fun i j => .bl (g i j)) := by
  intro pins s σ H x y v u Q I rx ry h
  obtain ⟨i, j, rfl, rfl, q⟩ := h
  obtain ⟨t, rfl⟩ := rx
  obtain ⟨t', rfl⟩ := ry
  exact rule i j t t' s _ _ ⟨.bl (g i j), H, I, rfl, q⟩
def CDiv (i j : Int) : Prop := 0 < j ∧ j < 1073741824
def CPow (i j : Int) : Prop := 0 ≤ j ∧ j ≤ 1000000 ∧ i.natAbs < 2 ^ 64
def CMul (i j : Int) : Prop := (-(2 ^ 64) < i ∧ i < 2 ^ 64) ∨ (-(2 ^ 64) < j ∧ j < 2 ^ 64)
theorem CMul.ok {i j : Int} (h : CMul i j) : IntMulOk i j := by
  rcases h with ⟨h1, h2⟩ | ⟨h1, h2⟩
  · exact .of_left (intBits_le_64 h1 h2)
  · exact .of_right (intBits_le_64 h1 h2)
theorem op_add : OpR X (binaryOp .Add) (rI0 fun i j => .int (i + j)) := opI0 fun _ _ _ _ _ _ _ q => add_int q
theorem op_sub : OpR X (binaryOp .Sub) (rI0 fun i j => .int (i - j)) := opI0 fun _ _ _ _ _ _ _ q => sub_int q
theorem op_mul : OpR X (binaryOp .Mult) (rI CMul fun i j => .int (i * j)) := opI fun _ _ _ _ _ _ _ hc q => mul_int q hc.ok
theorem op_fdiv : OpR X (binaryOp .FloorDiv) (rI CDiv fun i j => .int (i / j)) := opI fun i j _ _ _ _ _ hc q => by
  have h1 : (0 : Int) < j := hc.1
  have h2 : j < 1073741824 := hc.2
  exact floordiv_int (by omega) (by rw [Int.fdiv_eq_ediv_of_nonneg i (by omega)]; exact q) (.inl (PyProof.noPylong_small (by omega)))
theorem op_mod : OpR X (binaryOp .Mod) (rI (fun _ j => 0 < j) fun i j => .int (i % j)) := opI fun i j _ _ _ _ _ hc q => by
  have h1 : (0 : Int) < j := hc
  exact mod_int' (by omega) (by rw [Int.fmod_eq_emod_of_nonneg i (by omega)]; exact q)
theorem op_pow : OpR X (binaryOp .Pow) (rI CPow fun i j => .int (i ^ j.toNat)) := opI fun _ _ _ _ _ _ _ hc q => pow_int_small hc.1 hc.2.1 hc.2.2 q
theorem unI {f : Value → Sem Value} {g : Int → Int}
    (rule : ∀ (i : Int) (t : Tok) (s : Shared) (Q : Value → Shared → Prop) (E : Value → Shared → Prop), Q (.int (g i) s.toks) { s with toks := s.toks + 1 } → wpAny (model X.prog X.w) X.A (f (.int i t)) Q E s) :
    UnR X f (rU fun i => .int (g i)) := by
  intro pins s σ H x v Q I rx h
  obtain ⟨i, rfl, q⟩ := h
  obtain ⟨t, rfl⟩ := rx
  exact rule i t s _ _ ⟨.int (g i), H, I.tok _, ⟨_, rfl⟩, q⟩
theorem un_neg : UnR X (unaryOp .USub) (rU fun i => .int (-i)) := unI fun _ _ _ _ _ q => neg_int q
end
def scal : V → V → Bool
  | .non, .non => true | .non, .int _ => true | .int _, .non => true | .non, .bl _ => true | .bl _, .non => true | .non, .str _ => true | .str _, .non => true
  | .int _, .int _ => true | .bl _, .bl _ => true | .str _, .str _ => true | .byt _, .byt _ => true
  | .int _, .str _ => true | .str _, .int _ => true | .bl _, .str _ => true | .str _, .bl _ => true
  | _, _ => false
def rEq : R2 := fun x y H Q => scal x y = true ∧ Q (.bl (decide (x = y))) H
def rNe : R2 := fun x y H Q => scal x y = true ∧ Q (.bl (!decide (x = y))) H
theorem dec_int {i j : Int} : decide (V.int i = V.int j) = (i == j) := by
  rw [Bool.eq_iff_iff]
  simp
theorem dec_bl {i j : Bool} : decide (V.bl i = V.bl j) = (i == j) := by
  rw [Bool.eq_iff_iff]
  simp
theorem dec_str {i j : Str} : decide (V.str i = V.str j) = (i == j) := by
  rw [Bool.eq_iff_iff]
  simp
theorem dec_byt {i j : Array UInt8} : decide (V.byt i = V.byt j) = (i.toList == j.toList) := by
  rw [Bool.eq_iff_iff]
  cases i
  cases j
  simp
section
variable {X : Cx} {a b c : Expr} {ta tb tc : TE} {pos : Pos}
theorem fin_bl {pins : List (Addr × Obj)} {σ : St} {H : Hp} {s : Shared} {Q : VK} {k k' : Bool} (I : Inv X pins σ H s) (q : Q (.bl k) H) (e : k = k') : EP X pins σ Q (.bool k') s := by
  subst e
  exact ⟨.bl k, H, I, rfl, q⟩
theorem op_eq : OpR X (compareOp .Eq) rEq := by
  intro pins s σ H x y v u Q I rx ry h
  obtain ⟨hs, q⟩ := h
  cases x with
  | non =>
    cases rx
    cases y with
    | non => cases ry; exact PySem.EqNone.eq_none_none (fin_bl I q (by simp))
    | bl j => cases ry; exact PySem.EqNone.eq_none_bool (fin_bl I q (by simp))
    | int j => obtain ⟨t', rfl⟩ := ry; exact PySem.EqNone.eq_none_int (fin_bl I q (by simp))
    | str j => obtain ⟨t', rfl⟩ := ry; exact PySem.EqNone.eq_none_str (fin_bl I q (by simp))
    | _ => exact absurd (show false = true from hs) Bool.false_ne_true
  | bl i =>
    cases rx
    cases y with
    | non => cases ry; exact PySem.EqNone.eq_bool_none (fin_bl I q (by simp))
    | bl j => cases ry; exact eq_bool (fin_bl I q dec_bl)
    | str j => obtain ⟨t', rfl⟩ := ry; exact PySem.EqMixed.eq_bool_str (fin_bl I q (by simp))
    | _ => exact absurd (show false = true from hs) Bool.false_ne_true
  | int i =>
    obtain ⟨t, rfl⟩ := rx
    cases y with
    | non => cases ry; exact PySem.EqNone.eq_int_none (fin_bl I q (by simp))
    | int j => obtain ⟨t', rfl⟩ := ry; exact eq_int (fin_bl I q dec_int)
    | str j => obtain ⟨t', rfl⟩ := ry; exact PySem.EqMixed.eq_int_str (fin_bl I q (by simp))
    | _ => exact absurd (show false = true from hs) Bool.false_ne_true
  | str i =>
    obtain ⟨t, rfl⟩ := rx
    cases y with
    | non => cases ry; exact PySem.EqNone.eq_str_none (fin_bl I q (by simp))
    | bl j => cases ry; exact PySem.EqMixed.eq_str_bool (fin_bl I q (by simp))
    | int j => obtain ⟨t', rfl⟩ := ry; exact PySem.EqMixed.eq_str_int (fin_bl I q (by simp))
    | str j => obtain ⟨t', rfl⟩ := ry; exact eq_str (fin_bl I q dec_str)
    | _ => exact absurd (show false = true from hs) Bool.false_ne_true
  | byt i =>
    obtain ⟨t, rfl⟩ := rx
    cases y with
    | byt j => obtain ⟨t', rfl⟩ := ry; exact PySem.W.eq_bytes (fin_bl I q dec_byt)
    | _ => exact absurd (show false = true from hs) Bool.false_ne_true
  | _ => cases y <;> exact absurd (show false = true from hs) Bool.false_ne_true
theorem op_ne : OpR X (compareOp .NotEq) rNe := by
  intro pins s σ H x y v u Q I rx ry h
  obtain ⟨hs, q⟩ := h
  cases x with
  | non =>
    cases rx
    cases y with
    | non => cases ry; exact PySem.EqNone.ne_none_none (fin_bl I q (by simp))
    | bl j => cases ry; exact PySem.EqNone.ne_none_bool (fin_bl I q (by simp))
    | int j => obtain ⟨t', rfl⟩ := ry; exact PySem.EqNone.ne_none_int (fin_bl I q (by simp))
    | str j => obtain ⟨t', rfl⟩ := ry; exact PySem.EqNone.ne_none_str (fin_bl I q (by simp))
    | _ => exact absurd (show false = true from hs) Bool.false_ne_true
  | bl i =>
    cases rx
    cases y with
    | non => cases ry; exact PySem.EqNone.ne_bool_none (fin_bl I q (by simp))
    | bl j => cases ry; exact ne_bool (fin_bl I q (congrArg not dec_bl))
    | str j => obtain ⟨t', rfl⟩ := ry; exact PySem.EqMixed.ne_bool_str (fin_bl I q (by simp))
    | _ => exact absurd (show false = true from hs) Bool.false_ne_true
  | int i =>
    obtain ⟨t, rfl⟩ := rx
    cases y with
    | non => cases ry; exact PySem.EqNone.ne_int_none (fin_bl I q (by simp))
    | int j => obtain ⟨t', rfl⟩ := ry; exact ne_int (fin_bl I q (congrArg not dec_int))
    | str j => obtain ⟨t', rfl⟩ := ry; exact PySem.EqMixed.ne_int_str (fin_bl I q (by simp))
    | _ => exact absurd (show false = true from hs) Bool.false_ne_true
  | str i =>
    obtain ⟨t, rfl⟩ := rx
    cases y with
    | non => cases ry; exact PySem.EqNone.ne_str_none (fin_bl I q (by simp))
    | bl j => cases ry; exact PySem.EqMixed.ne_str_bool (fin_bl I q (by simp))
    | int j => obtain ⟨t', rfl⟩ := ry; exact PySem.EqMixed.ne_str_int (fin_bl I q (by simp))
    | str j => obtain ⟨t', rfl⟩ := ry; exact ne_str (fin_bl I q (congrArg not dec_str))
    | _ => exact absurd (show false = true from hs) Bool.false_ne_true
  | byt i =>
    obtain ⟨t, rfl⟩ := rx
    cases y with
    | byt j => obtain ⟨t', rfl⟩ := ry; exact PySem.W.ne_bytes (fin_bl I q (congrArg not dec_byt))
    | _ => exact absurd (show false = true from hs) Bool.false_ne_true
  | _ => cases y <;> exact absurd (show false = true from hs) Bool.false_ne_true
theorem op_lt : OpR X (compareOp .Lt) (rI0 fun i j => .bl (decide (i < j))) := opB0 fun _ _ _ _ _ _ _ q => lt_int q
theorem op_le : OpR X (compareOp .LtE) (rI0 fun i j => .bl (decide (i ≤ j))) := opB0 fun _ _ _ _ _ _ _ q => le_int q
theorem op_gt : OpR X (compareOp .Gt) (rI0 fun i j => .bl (decide (j < i))) := opB0 fun _ _ _ _ _ _ _ q => gt_int q
theorem op_ge : OpR X (compareOp .GtE) (rI0 fun i j => .bl (decide (j ≤ i))) := opB0 fun _ _ _ _ _ _ _ q => ge_int q
def isObj : HO → Bool
  | .lst _ => true
  | .ins _ _ _ => true
  | _ => false
theorem nomark (b : Expr) {op : CmpOp} (h : op ≠ .In := by decide) (h2 : op ≠ .NotIn := by decide) : behindInMarks op b = false := by
  have e1 : (op == CmpOp.In) = false := by cases op <;> first | rfl | exact absurd rfl h
  have e2 : (op == CmpOp.NotIn) = false := by cases op <;> first | rfl | exact absurd rfl h2
  cases b <;> simp [behindInMarks, e1, e2]
theorem pe_cmpR {op : CmpOp} {r : R2} (ho : OpR X (compareOp op) r) (ha : PE X a ta) (hb : PE X b tb) (hm : behindInMarks op b = false) : PE X (.Compare a [op] [b] pos) (tOp r ta tb) := by
  intro pins s σ H Q I h
  exact wpAny_Compare1 (binT ha hb I h fun v u s2 x y H2 I2 rx ry q => ho pins s2 σ H2 x y v u Q I2 rx ry q) hm
def tTest (t : TE) : TT := fun σ H Q => t σ H fun x H' => ∃ k, x = .bl k ∧ Q k H'
theorem pt_cmpR {op : CmpOp} {r : R2} (ho : OpR X (compareOp op) r) (ha : PE X a ta) (hb : PE X b tb) (hm : behindInMarks op b = false) : PT X (.Compare a [op] [b] pos) (tTest (tOp r ta tb)) := by
  intro pins s σ H Q I h
  refine wpAny_isTrue_Compare1 (thn (ha pins s σ H _ I h) fun v s1 ⟨x, H1, I1, r1, q1⟩ => thn (hb pins s1 σ H1 _ I1 q1) fun u s2 ⟨y, H2, I2, r2, q2⟩ =>
    thn (ho pins s2 σ H2 x y v u _ I2 r1 r2 q2) fun c s3 ⟨z, H3, I3, r3, k, e, q3⟩ => ?_) hm
  subst e
  cases r3
  exact wpAny_truthy_bool ⟨H3, I3, q3⟩
def tChain (r r' : R2) (ta tb tc : TE) : TE := fun σ H Q => ta σ H fun x H1 => tb σ H1 fun y H2 => r x y H2 fun z H3 => ∃ k, z = .bl k ∧
  (if k = true then tc σ H3 fun w' H4 => r' y w' H4 Q else Q (.bl false) H3)
theorem pe_chain {op op' : CmpOp} {r r' : R2} (ho : OpR X (compareOp op) r) (ho' : OpR X (compareOp op') r') (ha : PE X a ta) (hb : PE X b tb) (hc : PE X c tc)
    (hm : lastMarks [op, op'] [b, c] = false := by with_unfolding_all rfl) : PE X (.Compare a [op, op'] [b, c] pos) (tChain r r' ta tb tc) := by
  intro pins s σ H Q I h
  refine Compare_chain (thn (ha pins s σ H _ I h) fun v s1 ⟨x, H1, I1, r1, q1⟩ => chain_link (thn (hb pins s1 σ H1 _ I1 q1) fun u s2 ⟨y, H2, I2, r2, q2⟩ =>
    thn (ho pins s2 σ H2 x y v u _ I2 r1 r2 q2) fun d s3 ⟨z, H3, I3, r3, k, e, q3⟩ => ?_)) hm
  subst e
  cases r3
  refine wpAny_truthy_bool ?_
  cases k with
  | false => exact ite_ff ⟨.bl false, H3, I3, rfl, q3⟩
  | true => exact ite_tt (chain_last (thn (hc pins s3 σ H3 _ I3 q3) fun w' s4 ⟨z', H4, I4, r4, q4⟩ => ho' pins s4 σ H4 y z' u w' Q I4 r2 r4 q4))
theorem pt_chain {op op' : CmpOp} {r r' : R2} (ho : OpR X (compareOp op) r) (ho' : OpR X (compareOp op') r') (ha : PE X a ta) (hb : PE X b tb) (hc : PE X c tc)
    (hm : lastMarks [op, op'] [b, c] = false := by with_unfolding_all rfl) : PT X (.Compare a [op, op'] [b, c] pos) (tTest (tChain r r' ta tb tc)) := by
  intro pins s σ H Q I h
  refine isTrue_chain (thn (ha pins s σ H _ I h) fun v s1 ⟨x, H1, I1, r1, q1⟩ => test_link (thn (hb pins s1 σ H1 _ I1 q1) fun u s2 ⟨y, H2, I2, r2, q2⟩ =>
    thn (ho pins s2 σ H2 x y v u _ I2 r1 r2 q2) fun d s3 ⟨z, H3, I3, r3, k, e, q3⟩ => ?_)) hm
  subst e
  cases r3
  refine wpAny_truthy_bool ?_
  cases k with
  | false =>
    obtain ⟨k', e', q'⟩ := q3
    cases e'
    exact ite_ff ⟨H3, I3, q'⟩
  | true =>
    refine ite_tt (test_last (thn (hc pins s3 σ H3 _ I3 q3) fun w' s4 ⟨z', H4, I4, r4, q4⟩ => thn (ho' pins s4 σ H4 y z' u w' _ I4 r2 r4 q4) fun d' s5 ⟨z2, H5, I5, r5, k2, e2, q5⟩ => ?_))
    subst e2
    cases r5
    exact wpAny_truthy_bool ⟨H5, I5, q5⟩
def TruV (K : PySem.W.Frag) (x : V) (H : Hp) (k : Bool) : Prop :=
  match x with
  | .non => k = false
  | .bl b => k = b
  | .int i => k = (i != 0)
  | .str y => y.length ≤ sizeLine ∧ k = ((y.length : Int) != 0)
  | .byt y => y.size ≤ sizeLine ∧ k = ((y.size : Int) != 0)
  | .ref p => (∃ xs, SqL K H p xs ∧ k = !xs.isEmpty) ∨ (∃ xs, SqT K H p xs ∧ k = !xs.isEmpty) ∨ ∃ kvs, H p = some (.dK kvs) ∧ k = !kvs.isEmpty
  | _ => False
theorem line63 : (sizeLine : Nat) < 2 ^ 63 := by rw [sizeLine_eq]; decide
theorem vals1 {x : V} {us : List Value} (r : Vals [x] us) : ∃ u, us = [u] ∧ RelV x u := by
  cases r with
  | cons r1 r2 => cases r2; exact ⟨_, rfl, r1⟩
theorem vals2 {x y : V} {us : List Value} (r : Vals [x, y] us) : ∃ u w', us = [u, w'] ∧ RelV x u ∧ RelV y w' := by
  cases r with
  | cons r1 r2 =>
    cases r2 with
    | cons r3 r4 => cases r4; exact ⟨_, _, rfl, r1, r3⟩
theorem call_abs : CallR X (.builtin "abs") (fun xs H Q => ∃ i, xs = [.int i] ∧ Q (.int (if i < 0 then -i else i)) H) := by
  intro pins s σ H xs us Q I r h
  obtain ⟨i, rfl, q⟩ := h
  obtain ⟨u, rfl, t, rfl⟩ := vals1 r
  exact call_abs_int fun u tk => ⟨.int (if i < 0 then -i else i), H, I.tok _, ⟨_, rfl⟩, q⟩
theorem call_max2 (hc : X.calm = true) : CallR X (.builtin "max") (fun xs H Q => ∃ i j, xs = [.int i, .int j] ∧ Q (.int (if j > i then j else i)) H) := by
  intro pins s σ H xs us Q I r h
  obtain ⟨i, j, rfl, q⟩ := h
  obtain ⟨u, w', rfl, ⟨t, rfl⟩, ⟨t', rfl⟩⟩ := vals2 r
  refine max_two_ints (I.ok.hd hc) fun h' tk k => ⟨_, H, I.kept k, ?_, q⟩
  by_cases hj : j > i
  · rw [if_pos hj, if_pos hj]; exact ⟨_, rfl⟩
  · rw [if_neg hj, if_neg hj]; exact ⟨_, rfl⟩
theorem call_min2 (hc : X.calm = true) : CallR X (.builtin "min") (fun xs H Q => ∃ i j, xs = [.int i, .int j] ∧ Q (.int (if j < i then j else i)) H) := by
  intro pins s σ H xs us Q I r h
  obtain ⟨i, j, rfl, q⟩ := h
  obtain ⟨u, w', rfl, ⟨t, rfl⟩, ⟨t', rfl⟩⟩ := vals2 r
  refine min_two_ints (I.ok.hd hc) fun h' tk k => ⟨_, H, I.kept k, ?_, q⟩
  by_cases hj : j < i
  · rw [if_pos hj, if_pos hj]; exact ⟨_, rfl⟩
  · rw [if_neg hj, if_neg hj]; exact ⟨_, rfl⟩
def LenV (K : PySem.W.Frag) (x : V) (H : Hp) (n : Nat) : Prop :=
  match x with
  | .str y => y.length ≤ sizeLine ∧ n = y.length
  | .byt y => y.size ≤ sizeLine ∧ n = y.size
  | .ref p => (∃ xs, SqL K H p xs ∧ n = xs.length) ∨ ∃ xs, SqT K H p xs ∧ n = xs.length
  | _ => False
end
end L2
namespace L2
open PySem PySem.Spec PyProof.Rows
structure ObjM (h : Heap) (x dx C : Addr) (mA : Str → Option Value) : Prop where
  obj : h.get? x = some (PySem.W.instObj C dx)
  ns : h.Ns1 dx mA
  ne : dx ≠ x
theorem lookIn_ns {h : Heap} {dx : Addr} {mA : Str → Option Value} (n : h.Ns1 dx mA) : ∃ od, h.get? dx = some od ∧ ∀ name, PySem.W.lookIn name od = some (mA name) := by
  obtain ⟨o, es, ep, ho, hd, hk, _, hm⟩ := n
  refine ⟨o, ho, fun name => ?_⟩
  have e := hm name
  unfold nsFind findBy at e
  rw [← Array.find?_toList] at e
  unfold PySem.W.lookIn
  rw [hd]
  dsimp only
  split
  · rename_i y q
    rw [q] at e
    exact congrArg some e
  · rename_i q
    rw [q] at e
    have a : es.toList.any (·.refKey) = false := by
      rw [List.any_eq_false]
      intro y hy
      obtain ⟨z, t, hkey⟩ := hk y (Array.mem_toList_iff.mp hy)
      simp [DictEntry.refKey, hkey]
    have a' : ¬ es.toList.any (·.refKey) = true := by rw [a]; exact Bool.false_ne_true
    rw [if_neg a']
    exact congrArg some e
theorem ObjM.look {h : Heap} {x dx C : Addr} {mA : Str → Option Value} (I : ObjM h x dx C mA) : ∃ od, PySem.W.InstAt h x (PySem.W.instObj C dx) C (some od) ∧ ∀ name, PySem.W.lookIn name od = some (mA name) :=
  let ⟨od, ho, hl⟩ := lookIn_ns I.ns
  ⟨od, ⟨I.obj, rfl, rfl, ho⟩, hl⟩
section
variable {prog : Program} {w : World} {A : Around} {E : Value → Shared → Prop} {s : Shared} {K : PySem.W.Frag} {x dx C f : Addr} {mA : Str → Option Value} {name : Str} {v : Value}
theorem get_map {expr : Bool} {Q : Value → Shared → Prop} (X : K.In s.heap) (I : ObjM s.heap x dx C mA) (hg : PySem.W.plainGet K C name = true) (hh : PySem.W.hasDictIn K C = true)
    (ha : PySem.W.findIn K (.ref C) name = some none) (hv : mA name = some v) (hv' : PySem.W.handedIn v = true) (h : Q v { s with toks := s.toks + 1 }) :
    wpAny (model prog w) A (getAttr (.ref x) name expr) Q E s := by
  obtain ⟨od, J, hl⟩ := I.look
  exact PySem.W.get_value X J (PySem.W.plainGet_of hg).1 (PySem.W.findObj_own hh ha rfl (by rw [hl, hv])) hv' h
theorem get_meth {pl : Sem Bool} {Q : Value × List Value → Shared → Prop} (X : K.In s.heap) (I : ObjM s.heap x dx C mA) (hg : PySem.W.plainGet K C name = true)
    (hf : PySem.W.findIn K (.ref C) name = some (some (.ref f))) (ht : PySem.W.isFn K (.ref f) = true) (hv : mA name = none) (h : Q (.ref f, [.ref x]) s) :
    wpAny (model prog w) A (getMethod (.ref x) name pl) Q E s := by
  obtain ⟨od, J, hl⟩ := I.look
  exact PySem.W.method_fn X J (PySem.W.plainGet_of hg).1 (PySem.W.plainGet_of hg).2 hf (beq_iff_eq.mp ht) (by show (PySem.W.lookIn name od).map (·.isSome) = some false; rw [hl, hv]; rfl) h
theorem set_map {ns : List Str} {Q : Unit → Shared → Prop} (X : K.In s.heap) (I : ObjM s.heap x dx C mA)
    (hs : PySem.W.findIn K (.ref C) "__setattr__" = some (some (.builtin "object.__setattr__"))) (hp : PySem.W.plainOver K C = true) (ht : PySem.W.takerIn K C name = some none) (hh : PySem.W.hasDictIn K C = true)
    (hw : PySem.Within mA ns) (hsz : ns.length ≤ sizeLine)
    (h : ∀ h', ObjM h' x dx C (fun y => if y = name then some v else mA y) → Heap.SameBut dx s.heap h' → Q () { s with heap := h', toks := s.toks + 2 }) :
    wpAny (model prog w) A (setAttr (.ref x) name v) Q E s := by
  obtain ⟨od, J, hl⟩ := I.look
  refine PySem.W.set_plain X J hs (PySem.W.osa_open (s := { s with toks := s.toks + 1 }) (r := none) X J hp ht fun b => ?_)
  obtain ⟨cd, hc, hd'⟩ := PySem.W.any_some hh
  have hx : s.heap.get? x = some ⟨.ref C, some dx, .plain, #[]⟩ := I.obj
  refine wpAny_bind (wpAny_pure (wpAny_bind (wpAny_bind (wpAny_loadPart hx (wpAny_bind (PySem.W.Looks.here (s := { s with toks := s.toks + 1 }) (PySem.W.looks_clsIn X hc) ?_))))))
  rw [hd']
  refine wpAny_pure (a := some dx) (wpAny_bind (wpAny_pure (wpAny_bind ?_)))
  refine wpAny_nsSet1 (s := { s with toks := s.toks + 1 }) I.ns fun h' hn2 hs2 => ?_
  obtain ⟨oD, esD, epD, hoD, hdD, hcD⟩ := hn2.count (PySem.Within.cons name v hw)
  refine wpAny_bind (wpAny_lookBehind hoD (by rw [hdD]; exact pastItsLine_dict (Nat.le_trans hcD (by rw [List.length_cons]; omega))) ?_)
  exact wpAny_pure (h _ ⟨(hs2.2 _ (Ne.symm I.ne)).trans I.obj, hn2, I.ne⟩ hs2)
theorem make_map {R : Result → Shared → Prop} {vs : List Value} {kw : List (Str × Value)} (X : K.In s.heap) (hm : PySem.W.makesIn K C = true)
    (hi : PySem.W.findIn K (.ref C) "__init__" = some (some (.ref f))) (hf : PySem.W.typeIn K (.ref f) = some (.type "function"))
    (h : codeAny (model prog w) (A.under (.builtin "type.__call__" ⟨.ref C :: vs, kw⟩)) (.call (.ref f) ⟨.ref (s.heap.objs.size + 1) :: vs, kw⟩) (PySem.W.InitBack (s.heap.objs.size + 1) R)
      { s with heap := (s.heap.push PySem.W.emptyDict).push (PySem.W.instObj C s.heap.objs.size) }) :
    codeAny (model prog w) A (.call (.ref C) ⟨vs, kw⟩) R s := by
  obtain ⟨hh, g, d, t, os⟩ := s
  exact PySem.W.make_core (PySem.W.makes_of X hm) (PySem.W.looks_findIn X hi) (fun self => PySem.W.bind_fn X self hf) (.inl rfl) h
end
def putF (f : Str) (v : V) : List (Str × V) → List (Str × V)
  | [] => [(f, v)]
  | (g, x) :: r => if g = f then (g, v) :: r else (g, x) :: putF f v r
theorem lookup_putF (f g : Str) (v : V) : ∀ fs : List (Str × V), (putF f v fs).lookup g = if g = f then some v else fs.lookup g
  | [] => by
    show List.lookup g [(f, v)] = _
    by_cases h : g = f
    · have hb : (g == f) = true := beq_iff_eq.mpr h
      simp only [List.lookup, hb, if_pos h]
    · have hb : (g == f) = false := beq_eq_false_iff_ne.mpr h
      simp only [List.lookup, hb, if_neg h]
  | (k, x) :: r => by
    have ih := lookup_putF f g v r
    rw [show putF f v ((k, x) :: r) = (if k = f then (k, v) :: r else (k, x) :: putF f v r) from rfl]
    by_cases hk : k = f
    · rw [if_pos hk]
      by_cases h : g = k
      · have hb : (g == k) = true := beq_iff_eq.mpr h
        simp only [List.lookup, hb, if_pos (h.trans hk)]
      · have hb : (g == k) = false := beq_eq_false_iff_ne.mpr h
        simp only [List.lookup, hb, if_neg (fun e : g = f => h (e.trans hk.symm))]
    · rw [if_neg hk]
      by_cases h : g = k
      · have hb : (g == k) = true := beq_iff_eq.mpr h
        simp only [List.lookup, hb, if_neg (fun e : g = f => hk (h.symm.trans e))]
      · have hb : (g == k) = false := beq_eq_false_iff_ne.mpr h
        simp only [List.lookup, hb]
        exact ih
theorem keys_putF (f : Str) (v : V) : ∀ fs : List (Str × V), f ∈ (putF f v fs).map (·.1) ∧ ∀ g, g ∈ fs.map (·.1) → g ∈ (putF f v fs).map (·.1)
  | [] => ⟨by simp [putF], fun g h => by simp at h⟩
  | (k, x) :: r => by
    obtain ⟨i1, i2⟩ := keys_putF f v r
    rw [show putF f v ((k, x) :: r) = (if k = f then (k, v) :: r else (k, x) :: putF f v r) from rfl]
    by_cases hk : k = f
    · rw [if_pos hk]
      subst hk
      exact ⟨by simp, fun g h => by simpa using h⟩
    · rw [if_neg hk]
      refine ⟨?_, fun g h => ?_⟩
      · rw [List.map_cons]
        exact List.mem_cons_of_mem _ i1
      · rw [List.map_cons] at h ⊢
        rcases List.mem_cons.mp h with e | e
        · exact List.mem_cons.mpr (.inl e)
        · exact List.mem_cons_of_mem _ (i2 g e)
theorem length_putF (f : Str) (v : V) : ∀ fs : List (Str × V), (putF f v fs).length ≤ fs.length + 1
  | [] => by simp [putF]
  | (k, x) :: r => by
    have ih := length_putF f v r
    rw [show putF f v ((k, x) :: r) = (if k = f then (k, v) :: r else (k, x) :: putF f v r) from rfl]
    by_cases hk : k = f
    · rw [if_pos hk, List.length_cons, List.length_cons]; omega
    · rw [if_neg hk, List.length_cons, List.length_cons]; omega
theorem RelO.some_of {v : V} {o : Option Value} (r : RelO (some v) o) : ∃ u, o = some u ∧ RelV v u := by
  cases o with
  | none => exact (show False from r).elim
  | some u => exact ⟨u, rfl, r⟩
theorem RelO.none_of {o : Option Value} (r : RelO none o) : o = none := by
  cases o with
  | none => rfl
  | some u => exact (show False from r).elim
theorem handed_of {v : V} {u : Value} (r : RelV v u) : PySem.W.handedIn u = true := by
  cases v with
  | non => cases (show u = Value.none from r); rfl
  | bl b => cases (show u = Value.bool b from r); rfl
  | int i => obtain ⟨t, e⟩ := (show ∃ t, u = Value.int i t from r); cases e; rfl
  | str x => obtain ⟨t, e⟩ := (show ∃ t, u = Value.str x t from r); cases e; rfl
  | byt b => obtain ⟨t, e⟩ := (show ∃ t, u = Value.bytes b t from r); cases e; rfl
  | flt b => obtain ⟨t, e⟩ := (show ∃ t, u = Value.float b t from r); cases e; rfl
  | ref a => cases (show u = Value.ref a from r); rfl
  | ty n => cases (show u = Value.type n from r); rfl
section
variable {P : Program} {w : World} {H H' : Hp} {h h' : Heap} {a C dx : Addr} {fs fs' : List (Str × V)}
theorem ins_get (hok : HOk P w H h) (e : H a = some (.ins C dx fs)) : ∃ mA, ObjM h a dx C mA ∧ (∀ f, RelO (fs.lookup f) (mA f)) ∧ PySem.Within mA (fs.map (·.1)) ∧ fs.length ≤ 1000 ∧ H dx = some (.own a) := by
  obtain ⟨d, z, ne, ob, mA, n, r, q⟩ := (show ObjOk P w H h a (.ins C dx fs) from hok a _ e)
  exact ⟨mA, ⟨ob, n, ne⟩, r, q, z, d⟩
end
structure Cls (K : PySem.W.Frag) (C : Addr) : Prop where
  pg : PySem.W.plainGet K C Str.empty = true
  hd : PySem.W.hasDictIn K C = true
  po : PySem.W.plainOver K C = true
  sa : PySem.W.findIn K (.ref C) "__setattr__" = some (some (.builtin "object.__setattr__"))
theorem Cls.get {K : PySem.W.Frag} {C : Addr} (c : Cls K C) (f : Str) : PySem.W.plainGet K C f = true := c.pg
def NoAttr (K : PySem.W.Frag) (C : Addr) (f : Str) : Prop := PySem.W.findIn K (.ref C) f = some none
theorem NoAttr.taker {K : PySem.W.Frag} {C : Addr} {f : Str} (n : NoAttr K C f) : PySem.W.takerIn K C f = some none := by
  unfold PySem.W.takerIn
  rw [show PySem.W.findIn K (.ref C) f = some none from n]
  rfl
structure Con (K : PySem.W.Frag) (C : Addr) (f : Str) (v : V) (u : Value) : Prop where
  at_ : PySem.W.findIn K (.ref C) f = some (some u)
  rel : RelV v u
  get : PySem.W.specialIn K u "__get__" = some none
  cp : PySem.W.copiedNames.contains f = false
structure Meth (K : PySem.W.Frag) (C : Addr) (m : Str) (f : Addr) : Prop where
  at_ : PySem.W.findIn K (.ref C) m = some (some (.ref f))
  fn : PySem.W.isFn K (.ref f) = true
  kp : PySem.W.keepIn K (.ref f) = true
section
variable {X : Cx} {pins : List (Addr × Obj)} {σ : St} {H : Hp} {s : Shared} {a C dx : Addr} {fs : List (Str × V)} {f : Str} {v : V} {A : Around} {E : Value → Shared → Prop}
theorem getattr_ok {b : Bool} {Q : Value → Shared → Prop} (I : Inv X pins σ H s) (e : H a = some (.ins C dx fs)) (c : Cls X.K C) (n : NoAttr X.K C f) (l : fs.lookup f = some v)
    (h : ∀ u s', Inv X pins σ H s' → RelV v u → Q u s') : wpAny (model X.prog X.w) A (getAttr (.ref a) f b) Q E s := by
  obtain ⟨mA, O, r, _, _, _⟩ := ins_get I.hok e
  obtain ⟨u, hu, ru⟩ := RelO.some_of (v := v) (o := mA f) (by rw [← l]; exact r f)
  exact get_map I.kIn O (c.get f) c.hd n hu (handed_of ru) (h u _ (I.tok _) ru)
theorem getmeth_ok {m : Str} {g : Addr} {pl : Sem Bool} {Q : Value × List Value → Shared → Prop} (I : Inv X pins σ H s) (e : H a = some (.ins C dx fs)) (c : Cls X.K C) (k : Meth X.K C m g) (l : fs.lookup m = none)
    (h : Q (.ref g, [.ref a]) s) : wpAny (model X.prog X.w) A (getMethod (.ref a) m pl) Q E s := by
  obtain ⟨mA, O, r, _, _, _⟩ := ins_get I.hok e
  have hn : mA m = none := RelO.none_of (by rw [← l]; exact r m)
  exact get_meth I.kIn O (c.get m) k.at_ k.fn hn h
theorem setattr_ok {y : V} {u : Value} {Q : Unit → Shared → Prop} (I : Inv X pins σ H s) (e : H a = some (.ins C dx fs)) (c : Cls X.K C) (n : NoAttr X.K C f) (hl : fs.length < 1000) (ry : RelV y u)
    (h : ∀ s', Inv X pins σ (upd H a (.ins C dx (putF f y fs))) s' → Q () s') : wpAny (model X.prog X.w) A (setAttr (.ref a) f u) Q E s := by
  obtain ⟨mA, O, r, wi, _, ho⟩ := ins_get I.hok e
  have hz : (fs.map (·.1)).length ≤ sizeLine := by rw [List.length_map, sizeLine_eq]; omega
  refine set_map I.kIn O c.sa c.po n.taker c.hd wi hz fun h' O' sb => h _ ?_
  have hd : ∃ o, h'.get? dx = some o := let ⟨o, _, _, e', _⟩ := O'.ns; ⟨o, e'⟩
  refine I.write (x := a) (e := dx) (by rw [e]; exact True.intro) (.inr ho) (fun b q hb z => (sb.2 b hb).trans z) hd ?_
  refine ⟨by rw [upd_ne O.ne]; exact ho, ?_, O.ne, O'.obj, _, O'.ns, fun g => ?_, fun g hg => ?_⟩
  · have := length_putF f y fs; omega
  · show RelO ((putF f y fs).lookup g) (if g = f then some u else mA g)
    rw [lookup_putF]
    by_cases q : g = f
    · rw [if_pos q, if_pos q]; exact ry
    · rw [if_neg q, if_neg q]; exact r g
  · by_cases q : g = f
    · rw [q]; exact (keys_putF f y fs).1
    · refine (keys_putF f y fs).2 g (wi g fun z => hg ?_)
      show (if g = f then some u else mA g) = none
      rw [if_neg q]; exact z
theorem Inv.made (I : Inv X pins σ H s) : Inv X pins σ (upd (upd H s.heap.objs.size (.own (s.heap.objs.size + 1))) (s.heap.objs.size + 1) (.ins C s.heap.objs.size []))
    { s with heap := (s.heap.push PySem.W.emptyDict).push (PySem.W.instObj C s.heap.objs.size) } := by
  have e1 : (s.heap.push PySem.W.emptyDict).get? s.heap.objs.size = some PySem.W.emptyDict := Heap.get?_push_size s.heap rfl
  have e2 : ((s.heap.push PySem.W.emptyDict).push (PySem.W.instObj C s.heap.objs.size)).get? (s.heap.objs.size + 1) = some (PySem.W.instObj C s.heap.objs.size) := by
    have := Heap.get?_push_size (s.heap.push PySem.W.emptyDict) (o := PySem.W.instObj C s.heap.objs.size) rfl
    rwa [Heap.size_push] at this
  have e3 : (s.heap.push PySem.W.emptyDict).Ns s.heap.objs.size (fun _ => none) := ⟨PySem.W.emptyDict, #[], _, e1, rfl, (fun e he => absurd he (by simp)), fun _ => rfl⟩
  have I1 := I.laid (a := s.heap.objs.size) (o := .own (s.heap.objs.size + 1)) (h' := s.heap.push PySem.W.emptyDict) (t' := s.toks) (fun b u q => Heap.get?_push_of_some _ q) (Nat.le_refl _) ⟨_, e1⟩
  refine I1.laid (a := s.heap.objs.size + 1) (o := .ins C s.heap.objs.size []) (t' := s.toks) (fun b u q => Heap.get?_push_of_some _ q) (Nat.le_of_eq (Heap.size_push _ _)) ?_
  have ne : s.heap.objs.size ≠ s.heap.objs.size + 1 := Nat.ne_of_lt (Nat.lt_succ_self _)
  refine ⟨by rw [upd_ne ne, upd_same], Nat.zero_le _, ne, e2, fun _ => none, (Heap.Ns1.of_empty e3).at fun o q => Heap.get?_push_of_some _ q, fun _ => True.intro, fun y hy => absurd rfl hy⟩
theorem attr_of {prog : Program} {w : World} {env : Env} {e : Expr} {f : Str} {pos : Pos} {s : Shared} {Q : Value → Shared → Prop} (hb : attributeBase e f env (eval e env) = eval e env)
    (h : wpAny (model prog w) A (eval e env) (fun o s₁ => wpAny (model prog w) A (getAttr o f true) Q E s₁) E s) : wpAny (model prog w) A (eval (.Attribute e f pos) env) Q E s :=
  Attribute_any_ h (by rw [arm_eval_Attribute, hb])
end
def tFld (K : PySem.W.Frag) (ta : TE) (f : Str) : TE := fun σ H Q => ta σ H fun x H1 => ∃ a C dx fs v, x = .ref a ∧ H1 a = some (.ins C dx fs) ∧ Cls K C ∧ NoAttr K C f ∧ fs.lookup f = some v ∧ Q v H1
def tCon (K : PySem.W.Frag) (ta : TE) (f : Str) : TE := fun σ H Q => ta σ H fun x H1 => ∃ a C dx fs v u, x = .ref a ∧ H1 a = some (.ins C dx fs) ∧ Cls K C ∧ Con K C f v u ∧ fs.lookup f = none ∧ Q v H1
def sFld (K : PySem.W.Frag) (ta tv : TE) (f : Str) : TS := fun D σ H => tv σ H fun y H1 => ta σ H1 fun x H2 => ∃ a C dx fs, x = .ref a ∧ H2 a = some (.ins C dx fs) ∧ Cls K C ∧ NoAttr K C f ∧ fs.length < 1000 ∧
  D.nx σ (upd H2 a (.ins C dx (putF f y fs)))
def InOp (X : Cx) (op : Operator) (rd : V → V → Hp → VK → Prop) : Prop :=
  ∀ (pins : List (Addr × Obj)) (s : Shared) (σ : St) (H : Hp) (x y : V) (u v : Value) (Q : VK), Inv X pins σ H s → RelV x u → RelV y v → rd x y H Q → wpAny (model X.prog X.w) X.A (inplaceOp op u v) (EP X pins σ Q) X.xe s
def sFldAug (K : PySem.W.Frag) (ta tv : TE) (rd : V → V → Hp → VK → Prop) (f : Str) : TS := fun D σ H => ta σ H fun x H1 => ∃ a C dx fs v, x = .ref a ∧ H1 a = some (.ins C dx fs) ∧ Cls K C ∧ NoAttr K C f ∧ fs.lookup f = some v ∧
  tv σ H1 fun y H2 => rd v y H2 fun z H3 => ∃ dx' fs', H3 a = some (.ins C dx' fs') ∧ fs'.length < 1000 ∧ D.nx σ (upd H3 a (.ins C dx' (putF f z fs')))
section
variable {X : Cx} {o e value : Expr} {f : Str} {pos pos' tpos : Pos} {ta tv : TE}
theorem pe_fld (he : PE X e ta) (hb : attributeBase e f X.env (eval e X.env) = eval e X.env) : PE X (.Attribute e f pos) (tFld X.K ta f) := by
  intro pins s σ H Q I h
  refine attr_of hb (thn (he pins s σ H _ I h) fun u s1 ⟨x, H1, I1, rx, a, C, dx, fs, v, ex, ea, c, n, l, q⟩ => ?_)
  subst ex
  obtain rfl : u = Value.ref a := rx
  exact getattr_ok I1 ea c n l fun u' s2 I2 ru => ⟨v, H1, I2, ru, q⟩
theorem ps_fld (ha : PE X o ta) (hv : PE X value tv) (hs : swapsWith value (some (.Attribute o f pos')) pos.line X.env = pure false) : PS X (.Assign [.Attribute o f pos'] value pos) (sFld X.K ta tv f) := by
  intro pins s σ H D I h
  refine plainObj_wpAny_Assign_Attribute (thn (hv pins s σ H _ I h) fun u s1 ⟨y, H1, I1, ry, q⟩ => thn (ha pins s1 σ H1 _ I1 q) fun ov s2 ⟨x, H2, I2, rx, a, C, dx, fs, ex, ea, c, n, l, q2⟩ => ?_) hs
  subst ex
  obtain rfl : ov = Value.ref a := rx
  exact setattr_ok I2 ea c n l ry fun s3 I3 => ⟨σ, _, I3, q2⟩
end
section
variable {X : Cx} {pins : List (Addr × Obj)} {σ : St} {H : Hp} {s : Shared} {A : Around} {E : Value → Shared → Prop} {Q : Value → Shared → Prop} {c : Value} {b : Bool}
inductive TyOf (K : PySem.W.Frag) (H : Hp) : V → Value → Prop where
  | non : TyOf K H .non (.type "NoneType")
  | bl (x : Bool) : TyOf K H (.bl x) (.type "bool")
  | int (i : Int) : TyOf K H (.int i) (.type "int")
  | str (x : Str) : TyOf K H (.str x) (.type "str")
  | flt (x : UInt64) : TyOf K H (.flt x) (.type "float")
  | lst {a : Addr} {xs : List V} (e : H a = some (.lst xs)) : TyOf K H (.ref a) (.type "list")
  | frz {a : Addr} {o : Obj} {xs : List V} (e : H a = some (.frz o (.lst xs))) : TyOf K H (.ref a) (.type "list")
  | tup {a : Addr} {xs : List V} (e : H a = some (.tup xs)) : TyOf K H (.ref a) (.type "tuple")
  | dK {a : Addr} {kvs : List (Key × V)} (e : H a = some (.dK kvs)) : TyOf K H (.ref a) (.type "dict")
  | dT {a : Addr} {kvs : List (List Key × V)} (e : H a = some (.dT kvs)) : TyOf K H (.ref a) (.type "dict")
  | ins {a C dx : Addr} {fs : List (Str × V)} (e : H a = some (.ins C dx fs)) (cl : Cls K C) (ha : PySem.W.findIn K (.ref C) "__class__" = some (some (.builtin "object.__class__")))
      (hn : PySem.W.specialIn K (.builtin "object.__class__") "__get__" = some (some (.builtin "getset_descriptor.__get__"))) (htk : PySem.W.takesIn K (.builtin "object.__class__") = some true)
      (hm : PySem.W.mroIn K C (.type "object") = some true) : TyOf K H (.ref a) (.ref C)
end
end L2
namespace L2
open PySem PySem.Spec PyProof.Rows
structure Room (k : Nat) (A : Around) : Prop where
  hd : A.handled = none
  dp : A.depth + 3 * k + 5 < recursionLimit
  un : A.units + 16 * k + 200 < cLine
theorem Room.mono {j k : Nat} {A : Around} (r : Room k A) (h : j ≤ k) : Room j A := ⟨r.hd, by have := r.dp; omega, by have := r.un; omega⟩
theorem Room.deeper {k : Nat} {A : Around} (r : Room (k + 1) A) (env : Env) : Room k (A.deeper env) :=
  ⟨r.hd, by have := r.dp; show A.depth + 1 + 3 * k + 5 < _; omega, by have := r.un; show A.units + 3 + 16 * k + 200 < _; omega⟩
theorem make_depth {A : Around} {C : Addr} {us : List Value} {kw : List (Str × Value)} : (A.under (.builtin "type.__call__" ⟨.ref C :: us, kw⟩)).depth = A.depth + 1 := by
  first | rfl | simp [Around.under, Code.weight, Code.isCreation, Code.isGuard, Code.isCaller, Code.frames, Code.isFrame, guardIds]
theorem make_units {A : Around} {C : Addr} {us : List Value} {kw : List (Str × Value)} : (A.under (.builtin "type.__call__" ⟨.ref C :: us, kw⟩)).units = A.units + 1 := by
  first | rfl | simp [Around.under, Code.cUnits, Code.frames, Code.isFrame]
theorem Room.make {k : Nat} {A : Around} (r : Room (k + 1) A) (C : Addr) (us : List Value) (kw : List (Str × Value)) : Room k (A.under (.builtin "type.__call__" ⟨.ref C :: us, kw⟩)) :=
  ⟨r.hd, by have := r.dp; rw [make_depth]; omega, by have := r.un; rw [make_units]; omega⟩
theorem Room.depth {k : Nat} {A : Around} (r : Room k A) : A.depth < recursionLimit := by have := r.dp; omega
theorem Room.units {k : Nat} {A : Around} (r : Room k A) : A.units + 64 < cLine := by have := r.un; omega
def tNil : TA := fun _ H Q => Q [] H
def tCons (ta : TE) (tr : TA) : TA := fun σ H Q => ta σ H fun x H1 => tr σ H1 fun xs H2 => Q (x :: xs) H2
section
variable {X : Cx} {e : Expr} {es : List Expr} {te : TE} {t : TA} {pos : Pos}
theorem pa_nil : PA X [] tNil := fun _ _ _ _ H Q I h => Calls.spliced_nil ⟨[], H, I, .nil, h⟩
theorem pa_cons (ha : PE X e te) (hr : PA X es t) (hs : starEach (e :: es) X.env = (false, eval e X.env) :: starEach es X.env := by rfl) : PA X (e :: es) (tCons te t) := by
  intro pos pins s σ H Q I h
  rw [hs]
  show wpAny _ _ (spliced ((false, eval e X.env) :: backTo pos (starEach es X.env))) _ _ s
  refine Calls.spliced_cons (thn (ha pins s σ H _ I h) fun u s1 ⟨x, H1, I1, r1, q1⟩ => ?_)
  exact thn (hr pos pins s1 σ H1 _ I1 q1) fun us s2 ⟨xs, H2, I2, r2, q2⟩ => ⟨x :: xs, H2, I2, .cons r1 r2, q2⟩
def tTup (t : TA) : TE := fun σ H Q => t σ H fun xs H1 => xs.length ≤ sizeLine ∧ ∀ p, H1 p = none → Q (.ref p) (upd H1 p (.tup xs))
def tLst (t : TA) : TE := fun σ H Q => t σ H fun xs H1 => xs.length ≤ sizeLine ∧ ∀ p, H1 p = none → Q (.ref p) (upd H1 p (.lst xs))
theorem pe_tup {x1} (h : PA X es t) : PE X (.Tuple es x1 pos) (tTup t) := by
  intro pins s σ H Q I hq
  refine wpAny_Tuple_spliced (thn (h pos pins s σ H _ I hq) fun us s1 ⟨xs, H1, I1, r, z, q⟩ => ⟨by rw [← r.length]; exact z, ?_⟩)
  have hf : H1 s1.heap.objs.size = none := I1.hok.fresh (Nat.le_refl _)
  refine ⟨.ref s1.heap.objs.size, upd H1 s1.heap.objs.size (.tup xs), I1.laid (t' := s1.toks) (fun b u e => Heap.get?_push_of_some _ e) (Nat.le_refl _) ?_, rfl, q _ hf⟩
  exact ⟨z, us, r, ⟨_, Heap.get?_push_size _ rfl, _, rfl⟩⟩
theorem pe_lst (h : PA X es t) : PE X (.List es pos) (tLst t) := by
  intro pins s σ H Q I hq
  refine wpAny_List_spliced (thn (h pos pins s σ H _ I hq) fun us s1 ⟨xs, H1, I1, r, z, q⟩ => ⟨by rw [← r.length]; exact z, ?_⟩)
  have hf : H1 s1.heap.objs.size = none := I1.hok.fresh (Nat.le_refl _)
  refine ⟨.ref s1.heap.objs.size, upd H1 s1.heap.objs.size (.lst xs), I1.laid (t' := s1.toks) (fun b u e => Heap.get?_push_of_some _ e) (Nat.le_refl _) ?_, rfl, q _ hf⟩
  exact ⟨z, us, 0, r, Heap.get?_push_size _ rfl⟩
end
abbrev Sp := List V → Hp → VK → XK → Prop
abbrev CXT := List Env → Hp → Shared → XK → Value → Shared → Prop
structure Env0 (P : Program) (w : World) (K : PySem.W.Frag) (mg : Str → Option Value) (base : Heap) (A : Around) (outer : List Env) (s : Shared) (H : Hp) : Prop where
  frames : A.frames = some outer
  mod : Mod K mg base
  bs : ∀ b o, base.get? b = some o → s.heap.get? b = some o ∧ H b = none
  bsz : base.objs.size ≤ s.heap.objs.size
  funs : s.heap.FunFrames base outer
  frf : ∀ b ∈ frs outer, H b = none
  hok : HOk P w H s.heap
  bare : AllBare s.gens
def CE (outer : List Env) (P : Program) (w : World) (H : Hp) (s : Shared) (Q : VK) (u : Value) (s' : Shared) : Prop :=
  ∃ v H', s'.os = s.os ∧ AllBare s'.gens ∧ Un (frs outer) [] H H' s.heap s'.heap ∧ HOk P w H' s'.heap ∧ RelV v u ∧ Q v H'
def CR (CX : CXT) (outer : List Env) (P : Program) (w : World) (H : Hp) (s : Shared) (Q : VK) (E : XK) (r : Result) (s' : Shared) : Prop :=
  match r with
  | .ok (.ret u) => CE outer P w H s Q u s'
  | .ok _ => False
  | .error e => CX outer H s E e s'
structure FnOk (P : Program) (w : World) (K : PySem.W.Frag) (mg : Str → Option Value) (base : Heap) (CX : CXT) (k : Nat) (f : Addr) (fd : FuncData) (ps : List Str) (sp : Sp) : Prop where
  len : ∀ vs H Q E, sp vs H Q E → vs.length = ps.length
  run : ∀ (A : Around) (outer : List Env) (s : Shared) (H : Hp) (args : Args) (us : List Value) (vs : List V) (Q : VK) (E : XK), Room k A → Env0 P w K mg base A outer s H → BindsTo s fd args (ps.zip us) → Vals vs us → sp vs H Q E →
    codeAny (model P w) A (.call (.ref f) args) (CR CX outer P w H s Q E) s
theorem FnOk.mono {P : Program} {w : World} {K : PySem.W.Frag} {mg : Str → Option Value} {base : Heap} {CX : CXT} {j k : Nat} {f : Addr} {fd : FuncData} {ps : List Str} {sp : Sp} (F : FnOk P w K mg base CX j f fd ps sp) (h : j ≤ k) :
    FnOk P w K mg base CX k f fd ps sp := ⟨F.len, fun A outer s H args us vs Q E hr => F.run A outer s H args us vs Q E (hr.mono h)⟩
theorem FnOk.imp {P : Program} {w : World} {K : PySem.W.Frag} {mg : Str → Option Value} {base : Heap} {CX : CXT} {k : Nat} {f : Addr} {fd : FuncData} {ps : List Str} {sp sp' : Sp} (F : FnOk P w K mg base CX k f fd ps sp)
    (h : ∀ vs H Q E, sp' vs H Q E → sp vs H Q E) : FnOk P w K mg base CX k f fd ps sp' :=
  ⟨fun vs H Q E q => F.len vs H Q E (h _ _ _ _ q), fun A outer s H args us vs Q E hr he hb hv hs => F.run A outer s H args us vs Q E hr he hb hv (h _ _ _ _ hs)⟩
theorem Env0.make {P : Program} {w : World} {K : PySem.W.Frag} {mg : Str → Option Value} {base : Heap} {A : Around} {outer : List Env} {s : Shared} {H : Hp} (e : Env0 P w K mg base A outer s H) (C : Addr) (us : List Value) (kw : List (Str × Value)) :
    Env0 P w K mg base (A.under (.builtin "type.__call__" ⟨.ref C :: us, kw⟩)) outer s H := ⟨by first | exact e.frames | (simpa [Around.under, Code.envs, Code.isFrame, pushEnvs] using e.frames), e.mod, e.bs, e.bsz, e.funs, e.frf, e.hok, e.bare⟩
section
variable {X : Cx} {pins : List (Addr × Obj)} {σ : St} {H : Hp} {s s' : Shared}
theorem Inv.env0 (I : Inv X pins σ H s) : Env0 X.prog X.w X.K X.mg X.base X.A X.stack s H :=
  ⟨I.ok.frames, I.ok.mod, I.bs, Nat.le_trans I.ok.bsz I.sz, I.stack, I.stkFree, I.hok, I.bare⟩
theorem Inv.after {Q : VK} {u : Value} (I : Inv X pins σ H s) (h : CE X.stack X.prog X.w H s Q u s') : EP X pins σ Q u s' := by
  obtain ⟨v, H', os, bare, un, hok, r, q⟩ := h
  obtain ⟨hh, g, d, t, os'⟩ := s'
  obtain rfl : os' = s.os := os
  exact ⟨v, H', I.call (h' := hh) (g' := g) (d' := d) (t' := t) (ch := []) un hok bare (fun b z => absurd z (by simp)), r, q⟩
end
def tCall (sp : Sp) (dvs : List V) (E : XK) (t : TA) : TE := fun σ H Q => t σ H fun vs H1 => sp (vs ++ dvs) H1 Q E
def tMeth (C : Addr) (m : Str) (sp : Sp) (dvs : List V) (E : XK) (ta : TE) (t : TA) : TE := fun σ H Q => ta σ H fun x H1 => ∃ a dx fs, x = .ref a ∧ H1 a = some (.ins C dx fs) ∧ fs.lookup m = none ∧
  t σ H1 fun vs H2 => sp (x :: (vs ++ dvs)) H2 Q E
def tMake (C : Addr) (sp : Sp) (dvs : List V) (E : XK) (t : TA) : TE := fun σ H Q => t σ H fun vs H1 => ∀ x dx, H1 x = none → H1 dx = none → dx ≠ x →
  sp (.ref x :: (vs ++ dvs)) (upd (upd H1 dx (.own x)) x (.ins C dx [])) (fun v H2 => v = .non ∧ Q (.ref x) H2) E
def Binds (K : PySem.W.Frag) (fd : FuncData) (ps : List Str) (ds : List Value) : Prop :=
  ∀ (s : Shared) (us : List Value), K.In s.heap → (us ++ ds).length = ps.length → BindsTo s fd ⟨us, []⟩ (ps.zip (us ++ ds))
theorem Binds.all {K : PySem.W.Frag} {fd : FuncData} {ps : List Str} (h : ∀ us : List Value, us.length = ps.length → bindArgs fd ⟨us, []⟩ = pure (ps.zip us)) : Binds K fd ps [] := fun s us _ hl => by
  rw [List.append_nil] at hl ⊢
  exact .of_eq (h us hl)
def Passes (CX : CXT) (X : Cx) (E : XK) : Prop := ∀ (pins : List (Addr × Obj)) (σ : St) (H : Hp) (s : Shared) (e : Value) (s' : Shared), Inv X pins σ H s → CX X.stack H s E e s' → X.xe e s'
section
variable {X : Cx} {CX : CXT} {k : Nat} {f C : Addr} {fd : FuncData} {ps : List Str} {sp : Sp} {dvs : List V} {ds : List Value} {E : XK} {x m : Str} {p pos apos : Pos} {e o : Expr} {es : List Expr} {ta : TE} {t : TA}
theorem run_fn {pins : List (Addr × Obj)} {σ : St} {H : Hp} {s : Shared} {Q : VK} {us : List Value} {vs : List V} (F : FnOk X.prog X.w X.K X.mg X.base CX k f fd ps sp) (hr : Room k X.A) (hb : Binds X.K fd ps ds) (hd : Vals dvs ds) (hx : Passes CX X E)
    (I : Inv X pins σ H s) (r : Vals vs us) (h : sp (vs ++ dvs) H Q E) : wpAny (model X.prog X.w) X.A (call (.ref f) us) (EP X pins σ Q) X.xe s := by
  have r2 : Vals (vs ++ dvs) (us ++ ds) := r.append hd
  have hl : (us ++ ds).length = ps.length := by rw [← r2.length]; exact F.len _ _ _ _ h
  refine wpAny_call (codeAny_mono (F.run X.A X.stack s H ⟨us, []⟩ (us ++ ds) (vs ++ dvs) Q E hr I.env0 (hb s us I.kIn hl) r2 h) fun r s' hq => ?_)
  cases r with
  | error e => exact hx pins σ H s e s' I hq
  | ok fl =>
    cases fl with
    | ret u => exact I.after hq
    | next => exact False.elim hq
    | brk => exact False.elim hq
    | cont => exact False.elim hq
theorem pe_call (F : FnOk X.prog X.w X.K X.mg X.base CX k f fd ps sp) (hr : Room k X.A) (hg : Gl X x) (hm : X.mg x = some (.ref f)) (hk : PySem.W.keepIn X.K (.ref f) = true) (hb : Binds X.K fd ps ds) (hd : Vals dvs ds) (hx : Passes CX X E)
    (ha : PA X (e :: es) t) (hdb : (x == ("__debug__" : Str)) = false := by decide) (he : starEach (e :: es) X.env = (false, eval e X.env) :: starEach es X.env := by rfl) (hpl : (backTo pos (starEach es X.env)).any (·.1) = false := by rfl) :
    PE X (.Call (.Name x p) (e :: es) [] pos) (tCall sp dvs E t) := by
  intro pins s σ H Q I h
  refine wpAny_Call_Name_kw (ld_glob I hg hm ?_ hdb)
  refine PySem.W.callWith_K (h₀ := X.base) I.ok.mod.kin hk (thn (ha pos pins s σ H _ I h) fun us s1 ⟨vs, H1, I1, r, q⟩ => ⟨I1.kIn, ?_⟩) he hpl
  exact run_fn F hr hb hd hx I1 r q
theorem pe_meth {pl : Sem Bool} (he : PE X o ta) (c : Cls X.K C) (hm : Meth X.K C m f) (F : FnOk X.prog X.w X.K X.mg X.base CX k f fd ps sp) (hr : Room k X.A) (hb : Binds X.K fd ps ds) (hd : Vals dvs ds) (hx : Passes CX X E) (ha : PA X (e :: es) t)
    (hst : starEach (e :: es) X.env = (false, eval e X.env) :: starEach es X.env := by rfl) (hpl : (backTo pos (starEach es X.env)).any (·.1) = false := by rfl)
    (ht : eval (.Call (.Attribute o m apos) (e :: es) [] pos) X.env = (do
      let ov ← eval o X.env
      standAt apos.atName
      let (f, first) ← holding [ov] (getMethod ov m pl)
      callWith pos f first (backTo pos (starEach (e :: es) X.env)) (backToKw pos (keywordEach [] X.env))) := by rfl) :
    PE X (.Call (.Attribute o m apos) (e :: es) [] pos) (tMeth C m sp dvs E ta t) := by
  intro pins s σ H Q I h
  refine PySem.W.methodCall_KW (pl := pl) (thn (he pins s σ H _ I h) fun u s1 ⟨x, H1, I1, rx, a, dx, fs, ex, ea, l, q⟩ => ?_) ht
  subst ex
  obtain rfl : u = Value.ref a := rx
  refine getmeth_ok I1 ea c hm l ?_
  refine PySem.W.callWith_K (first := [.ref a]) (h₀ := X.base) I.ok.mod.kin hm.kp (thn (ha pos pins s1 σ H1 _ I1 q) fun us s2 ⟨vs, H2, I2, r, q2⟩ => ⟨I2.kIn, ?_⟩) hst hpl
  exact run_fn (us := .ref a :: us) (vs := .ref a :: vs) F hr hb hd hx I2 (.cons rfl r) q2
theorem pe_meth0 {pl : Sem Bool} (he : PE X o ta) (c : Cls X.K C) (hm : Meth X.K C m f) (F : FnOk X.prog X.w X.K X.mg X.base CX k f fd ps sp) (hr : Room k X.A) (hb : Binds X.K fd ps ds) (hd : Vals dvs ds) (hx : Passes CX X E)
    (ht : eval (.Call (.Attribute o m apos) [] [] pos) X.env = (do
      let ov ← eval o X.env
      standAt apos.atName
      let (f, first) ← holding [ov] (getMethod ov m pl)
      callWith pos f first (backTo pos (starEach [] X.env)) (backToKw pos (keywordEach [] X.env))) := by rfl) :
    PE X (.Call (.Attribute o m apos) [] [] pos) (tMeth C m sp dvs E ta tNil) := by
  intro pins s σ H Q I h
  refine PySem.W.methodCall_KW (pl := pl) (thn (he pins s σ H _ I h) fun u s1 ⟨x, H1, I1, rx, a, dx, fs, ex, ea, l, q⟩ => ?_) ht
  subst ex
  obtain rfl : u = Value.ref a := rx
  refine getmeth_ok I1 ea c hm l ?_
  exact PySem.W.callWith_K0 (first := [.ref a]) I1.kIn hm.kp (run_fn (us := [.ref a]) (vs := [.ref a]) F hr hb hd hx I1 (.cons rfl .nil) q)
structure Mk (K : PySem.W.Frag) (C f : Addr) : Prop where
  makes : PySem.W.makesIn K C = true
  init : PySem.W.findIn K (.ref C) "__init__" = some (some (.ref f))
  fn : PySem.W.isFn K (.ref f) = true
  kp : PySem.W.keepIn K (.ref C) = true
theorem run_make {pins : List (Addr × Obj)} {σ : St} {H : Hp} {s : Shared} {Q : VK} {us : List Value} {vs : List V} (M : Mk X.K C f) (F : FnOk X.prog X.w X.K X.mg X.base CX k f fd ps sp) (hr : Room (k + 1) X.A) (hb : Binds X.K fd ps ds) (hd : Vals dvs ds)
    (hx : Passes CX X E) (I : Inv X pins σ H s) (r : Vals vs us)
    (h : ∀ x dx, H x = none → H dx = none → dx ≠ x → sp (.ref x :: (vs ++ dvs)) (upd (upd H dx (.own x)) x (.ins C dx [])) (fun v H2 => v = .non ∧ Q (.ref x) H2) E) :
    wpAny (model X.prog X.w) X.A (call (.ref C) us) (EP X pins σ Q) X.xe s := by
  have hq := h (s.heap.objs.size + 1) s.heap.objs.size (I.hok.fresh (Nat.le_succ _)) (I.hok.fresh (Nat.le_refl _)) (Nat.ne_of_lt (Nat.lt_succ_self _))
  have I2 := Inv.made (C := C) I
  have r2 : Vals (V.ref (s.heap.objs.size + 1) :: (vs ++ dvs)) (Value.ref (s.heap.objs.size + 1) :: (us ++ ds)) := .cons rfl (r.append hd)
  have hl : (Value.ref (s.heap.objs.size + 1) :: us ++ ds).length = ps.length := by
    have e := r2.length
    rw [F.len _ _ _ _ hq] at e
    exact e.symm
  refine wpAny_call (make_map (f := f) I.kIn M.makes M.init (beq_iff_eq.mp M.fn) (codeAny_mono (F.run _ X.stack _ _ ⟨Value.ref (s.heap.objs.size + 1) :: us, []⟩ (Value.ref (s.heap.objs.size + 1) :: (us ++ ds)) _ _ E (hr.make C us [])
    (I2.env0.make C us []) (hb _ (Value.ref (s.heap.objs.size + 1) :: us) I2.kIn hl) r2 hq) fun r s' hq' => ?_))
  cases r with
  | error e => exact hx pins σ _ _ e s' I2 hq'
  | ok fl =>
    cases fl with
    | ret u =>
      obtain ⟨v, H', I3, rv, ev, q3⟩ := I2.after hq'
      subst ev
      exact ⟨rv, ⟨V.ref (s.heap.objs.size + 1), H', I3, rfl, q3⟩⟩
    | next => exact False.elim hq'
    | brk => exact False.elim hq'
    | cont => exact False.elim hq'
theorem pe_make (M : Mk X.K C f) (F : FnOk X.prog X.w X.K X.mg X.base CX k f fd ps sp) (hr : Room (k + 1) X.A) (hg : Gl X x) (hm : X.mg x = some (.ref C)) (hb : Binds X.K fd ps ds) (hd : Vals dvs ds) (hx : Passes CX X E)
    (ha : PA X (e :: es) t) (hdb : (x == ("__debug__" : Str)) = false := by decide) (he : starEach (e :: es) X.env = (false, eval e X.env) :: starEach es X.env := by rfl) (hpl : (backTo pos (starEach es X.env)).any (·.1) = false := by rfl) :
    PE X (.Call (.Name x p) (e :: es) [] pos) (tMake C sp dvs E t) := by
  intro pins s σ H Q I h
  refine wpAny_Call_Name_kw (ld_glob I hg hm ?_ hdb)
  refine PySem.W.callWith_K (h₀ := X.base) I.ok.mod.kin M.kp (thn (ha pos pins s σ H _ I h) fun us s1 ⟨vs, H1, I1, r, q⟩ => ⟨I1.kIn, ?_⟩) he hpl
  exact run_make M F hr hb hd hx I1 r q
end
def PK (X : Cx) (kws : List Keyword) (t : TA) : Prop :=
  ∀ (pos : Pos) (pins : List (Addr × Obj)) (s : Shared) (σ : St) (H : Hp) (Q : List V → Hp → Prop), Inv X pins σ H s → t σ H Q → wpAny (model X.prog X.w) X.A (evalAll ((backToKw pos (keywordEach kws X.env)).map (·.2))) (AP X pins σ Q) X.xe s
section
variable {X : Cx} {CX : CXT} {k : Nat} {f C : Addr} {fd : FuncData} {ps ks : List Str} {sp : Sp} {E : XK} {x m : Str} {p pos apos kpos : Pos} {e o : Expr} {es : List Expr} {kws : List Keyword} {te ta : TE} {t tk : TA} {nm : Option Str}
theorem pk_nil : PK X [] tNil := fun _ _ _ _ H Q I h => wpAny_evalAll_nil ⟨[], H, I, .nil, h⟩
theorem pk_cons (ha : PE X e te) (hr : PK X kws t) : PK X (⟨nm, e, kpos⟩ :: kws) (tCons te t) := by
  intro pos pins s σ H Q I h
  show wpAny _ _ (evalAll ((do let v ← eval e X.env; standAt pos; pure v) :: (backToKw pos (keywordEach kws X.env)).map (·.2))) _ _ s
  refine wpAny_evalAll_cons (wpAny_bind (thn (ha pins s σ H _ I h) fun u s1 ⟨x, H1, I1, r1, q1⟩ => wpAny_bind (wpAny_standAt (wpAny_pure ?_))))
  exact thn (hr pos pins s1 σ H1 _ I1 q1) fun us s2 ⟨xs, H2, I2, r2, q2⟩ => ⟨x :: xs, H2, I2, .cons r1 r2, q2⟩
structure KBinds (K : PySem.W.Frag) (fd : FuncData) (ps ks : List Str) (g : List Value → List Value → List Value) (gV : List V → List V → List V) : Prop where
  to : ∀ (s : Shared) (us ws : List Value), K.In s.heap → (g us ws).length = ps.length → BindsTo s fd ⟨us, ks.zip ws⟩ (ps.zip (g us ws))
  rel : ∀ {vs : List V} {us : List Value} {zs : List V} {ws : List Value}, Vals vs us → Vals zs ws → Vals (gV vs zs) (g us ws)
variable {g : List Value → List Value → List Value} {gV : List V → List V → List V}
end
structure FnScope (N P : List Str) (sc : Scope) : Prop where
  kind : sc.kind = .function
  co : sc.isCoroutine = false
  gen : sc.isGenerator = false
  nd : N.Nodup
  pre : N.take P.length = P
  par : ∀ x ∈ P, sc.names.lookup x = some .local ∨ sc.names.lookup x = some .cell
  nofree : ∀ y ∈ sc.names, y.2 ≠ .free
theorem bindL_out {kindOf : Str → Option NameKind} {x : Str} : ∀ {binds : List (Str × Value)} {m : Str → Option Value}, (∀ v, (x, v) ∉ binds) → bindL kindOf binds m x = m x
  | [], _, _ => rfl
  | (n, v) :: r, m, h => by
    unfold bindL
    rw [bindL_out fun w hw => h w (List.mem_cons_of_mem _ hw)]
    split
    · have : x ≠ n := by rintro rfl; exact h v List.mem_cons_self
      simp [this]
    · rfl
theorem bindC_out {kindOf : Str → Option NameKind} {x : Str} : ∀ {binds : List (Str × Value)} {m : Str → Option Value}, (∀ v, (x, v) ∉ binds) → bindC kindOf binds m x = m x
  | [], _, _ => rfl
  | (n, v) :: r, m, h => by
    unfold bindC
    rw [bindC_out fun w hw => h w (List.mem_cons_of_mem _ hw)]
    split
    · rfl
    · have : x ≠ n := by rintro rfl; exact h v List.mem_cons_self
      simp [this]
theorem bindL_get {kindOf : Str → Option NameKind} {x : Str} {v : Value} : ∀ {P : List Str} {vs : List Value} {i : Nat} {m : Str → Option Value}, P.Nodup → P[i]? = some x → vs[i]? = some v → kindOf x = some .local →
    bindL kindOf (P.zip vs) m x = some v
  | [], _, _, _, _, h, _, _ => by simp at h
  | _ :: _, [], _, _, _, _, h, _ => by simp at h
  | p :: P, w :: vs, 0, m, nd, h1, h2, hk => by
    simp at h1 h2; subst h1; subst h2
    show bindL kindOf ((p, w) :: P.zip vs) m p = _
    unfold bindL
    rw [bindL_out fun v hv => (List.nodup_cons.mp nd).1 (List.of_mem_zip hv).1, if_pos hk]
    simp
  | p :: P, w :: vs, i + 1, m, nd, h1, h2, hk => by
    show bindL kindOf ((p, w) :: P.zip vs) m x = _
    unfold bindL
    exact bindL_get (i := i) (List.nodup_cons.mp nd).2 (by simpa using h1) (by simpa using h2) hk
theorem bindC_get {kindOf : Str → Option NameKind} {x : Str} {v : Value} : ∀ {P : List Str} {vs : List Value} {i : Nat} {m : Str → Option Value}, P.Nodup → P[i]? = some x → vs[i]? = some v → kindOf x ≠ some .local →
    bindC kindOf (P.zip vs) m x = some v
  | [], _, _, _, _, h, _, _ => by simp at h
  | _ :: _, [], _, _, _, _, h, _ => by simp at h
  | p :: P, w :: vs, 0, m, nd, h1, h2, hk => by
    simp at h1 h2; subst h1; subst h2
    show bindC kindOf ((p, w) :: P.zip vs) m p = _
    unfold bindC
    rw [bindC_out fun v hv => (List.nodup_cons.mp nd).1 (List.of_mem_zip hv).1, if_neg hk]
    simp
  | p :: P, w :: vs, i + 1, m, nd, h1, h2, hk => by
    show bindC kindOf ((p, w) :: P.zip vs) m x = _
    unfold bindC
    exact bindC_get (i := i) (List.nodup_cons.mp nd).2 (by simpa using h1) (by simpa using h2) hk
def start (N : List Str) (vs : List V) : St := vs.map some ++ List.replicate (N.length - vs.length) none
def cxOf (CX : CXT) (P : Program) (w : World) (K : PySem.W.Frag) (mg : Str → Option Value) (base : Heap) (N : List Str) (qual : Str) (scope : Scope) (f : Addr) (cd : Value) (A : Around) (outer : List Env) (s : Shared) (H : Hp) (E : XK) : Cx where
  prog := P
  w := w
  K := K
  mg := mg
  base := base
  A := A.deeper (envOfC qual scope s.heap.objs.size f cd)
  N := N
  s₀ := s
  H₀ := H
  env := envOfC qual scope s.heap.objs.size f cd
  outer := outer
  stack := envOfC qual scope s.heap.objs.size f cd :: outer
  ex := []
  calm := true
  fn := fun _ => true
  pn := []
  xe := fun e s' => wpAny (model P w) (A.deeper (envOfC qual scope s.heap.objs.size f cd)) (leaving (envOfC qual scope s.heap.objs.size f cd) e) (fun _ s'' => CX outer H s E e s'') (fun e' s'' => CX outer H s E e' s'') s'
theorem cell_has {sc : Scope} {n : Nat} {x : Str} (h : sc.names.lookup x = some .cell) : ∃ c, (cellsFrom n sc.names []).lookup x = some c := by
  have q := PySem.W.cellsFrom_some sc.names n [] (.inl h)
  exact Option.isSome_iff_exists.mp q
theorem inv_start {CX : CXT} {P : Program} {w : World} {K : PySem.W.Frag} {mg : Str → Option Value} {base : Heap} {N ps : List Str} {qual : Str} {scope : Scope} {f : Addr} {cd : Value} {A : Around} {outer : List Env} {s s1 : Shared} {H : Hp} {E : XK} {us : List Value} {vs : List V}
    (S : FnScope N ps scope) (hd : A.handled = none) (e0 : Env0 P w K mg base A outer s H) (hl : vs.length = ps.length) (r : Vals vs us)
    (x : InCallC s s.heap.objs.size (bindL (envOfC qual scope s.heap.objs.size f cd).kindOf (ps.zip us) fun _ => none) (cellsFrom (s.heap.objs.size + 1) scope.names []) (bindC (envOfC qual scope s.heap.objs.size f cd).kindOf (ps.zip us) fun _ => none) s1) :
    Inv (cxOf CX P w K mg base N qual scope f cd A outer s H E) [] (start N vs) H s1 := by
  have hpl : ps.length ≤ N.length := by have := congrArg List.length S.pre; rw [List.length_take] at this; omega
  obtain ⟨h1, tk, rfl, hk⟩ := x.done
  have noA : ∀ b : Addr, b ∉ (cxOf CX P w K mg base N qual scope f cd A outer s H E).ex := fun b z => absurd (show b ∈ ([] : List Addr) from z) (by simp)
  refine ⟨⟨e0.mod, S.kind, rfl, rfl, Nat.le_refl _, fun y z c h1 h2 => ?_, fun y hy => ?_, fun y c _ h => ?_, fun _ => hd, Around.frames_deeper e0.frames, .inr ⟨rfl, rfl⟩, fun b z => absurd z (noA b), e0.bs, e0.bsz, fun b _ _ => noA b, fun b z => absurd z (noA b), e0.funs, e0.frf⟩,
    rfl, e0.bare, Un.kept hk, ⟨_, x.toInCall.ns, fun i y v h1 h2 h3 => ?_⟩, fun y c h => ⟨_, x.cell y c h⟩, e0.hok.fresh (Nat.le_refl _), fun y c h => ?_, fun p hp => absurd (show p ∈ ([] : List (Addr × Obj)) from hp) (by simp), e0.hok.kept hk, ?_⟩
  · exact name_of_addr x.apart (PySem.mem_of_lookup h1) (PySem.mem_of_lookup h2)
  · have hy : scope.names.lookup y = some .cell ∨ scope.names.lookup y = some .free := hy
    rcases hy with hy | hy
    · exact cell_has hy
    · exact absurd rfl (S.nofree _ (PySem.mem_of_lookup hy))
  · exact Nat.le_of_lt (x.above y c (PySem.mem_of_lookup h))
  · have hi : i < vs.length := by
      unfold start at h2
      by_cases hi : i < vs.length
      · exact hi
      · rw [List.getElem?_append_right (by simpa using hi)] at h2
        rw [List.getElem?_replicate] at h2
        split at h2 <;> cases h2
    have ha : vs[i]? = some v := by
      unfold start at h2
      rw [List.getElem?_append_left (by simpa using hi), List.getElem?_map] at h2
      cases e : vs[i]? with
      | none => rw [e] at h2; cases h2
      | some a => rw [e] at h2; cases h2; rfl
    obtain ⟨u, hu, rv⟩ := r.get ha
    have hp : ps[i]? = some y := by
      rw [← S.pre, List.getElem?_take_of_lt (by omega)]; exact h1
    have ndP : ps.Nodup := by rw [← S.pre]; exact S.nd.sublist (List.take_sublist _ _)
    refine ⟨u, rv, ?_⟩
    rcases S.par y (List.mem_of_getElem? hp) with k | k
    · exact .inl ⟨k, bindL_get ndP hp hu k⟩
    · obtain ⟨c, e⟩ := cell_has (n := s.heap.objs.size + 1) k
      refine .inr ⟨.inl k, c, e, ?_⟩
      have q := x.cell y c e
      rw [bindC_get ndP hp hu (by show scope.names.lookup y ≠ _; rw [k]; decide)] at q
      exact q
  · exact e0.hok.fresh (Nat.le_of_lt (x.above y c (PySem.mem_of_lookup h)))
  · unfold start
    show _ = N.length
    rw [List.length_append, List.length_map, List.length_replicate]
    omega
theorem fn_of {CX : CXT} {P : Program} {w : World} {K : PySem.W.Frag} {mg : Str → Option Value} {base : Heap} {k : Nat} {f : Addr} {name qual : Str} {params : Arguments} {body : List Stmt} {scope : Scope} {dV kV doc pm cdv ct oc : Value} {an od : Option Addr}
    {osl : Array (Option Value)} {N ps : List Str} {sp : Sp} (lk : K.lookup f = some ⟨oc, od, .func (PySem.W.fnOf name qual params body scope dV kV doc pm an cdv ct), osl⟩) (hcd : PySem.W.codeIn K cdv qual = true) (S : FnScope N ps scope)
    (len : ∀ vs H Q E, sp vs H Q E → vs.length = ps.length)
    (hbody : ∀ (A : Around) (outer : List Env) (s : Shared) (H : Hp) (vs : List V) (Q : VK) (E : XK), Room k (A.deeper (envOfC qual scope s.heap.objs.size f cdv)) → sp vs H Q E →
      ∃ t, PSs (cxOf CX P w K mg base N qual scope f cdv A outer s H E) body t ∧ t { nx := fun _ H' => Q .non H', rt := Q } (start N vs) H) :
    FnOk P w K mg base CX (k + 1) f (PySem.W.fnOf name qual params body scope dV kV doc pm an cdv ct) ps sp := by
  refine ⟨len, fun A outer s H args us vs Q E hr e0 hb r hsp => ?_⟩
  have hl := len _ _ _ _ hsp
  have KX : K.In s.heap := e0.mod.kin.keeps fun b o e => (e0.bs b o e).1
  have lim : s.heap.NoLimit := e0.mod.nolimit.keeps fun b o e => (e0.bs b o e).1
  have hkind : ∀ y ∈ ps.zip us, scope.names.lookup y.1 = some .local ∨ (scope.names.lookup y.1 = some .cell ∧ ((cellsFrom (s.heap.objs.size + 1) scope.names []).lookup y.1).isSome = true) := fun ⟨n, v⟩ hy => by
    rcases S.par n (List.of_mem_zip hy).1 with q | q
    · exact .inl q
    · exact .inr ⟨q, PySem.W.cellsFrom_some _ _ _ (.inl q)⟩
  refine codeAny_call_function hr.depth (KX _ _ lk) rfl S.co S.gen rfl (PySem.W.codeRec_of KX hcd) (hb _ _ _ _ ?_)
  refine wpAny_newFunctionEnv_cells S.kind hkind fun env he s1 x => ?_
  subst he
  refine ⟨lim.keeps x.toInCall.keep, codeAny_func ?_⟩
  obtain ⟨t, ht, hq⟩ := hbody A outer s H vs Q E (hr.deeper _) hsp
  have I : Inv (cxOf CX P w K mg base N qual scope f cdv A outer s H E) [] (start N vs) H s1 := inv_start S hr.hd e0 hl r x
  refine wpAny_mono (ht [] s1 (start N vs) H _ I hq) (fun fl s' hs => ?_) fun e s' hs => hs
  have fin : ∀ {σ' : St} {H' : Hp} {v : V} {u : Value}, Inv (cxOf CX P w K mg base N qual scope f cdv A outer s H E) [] σ' H' s' → RelV v u → Q v H' → CE outer P w H s Q u s' :=
    fun {σ' H' v u} J rv q => ⟨v, H', J.os, J.bare, J.base, J.hok, rv, q⟩
  cases fl with
  | ret u =>
    obtain ⟨v, σ', H', J, rv, q⟩ := hs
    exact fin J rv q
  | next =>
    obtain ⟨σ', H', J, q⟩ := hs
    exact fin (v := V.non) (u := Value.none) J rfl q
  | brk =>
    obtain ⟨_, _, _, q⟩ := hs
    exact False.elim q
  | cont =>
    obtain ⟨_, _, _, q⟩ := hs
    exact False.elim q
end L2
namespace L2
open PySem PySem.Spec PyProof.Rows
section
variable {X : Cx} {x : Str} {p pos : Pos} {e : Expr} {es : List Expr} {t : TA} {id T : String} {r : List V → Hp → VK → Prop}
def tCB (r : List V → Hp → VK → Prop) (t : TA) : TE := fun σ H Q => t σ H fun vs H1 => r vs H1 Q
theorem pe_callB (hc : CallR X (.builtin id) r) (hg : Gl X x) (hm : X.mg x = none) (hv : bootBuiltins x = some (.builtin id)) (ha : PA X (e :: es) t) (hn : x ≠ "__name__" := by decide) (hdb : (x == ("__debug__" : Str)) = false := by decide)
    (he : starEach (e :: es) X.env = (false, eval e X.env) :: starEach es X.env := by rfl) (hpl : (backTo pos (starEach es X.env)).any (·.1) = false := by rfl) : PE X (.Call (.Name x p) (e :: es) [] pos) (tCB r t) := by
  intro pins s σ H Q I h
  refine wpAny_Call_Name_kw (ld_blt I hg hm hv ?_ hn hdb)
  exact PyProof.Rows.callWith_builtin1 (thn (ha pos pins s σ H _ I h) fun us s1 ⟨vs, H1, I1, r1, q1⟩ => hc pins s1 σ H1 vs us Q I1 r1 q1) he hpl
theorem pe_callTy (hc : CallR X (.type T) r) (hg : Gl X x) (hm : X.mg x = none) (hv : bootBuiltins x = some (.type T)) (ha : PA X (e :: es) t) (hn : x ≠ "__name__" := by decide) (hdb : (x == ("__debug__" : Str)) = false := by decide)
    (he : starEach (e :: es) X.env = (false, eval e X.env) :: starEach es X.env := by rfl) (hpl : (backTo pos (starEach es X.env)).any (·.1) = false := by rfl) : PE X (.Call (.Name x p) (e :: es) [] pos) (tCB r t) := by
  intro pins s σ H Q I h
  refine wpAny_Call_Name_kw (ld_blt I hg hm hv ?_ hn hdb)
  exact PyProof.Rows.callWith_type1 (thn (ha pos pins s σ H _ I h) fun us s1 ⟨vs, H1, I1, r1, q1⟩ => hc pins s1 σ H1 vs us Q I1 r1 q1) he hpl
end
end L2
namespace HT
open PySem PyProof.Rows
def lexLt : List Int → List Int → Bool
  | [], [] => false
  | [], _ :: _ => true
  | _ :: _, [] => false
  | x :: xs, y :: ys => if x = y then lexLt xs ys else decide (x < y)
theorem lexLt_cons (x y : Int) (xs ys : List Int) : lexLt (x :: xs) (y :: ys) = if x = y then lexLt xs ys else decide (x < y) := rfl
theorem lexLt_nil_nil : lexLt [] [] = false := rfl
theorem lexLt_nil_cons (y : Int) (ys : List Int) : lexLt [] (y :: ys) = true := rfl
theorem lexLt_cons_nil (x : Int) (xs : List Int) : lexLt (x :: xs) [] = false := rfl
theorem eqAt_int (A : Around) (s : Shared) (a : Int) (t : Tok) (c : Int) (u : Tok) : ∃ e, SeqAt.EqAt A s (.int a t) (.int c u) e ∧ (e = true ↔ a = c) :=
  ⟨(a == c), SeqAt.EqAt.int_int a t c u, by simp⟩
theorem rcLt_int (A : Around) (s : Shared) (a : Int) (t : Tok) (c : Int) (u : Tok) (prog : Program) (w : World) (E : Value → Shared → Prop) (Q : Value → Shared → Prop) (h : Q (.bool (decide (a < c))) s) :
    wpAny (model prog w) A (richCompare .Lt (.int a t) (.int c u)) Q E s :=
  (PyProof.Rows.lt_int h : wpAny (model prog w) A (compareOp .Lt (.int a t) (.int c u)) Q E s)
section
open PySem.SeqAt
open PySem.AutoSeq1 (wpAny_loadPart')
open PySem.MeetsSeq PySem.MeetsSeq2 PySem.MeetsSeq3
theorem tuple_lt_ints (l b : Addr) (items items2 : Array Value) (n n2 : Nat) (dd dd2 : Option Addr) (sl sl2 : Array (Option Value)) (ns ms : List Int) (hi : IntsAre items.toList ns) (hj : IntsAre items2.toList ms) :
    Meets (Builtin.«tuple.__lt__» ⟨[.ref l, .ref b], []⟩)
      (fun _ R s => s.heap.get? l = some { cls := .type "tuple", dict := dd, data := .seq items n, slots := sl } ∧ s.heap.get? b = some { cls := .type "tuple", dict := dd2, data := .seq items2 n2, slots := sl2 } ∧
        R (.ok (.ret (.bool (lexLt ns ms)))) s) :=
  .of_wp fun prog w A R s h => by
    obtain ⟨hp, g, d, tk, os⟩ := s; obtain ⟨hl, hb, h⟩ := h
    have f2 := AutoSeq1.sub_tuple_tuple
    have z1 : items.size = ns.length := by rw [← hi.length]; simp
    have z2 : items2.size = ms.length := by rw [← hj.length]; simp
    wp_walk using wpAny_loadPart' hl, wpAny_loadPart' hb, wpAny_forIn_list _ (fun rest b s' => b.1 = none ∧ s' = ⟨hp, g, d, tk, os⟩ ∧ ∃ (vs ws : List Value) (ns' ms' : List Int), rest = vs.zip ws ∧
      IntsAre vs ns' ∧ IntsAre ws ms' ∧ ns'.length + items2.size = ms'.length + items.size ∧ R (.ok (.ret (.bool (lexLt ns' ms')))) ⟨hp, g, d, tk, os⟩) _
    case turn =>
      rintro ⟨y, x⟩ rest b s' ⟨hb', rfl, vs, ws, ns', ms', hz, hvi, hwi, hlen, hR⟩
      cases hvi with
      | nil => rw [List.zip_nil_left] at hz; cases hz
      | cons a t hvi' =>
        cases hwi with
        | nil => rw [List.zip_nil_right] at hz; cases hz
        | cons c u hwi' =>
          rw [List.zip_cons_cons] at hz
          injection hz with hyx hrest
          injection hyx with hy hx
          subst hy hx
          rw [lexLt_cons] at hR
          simp only [List.length_cons] at hlen
          obtain ⟨e, he, hiff⟩ := eqAt_int A.in1 ⟨hp, g, d, tk, os⟩ a t c u
          refine wpAny_bind (he prog w _ _ ?_)
          cases e with
          | true =>
            rw [if_pos (hiff.mp rfl)] at hR
            wp_walk
            exact ⟨rfl, rfl, _, _, _, _, hrest, hvi', hwi', by omega, hR⟩
          | false =>
            rw [if_neg (fun q => absurd (hiff.mpr q) Bool.false_ne_true)] at hR
            have hri := rcLt_int A.in1 ⟨hp, g, d, tk, os⟩ a t c u prog w
            wp_walk using hri
            exact ⟨_, rfl, by simpa using hR⟩
    case fin =>
      rintro ⟨b1, b2⟩ s' ⟨hb', rfl, vs, ws, ns', ms', hz, hvi, hwi, hlen, hR⟩
      simp only at hb'
      subst hb'
      have hv : lexLt ns' ms' = decide (items.size < items2.size) := by
        cases hvi with
        | nil =>
          cases hwi with
          | nil =>
            simp only [List.length_nil] at hlen
            rw [lexLt_nil_nil]
            exact (decide_eq_false (by omega)).symm
          | cons c u hw =>
            simp only [List.length_nil, List.length_cons] at hlen
            rw [lexLt_nil_cons]
            exact (decide_eq_true (by omega)).symm
        | cons a t hv =>
          cases hwi with
          | nil =>
            simp only [List.length_nil, List.length_cons] at hlen
            rw [lexLt_cons_nil]
            exact (decide_eq_false (by omega)).symm
          | cons c u hw =>
            rw [List.zip_cons_cons] at hz
            cases hz
      rw [hv] at hR
      wp_walk
      exact ⟨_, rfl, by simpa [Builtin.Tuple.tupleCompareSizes] using hR⟩
    case h =>
      exact ⟨rfl, rfl, items.toList, items2.toList, ns, ms, rfl, hi, hj, by omega, h⟩
end
section
variable {prog : Program} {w : World} {A : Around} {E : Value → Shared → Prop} {s : Shared}
theorem lt_tupInts {l b : Addr} {items items2 : Array Value} {ns ms : List Int} {Q : Value → Shared → Prop} (hl : IsTup s.heap l items) (hb : IsTup s.heap b items2) (hi : IntsAre items.toList ns) (hj : IntsAre items2.toList ms)
    (hu : A.units < cLine) (h : Q (.bool (lexLt ns ms)) s) : wpAny (model prog w) A (compareOp .Lt (.ref l) (.ref b)) Q E s := by
  obtain ⟨⟨cls, dd, data, sl⟩, ho, hc, n, hd⟩ := id hl
  obtain ⟨⟨cls2, dd2, data2, sl2⟩, ho2, hc2, n2, hd2⟩ := id hb
  simp only at hc hd hc2 hd2
  subst hc hd hc2 hd2
  exact richCompare_meets_room (op := .Lt) ⟨_, ho, rfl⟩ ⟨_, ho2, rfl⟩ PySem.F.slot_tuple_lt PySem.F.entry_tuple_lt (PySem.F.args_tuple_lt_2 _ _) (tuple_lt_ints l b items items2 n n2 dd dd2 sl sl2 ns ms hi hj)
    ⟨ho, ho2, show Value.bool (lexLt ns ms) ≠ Value.notImplemented ∧ Q (.bool (lexLt ns ms)) s from ⟨(fun x => nomatch x), h⟩⟩ hu
theorem cat_tup {t b : Addr} {vs ws : List Value} {Q : Value → Shared → Prop} (ht : IsTup s.heap t vs.toArray) (hb : IsTup s.heap b ws.toArray) (hv : vs ≠ [])
    (h1 : ws = [] → Q (.ref t) s) (h2 : ws ≠ [] → Q (.ref s.heap.objs.size) { s with heap := s.heap.push { cls := .type "tuple", data := .seq (vs ++ ws).toArray } })
    (hsz : vs.length + ws.length ≤ sizeLine) : wpAny (model prog w) A (binaryOp .Add (.ref t) (.ref b)) Q E s := by
  obtain ⟨⟨cls, dd, data, sl⟩, ho, hc, n, hd⟩ := id ht
  obtain ⟨⟨cls2, dd2, data2, sl2⟩, ho2, hc2, n2, hd2⟩ := id hb
  simp only at hc hd hc2 hd2
  subst hc hd hc2 hd2
  have e : vs.toArray ++ ws.toArray = (vs ++ ws).toArray := by simp
  by_cases hw : ws = []
  · exact concat_meets ⟨_, ho, rfl⟩ ⟨_, ho2, rfl⟩ noFill_tuple_add seq_tuple_add PySem.F.slot_tuple_add PySem.F.entry_tuple_add (PySem.F.args_tuple_add_2 _ _)
      (tuple_addW1 t b vs.toArray ws.toArray n n2 dd dd2 sl sl2 (by simpa using hv) (by simp [hw])) ⟨ho, ho2, h1 hw⟩
  · refine concat_meets ⟨_, ho, rfl⟩ ⟨_, ho2, rfl⟩ noFill_tuple_add seq_tuple_add PySem.F.slot_tuple_add PySem.F.entry_tuple_add (PySem.F.args_tuple_add_2 _ _)
      (tuple_addW2 t b vs.toArray ws.toArray n n2 dd dd2 sl sl2 (by simpa using hv) (by simpa using hw) (by rw [List.size_toArray, List.size_toArray]; exact hsz)) ⟨ho, ho2, ?_⟩
    rw [e]
    exact h2 hw
def sIx (n d : Nat) : Option Int → Nat
  | none => d
  | some v => if v < 0 then (v + (n : Int)).toNat else min v.toNat n
theorem sIx_none (n d : Nat) : sIx n d none = d := rfl
theorem sIx_nat (n d k : Nat) : sIx n d (some (k : Int)) = min k n := by
  show (if (k : Int) < 0 then ((k : Int) + (n : Int)).toNat else min (k : Int).toNat n) = min k n
  rw [if_neg (by omega), Int.toNat_natCast]
theorem sIx_le (n d : Nat) (hd : d ≤ n) (o : Option Int) : sIx n d o ≤ n := by
  cases o with
  | none => exact hd
  | some v =>
    show (if v < 0 then (v + (n : Int)).toNat else min v.toNat n) ≤ n
    by_cases hv : v < 0
    · rw [if_pos hv]; omega
    · rw [if_neg hv]; exact Nat.min_le_right _ _
theorem clip_eq (v : Int) (n d : Nat) : (if v < 0 then max (v + (n : Int)) 0 else min v (n : Int)) = ((sIx n d (some v) : Nat) : Int) := by
  show (if v < 0 then max (v + (n : Int)) 0 else min v (n : Int)) = (((if v < 0 then (v + (n : Int)).toNat else min v.toNat n) : Nat) : Int)
  by_cases hv : v < 0
  · simp only [if_pos hv]; omega
  · simp only [if_neg hv]; omega
theorem adjust_gen (lo hi : Option Int) (n : Nat) : Builtin.Slice.sliceAdjust lo hi 1 (n : Int) = (((sIx n 0 lo : Nat) : Int), ((sIx n n hi : Nat) : Int)) := by
  have h1 : ¬ ((1 : Int) < 0) := by omega
  unfold Builtin.Slice.sliceAdjust
  simp only [h1, if_false]
  refine Prod.ext ?_ ?_
  · cases lo with
    | none => rfl
    | some v => exact clip_eq v n 0
  · cases hi with
    | none => rfl
    | some v => exact clip_eq v n n
theorem places_gen (i j : Nat) : Builtin.Slice.slicePlaces (i : Int) (j : Int) 1 = j - i := by
  unfold Builtin.Slice.slicePlaces
  have h1 : (1 : Int) > 0 := by omega
  simp only [h1, if_true, Int.ediv_one]
  split <;> omega
theorem slicePart_ {v : Value} {o : Option Int} {Q : Option Int → Shared → Prop} (p : IsPart v o) (h : Q o s) : wpAny (model prog w) A (Builtin.Slice.slicePartIndex v) Q E s := by
  cases p with
  | none => exact slicePart_none h
  | int i t => exact slicePart_int h
theorem sliceApplied_gen {sl : Addr} {vl vu : Value} {lo hi : Option Int} {n : Nat} {Q : Int × Int × Nat → Shared → Prop} (hs : s.heap.IsSliceOf sl vl vu .none) (pl : IsPart vl lo) (pu : IsPart vu hi)
    (h : Q (((sIx n 0 lo : Nat) : Int), 1, sIx n n hi - sIx n 0 lo) s) : wpAny (model prog w) A (Builtin.Slice.sliceApplied (.ref sl) (pure (n : Int))) Q E s := by
  obtain ⟨os, hos, hcs, hds⟩ := id hs
  unfold Builtin.Slice.sliceApplied Builtin.Slice.sliceFields
  refine wpAny_bind (wpAny_bind (wpAny_field hos hds (x := vl) rfl (wpAny_bind (wpAny_field hos hds (x := vu) rfl (wpAny_bind (wpAny_field hos hds (x := .none) rfl (wpAny_pure ?_)))))))
  refine wpAny_bind (slicePart_none ?_)
  show wpAny _ _ (if ((1 : Int) == 0) = true then _ else _) _ _ s
  rw [if_neg (by decide)]
  refine wpAny_bind (slicePart_ pl (wpAny_bind (slicePart_ pu (wpAny_bind (wpAny_pure ?_)))))
  show wpAny _ _ (match Builtin.Slice.sliceAdjust lo hi 1 (n : Int) with | (lo, hi) => pure (lo, (1 : Int), Builtin.Slice.slicePlaces lo hi 1)) _ _ s
  rw [adjust_gen lo hi n]
  show wpAny _ _ (pure (((sIx n 0 lo : Nat) : Int), (1 : Int), Builtin.Slice.slicePlaces ((sIx n 0 lo : Nat) : Int) ((sIx n n hi : Nat) : Int) 1)) _ _ s
  rw [places_gen]
  exact wpAny_pure h
theorem pick_gen (xs : Array Value) (i k : Nat) : ((List.range k).filterMap fun (m : Nat) => xs[((i : Int) + (m : Int) * 1).toNat]?).toArray = ((xs.toList.drop i).take k).toArray := by
  have e : (fun (m : Nat) => xs[((i : Int) + (m : Int) * 1).toNat]?) = fun m => xs[i + m]? := by
    funext m
    have : ((i : Int) + (m : Int) * 1).toNat = i + m := by omega
    rw [this]
  rw [e]
  have := pick_run xs i k
  rw [List.filterMap_map] at this
  have e2 : ((fun x => xs[x]?) ∘ fun x => i + x) = fun m => xs[i + m]? := rfl
  rw [e2] at this
  rw [this]
theorem getItem_tuple_cut {t sl : Addr} {items : Array Value} {vl vu : Value} {lo hi : Option Int} {Q : Value → Shared → Prop} (ht : IsTup s.heap t items) (hs : s.heap.IsSliceOf sl vl vu .none) (pl : IsPart vl lo) (pu : IsPart vu hi)
    (hw : ¬ (sIx items.size 0 lo = 0 ∧ sIx items.size items.size hi = items.size))
    (h : Q (.ref s.heap.objs.size) { s with heap := s.heap.push { cls := .type "tuple", data := .seq ((items.toList.drop (sIx items.size 0 lo)).take (sIx items.size items.size hi - sIx items.size 0 lo)).toArray } })
    (hsz : items.size ≤ sizeLine) : wpAny (model prog w) A (getItem (.ref t) (.ref sl)) Q E s := by
  have htake : sizeOk (.seq ((items.toList.drop (sIx items.size 0 lo)).take (sIx items.size items.size hi - sIx items.size 0 lo)).toArray) := by
    show ((items.toList.drop (sIx items.size 0 lo)).take (sIx items.size items.size hi - sIx items.size 0 lo)).toArray.size ≤ sizeLine
    rw [List.size_toArray, List.length_take, List.length_drop, Array.length_toList]
    omega
  have hj : sIx items.size items.size hi ≤ items.size := sIx_le _ _ (Nat.le_refl _) hi
  obtain ⟨os, hos, hcs, hds⟩ := id hs
  have hTs : s.TypeIs (.ref sl) "slice" := ⟨os, hos, hcs⟩
  unfold getItem
  try with_reducible refine wpAny_holding ?_
  first | refine wpAny_bind (wpAny_pure ?_) | skip
  refine wpAny_bind (wpAny_sequenceKey ht.typeIs (by decide) ?_)
  refine wpAny_bind (wpAny_callSpecial?_slot (name := Str.ofString "__getitem__") ht.typeIs PyProof.Rows.slot_tuple_getitem
    (wpAny_call_entry PyProof.Rows.slot_tuple_getitem ht.typeIs entry_tuple_getitem ?_ (args_tuple_getitem _ _)))
  show wpAny _ _ (Builtin.Tuple.tupleItemsOf (.ref t) >>= _) _ _ s
  refine wpAny_bind (tupleItemsOf_ ht ?_)
  refine wpAny_bind (wpAny_typeOf hTs ?_)
  rw [if_pos (by decide)]
  refine wpAny_bind (sliceApplied_gen hs pl pu ?_)
  have hno : ¬ ((((sIx items.size 0 lo : Nat) : Int) == 0 && (1 : Int) == 1 && (sIx items.size items.size hi - sIx items.size 0 lo) == items.size) = true) := by
    intro q
    rw [Bool.and_eq_true, Bool.and_eq_true] at q
    have q1 : ((sIx items.size 0 lo : Nat) : Int) = 0 := eq_of_beq q.1.1
    have q2 : sIx items.size items.size hi - sIx items.size 0 lo = items.size := eq_of_beq q.2
    exact hw ⟨by omega, by omega⟩
  show wpAny _ _ (if (((sIx items.size 0 lo : Nat) : Int) == 0 && (1 : Int) == 1 && (sIx items.size items.size hi - sIx items.size 0 lo) == items.size) = true then _ else _) _ _ s
  rw [if_neg hno, pick_gen]
  first
    | exact wpAny_bind (m := Builtin.Tuple.tupleExact _) (wpAny_newObj_type (wpAny_pure ⟨_, rfl, wpAny_pure h⟩) htake)
    | exact wpAny_bind (m := Builtin.Tuple.tupleExact _) (wpAny_newObj_type (wpAny_bind (wpAny_pure (wpAny_pure ⟨_, rfl, wpAny_pure h⟩))) htake)
    | exact wpAny_bind (wpAny_bind (m := Builtin.Tuple.tupleExact _) (wpAny_newObj_type (wpAny_pure (wpAny_pure ⟨_, rfl, wpAny_pure h⟩)) htake))
    | exact wpAny_bind (wpAny_bind (m := Builtin.Tuple.tupleExact _) (wpAny_newObj_type (wpAny_pure ⟨_, rfl, wpAny_pure h⟩) htake))
end
end HT
namespace L2
open PySem PySem.Spec PyProof.Rows
abbrev TO := St → Hp → (Option Int → Hp → Prop) → Prop
def PO (X : Cx) (e : Option Expr) (t : TO) : Prop :=
  ∀ (pins : List (Addr × Obj)) (s : Shared) (σ : St) (H : Hp) (Q : Option Int → Hp → Prop), Inv X pins σ H s → t σ H Q →
    wpAny (model X.prog X.w) X.A (evalPart e X.env) (fun u s' => ∃ o H', Inv X pins σ H' s' ∧ IsPart u o ∧ Q o H') X.xe s
def tNoPart : TO := fun _ H Q => Q none H
def tPart (t : TE) : TO := fun σ H Q => t σ H fun x H1 => ∃ i, x = .int i ∧ Q (some i) H1
theorem intsAre_of {ns : List Int} : ∀ {us : List Value}, Vals (ns.map V.int) us → IntsAre us ns := by
  induction ns with
  | nil => intro us r; rw [List.map_nil] at r; cases r; exact .nil
  | cons n ns ih =>
    intro us r
    rw [List.map_cons] at r
    cases r with
    | cons r1 r2 =>
      obtain ⟨t, e⟩ := r1
      subst e
      exact .cons n t (ih r2)
section
variable {X : Cx} {e : Expr} {te : TE} {lo hi : Option Expr} {tl th : TO} {pos p2 : Pos}
theorem po_none : PO X none tNoPart := by
  intro pins s σ H Q I h
  rw [evalPart_none]
  exact wpAny_pure ⟨none, H, I, .none, h⟩
theorem po_some (h : PE X e te) : PO X (some e) (tPart te) := by
  intro pins s σ H Q I hw
  rw [evalPart_some]
  refine thn (h pins s σ H _ I hw) fun u s1 ⟨x, H1, I1, r1, q1⟩ => ?_
  obtain ⟨i, rfl, q⟩ := q1
  obtain ⟨t, rfl⟩ := r1
  exact ⟨some i, H1, I1, .int i t, q⟩
def SlR (X : Cx) (r : V → Option Int → Option Int → Hp → VK → Prop) : Prop :=
  ∀ (pins : List (Addr × Obj)) (s : Shared) (σ : St) (H : Hp) (x : V) (v vl vu : Value) (lo hi : Option Int) (sl : Addr) (Q : VK), Inv X pins σ H s → RelV x v → s.heap.IsSliceOf sl vl vu .none → IsPart vl lo → IsPart vu hi → r x lo hi H Q →
    ∃ T id, typeLookup (.type T) "__getitem__" = pure (some (.builtin id)) ∧ s.TypeIs v T ∧ wpAny (model X.prog X.w) X.A (getItem v (.ref sl)) (EP X pins σ Q) X.xe s
def tSl (r : V → Option Int → Option Int → Hp → VK → Prop) (te : TE) (tl th : TO) : TE := fun σ H Q => te σ H fun x H1 => tl σ H1 fun l H2 => th σ H2 fun u H3 => r x l u H3 Q
theorem pe_slice {r : V → Option Int → Option Int → Hp → VK → Prop} (hr : SlR X r) (he : PE X e te) (hl : PO X lo tl) (hu : PO X hi th) : PE X (.Subscript e (.Slice lo hi none p2) pos) (tSl r te tl th) := by
  intro pins s σ H Q I h
  refine Subscript_ (thn (he pins s σ H _ I h) fun v s1 ⟨x, H1, I1, r1, q1⟩ => ?_)
  refine wpAny_Slice (thn (hl pins s1 σ H1 _ I1 q1) fun vl s2 ⟨l, H2, I2, pl, q2⟩ => thn (hu pins s2 σ H2 _ I2 q2) fun vu s3 ⟨u, H3, I3, pu, q3⟩ => ?_)
  rw [evalPart_none]
  refine wpAny_pure ?_
  have I4 : Inv X pins σ H3 { s3 with heap := s3.heap.push { cls := .type "slice", data := .fields #[vl, vu, .none] } } := I3.kept (t' := s3.toks) fun b ob q => Heap.get?_push_of_some _ q
  obtain ⟨T, id, hT, ht, hg⟩ := hr pins { s3 with heap := s3.heap.push { cls := .type "slice", data := .fields #[vl, vu, .none] } } σ H3 x v vl vu l u s3.heap.objs.size Q I4 r1 (Heap.IsSliceOf.new ..) pl pu q3
  show wpAny (model X.prog X.w) X.A (subscriptTail e (.Slice lo hi none p2) v (.ref s3.heap.objs.size)) (EP X pins σ Q) X.xe { s3 with heap := s3.heap.push { cls := .type "slice", data := .fields #[vl, vu, .none] } }
  exact tail_any (ops := [.ref s3.heap.objs.size, v]) ht hT hg (by with_unfolding_all rfl)
def cutV (xs : List V) (lo hi : Option Int) : List V := (xs.drop (HT.sIx xs.length 0 lo)).take (HT.sIx xs.length xs.length hi - HT.sIx xs.length 0 lo)
theorem cutV_length (xs : List V) (lo hi : Option Int) : (cutV xs lo hi).length ≤ xs.length := by
  unfold cutV
  rw [List.length_take, List.length_drop]
  omega
def rSlT (K : PySem.W.Frag) : V → Option Int → Option Int → Hp → VK → Prop := fun x lo hi H Q => ∃ a xs, x = .ref a ∧ SqT K H a xs ∧
  ¬ (HT.sIx xs.length 0 lo = 0 ∧ HT.sIx xs.length xs.length hi = xs.length) ∧ ∀ p, H p = none → Q (.ref p) (upd H p (.tup (cutV xs lo hi)))
theorem sl_tup : SlR X (rSlT X.K) := by
  intro pins s σ H x v vl vu lo hi sl Q I rx hs pl pu h
  obtain ⟨a, xs, rfl, hx, hw, q⟩ := h
  cases rx
  obtain ⟨its, r, ht, hz⟩ := I.tuple hx
  have hlen : its.toArray.size = xs.length := by rw [List.size_toArray]; exact r.length.symm
  refine ⟨"tuple", _, PyProof.Rows.slot_tuple_getitem.lookup, ht.typeIs, ?_⟩
  refine HT.getItem_tuple_cut ht hs pl pu (by rw [hlen]; exact hw) ?_ (by rw [hlen]; exact hz)
  rw [hlen]
  refine ⟨.ref s.heap.objs.size, _, I.laid (t' := s.toks) (o := .tup (cutV xs lo hi)) (fun b ob q => Heap.get?_push_of_some _ q) (Nat.le_refl _) ?_, rfl, q _ (I.hok.fresh (Nat.le_refl _))⟩
  exact ⟨Nat.le_trans (cutV_length xs lo hi) hz, _, (r.drop (HT.sIx xs.length 0 lo)).take (HT.sIx xs.length xs.length hi - HT.sIx xs.length 0 lo), IsTp.new _ _⟩
def rLtT (K : PySem.W.Frag) : R2 := fun x y H Q => ∃ a b ns ms, x = .ref a ∧ y = .ref b ∧ SqT K H a (ns.map V.int) ∧ SqT K H b (ms.map V.int) ∧ Q (.bl (HT.lexLt ns ms)) H
theorem op_ltT (hu : X.A.units < cLine) : OpR X (compareOp .Lt) (rLtT X.K) := by
  intro pins s σ H x y v u Q I rx ry h
  obtain ⟨a, b, ns, ms, rfl, rfl, ha, hb, q⟩ := h
  cases rx
  cases ry
  obtain ⟨its, r1, p1, _⟩ := I.tuple ha
  obtain ⟨its2, r2, p2, _⟩ := I.tuple hb
  have i1 : IntsAre its.toArray.toList ns := intsAre_of r1
  have i2 : IntsAre its2.toArray.toList ms := intsAre_of r2
  exact HT.lt_tupInts p1 p2 i1 i2 hu ⟨.bl (HT.lexLt ns ms), H, I, rfl, q⟩
def rCatT (K : PySem.W.Frag) : R2 := fun x y H Q => ∃ a b xs ys, x = .ref a ∧ y = .ref b ∧ SqT K H a xs ∧ SqT K H b ys ∧ xs ≠ [] ∧ xs.length + ys.length ≤ sizeLine ∧
  (ys = [] → Q (.ref a) H) ∧ (ys ≠ [] → ∀ p, H p = none → Q (.ref p) (upd H p (.tup (xs ++ ys))))
theorem Vals.nil_iff {xs : List V} {us : List Value} (r : Vals xs us) : us = [] ↔ xs = [] := by
  cases r with
  | nil => simp
  | cons _ _ => simp
theorem op_catT : OpR X (binaryOp .Add) (rCatT X.K) := by
  intro pins s σ H x y v u Q I rx ry h
  obtain ⟨a, b, xs, ys, rfl, rfl, ha, hb, hx, hz, q1, q2⟩ := h
  cases rx
  cases ry
  obtain ⟨its, r1, p1, _⟩ := I.tuple ha
  obtain ⟨its2, r2, p2, _⟩ := I.tuple hb
  refine HT.cat_tup p1 p2 (fun z => hx (r1.nil_iff.mp z)) (fun z => ⟨.ref a, H, I, rfl, q1 (r2.nil_iff.mp z)⟩) (fun z => ?_) (by rw [← r1.length, ← r2.length]; exact hz)
  refine ⟨.ref s.heap.objs.size, _, I.laid (t' := s.toks) (o := .tup (xs ++ ys)) (fun b ob q => Heap.get?_push_of_some _ q) (Nat.le_refl _) ?_, rfl, q2 (fun w => z (r2.nil_iff.mpr w)) _ (I.hok.fresh (Nat.le_refl _))⟩
  exact ⟨by rw [List.length_append]; exact hz, _, r1.append r2, IsTp.new _ _⟩
end
end L2
namespace L2
open PySem PySem.Spec PyProof.Rows
def ixN (n : Nat) (i : Int) : Option Nat := if 0 ≤ i then (if i < n then some i.toNat else none) else if -(n : Int) ≤ i then some (i + n).toNat else none
def atI {α : Type} (xs : List α) (i : Int) : Option α := (ixN xs.length i).bind fun j => xs[j]?
theorem ixN_seq {n : Nat} {i : Int} {j : Nat} (h : ixN n i = some j) : seqIndex? i n = some j ∧ j < n ∧ -(n : Int) ≤ i ∧ i < n := by
  unfold ixN at h
  by_cases h0 : 0 ≤ i
  · rw [if_pos h0] at h
    by_cases h1 : i < n
    · rw [if_pos h1] at h
      have e : i.toNat = j := Option.some.inj h
      exact ⟨by rw [seqIndex_of h0 h1, e], by omega, by omega, h1⟩
    · rw [if_neg h1] at h; cases h
  · rw [if_neg h0] at h
    by_cases h1 : -(n : Int) ≤ i
    · rw [if_pos h1] at h
      have e : (i + n).toNat = j := Option.some.inj h
      exact ⟨by rw [seqIndex_neg (by omega) h1, e], by omega, h1, by omega⟩
    · rw [if_neg h1] at h; cases h
theorem atI_get {α : Type} {xs : List α} {i : Int} {v : α} (h : atI xs i = some v) : ∃ j, seqIndex? i xs.length = some j ∧ xs[j]? = some v ∧ j < xs.length ∧ -(xs.length : Int) ≤ i ∧ i < xs.length := by
  unfold atI at h
  cases e : ixN xs.length i with
  | none => rw [e] at h; cases h
  | some j =>
    rw [e] at h
    obtain ⟨h1, h2, h3, h4⟩ := ixN_seq e
    exact ⟨j, h1, h, h2, h3, h4⟩
theorem atI_nat {α : Type} {xs : List α} {j : Nat} {v : α} (h : xs[j]? = some v) : atI xs (j : Int) = some v := by
  have hj : j < xs.length := (List.getElem?_eq_some_iff.mp h).1
  have e : ixN xs.length (j : Int) = some j := by
    unfold ixN
    rw [if_pos (by omega), if_pos (by omega)]; simp
  unfold atI; rw [e]; exact h
theorem atI_last {α : Type} (xs : List α) (v : α) : atI (xs ++ [v]) (-1) = some v := by
  have hl : (xs ++ [v]).length = xs.length + 1 := by simp
  have e : ixN (xs ++ [v]).length (-1) = some xs.length := by
    unfold ixN
    rw [hl, if_neg (by decide), if_pos (by omega)]
    congr 1
    omega
  unfold atI
  rw [e]
  show (xs ++ [v])[xs.length]? = some v
  simp
def PlainIx (b : Expr) : Prop := ∀ o i, subscripted b false o i = operate [o, i] (getItem o i)
def IxR (X : Cx) (r : R2) : Prop :=
  ∀ (value slice : Expr) (pins : List (Addr × Obj)) (s : Shared) (σ : St) (H : Hp) (x y : V) (v u : Value) (Q : VK), Inv X pins σ H s → RelV x v → RelV y u → r x y H Q →
    subscripted slice false v u = operate [v, u] (getItem v u) → wpAny (model X.prog X.w) X.A (subscriptTail value slice v u) (EP X pins σ Q) X.xe s
def MtR (X : Cx) (id : String) (r : V → List V → Hp → VK → Prop) : Prop :=
  ∀ (pins : List (Addr × Obj)) (s : Shared) (σ : St) (H : Hp) (x : V) (xs : List V) (v : Value) (us : List Value) (Q : VK), Inv X pins σ H s → RelV x v → Vals xs us → r x xs H Q →
    wpAny (model X.prog X.w) X.A (call (.builtin id) (v :: us)) (EP X pins σ Q) X.xe s
section
variable {X : Cx} {a b : Expr} {ta tb : TE} {pos : Pos}
theorem pe_ix {r : R2} (hr : IxR X r) (ha : PE X a ta) (hb : PE X b tb) (hs : PlainIx b) : PE X (.Subscript a b pos) (tOp r ta tb) := by
  intro pins s σ H Q I h
  exact Subscript_ (binT ha hb I h fun v u s2 x y H2 I2 rx ry q => hr a b pins s2 σ H2 x y v u Q I2 rx ry q (hs _ _))
def rIxL (K : PySem.W.Frag) : R2 := fun x y H Q => ∃ p xs i v, x = .ref p ∧ y = .int i ∧ SqL K H p xs ∧ atI xs i = some v ∧ Q v H
def rIxT (K : PySem.W.Frag) : R2 := fun x y H Q => ∃ p xs i v, x = .ref p ∧ y = .int i ∧ SqT K H p xs ∧ atI xs i = some v ∧ Q v H
def rIxS : R2 := fun x y H Q => ∃ z i c, x = .str z ∧ y = .int i ∧ z.length ≤ sizeLine ∧ atI z.cps.toList i = some c ∧ Q (.str ⟨#[c]⟩) H
theorem ix_list : IxR X (rIxL X.K) := by
  intro value slice pins s σ H x y v u Q I rx ry h hs
  obtain ⟨p, xs, i, z, rfl, rfl, hq, he, q⟩ := h
  cases rx
  obtain ⟨t, rfl⟩ := ry
  obtain ⟨its, r, pl, hz⟩ := I.list hq
  obtain ⟨j, h1, h2, h3, h4, h5⟩ := atI_get he
  obtain ⟨w, ew, rw'⟩ := r.get h2
  have hl := r.length
  have hn := line63
  have fin : EP X pins σ Q w s := ⟨z, H, I, rw', q⟩
  by_cases h0 : 0 ≤ i
  · have hj : i.toNat = j := by
      rw [seqIndex_of h0 h5] at h1
      exact Option.some.inj h1
    exact item_listR pl.isList h0 (by omega) (by rw [hj]; simpa using ew) fin hs
  · have hj : (i + (its.toArray.size : Int)).toNat = j := by
      rw [seqIndex_neg (by omega) h4] at h1
      rw [List.size_toArray, ← hl]
      exact Option.some.inj h1
    exact subscriptTail_builtinR (x := w) pl.isList.typeIs slot_list_getitem.lookup
      (wpAny_getItem_list_neg (Q := fun r s' => r = w ∧ EP X pins σ Q r s') pl.isList (by omega) (by rw [List.size_toArray] <;> omega) (by omega) (by rw [hj]; simpa using ew) ⟨rfl, fin⟩) hs
theorem ix_tup : IxR X (rIxT X.K) := by
  intro value slice pins s σ H x y v u Q I rx ry h hs
  obtain ⟨p, xs, i, z, rfl, rfl, hq, he, q⟩ := h
  cases rx
  obtain ⟨t, rfl⟩ := ry
  obtain ⟨its, r, pl, hz⟩ := I.tuple hq
  obtain ⟨j, h1, h2, h3, h4, h5⟩ := atI_get he
  obtain ⟨w, ew, rw'⟩ := r.get h2
  have hl := r.length
  have hn := line63
  have fin : EP X pins σ Q w s := ⟨z, H, I, rw', q⟩
  exact subscriptTail_builtinR (x := w) pl.typeIs slot_tuple_getitem.lookup
    (getItem_tuple (j := j) (Q := fun r s' => r = w ∧ EP X pins σ Q r s') pl (by omega) (by omega) (by rw [List.size_toArray, ← hl]; exact h1) (by simpa using ew) ⟨rfl, fin⟩) hs
def rIx (K : PySem.W.Frag) : R2 := fun x y H Q => rIxL K x y H Q ∨ rIxT K x y H Q ∨ rIxS x y H Q
theorem mapSeq_set (its : List Value) (n j : Nat) (u : Value) : Obj.mapSeq (·.setIfInBounds j u) { cls := .type "list", data := .seq its.toArray n } = { cls := .type "list", data := .seq (its.set j u).toArray n } := by
  simp [Obj.mapSeq]
theorem Inv.lst {pins : List (Addr × Obj)} {σ : St} {H : Hp} {s : Shared} {p : Addr} {xs : List V} (I : Inv X pins σ H s) (h : H p = some (.lst xs)) :
    ∃ (its : List Value) (n : Nat), Vals xs its ∧ s.heap.get? p = some { cls := .type "list", data := .seq its.toArray n } ∧ xs.length ≤ sizeLine := by
  obtain ⟨z, its, n, r, e⟩ := I.hok p _ h
  exact ⟨its, n, r, e, z⟩
theorem Inv.lstUpd {pins : List (Addr × Obj)} {σ : St} {H : Hp} {s : Shared} {p : Addr} {xs ys : List V} {its its' : List Value} {n n' : Nat} {f : Obj → Obj} (I : Inv X pins σ H s) (h : H p = some (.lst xs))
    (ho : s.heap.get? p = some { cls := .type "list", data := .seq its.toArray n }) (hf : f { cls := .type "list", data := .seq its.toArray n } = { cls := .type "list", data := .seq its'.toArray n' }) (r : Vals ys its') (hz : ys.length ≤ sizeLine) (t : Nat) :
    Inv X pins σ (upd H p (.lst ys)) { s with heap := s.heap.update p f, toks := t } := by
  have e : (s.heap.update p f).get? p = some { cls := .type "list", data := .seq its'.toArray n' } := by
    rw [Heap.get?_update_self f ho (by rw [hf] <;> rfl), hf]
  refine I.write (x := p) (e := p) (by rw [h]; trivial) (.inl rfl) (fun b u hb q => (Heap.get?_update_other _ _ (Ne.symm hb)).trans q) ⟨_, e⟩ ?_
  exact ⟨hz, its', n', r, e⟩
def rSetL : V → V → V → Hp → (Hp → Prop) → Prop := fun o i v H Q => ∃ p xs k j, o = .ref p ∧ i = .int k ∧ H p = some (.lst xs) ∧ ixN xs.length k = some j ∧ Q (upd H p (.lst (xs.set j v)))
theorem set_list : PSet X rSetL := by
  intro pins s σ H o i v ov iv u Q I ro ri rv h
  obtain ⟨p, xs, k, j, rfl, rfl, hp, hj, q⟩ := h
  cases ro
  obtain ⟨t, rfl⟩ := ri
  obtain ⟨its, n, r, ho, hz⟩ := I.lst hp
  obtain ⟨h1, h2, h3, h4⟩ := ixN_seq hj
  have hl := r.length
  have hn := line63
  have I' : Inv X pins σ (upd H p (.lst (xs.set j v))) { s with heap := s.heap.update p (Obj.mapSeq (·.setIfInBounds j u)) } :=
    I.lstUpd hp ho (mapSeq_set its n j u) (r.set rv j) (by rw [List.length_set]; exact hz) s.toks
  by_cases h0 : 0 ≤ k
  · have hk : k.toNat = j := by
      rw [seqIndex_of h0 h4] at h1
      exact Option.some.inj h1
    exact PySem.W.ki_setAt ho h0 (by omega) (by rw [List.size_toArray, ← hl]; exact h4) (by rw [hk]; exact ⟨_, I', q⟩)
  · have hk : (k + (its.toArray.size : Int)).toNat = j := by
      rw [seqIndex_neg (by omega) h3] at h1
      rw [List.size_toArray, ← hl]
      exact Option.some.inj h1
    exact PySem.W.ki_setBack ho (by omega) (by rw [List.size_toArray, ← hl]; exact h3) (by omega) (by rw [hk]; exact ⟨_, I', q⟩)
theorem slice_bounds (lo hi : Option Int) (n : Nat) : (sliceBounds lo hi none n).1 = ((HT.sIx n 0 lo : Nat) : Int) ∧ (sliceBounds lo hi none n).2.1 = ((HT.sIx n n hi : Nat) : Int) ∧ (sliceBounds lo hi none n).2.2 = 1 := by
  refine ⟨?_, ?_, rfl⟩
  · cases lo with
    | none => simp [sliceBounds, HT.sIx]
    | some i =>
      simp only [sliceBounds, HT.sIx, Option.getD_none, show (1 : Int) > 0 by decide, if_true]
      by_cases h : i < 0
      · simp only [h, if_true] <;> omega
      · simp only [h, if_false] <;> omega
  · cases hi with
    | none => simp [sliceBounds, HT.sIx]
    | some i =>
      simp only [sliceBounds, HT.sIx, Option.getD_none, show (1 : Int) > 0 by decide, if_true]
      by_cases h : i < 0
      · simp only [h, if_true] <;> omega
      · simp only [h, if_false] <;> omega
theorem slicePick_cut (its : List Value) (lo hi : Option Int) : slicePick its.toArray lo hi none = ((its.drop (HT.sIx its.length 0 lo)).take (HT.sIx its.length its.length hi - HT.sIx its.length 0 lo)).toArray := by
  obtain ⟨h1, h2, h3⟩ := slice_bounds lo hi its.toArray.size
  unfold slicePick
  rw [h1, h2, h3]
  simp only [sliceRange_one, pick_run, List.size_toArray] <;> rfl
def rSlL (K : PySem.W.Frag) : V → Option Int → Option Int → Hp → VK → Prop := fun x lo hi H Q => ∃ a xs, x = .ref a ∧ SqL K H a xs ∧ ∀ p, H p = none → Q (.ref p) (upd H p (.lst (cutV xs lo hi)))
theorem sl_list : SlR X (rSlL X.K) := by
  intro pins s σ H x v vl vu lo hi sl Q I rx hs pl pu h
  obtain ⟨a, xs, rfl, hx, q⟩ := h
  cases rx
  obtain ⟨its, r, ht, hz⟩ := I.list hx
  have hlen := r.length
  refine ⟨"list", _, slot_list_getitem.lookup, ht.isList.typeIs, ?_⟩
  refine wpAny_getItem_list_slice ht.isList hs pl pu .none (by simp) ?_ (by rw [List.size_toArray] <;> omega)
  rw [slicePick_cut, ← hlen]
  refine ⟨.ref s.heap.objs.size, _, I.laid (t' := s.toks) (o := .lst (cutV xs lo hi)) (fun b ob q => Heap.get?_push_of_some _ q) (Nat.le_refl _) ?_, rfl, q _ (I.hok.fresh (Nat.le_refl _))⟩
  exact ⟨Nat.le_trans (cutV_length xs lo hi) hz, _, 0, (r.drop (HT.sIx xs.length 0 lo)).take (HT.sIx xs.length xs.length hi - HT.sIx xs.length 0 lo), Heap.get?_push_size _ rfl⟩
def flatV : V → Bool
  | .non => true
  | .bl _ => true
  | .int _ => true
  | .str _ => true
  | _ => false
def eqV : V → V → Bool
  | .non, .non => true
  | .bl a, .bl b => a == b
  | .bl a, .int b => (if a then 1 else 0) == b
  | .int a, .bl b => a == (if b then 1 else 0)
  | .int a, .int b => a == b
  | .str a, .str b => a == b
  | _, _ => false
def eqU (x : V) (u : Value) : Bool := match u with
  | .none => eqV .non x
  | .bool b => eqV (.bl b) x
  | .int i _ => eqV (.int i) x
  | .str z _ => eqV (.str z) x
  | _ => false
def inV (x : V) (xs : List V) : Bool := xs.any fun y => eqV y x
def rIn (K : PySem.W.Frag) (neg : Bool) : R2 := fun x y H Q => ∃ p xs, y = .ref p ∧ (SqL K H p xs ∨ SqT K H p xs) ∧ flatV x = true ∧ xs.all flatV = true ∧ Q (.bl (if neg then !inV x xs else inV x xs)) H
theorem call_len_seq : CallR X (.builtin "len") (fun xs H Q => ∃ p ys, xs = [.ref p] ∧ (SqL X.K H p ys ∨ SqT X.K H p ys) ∧ Q (.int ys.length) H) := by
  intro pins s σ H xs us Q I r h
  obtain ⟨p, ys, rfl, hq, q⟩ := h
  obtain ⟨u, rfl, rx⟩ := vals1 r
  cases rx
  have hn := line63
  rcases hq with hq | hq
  · obtain ⟨its, r', pl, hz⟩ := I.list hq
    have hlen := r'.length
    exact Calls.call_len_list pl.isList (by simp only [List.size_toArray] <;> omega) ⟨.int ys.length, H, I.tok _, ⟨s.toks + 1, by rw [List.size_toArray, hlen]⟩, q⟩
  · obtain ⟨its, r', pl, hz⟩ := I.tuple hq
    have hlen := r'.length
    exact len_tuple pl (by simp only [List.size_toArray] <;> omega) ⟨.int ys.length, H, I.tok _, ⟨s.toks + 1, by rw [List.size_toArray, hlen]⟩, q⟩
theorem call_list_of : CallR X (.type "list") (fun xs H Q => ∃ p ys, xs = [.ref p] ∧ (SqL X.K H p ys ∨ SqT X.K H p ys) ∧ ∀ l, H l = none → Q (.ref l) (upd H l (.lst ys))) := by
  intro pins s σ H xs us Q I r h
  obtain ⟨p, ys, rfl, hq, q⟩ := h
  obtain ⟨u, rfl, rx⟩ := vals1 r
  cases rx
  have fin : ∀ (its : List Value), Vals ys its → ys.length ≤ sizeLine → ∀ (h' : Heap) (c' : Nat), (∀ b o', s.heap.get? b = some o' → h'.get? b = some o') →
      h'.get? s.heap.objs.size = some { cls := .type "list", dict := none, data := .seq its.toArray c', slots := #[] } → EP X pins σ Q (.ref s.heap.objs.size) { s with heap := h' } := fun its r' hz h' c' kp e =>
    ⟨.ref s.heap.objs.size, _, I.laid (t' := s.toks) kp (Nat.le_refl _) (show ObjOk X.prog X.w _ h' _ (.lst ys) from ⟨hz, its, c', r', e⟩), rfl, q _ (I.hok.fresh (Nat.le_refl _))⟩
  rcases hq with hq | hq
  · obtain ⟨its, r', pl, hz⟩ := I.list hq
    have hlen := r'.length
    obtain ⟨o, ho, hc, n, hd⟩ := pl.isList
    exact call_list_seq p (.inl rfl) ho hc hd (fun h' c' kp e => fin its r' hz h' c' kp e) (by simp only [List.size_toArray] <;> omega)
  · obtain ⟨its, r', pl, hz⟩ := I.tuple hq
    have hlen := r'.length
    obtain ⟨o, ho, hc, n, hd⟩ := pl
    exact call_list_seq p (.inr rfl) ho hc hd (fun h' c' kp e => fin its r' hz h' c' kp e) (by simp only [List.size_toArray] <;> omega)
theorem call_tuple_of : CallR X (.type "tuple") (fun xs H Q => ∃ p ys, xs = [.ref p] ∧ ((SqL X.K H p ys ∧ ∀ l, H l = none → Q (.ref l) (upd H l (.tup ys))) ∨ (SqT X.K H p ys ∧ Q (.ref p) H))) := by
  intro pins s σ H xs us Q I r h
  obtain ⟨p, ys, rfl, h⟩ := h
  obtain ⟨u, rfl, rx⟩ := vals1 r
  cases rx
  rcases h with ⟨hq, q⟩ | ⟨hq, q⟩
  · obtain ⟨its, r', pl, hz⟩ := I.list hq
    have hlen := r'.length
    refine call_tuple_list pl.isList (fun h' kp => ?_) (by simp only [List.size_toArray] <;> omega)
    have I1 : Inv X pins σ H { s with heap := h' } := I.kept (t' := s.toks) kp
    have I2 : Inv X pins σ (upd H h'.objs.size (.tup ys)) { s with heap := h'.push { cls := .type "tuple", data := .seq its.toArray } } :=
      I1.laid (t' := s.toks) (fun b o e => Heap.get?_push_of_some _ e) (Nat.le_refl _) (show ObjOk X.prog X.w _ _ _ (.tup ys) from ⟨hz, its, r', IsTp.new _ _⟩)
    exact ⟨.ref h'.objs.size, _, I2, rfl, q _ (I1.hok.fresh (Nat.le_refl _))⟩
  · obtain ⟨its, r', pl, hz⟩ := I.tuple hq
    exact call_tuple_same pl ⟨.ref p, H, I, rfl, q⟩
def tyV (K : PySem.W.Frag) (T : String) (x : V) (H : Hp) : Prop := match x with
  | .str _ => T = "str"
  | .int _ => T = "int"
  | .ref p => (T = "list" ∧ ∃ xs, SqL K H p xs) ∨ (T = "tuple" ∧ ∃ o, K.lookup p = some o ∧ o.cls = .type "tuple" ∧ o.dict = none) ∨
      (T = "dict" ∧ ((∃ kvs, H p = some (.dK kvs)) ∨ ∃ kvs, H p = some (.dT kvs))) ∨ (T = "set" ∧ ∃ S n, H p = some (.set S n))
  | _ => False
theorem tyV_is {pins : List (Addr × Obj)} {σ : St} {H : Hp} {s : Shared} {T : String} {x : V} {v : Value} (I : Inv X pins σ H s) (r : RelV x v) (ty : tyV X.K T x H) :
    s.TypeIs v T ∧ ∀ a, v = .ref a → ∃ ob, s.heap.get? a = some ob ∧ ob.dict = none := by
  cases x with
  | str z =>
    obtain ⟨t, rfl⟩ := r
    cases (show T = "str" from ty)
    exact ⟨typeIs_str s z t, fun _ e => nomatch e⟩
  | int i =>
    obtain ⟨t, rfl⟩ := r
    cases (show T = "int" from ty)
    exact ⟨typeIs_int s i t, fun _ e => nomatch e⟩
  | ref p =>
    cases r
    rcases ty with ⟨rfl, xs, hq⟩ | ⟨rfl, o, hk, hc, hd⟩ | ⟨rfl, hk⟩ | ⟨rfl, S, n, hk⟩
    · obtain ⟨its, _, pl, _⟩ := I.list hq
      refine ⟨pl.isList.typeIs, fun a e => ?_⟩
      cases e
      obtain ⟨o, n, e, c, hd, _⟩ := pl
      exact ⟨o, e, hd⟩
    · refine ⟨⟨o, I.kIn p o hk, hc⟩, fun a e => ?_⟩
      cases e
      exact ⟨o, I.kIn _ o hk, hd⟩
    · have z : ∃ o, s.heap.get? p = some o ∧ o.ExactDict := by
        rcases hk with ⟨kvs, hk⟩ | ⟨kvs, hk⟩
        · obtain ⟨_, _, _, _, o, _, _, e, ex, _⟩ := I.hok p _ hk
          exact ⟨o, e, ex⟩
        · obtain ⟨_, _, _, _, o, _, _, e, ex, _⟩ := I.hok p _ hk
          exact ⟨o, e, ex⟩
      obtain ⟨o, e, ex⟩ := z
      refine ⟨⟨o, e, ex.1⟩, fun a e2 => ?_⟩
      cases e2
      exact ⟨o, e, ex.2.1⟩
    · obtain ⟨o, _, _, _, e, ex, _⟩ := I.hok p _ hk
      refine ⟨⟨o, e, ex.1⟩, fun a e2 => ?_⟩
      cases e2
      exact ⟨o, e, ex.2.1⟩
  | _ => exact False.elim ty
def tBM (K : PySem.W.Frag) (T : String) (r : V → List V → Hp → VK → Prop) (to : TE) (t : TA) : TE := fun σ H Q => to σ H fun x H1 => tyV K T x H1 ∧ t σ H1 fun xs H2 => r x xs H2 Q
variable {o e : Expr} {es : List Expr} {to : TE} {t : TA} {name : Str} {apos cpos : Pos} {T id : String} {r : V → List V → Hp → VK → Prop}
theorem pe_bm (pa : PlainAttrs T) (slot : Slot T name id) (hty : typeOf (.builtin id) = pure (.type "method_descriptor")) (hm : MtR X id r) (ho : PE X o to) (ha : PA X (e :: es) t)
    (hbase : attributeBase o name X.env (eval o X.env) = eval o X.env := by rfl)
    (hfew : ((backTo cpos (starEach (e :: es) X.env)).all (fun x => !x.1) && (backToKw cpos (keywordEach [] X.env)).all (fun x => x.1.isSome)
      && decide ((e :: es).length + ([] : List Keyword).length + (if ([] : List Keyword).isEmpty then 0 else 1) < 30)) = true := by rfl)
    (hline : (apos.endLine == cpos.line) = true := by rfl) (hs : starEach (e :: es) X.env = (false, eval e X.env) :: starEach es X.env := by rfl) (hplain : (backTo cpos (starEach es X.env)).any (·.1) = false := by rfl) :
    PE X (.Call (.Attribute o name apos) (e :: es) [] cpos) (tBM X.K T r to t) := by
  intro pins s σ H Q I h
  refine wpAny_Call_method_late hbase hfew hline rfl (thn (ho pins s σ H _ I h) fun v s1 ⟨x, H1, I1, r1, ty, q1⟩ => ?_)
  obtain ⟨h1, h2⟩ := tyV_is I1 r1 ty
  refine ⟨T, id, pa, slot, hty, h1, h2, ?_⟩
  have hA := ha cpos pins s1 σ H1 _ I1 q1
  rw [hs] at hA ⊢
  refine Calls.callWith_builtin (by show (false || (backTo cpos (starEach es X.env)).any (·.1)) = false; rw [hplain] <;> rfl) (Calls.evalArgs_plain ?_)
  exact thn hA fun us s2 ⟨vs, H2, I2, r2, q2⟩ => hm pins s2 σ H2 x vs v us Q I2 r1 r2 q2
end
end L2
namespace L2
open PySem PySem.Spec PyProof.Rows
def MtM (X : Cx) (id : String) (r : V → List V → Hp → VK → Prop) : Prop :=
  ∀ (pins : List (Addr × Obj)) (s : Shared) (σ : St) (H : Hp) (x : V) (xs : List V) (v : Value) (us : List Value) (Q : VK), Inv X pins σ H s → RelV x v → Vals xs us → r x xs H Q →
    wpAny (model X.prog X.w) X.A (call (.builtin id) (v :: us)) (EP X pins σ Q) X.xe s
theorem Vals.one : ∀ {x : V} {us : List Value}, Vals [x] us → ∃ u, us = [u] ∧ RelV x u
  | _, _, .cons r .nil => ⟨_, rfl, r⟩
theorem Vals.two : ∀ {x y : V} {us : List Value}, Vals [x, y] us → ∃ u v, us = [u, v] ∧ RelV x u ∧ RelV y v
  | _, _, _, .cons r (.cons q .nil) => ⟨_, _, rfl, r, q⟩
theorem Vals.rep {xs : List V} {us : List Value} (h : Vals xs us) : ∀ k : Nat, Vals (List.replicate k xs).flatten (List.replicate k us).flatten
  | 0 => .nil
  | k + 1 => by
    rw [List.replicate_succ, List.replicate_succ, List.flatten_cons, List.flatten_cons]
    exact Vals.append h (Vals.rep h k)
theorem foldl_rep (its : List Value) : ∀ (k : Nat) (acc : List Value),
    List.foldl (fun x1 x2 => x1 ++ x2) acc.toArray (List.replicate k its.toArray) = (acc ++ (List.replicate k its).flatten).toArray
  | 0, acc => by simp
  | k + 1, acc => by
    have e : acc.toArray ++ its.toArray = (acc ++ its).toArray := by simp
    have e2 : (acc ++ its) ++ (List.replicate k its).flatten = acc ++ (List.replicate (k + 1) its).flatten := by
      rw [List.replicate_succ, List.flatten_cons, List.append_assoc]
    rw [← e2, ← foldl_rep its k (acc ++ its), ← e, List.replicate_succ, List.foldl_cons]
section
variable {X : Cx} {pins : List (Addr × Obj)} {σ : St} {H : Hp} {s : Shared} {l b : Addr} {xs ys zs : List V}
theorem Inv.lset {its its' : List Value} {n : Nat} {f : Array Value → Array Value} {t' : Nat} (I : Inv X pins σ H s) (hH : H l = some (.lst xs))
    (e : s.heap.get? l = some { cls := .type "list", data := .seq its.toArray n }) (hf : f its.toArray = its'.toArray) (hv : Vals ys its') (hz : ys.length ≤ sizeLine) :
    Inv X pins σ (upd H l (.lst ys)) { s with heap := s.heap.update l (Obj.mapSeq f), toks := t' } := by
  have q := PySem.IsL.update e f
  rw [hf] at q
  refine I.write (x := l) (e := l) (by rw [hH]; exact trivial) (.inl rfl) (fun b' u hb hu => (Heap.get?_update_other s.heap (Obj.mapSeq f) (Ne.symm hb)).trans hu) ⟨_, q⟩ ?_
  exact ⟨hz, its', _, hv, q⟩
theorem Inv.lnew {its : List Value} {t' : Nat} (I : Inv X pins σ H s) (hv : Vals ys its) (hz : ys.length ≤ sizeLine) :
    Inv X pins σ (upd H s.heap.objs.size (.lst ys)) { s with heap := s.heap.push { cls := .type "list", data := .seq its.toArray }, toks := t' } :=
  I.laid (fun _ _ q => Heap.get?_push_of_some _ q) (Nat.le_refl _) ⟨hz, its, 0, hv, Heap.get?_push_size _ rfl⟩
theorem Inv.fresh (I : Inv X pins σ H s) : H s.heap.objs.size = none := I.hok.fresh (Nat.le_refl _)
theorem Inv.lstM (I : Inv X pins σ H s) (hH : H l = some (.lst xs)) : xs.length ≤ sizeLine ∧ ∃ (its : List Value) (n : Nat), Vals xs its ∧ xs.length = its.length ∧ s.heap.get? l = some { cls := .type "list", data := .seq its.toArray n } := by
  obtain ⟨z, its, n, r, e⟩ := I.hok l _ hH
  exact ⟨z, its, n, r, r.length, e⟩
theorem notLongL {n : Nat} (h : n ≤ sizeLine) : Builtin.List.listTooLong n = false := by
  unfold Builtin.List.listTooLong
  exact decide_eq_false (by omega)
end
section
variable {X : Cx}
def rAppend : V → List V → Hp → VK → Prop := fun x vs H Q => ∃ l xs y, x = .ref l ∧ vs = [y] ∧ H l = some (.lst xs) ∧ xs.length < sizeLine ∧ Q .non (upd H l (.lst (xs ++ [y])))
theorem mt_append : MtM X "list.append" rAppend := by
  intro pins s σ H x vs v us Q I rx rv h
  obtain ⟨l, xs, y, rfl, rfl, hH, hz, q⟩ := h
  cases rx
  obtain ⟨u, rfl, ru⟩ := rv.one
  obtain ⟨z, its, n, r, hl, e⟩ := I.lstM hH
  refine call_meets F.slot_list_append ⟨_, e, rfl⟩ F.entry_list_append (F.args_list_append_2 _ _) (PySem.list_append l its.toArray n u (by rw [List.size_toArray]; omega)) ⟨e, ?_⟩
  refine ⟨.non, _, I.lset (its' := its ++ [u]) hH e (by simp) (r.append (.cons ru .nil)) ?_, rfl, q⟩
  rw [List.length_append, List.length_singleton]
  omega
def rExtend : V → List V → Hp → VK → Prop := fun x vs H Q => ∃ l b xs zs, x = .ref l ∧ vs = [.ref b] ∧ H l = some (.lst xs) ∧ H b = some (.lst zs) ∧ xs.length + zs.length ≤ sizeLine ∧ Q .non (upd H l (.lst (xs ++ zs)))
theorem mt_extend : MtM X "list.extend" rExtend := by
  intro pins s σ H x vs v us Q I rx rv h
  obtain ⟨l, b, xs, zs, rfl, rfl, hH, hB, hz, q⟩ := h
  cases rx
  obtain ⟨u, rfl, ru⟩ := rv.one
  cases ru
  obtain ⟨z, its, n, r, hl, e⟩ := I.lstM hH
  obtain ⟨z2, its2, n2, r2, hl2, e2⟩ := I.lstM hB
  have hsz : its.toArray.size + its2.toArray.size ≤ sizeLine := by rw [List.size_toArray, List.size_toArray]; omega
  have hlong : ¬ (!its.toArray.isEmpty && Builtin.List.listTooLong (its.toArray.size + its2.toArray.size)) = true := by
    rw [notLongL hsz, Bool.and_false]
    exact Bool.false_ne_true
  refine call_meets F.slot_list_extend ⟨_, e, rfl⟩ F.entry_list_extend (F.args_list_extend_2 _ _)
    (AutoSeq1.list_extend_list_list_0 l its.toArray n b its2.toArray n2 hlong (by rw [List.size_toArray]; omega) (by omega)) ⟨e, e2, ?_⟩
  refine ⟨.non, _, I.lset (its' := its ++ its2) hH e (by simp) (r.append r2) ?_, rfl, q⟩
  rw [List.length_append]
  omega
def rCat : R2 := fun x y H Q => ∃ l b xs zs, x = .ref l ∧ y = .ref b ∧ H l = some (.lst xs) ∧ H b = some (.lst zs) ∧ xs.length + zs.length ≤ sizeLine ∧ ∀ p, H p = none → Q (.ref p) (upd H p (.lst (xs ++ zs)))
theorem op_cat : OpR X (binaryOp .Add) rCat := by
  intro pins s σ H x y v u Q I rx ry h
  obtain ⟨l, b, xs, zs, rfl, rfl, hH, hB, hz, q⟩ := h
  cases rx
  cases ry
  obtain ⟨z, its, n, r, hl, e⟩ := I.lstM hH
  obtain ⟨z2, its2, n2, r2, hl2, e2⟩ := I.lstM hB
  refine PySem.P.add_list e e2 ?_ (by rw [List.size_toArray, List.size_toArray]; omega)
  have ea : its.toArray ++ its2.toArray = (its ++ its2).toArray := by simp
  rw [ea]
  exact ⟨.ref _, _, I.lnew (t' := s.toks) (r.append r2) (by rw [List.length_append]; omega), rfl, q _ I.fresh⟩
def rRep : R2 := fun x y H Q => ∃ l k xs, x = .ref l ∧ y = .int k ∧ H l = some (.lst xs) ∧ -(2 ^ 63) ≤ k ∧ k < 2 ^ 63 ∧ xs.length * k.toNat ≤ sizeLine ∧
  ∀ p, H p = none → Q (.ref p) (upd H p (.lst (List.replicate k.toNat xs).flatten))
theorem len_rep {α : Type} (xs : List α) (k : Nat) : (List.replicate k xs).flatten.length = k * xs.length := by
  induction k with
  | zero => simp
  | succ k ih => rw [List.replicate_succ, List.flatten_cons, List.length_append, ih, Nat.succ_mul, Nat.add_comm]
theorem op_rep : OpR X (binaryOp .Mult) rRep := by
  intro pins s σ H x y v u Q I rx ry h
  obtain ⟨l, k, xs, rfl, rfl, hH, h1, h2, hz, q⟩ := h
  cases rx
  obtain ⟨t, rfl⟩ := ry
  obtain ⟨z, its, n, r, hl, e⟩ := I.lstM hH
  have hlen : its.toArray.size * k.toNat ≤ sizeLine := by rw [List.size_toArray, ← hl]; exact hz
  have hcap : ¬ its.toArray.size * k.toNat > (2 ^ 63 - 1) / 8 := by
    have : (sizeLine : Nat) ≤ (2 ^ 63 - 1) / 8 := by decide
    omega
  have hfit : ¬ (!Builtin.List.listFitsIndex k) = true := by
    rw [fitsIndex_both h1 h2]
    exact Bool.false_ne_true
  have hlong : ¬ Builtin.List.listTooLong (its.toArray.size * k.toNat) = true := by
    rw [notLongL hlen]
    exact Bool.false_ne_true
  have hnew : List.foldl (fun x1 x2 => x1 ++ x2) #[] (List.replicate (if its.toArray.isEmpty = true then 0 else k.toNat) its.toArray) = (List.replicate k.toNat its).flatten.toArray := by
    have f0 : ∀ m : Nat, List.foldl (fun x1 x2 => x1 ++ x2) #[] (List.replicate m its.toArray) = (List.replicate m its).flatten.toArray := fun m => by
      have := foldl_rep its m []
      rw [List.nil_append] at this
      exact this
    rw [f0]
    cases its with
    | nil => simp
    | cons a r' => rw [if_neg (by simp)]
  refine wpAny_binaryOp_repeat_ref (T := "list") (U := "int") (by decide) ⟨_, e, rfl⟩ (fun s' => typeIs_int s' k t) noFill_list_mul F.fills_int_mul F.slot_int_rmul repeat_list F.slot_int_index.lookup
    (call_meets F.slot_int_rmul (typeIs_int s k t) F.entry_int_rmul (F.args_int_rmul_2 _ _) (int___rmul___int_list k t l its.toArray n)
      ⟨e, rfl, ⟨_, e, rfl⟩, call_meets F.slot_list_mul ⟨_, e, rfl⟩ F.entry_list_mul (F.args_list_mul_2 _ _) (AutoListH.list___mul___list_int_3 l its.toArray n k t hfit hcap hlong) ⟨e, ?_⟩⟩)
  rw [hnew]
  exact ⟨.ref _, _, I.lnew (t' := s.toks) (r.rep k.toNat) (by rw [len_rep, Nat.mul_comm]; exact hz), rfl, q _ I.fresh⟩
end
section
variable {prog : Program} {w : World} {A : Around} {E : Value → Shared → Prop} {s : Shared}
end
section
variable {X : Cx}
end
end L2
namespace Att
open PySem PySem.W PySem.Calls PyProof.Rows
theorem ints_of_wellAll {P : Params} {h : Heap} : ∀ (ns : List Int) (vs : List Value), WellAll P h vs (ns.map WData.int) → IntsAre vs ns := by
  intro ns
  induction ns with
  | nil =>
    intro vs w
    rw [List.map_nil] at w
    cases w
    exact .nil
  | cons n ns ih =>
    intro vs w
    rw [List.map_cons] at w
    cases w with
    | cons a b =>
      cases a
      exact .cons _ _ (ih _ b)
theorem script_of {l : OpenLaw} {n : Nat} (hn : l.most = some n) {P : Params} {h : Heap} {args : List WData} {vals : List Value}
    (hpre : l.row.toRowW.claim.pre args = true) (hwl : WellAll P h vals args) :
    ∃ a vs ns, vals = [Value.ref a] ∧ args = [WData.list (ns.map WData.int)] ∧ h.get? a = some { cls := .type "list", data := .seq vs.toArray } ∧ IntsAre vs ns ∧ ns.length ≤ n := by
  have hsh : WShape.hasAll [] args [.list .int] = true := (pre_splitW hpre).1
  have hc : l.pre.holds [] { args := args } = true := (pre_splitW hpre).2
  obtain ⟨d, r, rfl, h1, h2⟩ := hasAllW_cons hsh
  obtain rfl := hasAllW_nil h2
  obtain ⟨xs, rfl, h3⟩ := hasW_list h1
  obtain ⟨ns, rfl⟩ := items_int h3
  have hlen : ns.length ≤ n := by
    unfold OpenLaw.pre at hc
    have h4 : (WTm.not (.lt (.lit (.int (n : Int))) (.len (.arg 0)))).holds [] { args := [.list (ns.map .int)] } = true := by
      have h4 := (holds_andW hc).1
      rw [hn] at h4
      exact h4
    have h5 := condW_of h4 (w_not (w_lt w_lit (w_len_list (w_arg rfl))))
    rw [List.length_map] at h5
    refine Nat.le_of_not_lt fun q => ?_
    have q' : (n : Int) < ((ns.length : Nat) : Int) := by omega
    first
      | (rw [decide_eq_true q'] at h5; exact absurd h5 (by decide))
      | (simp at h5; omega)
  cases hwl with
  | cons w1 w2 =>
    cases w2
    cases w1 with
    | list ho hall => exact ⟨_, _, ns, rfl, rfl, ho, ints_of_wellAll ns _ hall, hlen⟩
theorem post_true (l : OpenLaw) (args : List WData) : l.row.toRowW.claim.post args (.bool true) args = true :=
  postW_of (r := l.row.toRowW) (X := (true == true))
    (show WShape.has [] (.bool true) .bool = true by first | rfl | decide | simp [WShape.has, WShape.arms, WShape.armsAll])
    (show (WTm.eq .res (.lit (.bool true))).value [] { args := args, res := some (.bool true), after := args } = some (.bool (true == true)) from w_eq_bool (w_res rfl) w_lit) rfl
theorem attach_call {l : OpenLaw} {n : Nat} {q : Program} {loose : List Str} {XP : (Str → Option Value) → Heap → Prop} {YP : World → Heap → Prop} {d : DefRec}
    (hn : l.most = some n) (hdf : d.params.defaults = [])
    (call : ∀ (w : World) (s₀ s₁ : Shared) (mg mb : Str → Option Value) (fa : Addr) (o : Obj) (pm cd doc : Value) (a : Addr) (vs : List Value) (ns : List Int),
      Ground q loose [] XP w s₀ mg mb s₁.heap → YP w s₁.heap →
      s₁.heap.get? fa = some o → o.data = .func (docDef d.name d.params d.body d.scope pm cd doc) → s₁.heap.CodeRec cd d.name → mg d.name = some (.ref fa) →
      s₁.heap.get? a = some { cls := .type "list", data := .seq vs.toArray } → IntsAre vs ns → ns.length ≤ n → s₁.gens = #[] →
      codeAny (model l.prog w) callerA (.call (.ref fa) ⟨[.ref a], []⟩) (fun r s' => r = .ok (.ret (.bool true)) ∧ OldK s₁.heap s'.heap ∧ s'.os = s₁.os ∧ AllBare s'.gens) s₁) :
    WalkO q loose XP YP l.row.toRowW d [] (fun f vs => PySem.call f vs) := by
  intro w s₀ s₁ mg mb G Y fa o pm cd doc dV kV ho hd hcd hD hmg hg args vals as hpre hlay hrd hwl hlo
  obtain rfl : dV = .none := Dflts.none hD hdf
  obtain rfl : kV = .none := Dflts.noKw hD
  obtain ⟨a, vs, ns, rfl, rfl, hobj, hints, hlen⟩ := script_of hn hpre hwl
  refine enter_call (codeAny_mono (call w s₀ s₁ mg mb fa o pm cd doc a vs ns G Y ho (fd_plain hd) hcd hmg hobj hints hlen hg) fun r s' hq => ?_)
  obtain ⟨rfl, h2, h3, h4⟩ := hq
  exact ⟨.inl ⟨.bool true, .bool true, [], rfl, fun _ => rfl, .bool true, post_true l _, fun _ => ⟨List.Pairwise.nil, fun _ hm => (nomatch hm)⟩⟩, h2, h3, h4⟩
section
variable {prog : Program} {w : World} {A : Around} {E : Value → Shared → Prop} {s : Shared} {K : Frag}
def ledger (h : Heap) (L d : Addr) : List (Addr × Obj) := (List.range h.objs.size).filterMap fun a => if a = L ∨ a = d then none else (h.get? a).map fun o => (a, o)
end
end Att
namespace L2
open PySem PySem.Spec PyProof.Rows
theorem vals_ints : ∀ {vs : List Value} {ns : List Int}, IntsAre vs ns → Vals (ns.map V.int) vs
  | _, _, .nil => .nil
  | _, _, .cons n t h => .cons ⟨t, rfl⟩ (vals_ints h)
def Only (H : Hp) : Prop := ∀ b, H b = none ∨ ∃ o xs, H b = some (.frz o (.lst xs))
end L2
namespace L2
open PySem PySem.Spec PyProof.Rows
abbrev KOf {K : PySem.W.Frag} {h : Heap} (_ : K.In h) : PySem.W.Frag := K
end L2
namespace L2
open PySem PySem.Spec PyProof.Rows
def inClass (s : Stmt) (j : Nat) : Stmt := match s with
  | .ClassDef _ _ _ body _ _ _ _ _ _ _ => body.getD j (.Pass ⟨0, 0, 0, 0⟩)
  | _ => .Pass ⟨0, 0, 0, 0⟩
def defArgs (s : Stmt) : Arguments := match s with
  | .FunctionDef _ a _ _ _ _ _ _ _ _ => a
  | _ => { posonlyargs := [], args := [], vararg := none, kwonlyargs := [], kw_defaults := [], kwarg := none, defaults := [] }
def defBody (s : Stmt) : List Stmt := match s with
  | .FunctionDef _ _ b _ _ _ _ _ _ _ => b
  | _ => []
def defScope (s : Stmt) : Scope := match s with
  | .FunctionDef _ _ _ _ _ _ sc _ _ _ => sc
  | _ => { kind := .function, names := [], isGenerator := false, isCoroutine := false }
abbrev CX0 : CXT := fun _ _ _ _ _ _ => False
abbrev E0 : XK := fun _ _ _ => False
theorem pass0 {X : Cx} : Passes CX0 X E0 := fun _ _ _ _ _ _ _ h => h.elim
structure Fun (K : PySem.W.Frag) (x qual : Str) (st : Stmt) (f : Addr) (fd : FuncData) : Prop where
  ex : ∃ (oc : Value) (od : Option Addr) (kV doc pm : Value) (an : Option Addr) (cdv ct : Value) (osl : Array (Option Value)),
    fd = PySem.W.fnOf x qual (defArgs st) (defBody st) (defScope st) .none kV doc pm an cdv ct ∧ K.lookup f = some ⟨oc, od, .func fd, osl⟩ ∧ PySem.W.codeIn K cdv qual = true
  kp : PySem.W.keepIn K (.ref f) = true
section
variable {P : Program} {w : World} {K : PySem.W.Frag} {mg : Str → Option Value} {base : Heap}
theorem Fun.ok {x qual : Str} {st : Stmt} {f : Addr} {fd : FuncData} {N ps : List Str} {k : Nat} {sp : Sp} (F : Fun K x qual st f fd) (S : FnScope N ps (defScope st)) (len : ∀ vs H Q E, sp vs H Q E → vs.length = ps.length)
    (hbody : ∀ (cdv : Value) (A : Around) (outer : List Env) (s : Shared) (H : Hp) (vs : List V) (Q : VK) (E : XK), Room k (A.deeper (envOfC qual (defScope st) s.heap.objs.size f cdv)) → sp vs H Q E →
      ∃ t, PSs (cxOf CX0 P w K mg base N qual (defScope st) f cdv A outer s H E).nox (defBody st) t ∧ t { nx := fun _ H' => Q .non H', rt := Q } (start N vs) H) : FnOk P w K mg base CX0 (k + 1) f fd ps sp := by
  obtain ⟨oc, od, kV, doc, pm, an, cdv, ct, osl, rfl, lk, hcd⟩ := F.ex
  refine fn_of lk hcd S len fun A outer s H vs Q E hr hsp => ?_
  obtain ⟨t, h, q⟩ := hbody cdv A outer s H vs Q E hr hsp
  exact ⟨t, h.nox, q⟩
theorem Fun.binds {x qual : Str} {st : Stmt} {f : Addr} {fd : FuncData} {ps : List Str} (F : Fun K x qual st f fd)
    (h : ∀ (kV doc pm : Value) (an : Option Addr) (cdv ct : Value) (us : List Value), us.length = ps.length → bindArgs (PySem.W.fnOf x qual (defArgs st) (defBody st) (defScope st) .none kV doc pm an cdv ct) ⟨us, []⟩ = pure (ps.zip us)) : Binds K fd ps [] := by
  obtain ⟨oc, od, kV, doc, pm, an, cdv, ct, osl, rfl, lk, hcd⟩ := F.ex
  exact .all (h kV doc pm an cdv ct)
theorem fun_mk {x qual : Str} {st : Stmt} {f : Addr} {oc : Value} {od an : Option Addr} {osl : Array (Option Value)} {kV doc pm cdv ct : Value} (l : K.lookup f = some ⟨oc, od, .func (PySem.W.fnOf x qual (defArgs st) (defBody st) (defScope st) .none kV doc pm an cdv ct), osl⟩)
    (c : PySem.W.codeIn K cdv qual = true) (k : PySem.W.keepIn K (.ref f) = true) : Fun K x qual st f (PySem.W.fnOf x qual (defArgs st) (defBody st) (defScope st) .none kV doc pm an cdv ct) := ⟨⟨oc, od, kV, doc, pm, an, cdv, ct, osl, rfl, l, c⟩, k⟩
end
theorem small1000 {n : Nat} (h : n ≤ 1000) : n < sizeLine := Nat.lt_of_le_of_lt h (by decide)
section
variable {X : Cx}
theorem pv (i : Nat) {x : Str} {pos : Pos} (hN : X.N[i]? = some x := by rfl) (hv : Vis X.env.scope x := by first | exact Or.inl rfl | exact Or.inr (Or.inl rfl) | exact Or.inr (Or.inr rfl)) (hd : (x == ("__debug__" : Str)) = false := by decide)
    (hcd : (x == ("__classdict__" : Str)) = false := by decide) : PE X (.Name x pos) (tVar i) := pe_var hN hv hd hcd
end
theorem iteF {A B : Prop} (h : B) : if false = true then A else B := by
  rw [if_neg Bool.false_ne_true]
  exact h
theorem iteT {A B : Prop} (h : A) : if true = true then A else B := by
  rw [if_pos rfl]
  exact h
theorem ite2 {c A B : Prop} [Decidable c] (h1 : c → A) (h2 : ¬ c → B) : if c then A else B := by
  by_cases h : c
  · rw [if_pos h]
    exact h1 h
  · rw [if_neg h]
    exact h2 h
def Same (H H' : Hp) : Prop := ∀ b o, H b = some o → H' b = some o
theorem Same.refl (H : Hp) : Same H H := fun _ _ h => h
theorem Same.trans {H H1 H2 : Hp} (a : Same H H1) (b : Same H1 H2) : Same H H2 := fun c o h => b c o (a c o h)
theorem Same.free {H H' : Hp} (e : Same H H') {l : Addr} (h : H' l = Option.none) : H l = Option.none := by
  cases q : H l with
  | none => rfl
  | some o =>
    rw [e l o q] at h
    cases h
theorem Same.seq {K : PySem.W.Frag} {H H' : Hp} {a : Addr} {xs : List V} (e : Same H H') (h : SqL K H a xs) : SqL K H' a xs := by
  rcases h with (h | ⟨o, h⟩) | h
  · exact .inl (.inl (e _ _ h))
  · exact .inl (.inr ⟨o, e _ _ h⟩)
  · exact .inr h
end L2
set_option Elab.async false
set_option linter.all false
set_option maxRecDepth 100000
namespace L2
open PySem PySem.Spec PyProof.Rows
section
variable {prog : Program} {w : World} {A : Around} {R : Result → Shared → Prop} {s : Shared}
abbrev testsOf (cs : List Expr) (en : Env) : Sem Bool :=
  forIn cs true fun c r => if r = true then do let ok ← isTrue c en (eval c en); pure (ForInStep.yield ok) else pure (ForInStep.yield r)
theorem comp_turns {elt tg iter : Expr} {cs : List Expr} {scope : Scope} {pos : Pos} {it acc : Value} {en : Env} {EE : Value → Shared → Prop} (hE : EE = notedBy (model prog w) A en fun e s' => R (.error e) s') (J : Nat → Shared → Prop)
    (turn : ∀ n s, J n s → wpAny (model prog w) A (pyNext it) (fun r s1 => match r with
      | none => R (.ok .next) s1
      | some v => wpAny (model prog w) A (letOwnedTupleGo tg it v) (fun _ sg => wpAny (model prog w) A (assign tg en v) (fun _ s2 => wpAny (model prog w) A (testsOf cs en) (fun ok s3 =>
          if ok = true then wpAny (model prog w) A (eval elt en) (fun y s4 => wpAny (model prog w) A (call (.builtin "list.append") [acc, y]) (fun _ s5 => ∃ m, m < n ∧ J m s5) EE s4) EE s3
          else ∃ m, m < n ∧ J m s3) EE s2) EE sg) EE s1) EE s)
    (n : Nat) (h : J n s) : codeAny (model prog w) A (.compLoop (.ListComp elt [⟨tg, iter, cs, 0⟩] scope pos) 0 it acc en) R s := by
  subst hE
  refine codeAny_loop rfl J (fun n s hJ => ?_) n h
  show wpAny _ A (Sem.onRaise (compTurn (.ListComp elt [⟨tg, iter, cs, 0⟩] scope pos) 0 it acc en) (fun x => do noteFrame x en; theTreesLotGoes x)) _ _ s
  refine wpAny_noted ?_
  rw [compTurn_list]
  refine wpAny_bind (wpAny_standAt (wpAny_bind (thn (turn n s hJ) fun r s1 q1 => ?_)))
  cases r with
  | none => exact wpAny_pure q1
  | some v =>
    refine wpAny_bind (thn q1 fun _ sg qg => wpAny_bind (thn qg fun _ s2 q2 => wpAny_bind (thn q2 fun ok s3 q3 => ?_)))
    cases ok with
    | false => exact wpAny_pure ⟨rfl, q3⟩
    | true => exact wpAny_bind (wpAny_bind (thn q3 fun y s4 q4 => wpAny_bind (thn q4 fun _ s5 q5 => wpAny_pure (wpAny_pure ⟨rfl, q5⟩))))
end
def PTs (X : Cx) (cs : List Expr) (t : TT) : Prop :=
  ∀ (pins : List (Addr × Obj)) (s : Shared) (σ : St) (H : Hp) (Q : Bool → Hp → Prop), Inv X pins σ H s → t σ H Q → wpAny (model X.prog X.w) X.A (testsOf cs X.env) (TP X pins σ Q) X.xe s
def tTrue : TT := fun _ H Q => Q true H
theorem pts_nil {X : Cx} : PTs X [] tTrue := fun _ _ _ H _ I h => wpAny_tests_nil ⟨H, I, h⟩
theorem pts_one {X : Cx} {c : Expr} {t : TT} (h : PT X c t) : PTs X [c] t := fun pins s σ H Q I q => wpAny_tests_one (h pins s σ H Q I q)
theorem closure_list {en : Env} : ∀ (names : List (Str × NameKind)) (acc : List (Str × Addr)), (∀ y, (y, NameKind.free) ∈ names → ∃ c, en.cells.lookup y = some c) →
    (∀ y c, acc.lookup y = some c → en.cells.lookup y = some c) →
    ∃ cl, (forIn (m := Sem) names acc fun p cs => if (p.2 == .free) = true then (do let a ← cellOf en p.1; pure (ForInStep.yield ((p.1, a) :: cs))) else pure (ForInStep.yield cs)) = pure cl ∧
      (∀ y c, cl.lookup y = some c → en.cells.lookup y = some c) ∧ (∀ y, ((y, NameKind.free) ∈ names ∨ ∃ c, acc.lookup y = some c) → ∃ c, cl.lookup y = some c)
  | [], acc, _, h2 => ⟨acc, rfl, h2, fun y h => h.elim (fun z => by simp at z) id⟩
  | (n, k) :: r, acc, h1, h2 => by
    by_cases hk : k = .free
    · subst hk
      obtain ⟨c, hc⟩ := h1 n (by simp)
      obtain ⟨cl, e, a, b⟩ := closure_list r ((n, c) :: acc) (fun y hy => h1 y (List.mem_cons_of_mem _ hy)) (fun y d hd => by
        rw [List.lookup_cons] at hd
        by_cases hy : y = n
        · subst hy; simp at hd; subst hd; exact hc
        · have : (y == n) = false := by simpa using hy
          rw [this] at hd; exact h2 y d hd)
      refine ⟨cl, ?_, a, fun y hy => b y ?_⟩
      · rw [List.forIn_cons]
        have e1 : cellOf en n = pure c := by unfold cellOf; rw [hc]
        simp only [beq_self_eq_true, if_true, e1, pure_bind]
        exact e
      · rcases hy with hy | ⟨d, hd⟩
        · rcases List.mem_cons.mp hy with z | z
          · cases z; exact .inr ⟨c, by simp⟩
          · exact .inl z
        · by_cases hy : y = n
          · subst hy; exact .inr ⟨c, by simp⟩
          · have : (y == n) = false := by simpa using hy
            exact .inr ⟨d, by rw [List.lookup_cons, this]; exact hd⟩
    · have hb : (k == NameKind.free) = false := by simpa using hk
      obtain ⟨cl, e, a, b⟩ := closure_list r acc (fun y hy => h1 y (List.mem_cons_of_mem _ hy)) h2
      refine ⟨cl, ?_, a, fun y hy => b y ?_⟩
      · rw [List.forIn_cons]
        simp only [hb, Bool.false_eq_true, if_false, pure_bind]
        exact e
      · rcases hy with hy | hy
        · rcases List.mem_cons.mp hy with z | z
          · cases z; exact absurd rfl hk
          · exact .inl z
        · exact .inr hy
theorem closure_of {scope : Scope} {en : Env} (h1 : ∀ y, (y, NameKind.free) ∈ scope.names → ∃ c, en.cells.lookup y = some c) :
    ∃ cl, closureFor scope en = pure cl ∧ (∀ y c, cl.lookup y = some c → en.cells.lookup y = some c) ∧ (∀ y, (y, NameKind.free) ∈ scope.names → ∃ c, cl.lookup y = some c) := by
  obtain ⟨cl, e, a, b⟩ := closure_list (en := en) scope.names [] h1 (fun y c h => by simp at h)
  refine ⟨cl, ?_, a, fun y hy => b y (.inl hy)⟩
  have q := congrArg (fun t : Sem (List (Str × Addr)) => t >>= fun c => pure c) e
  exact q
end L2
set_option Elab.async false
set_option linter.all false
set_option maxRecDepth 100000
namespace L2
open PySem PySem.Spec PyProof.Rows
def xeC (X : Cx) (en : Env) (C : Addr) : Value → Shared → Prop :=
  notedBy (model X.prog X.w) X.A en fun e s' => compPost (model X.prog X.w) X.A X.xe none (fun _ _ => False) Value.none C (.error e) s'
def cxC (X : Cx) (scope : Scope) (cl : List (Str × Addr)) (C : Addr) (s0 : Shared) (H0 : Hp) (fp : List Addr) (N : List Str) : Cx where
  prog := X.prog
  w := X.w
  K := X.K
  mg := X.mg
  base := X.base
  A := X.A
  N := N
  s₀ := s0
  H₀ := H0
  env := compEnvC scope cl C X.env
  outer := X.stack
  stack := X.stack
  ex := fp
  fn := fun _ => false
  calm := X.calm
  pn := []
  xe := xeC X (compEnvC scope cl C X.env) C
structure CompScope (scope : Scope) (en : Env) (N M : List Str) : Prop where
  kind : scope.kind = .function
  nocell : ∀ y ∈ scope.names, y.2 ≠ .cell
  locs : ∀ y ∈ scope.names, y.2 = .local → scope.names.lookup y.1 = some .local
  free : ∀ y, (y, NameKind.free) ∈ scope.names → en.kindOf y = some .cell ∨ en.kindOf y = some .free
  len : M.length = N.length
  same : ∀ (j : Nat) (y : Str), M[j]? = some y → Vis (relabel scope en) y → N[j]? = some y ∧ (y, NameKind.free) ∈ scope.names ∧ (relabel scope en).names.lookup y ≠ some .local
  relab : ∀ y, ((relabel scope en).names.lookup y = some .cell ∨ (relabel scope en).names.lookup y = some .free) → (y, NameKind.free) ∈ scope.names
def tComp (k : Nat) (wi : TI) (g : TG) (tc : TT) (te : TE) : TE := fun σ H Q => wi σ H fun J H1 => ∀ d, H1 d = none → ∃ W : Nat → Nat → Hp → Prop, (∃ m, W 0 m (upd H1 d (.lst []))) ∧ ∀ i m H, W i m H →
  (J.stop i H ∧ Q (.ref d) H) ∨ (J.go i H ∧ ∃ N : Hp → Prop, (∀ H', N H' → ∃ m', m' < m ∧ W (i + 1) m' H') ∧ ∀ x H', J.yld i H x H' → g x (List.replicate k none ++ σ) H' fun σ2 H2 =>
    tc σ2 H2 fun b H3 => if b = true then te σ2 H3 fun y H4 => ∃ ys, H4 d = some (.lst ys) ∧ ys.length < sizeLine ∧ N (upd H4 d (.lst (ys ++ [y]))) else N H3)
structure Gone (X : Cx) (pins : List (Addr × Obj)) (H : Hp) (C : Addr) : Prop where
  no : H C = none
  ne : C ≠ X.env.locals
  yg : X.s₀.heap.objs.size ≤ C
  cl : ∀ x c, X.env.cells.lookup x = some c → c ≠ C
  pn : ∀ p ∈ X.pn ++ pins, p.1 ≠ C
theorem Inv.gone {X : Cx} {pins : List (Addr × Obj)} {σ : St} {H : Hp} {s : Shared} {C : Addr} {h' : Heap} (I : Inv X pins σ H s) (g : Gone X pins H C) (hs : Heap.SameBut C s.heap h') : Inv X pins σ H { s with heap := h' } :=
  I.turned (t' := s.toks) (it := C) (fun b o hb e => hs.extBut b o hb e) g.no g.ne (.inr g.yg) g.cl g.pn
structure Back (X Y : Cx) (pins : List (Addr × Obj)) (σ : St) (fp : List Addr) (C : Addr) (s3 : Shared) (H3 : Hp) : Prop where
  i0 : Inv X pins σ H3 s3
  fp : ∀ b ∈ fp, (b ∈ X.ex ∨ X.s₀.heap.objs.size ≤ b) ∧ b ≠ X.env.locals ∧ (∀ x c, X.env.cells.lookup x = some c → c ≠ b) ∧ ∀ p ∈ X.pn ++ pins, p.1 ≠ b
  inv : ∀ (pins' : List (Addr × Obj)) (σ' : St) (H' : Hp) (s' : Shared), Inv Y pins' σ' H' s' → Inv X pins σ H' s' ∧ Gone X pins H' C
theorem comp_run {X : Cx} {elt tg iter : Expr} {cs : List Expr} {scope : Scope} {pos : Pos} {wi : TI} {g : TG} {tc : TT} {te : TE} {xs M : List Str} {use : Option (Value → Sem Unit)} {RR : Value → Shared → Prop} (hc : X.calm = true) (S : CompScope scope X.env X.N M) (hi : PI X tg iter wi)
    (hin : ∀ (cl : List (Str × Addr)) (C : Addr) (s0 : Shared) (H0 : Hp) (fp : List Addr) (pins : List (Addr × Obj)) (σ : St), Back X (cxC X scope cl C s0 H0 fp (xs ++ M)) pins σ fp C s0 H0 → PG (cxC X scope cl C s0 H0 fp (xs ++ M)) tg g ∧ PTs (cxC X scope cl C s0 H0 fp (xs ++ M)) cs tc ∧ PE (cxC X scope cl C s0 H0 fp (xs ++ M)) elt te)
    (hg : ∀ v σ H Q, g v (List.replicate xs.length none ++ σ) H Q → g v (List.replicate xs.length none ++ σ) H fun σ2 H2 => (∃ l : St, l.length = xs.length ∧ σ2 = l ++ σ) ∧ Q σ2 H2)
    (hs : ∀ x, foldedSetIterable iter X.env x = pure x) (pins : List (Addr × Obj)) (s : Shared) (σ : St) (H : Hp) (Q : VK) (I : Inv X pins σ H s) (h : tComp xs.length wi g tc te σ H Q)
    (fin : ∀ (d C : Addr) (s6 : Shared) (H6 : Hp) (m : Str → Option Value), Q (.ref d) H6 → Inv X pins σ H6 s6 → s6.heap.Ns C m → Gone X pins H6 C → compPost (model X.prog X.w) X.A X.xe use RR (.ref d) C (.ok .next) s6) :
    wpAny (model X.prog X.w) X.A (comprehension (.ListComp elt [⟨tg, iter, cs, 0⟩] scope pos) scope X.env (firstIterPos [⟨tg, iter, cs, 0⟩] pos) (newList []) false (eval iter X.env) use) RR X.xe s := by
  obtain ⟨cl, hcl, cl1, cl2⟩ := closure_of (scope := scope) (en := X.env) fun y hy => I.ok.has y (S.free y hy)
  refine wpAny_comprehension_free (use := use) rfl hs hcl S.kind S.locs (thn (hi pins s σ H _ I h) fun v s1 h1 => thn h1 fun itv s2 h2 => ?_)
  obtain ⟨it, fp, tn, J, H2, e, I2, T, st2, f2, h3⟩ := h2
  subst e
  have hf : H2 s2.heap.objs.size = none := I2.fresh
  obtain ⟨W, ⟨m0, w0⟩, turn⟩ := h3 _ hf
  refine wpAny_newObj_type (wpAny_newFunctionEnv S.nocell (by intro y hy; simp at hy) (fun h4 hns hsb => ?_) S.kind)
  have I3 : Inv X pins σ (upd H2 s2.heap.objs.size (.lst [])) { s2 with heap := s2.heap.push { cls := .type "list", data := .seq ([] : List Value).toArray } } := I2.lnew (ys := []) (its := []) (t' := s2.toks) .nil (Nat.zero_le _)
  generalize hs3 : ({ s2 with heap := s2.heap.push { cls := .type "list", data := .seq ([] : List Value).toArray } } : Shared) = s3 at I3
  generalize hH3 : upd H2 s2.heap.objs.size (.lst []) = H3 at I3 w0
  have e3 : s2.heap.push { cls := .type "list", dict := none, data := .seq ([] : List Value).toArray } = s3.heap := by rw [← hs3]
  dsimp only at hns hsb ⊢
  rw [e3] at hns hsb
  have old : ∀ b o, s3.heap.get? b = some o → h4.get? b = some o := fun b o e => hsb.extBut b o (Nat.ne_of_lt (Heap.lt_size e)) (Heap.get?_push_of_some _ e)
  have keep2 : ∀ b o, s2.heap.get? b = some o → s3.heap.get? b = some o := fun b o e => by rw [← e3]; exact Heap.get?_push_of_some _ e
  have lt3 : ∀ b ∈ fp, b < s3.heap.objs.size := fun b hb => by
    obtain ⟨o, e, _⟩ := T.obj _ _ st2 b hb
    exact Heap.lt_size (keep2 b o e)
  have n3 : ∀ b ∈ fp, H3 b = none := fun b hb => by
    obtain ⟨o, e, _⟩ := T.obj _ _ st2 b hb
    rw [← hH3, upd_ne (Nat.ne_of_lt (Heap.lt_size e))]
    exact (f2 b hb).1
  have st4 : tn 0 h4 := T.keep _ _ _ st2 fun b _ o e => old b o (keep2 b o e)
  let Y : Cx := cxC X scope cl s3.heap.objs.size s3 H3 fp (xs ++ M)
  have relab : ∀ y, ((relabel scope X.env).names.lookup y = some .cell ∨ (relabel scope X.env).names.lookup y = some .free) → ∃ c, cl.lookup y = some c := fun y hy => cl2 y (S.relab y hy)
  have Yok : Y.Ok := by
    refine ⟨I3.ok.mod, S.kind, I3.ok.glob, I3.ok.blt, Nat.le_refl _, fun y z c h1 h2 => I3.ok.inj y z c (cl1 y c h1) (cl1 z c h2), fun y hy => relab y hy, fun _ _ h _ => absurd (show false = true from h) (by decide), I3.ok.hd, I3.ok.frames, .inl rfl,
      fun b hb => ⟨Nat.ne_of_lt (lt3 b hb), fun y c e => (f2 b hb).2.2.2.2.1 y c (cl1 y c e)⟩, I3.bs, Nat.le_trans I3.ok.bsz I3.sz, fun b o e hb => ?_, fun b hb z => ?_, I3.stack, I3.stkFree⟩
    · rcases (f2 b hb).2.2.2.1 with z | z
      · exact I3.ok.noex b o e z
      · exact absurd (Nat.lt_of_lt_of_le (Heap.lt_size e) (Nat.le_trans I3.ok.bsz z)) (Nat.lt_irrefl _)
    · rcases List.mem_cons.mp (I3.stkSub b z) with z | z
      · exact (f2 b hb).2.1 z
      · exact (f2 b hb).2.2.1 z
  have cells4 : ∀ y c, cl.lookup y = some c → ∀ v, s3.heap.IsCell c v → h4.IsCell c v := fun y c _ v ⟨o, ho, hd⟩ => ⟨o, old c o ho, hd⟩
  have IY : ∀ t', Inv Y [] (List.replicate xs.length none ++ σ) H3 { s3 with heap := h4, toks := t' } := fun t' => by
    refine ⟨Yok, rfl, I3.bare, Un.kept old, ⟨_, hns, fun i y v e1 e2 e3 => ?_⟩, fun y c e => ?_, I3.hok.fresh (Nat.le_refl _), fun y c e => I3.freeC y c (cl1 y c e), fun p hp => absurd (show p ∈ ([] : List (Addr × Obj)) from hp) (by simp), I3.hok.kept old, ?_⟩
    · by_cases hi : i < xs.length
      · rw [List.getElem?_append_left (by simpa using hi), List.getElem?_replicate] at e2
        split at e2 <;> cases e2
      · obtain ⟨j, rfl⟩ : ∃ j, i = xs.length + j := ⟨i - xs.length, by omega⟩
        have e1' : M[j]? = some y := by
          have q : (xs ++ M)[xs.length + j]? = some y := e1
          rw [List.getElem?_append_right (Nat.le_add_right _ _)] at q
          simpa using q
        have e2' : σ[j]? = some (some v) := by
          rw [List.getElem?_append_right (by simp)] at e2
          simpa using e2
        obtain ⟨a1, a2, a3⟩ := S.same j y e1' e3
        have vis : Vis X.env.scope y := by
          rcases S.free y a2 with z | z
          · exact .inr (.inl z)
          · exact .inr (.inr z)
        obtain ⟨m, _, hl⟩ := I3.loc
        obtain ⟨u, r, l⟩ := hl j y v a1 e2' vis
        refine ⟨u, r, ?_⟩
        have kk : Y.env.kindOf y = some .cell ∨ Y.env.kindOf y = some .free := by
          rcases e3 with z | z | z
          · exact absurd z a3
          · exact .inl z
          · exact .inr z
        rcases l with ⟨k1, _⟩ | ⟨_, c, ec, ic⟩
        · rcases S.free y a2 with z | z
          · rw [z] at k1; cases k1
          · rw [z] at k1; cases k1
        · obtain ⟨c', ec'⟩ := cl2 y a2
          have := cl1 y c' ec'
          rw [ec] at this
          cases this
          exact .inr ⟨kk, c, ec', cells4 y c ec' _ ic⟩
    · obtain ⟨v, z⟩ := I3.cell y c (cl1 y c e)
      exact ⟨v, cells4 y c e v z⟩
    · show (List.replicate xs.length none ++ σ).length = (xs ++ M).length
      rw [List.length_append, List.length_append, List.length_replicate, S.len, I3.len]
  have stat : ∀ {pl : List (Addr × Obj)} {H' : Hp}, (∀ p ∈ pl, p.1 ∉ fp) → (∀ b ∈ fp, H' b = none) → ∀ b ∈ fp, FpOk Y pl H' b := fun hp hn b hb =>
    ⟨hn b hb, Nat.ne_of_lt (lt3 b hb), Yok.exfs b hb, .inl hb, fun y c e => (f2 b hb).2.2.2.2.1 y c (cl1 y c e), fun p hp' z => hp p (by simpa [Y, cxC] using hp') (z ▸ hb)⟩
  have bk : Back X Y pins σ fp s3.heap.objs.size s3 H3 := by
    refine ⟨I3, fun b hb => ⟨(f2 b hb).2.2.2.1, (f2 b hb).2.1, (f2 b hb).2.2.2.2.1, (f2 b hb).2.2.2.2.2⟩, fun pins' σ' H' s' J => ⟨?_, ?_⟩⟩
    · exact I3.call' (ch := fp) J.os J.base J.hok J.bare fun b hb => ⟨(f2 b hb).2.2.2.1, (f2 b hb).2.1, (f2 b hb).2.2.2.2.1, (f2 b hb).2.2.2.2.2⟩
    · refine ⟨J.free, Nat.ne_of_gt I3.lt, I3.sz, fun y c e z => ?_, fun p hp z => ?_⟩
      · obtain ⟨v, q⟩ := I3.cell y c e
        have := q.lt
        rw [z] at this
        exact Nat.lt_irrefl _ this
      · have := Heap.lt_size (I3.pin p hp).1
        rw [z] at this
        exact Nat.lt_irrefl _ this
  obtain ⟨hG, hT, hE⟩ := hin cl s3.heap.objs.size s3 H3 fp pins σ bk
  have loop : ∀ t', codeAny (model X.prog X.w) X.A (.compLoop (.ListComp elt [⟨tg, iter, cs, 0⟩] scope pos) 0 (.ref it) (.ref s2.heap.objs.size) Y.env) (compPost (model X.prog X.w) X.A X.xe use RR (.ref s2.heap.objs.size) s3.heap.objs.size) { s3 with heap := h4, toks := t' } := by
    intro t'
    refine comp_turns (EE := Y.xe) (by cases use <;> rfl) (fun n s' => ∃ i H', Inv Y [] (List.replicate xs.length none ++ σ) H' s' ∧ tn i s'.heap ∧ (∀ b ∈ fp, H' b = none) ∧ W i n H') ?_ m0 ⟨0, H3, IY t', st4, n3, w0⟩
    rintro n s5 ⟨i, H5, I5, st5, fr5, w5⟩
    rcases turn i n H5 w5 with ⟨stop, qn⟩ | ⟨go, N, hN, step⟩
    · refine thn (T.done Y rfl rfl rfl hc i [] s5 (List.replicate xs.length none ++ σ) H5 _ I5 (stat (by simp) fr5) st5 stop) fun r s6 ⟨hr, I6⟩ => ?_
      subst hr
      obtain ⟨m6, hn6, _⟩ := I6.loc
      have I8 : Inv X pins σ H5 s6 := I3.call' (ch := fp) I6.os I6.base I6.hok I6.bare fun b hb => ⟨(f2 b hb).2.2.2.1, (f2 b hb).2.1, (f2 b hb).2.2.2.2.1, (f2 b hb).2.2.2.2.2⟩
      have lt8 : X.env.locals < s3.heap.objs.size := I3.lt
      refine fin _ _ s6 H5 m6 qn I8 hn6 ⟨I6.free, Nat.ne_of_gt lt8, I3.sz, fun y c e z => ?_, fun p hp z => ?_⟩
      · obtain ⟨v, q⟩ := I3.cell y c e
        have := q.lt
        rw [z] at this
        exact Nat.lt_irrefl _ this
      · have := Heap.lt_size (I3.pin p hp).1
        rw [z] at this
        exact Nat.lt_irrefl _ this
    · refine thn (T.item Y rfl rfl rfl hc i [] s5 (List.replicate xs.length none ++ σ) H5 _ I5 (stat (by simp) fr5) st5 go) fun r s6 ⟨u, hr, h6⟩ => ?_
      subst hr
      refine thn h6 fun _ s7 ⟨x7, H7, I7, r7, y7, st7, fr7⟩ => ?_
      have I7' := I7.pinned (stat (by simp) fr7) (T.obj _ _ st7)
      have again : ∀ {σ8 : St} {H8 : Hp} {s8 : Shared}, (∃ l : St, l.length = xs.length ∧ σ8 = l ++ σ) → Inv Y ([] ++ pinsAt fp s7.heap) σ8 H8 s8 → N H8 → ∃ m, m < n ∧ ∃ i H', Inv Y [] (List.replicate xs.length none ++ σ) H' s8 ∧ tn i s8.heap ∧ (∀ b ∈ fp, H' b = none) ∧ W i m H' := fun {σ8 H8 s8} l8 I8 n8 => by
        obtain ⟨m', hm, w8⟩ := hN H8 n8
        obtain ⟨l, ll, rfl⟩ := l8
        have pin8 : ∀ b ∈ fp, ∀ o, s7.heap.get? b = some o → s8.heap.get? b = some o ∧ H8 b = none := fun b hb o e => by
          have z := I8.pin (b, o) (List.mem_append_right _ (List.mem_append_right _ (mem_pinsAt hb e)))
          exact ⟨z.1, z.2.1⟩
        refine ⟨m', hm, i + 1, H8, I8.unpinned.weak (by simp [ll]) (fun j v e => ?_), T.keep _ _ _ st7 fun b hb o e => (pin8 b hb o e).1, fun b hb => ?_, w8⟩
        · by_cases hj : j < xs.length
          · rw [List.getElem?_append_left (by simpa using hj), List.getElem?_replicate] at e
            split at e <;> cases e
          · rw [List.getElem?_append_right (by simpa using hj)] at e
            rw [List.getElem?_append_right (by omega), ll]
            simpa using e
        · obtain ⟨o, e, _⟩ := T.obj _ _ st7 b hb
          exact (pin8 b hb o e).2
      refine thn (hG _ s7 (List.replicate xs.length none ++ σ) H7 x7 u _ I7' r7 (hg _ _ _ _ (step x7 H7 y7))) fun _ s8 ⟨σ8, H8, I8, l8, q8⟩ => ?_
      refine thn (hT _ s8 σ8 H8 _ I8 q8) fun ok s9 ⟨H9, I9, q9⟩ => ?_
      cases ok with
      | false => exact again l8 I9 q9
      | true =>
        refine thn (hE _ s9 σ8 H9 _ I9 q9) fun y s10 ⟨y10, H10, I10, r10, ys, hd, hl, n10⟩ => ?_
        refine thn (mt_append _ s10 σ8 H10 (.ref s2.heap.objs.size) [y10] (.ref s2.heap.objs.size) [y] (fun _ H' => N H') I10 rfl (.cons r10 .nil) ⟨_, ys, y10, rfl, rfl, hd, hl, n10⟩) fun _ s11 ⟨_, H11, I11, _, n11⟩ => ?_
        exact again l8 I11 n11
  refine codeAny_compStart_list (loop _) (T.self _ 0 _ _ _ st4 (loop _))
theorem pe_comp {X : Cx} {elt tg iter : Expr} {cs : List Expr} {scope : Scope} {pos : Pos} {wi : TI} {g : TG} {tc : TT} {te : TE} {xs M : List Str} (hc : X.calm = true) (S : CompScope scope X.env X.N M) (hi : PI X tg iter wi)
    (hin : ∀ (cl : List (Str × Addr)) (C : Addr) (s0 : Shared) (H0 : Hp) (fp : List Addr), PG (cxC X scope cl C s0 H0 fp (xs ++ M)) tg g ∧ PTs (cxC X scope cl C s0 H0 fp (xs ++ M)) cs tc ∧ PE (cxC X scope cl C s0 H0 fp (xs ++ M)) elt te)
    (hg : ∀ v σ H Q, g v (List.replicate xs.length none ++ σ) H Q → g v (List.replicate xs.length none ++ σ) H fun σ2 H2 => (∃ l : St, l.length = xs.length ∧ σ2 = l ++ σ) ∧ Q σ2 H2)
    (hs : ∀ x, foldedSetIterable iter X.env x = pure x := by intro _; rfl) : PE X (.ListComp elt [⟨tg, iter, cs, 0⟩] scope pos) (tComp xs.length wi g tc te) := by
  intro pins s σ H Q I h
  rw [eval_ListComp]
  exact comp_run (use := none) hc S hi (fun cl C s0 H0 fp _ _ _ => hin cl C s0 H0 fp) hg hs pins s σ H Q I h fun d C s6 H6 m q I6 hn gn => ⟨m, hn, fun h' hs' => ⟨.ref d, H6, I6.gone gn hs', rfl, q⟩⟩
theorem ps_comp {X : Cx} {elt tg iter : Expr} {cs : List Expr} {scope : Scope} {pos pos' spos : Pos} {wi : TI} {g : TG} {tc : TT} {te : TE} {xs M : List Str} {i : Nat} {x : Str} (hc : X.calm = true) (S : CompScope scope X.env X.N M) (hi : PI X tg iter wi)
    (hin : ∀ (cl : List (Str × Addr)) (C : Addr) (s0 : Shared) (H0 : Hp) (fp : List Addr), PG (cxC X scope cl C s0 H0 fp (xs ++ M)) tg g ∧ PTs (cxC X scope cl C s0 H0 fp (xs ++ M)) cs tc ∧ PE (cxC X scope cl C s0 H0 fp (xs ++ M)) elt te)
    (hg : ∀ v σ H Q, g v (List.replicate xs.length none ++ σ) H Q → g v (List.replicate xs.length none ++ σ) H fun σ2 H2 => (∃ l : St, l.length = xs.length ∧ σ2 = l ++ σ) ∧ Q σ2 H2)
    (hN : X.N.Nodup) (hix : X.N[i]? = some x) (hx : X.env.scope.names.lookup x = some .local) (hw : swapsWith (.ListComp elt [⟨tg, iter, cs, 0⟩] scope pos) (some (.Name x pos')) spos.line X.env = pure true)
    (hs : ∀ x, foldedSetIterable iter X.env x = pure x := by intro _; rfl) : PS X (.Assign [.Name x pos'] (.ListComp elt [⟨tg, iter, cs, 0⟩] scope pos) spos) (tAsg (tComp xs.length wi g tc te) (gName i)) := by
  intro pins s σ H D I h
  rw [exec_Assign_Name_used _ _ _ _ hw]
  refine wpAny_bind (wpAny_standAt (wpAny_bind ?_))
  show wpAny _ X.A (comprehension (.ListComp elt [⟨tg, iter, cs, 0⟩] scope pos) scope X.env _ (newList []) false (eval iter X.env) (some (assign (.Name x pos') X.env)) >>= fun _ => pure ()) _ _ s
  refine wpAny_bind (thn (comp_run (use := some (assign (.Name x pos') X.env)) (RR := fun _ s' => SP X pins D .next s') hc S hi (fun cl C s0 H0 fp _ _ _ => hin cl C s0 H0 fp) hg hs pins s σ H _ I h fun d C s6 H6 m q I6 hn gn => ?_) fun _ s' hq => wpAny_pure (wpAny_pure hq))
  show wpAny _ X.A (assign (.Name x pos') X.env (.ref d)) _ _ s6
  refine wpAny_assign_Name (store_ok2 I6 hN hix (.inl hx) (v := .ref d) rfl (fun s7 I7 ch => ?_) (.inr hx))
  obtain ⟨a, hsb, ha⟩ := ch
  have ne : C ≠ a := by
    rcases ha with z | z
    · rw [z]; exact gn.ne
    · exact fun z' => gn.cl x a z z'.symm
  exact ⟨m, hn.sameBut hsb ne, fun h' hs' => ⟨_, H6, I7.gone gn hs', q⟩⟩
theorem pe_compB {X : Cx} {elt tg iter : Expr} {cs : List Expr} {scope : Scope} {pos : Pos} {wi : TI} {g : TG} {tc : TT} {te : TE} {xs M : List Str} (hc : X.calm = true) (S : CompScope scope X.env X.N M) (hi : PI X tg iter wi)
    (hin : ∀ (cl : List (Str × Addr)) (C : Addr) (s0 : Shared) (H0 : Hp) (fp : List Addr) (pins : List (Addr × Obj)) (σ : St), Back X (cxC X scope cl C s0 H0 fp (xs ++ M)) pins σ fp C s0 H0 → PG (cxC X scope cl C s0 H0 fp (xs ++ M)) tg g ∧ PTs (cxC X scope cl C s0 H0 fp (xs ++ M)) cs tc ∧ PE (cxC X scope cl C s0 H0 fp (xs ++ M)) elt te)
    (hg : ∀ v σ H Q, g v (List.replicate xs.length none ++ σ) H Q → g v (List.replicate xs.length none ++ σ) H fun σ2 H2 => (∃ l : St, l.length = xs.length ∧ σ2 = l ++ σ) ∧ Q σ2 H2)
    (hs : ∀ x, foldedSetIterable iter X.env x = pure x := by intro _; rfl) : PE X (.ListComp elt [⟨tg, iter, cs, 0⟩] scope pos) (tComp xs.length wi g tc te) := by
  intro pins s σ H Q I h
  rw [eval_ListComp]
  exact comp_run (use := none) hc S hi hin hg hs pins s σ H Q I h fun d C s6 H6 m q I6 hn gn => ⟨m, hn, fun h' hs' => ⟨.ref d, H6, I6.gone gn hs', rfl, q⟩⟩
end L2
set_option Elab.async false
set_option linter.all false
set_option maxRecDepth 100000
namespace L2
open PySem PySem.Spec PyProof.Rows
structure EqK {α : Type} [DecidableEq α] (H : Hp) (s : Shared) (n : Nat) (R : V → α → Prop) : Prop where
  inj : ∀ x a b, R x a → R x b → a = b
  eq : ∀ (A : Around) (x y : V) (a b : α) (u v : Value), A.units + n < cLine → R x a → R y b → RelV x u → RelV y v → SeqAt.EqAt A s u v (decide (a = b))
def RInt (x : V) (i : Int) : Prop := x = .int i
def RTup {α : Type} (H : Hp) (R : V → α → Prop) (x : V) (ds : List α) : Prop := ∃ a xs, x = .ref a ∧ H a = some (.tup xs) ∧ Paired R xs ds
theorem all_eq {α : Type} [DecidableEq α] : ∀ (as bs : List α) (e : Nat → Bool), (∀ j x y, as[j]? = some x → bs[j]? = some y → e j = decide (x = y)) →
    ((List.range (min as.length bs.length)).all e && as.length == bs.length) = decide (as = bs) := by
  intro as bs e h
  rw [Bool.eq_iff_iff]
  simp only [Bool.and_eq_true, List.all_eq_true, List.mem_range, beq_iff_eq, decide_eq_true_eq]
  constructor
  · rintro ⟨h1, h2⟩
    refine List.ext_getElem? fun j => ?_
    by_cases hj : j < as.length
    · have e1 : as[j]? = some as[j] := List.getElem?_eq_getElem hj
      have e2 : bs[j]? = some (bs[j]'(by omega)) := List.getElem?_eq_getElem (by omega)
      have q := h1 j (by omega)
      rw [h j _ _ e1 e2] at q
      rw [e1, e2, of_decide_eq_true q]
    · rw [List.getElem?_eq_none (by omega), List.getElem?_eq_none (by omega)]
  · rintro rfl
    refine ⟨fun j hj => ?_, rfl⟩
    have hj : j < as.length := by omega
    have e1 : as[j]? = some as[j] := List.getElem?_eq_getElem hj
    rw [h j _ _ e1 e1]
    simp
theorem Paired.right_of {α β : Type} {R : α → β → Prop} : ∀ {xs : List α} {ds : List β}, Paired R xs ds → ∀ (j : Nat) (x : α), xs[j]? = some x → ∃ d, ds[j]? = some d ∧ R x d
  | _, _, .nil, j, x, e => by simp at e
  | _, _, .cons r t, 0, x, e => by simp at e; subst e; exact ⟨_, rfl, r⟩
  | _, _, .cons r t, j + 1, x, e => by
    obtain ⟨d, e1, e2⟩ := Paired.right_of t j x (by simpa using e)
    exact ⟨d, by simpa using e1, e2⟩
theorem Paired.ints : ∀ ns : List Int, Paired RInt (ns.map V.int) ns
  | [] => .nil
  | n :: ns => .cons rfl (Paired.ints ns)
theorem Paired.ofInts : ∀ {xs : List V} {ns : List Int}, Paired RInt xs ns → xs = ns.map V.int
  | _, _, .nil => rfl
  | _, _, .cons r t => by rw [show _ = _ from r, Paired.ofInts t]; rfl
theorem rtup_ints {H : Hp} {a : Addr} {ns : List Int} (h : H a = some (.tup (ns.map V.int))) : RTup H RInt (.ref a) ns := ⟨a, _, rfl, h, Paired.ints ns⟩
section
variable {α : Type} [DecidableEq α] {P : Program} {w : World} {H : Hp} {s : Shared} {n : Nat} {R : V → α → Prop} {A : Around}
theorem EqK.int : EqK H s n RInt := ⟨fun x a b h1 h2 => by unfold RInt at *; rw [h1] at h2; cases h2; rfl, fun A x y a b u v _ h1 h2 r1 r2 => by
  unfold RInt at *
  subst h1 h2
  obtain ⟨t, rfl⟩ := r1
  obtain ⟨t', rfl⟩ := r2
  have q := SeqAt.EqAt.int_int (A := A) (s := s) a t b t'
  rw [Bool.beq_eq_decide_eq] at q
  exact q⟩
theorem items_eq (K : EqK H s n R) {xs ys : List V} {ds es : List α} {its its2 : List Value} (p1 : Paired R xs ds) (p2 : Paired R ys es) (v1 : Vals xs its) (v2 : Vals ys its2) (hA : A.units + n < cLine) :
    ∃ e : Nat → Bool, (∀ j (h1 : j < its.toArray.size) (h2 : j < its2.toArray.size), SeqAt.EqAt A s its.toArray[j] its2.toArray[j] (e j)) ∧ ((List.range (min its.toArray.size its2.toArray.size)).all e && its.toArray.size == its2.toArray.size) = decide (ds = es) := by
  have l1 : its.toArray.size = ds.length := by rw [List.size_toArray, ← v1.length]; exact p1.length
  have l2 : its2.toArray.size = es.length := by rw [List.size_toArray, ← v2.length]; exact p2.length
  refine ⟨fun j => match ds[j]?, es[j]? with | some d, some e => decide (d = e) | _, _ => true, fun j h1 h2 => ?_, ?_⟩
  · have hx : xs[j]? = some (xs[j]'(by rw [v1.length]; simpa using h1)) := List.getElem?_eq_getElem _
    have hy : ys[j]? = some (ys[j]'(by rw [v2.length]; simpa using h2)) := List.getElem?_eq_getElem _
    obtain ⟨d, e1, r1⟩ := Paired.right_of p1 j _ hx
    obtain ⟨e, e2, r2⟩ := Paired.right_of p2 j _ hy
    obtain ⟨u, e3, r3⟩ := v1.get hx
    obtain ⟨v, e4, r4⟩ := v2.get hy
    have q3 : its.toArray[j] = u := by
      have := (List.getElem?_eq_some_iff.mp e3).2
      simpa using this
    have q4 : its2.toArray[j] = v := by
      have := (List.getElem?_eq_some_iff.mp e4).2
      simpa using this
    simp only [e1, e2, q3, q4]
    exact K.eq A _ _ d e u v hA r1 r2 r3 r4
  · rw [l1, l2]
    exact all_eq ds es _ fun j x y h1 h2 => by simp only [h1, h2]
theorem rc_tups (K : EqK H s n R) (ok : HOk P w H s.heap) {a b : Addr} {xs ys : List V} {ds es : List α} (ha : H a = some (.tup xs)) (hb : H b = some (.tup ys)) (p1 : Paired R xs ds) (p2 : Paired R ys es) (hA : A.units + (n + 1) < cLine) :
    SeqAt.RcAt A s (.ref a) (.ref b) (decide (ds = es)) := by
  obtain ⟨_, its, v1, t1⟩ := ok a _ ha
  obtain ⟨_, its2, v2, t2⟩ := ok b _ hb
  obtain ⟨e, h1, h2⟩ := items_eq (A := A.in1) K p1 p2 v1 v2 (by show A.units + 1 + n < cLine; omega)
  rw [← h2]
  exact SeqAt.RcAt.tuples t1 t2 (by omega) h1
theorem isL_of {h : Heap} {a : Addr} {its : List Value} {k : Nat} (e : h.get? a = some { cls := .type "list", data := .seq its.toArray k }) : h.IsList a its.toArray := ⟨_, e, rfl, _, rfl⟩
end
section
variable {X : Cx} {α : Type} [DecidableEq α]
def rEqTI : R2 := fun x y H Q => ∃ ns ms, RTup H RInt x ns ∧ RTup H RInt y ms ∧ Q (.bl (decide (ns = ms))) H
theorem op_eqTI (hu : X.A.units + 4 < cLine) : OpR X (compareOp .Eq) rEqTI := by
  intro pins s σ H x y v u Q I rx ry h
  obtain ⟨ns, ms, ⟨a, xs, rfl, e1, p1⟩, ⟨b, ys, rfl, e2, p2⟩, q⟩ := h
  cases rx; cases ry
  exact rc_tups (A := X.A) (n := 0) EqK.int I.hok e1 e2 p1 p2 (by omega) _ _ _ _ ⟨.bl _, H, I, rfl, q⟩
end
def rSlG : V → Option Int → Option Int → Hp → VK → Prop := fun x lo hi H Q => ∃ a xs, x = .ref a ∧ H a = some (.tup xs) ∧ ∀ p H', Same H H' → H' p = some (.tup (cutV xs lo hi)) → Q (.ref p) H'
theorem sixAll {n : Nat} {α : Type} (xs : List α) (lo hi : Option Int) (h1 : HT.sIx xs.length 0 lo = 0) (h2 : HT.sIx xs.length xs.length hi = xs.length) : (xs.drop (HT.sIx xs.length 0 lo)).take (HT.sIx xs.length xs.length hi - HT.sIx xs.length 0 lo) = xs := by
  rw [h1, h2]; simp
theorem same_newO {H : Hp} {p : Addr} (h : H p = none) (o : HO) : Same H (upd H p o) := fun b u q => by rw [upd_ne (ne_of_none q h)]; exact q
theorem whole_tuple {prog : Program} {w : World} {A : Around} {E : Value → Shared → Prop} {s : Shared} {t sl : Addr} {items : Array Value} {vl vu : Value} {lo hi : Option Int} {Q : Value → Shared → Prop} (ht : IsTup s.heap t items) (hs : s.heap.IsSliceOf sl vl vu .none) (pl : IsPart vl lo) (pu : IsPart vu hi)
    (h1 : HT.sIx items.size 0 lo = 0) (h2 : HT.sIx items.size items.size hi = items.size) (h : Q (.ref t) s) : wpAny (model prog w) A (getItem (.ref t) (.ref sl)) Q E s := by
  obtain ⟨os, hos, hcs, hds⟩ := id hs
  have hTs : s.TypeIs (.ref sl) "slice" := ⟨os, hos, hcs⟩
  unfold getItem
  try with_reducible refine wpAny_holding ?_
  first | refine wpAny_bind (wpAny_pure ?_) | skip
  refine wpAny_bind (wpAny_sequenceKey ht.typeIs (by decide) ?_)
  refine wpAny_bind (wpAny_callSpecial?_slot (name := Str.ofString "__getitem__") ht.typeIs PyProof.Rows.slot_tuple_getitem
    (wpAny_call_entry PyProof.Rows.slot_tuple_getitem ht.typeIs entry_tuple_getitem ?_ (args_tuple_getitem _ _)))
  show wpAny _ _ (Builtin.Tuple.tupleItemsOf (.ref t) >>= _) _ _ s
  refine wpAny_bind (tupleItemsOf_ ht ?_)
  refine wpAny_bind (wpAny_typeOf hTs ?_)
  rw [if_pos (by decide)]
  refine wpAny_bind (HT.sliceApplied_gen hs pl pu ?_)
  rw [h1, h2]
  show wpAny _ _ (if (((0 : Nat) : Int) == 0 && (1 : Int) == 1 && (items.size - 0) == items.size) = true then _ else _) _ _ s
  rw [if_pos (by simp)]
  unfold Builtin.Tuple.tupleIsExact
  refine wpAny_bind (wpAny_bind (wpAny_typeOf ht.typeIs (wpAny_pure ?_)))
  rw [if_pos (by decide)]
  first
    | exact wpAny_bind (wpAny_rule (wpAny_bind (wpAny_pure (wpAny_pure ⟨_, rfl, wpAny_pure h⟩))))
    | exact wpAny_bind (wpAny_rule (wpAny_pure ⟨_, rfl, wpAny_pure h⟩))
    | exact wpAny_bind (wpAny_bind (wpAny_rule (wpAny_pure ⟨_, rfl, wpAny_pure h⟩)))
theorem sl_tupG {X : Cx} : SlR X rSlG := by
  intro pins s σ H x v vl vu lo hi sl Q I rx hs pl pu h
  obtain ⟨a, xs, rfl, hx, q⟩ := h
  by_cases hw : HT.sIx xs.length 0 lo = 0 ∧ HT.sIx xs.length xs.length hi = xs.length
  · cases rx
    obtain ⟨hz, its, r, ht⟩ := I.hok a _ hx
    have hlen : its.toArray.size = xs.length := by rw [List.size_toArray]; exact r.length.symm
    refine ⟨"tuple", _, PyProof.Rows.slot_tuple_getitem.lookup, (IsTp.is ht).typeIs, ?_⟩
    refine whole_tuple (IsTp.is ht) hs pl pu (by rw [hlen]; exact hw.1) (by rw [hlen]; exact hw.2) ⟨.ref a, H, I, rfl, q a H (Same.refl H) ?_⟩
    unfold cutV
    rw [sixAll (n := 0) xs lo hi hw.1 hw.2]
    exact hx
  · exact sl_tup pins s σ H (.ref a) v vl vu lo hi sl Q I rx hs pl pu ⟨a, xs, rfl, .inl (.inl hx), hw, fun p hp => q p _ (same_newO hp _) upd_same⟩
def rCatG : R2 := fun x y H Q => ∃ a b xs ys, x = .ref a ∧ y = .ref b ∧ H a = some (.tup xs) ∧ H b = some (.tup ys) ∧ xs.length + ys.length ≤ sizeLine ∧ ∀ p H', Same H H' → H' p = some (.tup (xs ++ ys)) → Q (.ref p) H'
theorem op_catG {X : Cx} : OpR X (binaryOp .Add) rCatG := by
  intro pins s σ H x y v u Q I rx ry h
  obtain ⟨a, b, xs, ys, rfl, rfl, ha, hb, hz, q⟩ := h
  by_cases hx : xs = []
  · subst hx
    cases rx; cases ry
    obtain ⟨_, its, r1, p1⟩ := I.hok a _ ha
    obtain ⟨_, its2, r2, p2⟩ := I.hok b _ hb
    have e0 : its = [] := r1.nil_iff.mpr rfl
    subst e0
    obtain ⟨⟨cls, dd, data, sl⟩, ho, hc, n, hd⟩ := id (IsTp.is p1)
    obtain ⟨⟨cls2, dd2, data2, sl2⟩, ho2, hc2, n2, hd2⟩ := id (IsTp.is p2)
    simp only at hc hd hc2 hd2
    subst hc hd hc2 hd2
    exact concat_meets ⟨_, ho, rfl⟩ ⟨_, ho2, rfl⟩ noFill_tuple_add seq_tuple_add PySem.F.slot_tuple_add PySem.F.entry_tuple_add (PySem.F.args_tuple_add_2 _ _)
      (tuple_addW0 a b ([] : List Value).toArray its2.toArray n n2 dd dd2 sl sl2 (by simp)) ⟨ho, ho2, ⟨.ref b, H, I, rfl, q b H (Same.refl H) (by simpa using hb)⟩⟩
  · exact op_catT pins s σ H (.ref a) (.ref b) v u Q I rx ry ⟨a, b, xs, ys, rfl, rfl, .inl (.inl ha), .inl (.inl hb), hx, hz, fun z => q a H (Same.refl H) (by rw [z, List.append_nil]; exact ha), fun _ p hp => q p _ (same_newO hp _) upd_same⟩
def rAll : List V → Hp → VK → Prop := fun xs H Q => ∃ (a : Addr) (bs : List Bool), xs = [.ref a] ∧ H a = some (.lst (bs.map V.bl)) ∧ Q (.bl (bs.all id)) H
theorem vals_bls : ∀ {bs : List Bool} {us : List Value}, Vals (bs.map V.bl) us → us = bs.map Value.bool := by
  intro bs
  induction bs with
  | nil => intro us r; rw [List.map_nil] at r; cases r; rfl
  | cons b bs ih =>
    intro us r
    rw [List.map_cons] at r
    cases r with
    | cons r1 r2 => rw [ih r2, show _ = Value.bool b from r1]; rfl
theorem all_range (bs : List Bool) : (List.range bs.length).all (fun i => bs.getD i true) = bs.all id := by
  rw [Bool.eq_iff_iff]
  simp only [List.all_eq_true, List.mem_range, id]
  constructor
  · intro h b hb
    obtain ⟨i, hi, rfl⟩ := List.mem_iff_getElem.mp hb
    have q := h i hi
    rwa [List.getD_eq_getElem?_getD, List.getElem?_eq_getElem hi] at q
  · intro h i hi
    rw [List.getD_eq_getElem?_getD, List.getElem?_eq_getElem hi]
    exact h _ (List.getElem_mem hi)
theorem call_all {X : Cx} (hc : X.calm = true) : CallR X (.builtin "all") rAll := by
  intro pins s σ H xs us Q I r h
  obtain ⟨a, bs, rfl, ha, q⟩ := h
  obtain ⟨u, rfl, ru⟩ := vals1 r
  cases ru
  obtain ⟨hz, its, n, v, e⟩ := I.hok a _ ha
  have ei := vals_bls v
  subst ei
  refine call_all_walk (wpAny_pyIter_list (isL_of e) ?_)
  have hlt := Heap.lt_size e
  refine ⟨s.heap.objs.size, _, _, _, _, _, fun i => bs.getD i true, rfl, Walks.list (A := X.A.in1) (by show X.A.handled = none; exact I.ok.hd hc) s.heap.objs.size a (Nat.ne_of_lt hlt) (bs.map Value.bool).toArray, ⟨⟨_, Heap.get?_push_size _ rfl, rfl, rfl⟩, isL_of (Heap.get?_push_of_some _ e)⟩, ?_, fun h' tk hk => ?_⟩
  · intro i v s' Q' E' hv hq
    simp only [List.getElem?_toArray, List.getElem?_map] at hv
    cases hb : bs[i]? with
    | none => rw [hb] at hv; cases hv
    | some b =>
      rw [hb] at hv; cases hv
      have hq' : Q' (bs.getD i true) s' := hq
      rw [List.getD_eq_getElem?_getD, hb] at hq'
      exact wpAny_truthy_bool hq'
  · have e1 : (bs.map Value.bool).toArray.size = bs.length := by simp
    rw [e1, all_range]
    exact ⟨.bl _, H, I.kept (h' := h') (t' := tk) (fun b o eo => hk b o (by simp; exact Nat.ne_of_lt (Heap.lt_size eo)) (Heap.get?_push_of_some _ eo)), rfl, q⟩
def rSum : List V → Hp → VK → Prop := fun xs H Q => ∃ (a : Addr) (ns : List Int), xs = [.ref a] ∧ H a = some (.lst (ns.map V.int)) ∧ Q (.int ns.sum) H
theorem vals_intAt : ∀ {ns : List Int} {us : List Value}, Vals (ns.map V.int) us → ∀ (i : Nat) (v : Value), us[i]? = some v → ∃ t, v = .int (ns.getD i 0) t := by
  intro ns
  induction ns with
  | nil => intro us r i v e; rw [List.map_nil] at r; cases r; simp at e
  | cons n ns ih =>
    intro us r i v e
    rw [List.map_cons] at r
    cases r with
    | cons r1 r2 =>
      cases i with
      | zero =>
        simp at e; subst e
        obtain ⟨t, z⟩ := r1
        exact ⟨t, by rw [z]; simp⟩
      | succ i =>
        obtain ⟨t, z⟩ := ih r2 i v (by simpa using e)
        exact ⟨t, by rw [z]; simp⟩
theorem call_sum {X : Cx} (hc : X.calm = true) : CallR X (.builtin "sum") rSum := by
  intro pins s σ H xs us Q I r h
  obtain ⟨a, ns, rfl, ha, q⟩ := h
  obtain ⟨u, rfl, ru⟩ := vals1 r
  cases ru
  obtain ⟨hz, its, n, v, e⟩ := I.hok a _ ha
  refine call_sum_walkAnyS (wpAny_pyIter_list (isL_of e) ?_)
  have hlt := Heap.lt_size e
  refine ⟨s.heap.objs.size, _, _, _, _, _, _, fun i => ns.getD i 0, rfl, (Walks.list (A := X.A.in1) (by show X.A.handled = none; exact I.ok.hd hc) s.heap.objs.size a (Nat.ne_of_lt hlt) its.toArray).toS, ⟨⟨_, Heap.get?_push_size _ rfl, rfl, rfl⟩, isL_of (Heap.get?_push_of_some _ e)⟩, ?_, ?_, fun s' t' mv => ?_⟩
  · intro b hb
    have hp : (s.heap.push { cls := .type "list_iterator", data := .fields #[.ref a, rawInt 0] }).objs.size = s.heap.objs.size + 1 := Heap.size_push _ _
    rcases List.mem_cons.mp hb with z | z
    · subst z
      exact Heap.lt_size (Heap.get?_push_size _ rfl)
    · have z' : b = a := by simpa using z
      subst z'
      exact Heap.lt_size (Heap.get?_push_of_some _ e)
  · intro i v' hv
    exact vals_intAt v i v' (by simpa using hv)
  · have e1 : its.toArray.size = ns.length := by
      have := v.length
      rw [List.length_map] at this
      simpa using this.symm
    rw [e1, preSum_getD]
    have e2 : ns.take ns.length = ns := List.take_length
    rw [e2]
    have k : ∀ b o, s.heap.get? b = some o → s'.heap.get? b = some o := fun b o eo => mv.heap b o (by simp; exact Nat.ne_of_lt (Heap.lt_size eo)) (Heap.get?_push_of_some _ eo)
    obtain ⟨h', g', d', tk', os'⟩ := s'
    have z1 : g' = s.gens := mv.gens
    have z2 : d' = s.drawn := mv.drawn
    have z3 : os' = s.os := mv.os
    subst z1 z2 z3
    exact ⟨.int _, H, I.kept (h' := h') (t' := tk') k, ⟨t', rfl⟩, q⟩
end L2
set_option Elab.async false
set_option linter.all false
set_option maxRecDepth 100000
namespace L2
open PySem PySem.Spec PyProof.Rows
theorem lookup_relabel (scope : Scope) (en : Env) (y : Str) : (relabel scope en).names.lookup y = (scope.names.lookup y).map fun k => if (k == NameKind.free && en.scope.kind == .function && en.kindOf y == some .cell) = true then .cell else k := by
  show List.lookup y (scope.names.map fun (n, k) => if (k == NameKind.free && en.scope.kind == .function && en.kindOf n == some .cell) = true then (n, NameKind.cell) else (n, k)) = _
  generalize scope.names = l
  induction l with
  | nil => rfl
  | cons p r ih =>
    obtain ⟨n, k⟩ := p
    rw [List.map_cons]
    by_cases hy : y = n
    · subst hy
      show List.lookup y ((if (k == NameKind.free && en.scope.kind == .function && en.kindOf y == some .cell) = true then (y, NameKind.cell) else (y, k)) :: _) = _
      by_cases hc : (k == NameKind.free && en.scope.kind == .function && en.kindOf y == some .cell) = true
      · rw [if_pos hc, List.lookup_cons, List.lookup_cons, beq_self_eq_true]
        show some NameKind.cell = some (if _ then _ else _)
        rw [if_pos hc]
      · rw [if_neg hc, List.lookup_cons, List.lookup_cons, beq_self_eq_true]
        show some k = some (if _ then _ else _)
        rw [if_neg hc]
    · have hb : (y == n) = false := by simpa using hy
      show List.lookup y ((if (k == NameKind.free && en.scope.kind == .function && en.kindOf n == some .cell) = true then (n, NameKind.cell) else (n, k)) :: _) = _
      by_cases hc : (k == NameKind.free && en.scope.kind == .function && en.kindOf n == some .cell) = true
      · rw [if_pos hc, List.lookup_cons, List.lookup_cons, hb]; exact ih
      · rw [if_neg hc, List.lookup_cons, List.lookup_cons, hb]; exact ih
def okPair (scope : Scope) (p : Str × Str) : Bool := match scope.names.lookup p.1 with
  | none => true
  | some .free => p.1 == p.2
  | some .local => false
  | some .cell => false
  | some _ => true
theorem CompScope.of' {scope : Scope} {en : Env} {N M : List Str} (sc : Scope) (N₀ : List Str) (hsc : en.scope = sc) (hN : N = N₀) (kind : scope.kind = .function) (nocell : ∀ y ∈ scope.names, y.2 ≠ .cell) (locs : ∀ y ∈ scope.names, y.2 = .local → scope.names.lookup y.1 = some .local)
    (free : ∀ y ∈ scope.names, y.2 = .free → sc.names.lookup y.1 = some .cell ∨ sc.names.lookup y.1 = some .free) (len : M.length = N₀.length) (same : ((M.zip N₀).all (okPair scope)) = true) : CompScope scope en N M := by
  subst hsc hN
  refine ⟨kind, nocell, locs, fun y hy => free _ hy rfl, len, fun j y e v => ?_, fun y h => ?_⟩
  · have hj : j < N.length := by rw [← len]; exact (List.getElem?_eq_some_iff.mp e).1
    have e2 : N[j]? = some N[j] := List.getElem?_eq_getElem hj
    have hm : (y, N[j]) ∈ M.zip N := by
      refine List.mem_iff_getElem?.mpr ⟨j, ?_⟩
      rw [List.getElem?_zip_eq_some]
      exact ⟨e, e2⟩
    have q := List.all_eq_true.mp same _ hm
    unfold okPair at q
    unfold Vis at v
    rw [lookup_relabel] at v ⊢
    cases hl : scope.names.lookup y with
    | none => rw [hl] at v; simp at v
    | some k =>
      rw [hl] at v q
      simp only [Option.map_some] at v ⊢
      cases k with
      | free =>
        have z : y = N[j] := by simpa using q
        refine ⟨by rw [e2, ← z], PySem.mem_of_lookup hl, ?_⟩
        split <;> simp
      | «local» => simp at q
      | cell => simp at q
      | _ => simp at v
  · rw [lookup_relabel] at h
    cases hl : scope.names.lookup y with
    | none => rw [hl] at h; simp at h
    | some k =>
      rw [hl] at h
      have hm := PySem.mem_of_lookup hl
      simp only [Option.map_some] at h
      cases k with
      | free => exact hm
      | cell => exact absurd rfl (nocell _ hm)
      | _ => simp at h
theorem CompScope.of {scope : Scope} {en : Env} {N M : List Str} (sc : Scope) (N₀ : List Str) (hsc : en.scope = sc) (hN : N = N₀) (kind : scope.kind = .function) (nocell : ∀ y ∈ scope.names, y.2 ≠ .cell) (locs : ∀ y ∈ scope.names, y.2 = .local → scope.names.lookup y.1 = some .local)
    (free : ∀ y ∈ scope.names, y.2 = .free → sc.names.lookup y.1 = some .cell ∨ sc.names.lookup y.1 = some .free) (len : M.length = N₀.length) (same : ((M.zip N₀).all (okPair scope)) = true) : CompScope scope en N M := CompScope.of' sc N₀ hsc hN kind nocell locs free len same
theorem hg_one {v : V} {σ : St} {H : Hp} {Q : St → Hp → Prop} (h : gName 0 v (List.replicate 1 none ++ σ) H Q) : gName 0 v (List.replicate 1 none ++ σ) H fun σ2 H2 => (∃ l : St, l.length = 1 ∧ σ2 = l ++ σ) ∧ Q σ2 H2 :=
  ⟨⟨[some v], rfl, rfl⟩, h⟩
theorem comp_range {lo : Int} {n : Nat} {k : Nat} {g : TG} {tc : TT} {te : TE} {σ : St} {H : Hp} {Q : VK} {d : Addr} (Pv : Nat → Hp → Prop) (h0 : Pv 0 (upd H d (.lst [])))
    (hs : ∀ i H, i < n → Pv i H → g (.int (lo + i)) (List.replicate k none ++ σ) H fun σ2 H2 => tc σ2 H2 fun b H3 => if b = true then te σ2 H3 fun y H4 => ∃ ys, H4 d = some (.lst ys) ∧ ys.length < sizeLine ∧ Pv (i + 1) (upd H4 d (.lst (ys ++ [y]))) else Pv (i + 1) H3)
    (hd : ∀ H, Pv n H → Q (.ref d) H) :
    ∃ W : Nat → Nat → Hp → Prop, (∃ m, W 0 m (upd H d (.lst []))) ∧ ∀ i m H, W i m H →
      ((Itr lo n).stop i H ∧ Q (.ref d) H) ∨ ((Itr lo n).go i H ∧ ∃ N : Hp → Prop, (∀ H', N H' → ∃ m', m' < m ∧ W (i + 1) m' H') ∧ ∀ x H', (Itr lo n).yld i H x H' → g x (List.replicate k none ++ σ) H' fun σ2 H2 =>
        tc σ2 H2 fun b H3 => if b = true then te σ2 H3 fun y H4 => ∃ ys, H4 d = some (.lst ys) ∧ ys.length < sizeLine ∧ N (upd H4 d (.lst (ys ++ [y]))) else N H3) := by
  refine ⟨fun i m H => m = n - i ∧ i ≤ n ∧ Pv i H, ⟨n, by simp, Nat.zero_le _, h0⟩, ?_⟩
  rintro i m H ⟨rfl, hi, p⟩
  by_cases hlt : i < n
  · refine .inr ⟨hlt, Pv (i + 1), fun H' p' => ⟨n - (i + 1), by omega, rfl, hlt, p'⟩, fun x H' y => ?_⟩
    obtain ⟨e, y⟩ := y
    subst e y
    exact hs i _ hlt p
  · have e : i = n := by omega
    subst e
    exact .inl ⟨Nat.le_refl _, hd H p⟩
theorem comp_tup {K : PySem.W.Frag} {a : Addr} {xs : List V} {k : Nat} {g : TG} {tc : TT} {te : TE} {σ : St} {H : Hp} {Q : VK} {d : Addr} (Pv : Nat → Hp → Prop) (h0 : Pv 0 (upd H d (.lst []))) (hl : ∀ i H, i ≤ xs.length → Pv i H → SqT K H a xs)
    (hs : ∀ i x H, xs[i]? = some x → Pv i H → g x (List.replicate k none ++ σ) H fun σ2 H2 => tc σ2 H2 fun b H3 => if b = true then te σ2 H3 fun y H4 => ∃ ys, H4 d = some (.lst ys) ∧ ys.length < sizeLine ∧ Pv (i + 1) (upd H4 d (.lst (ys ++ [y]))) else Pv (i + 1) H3)
    (hd : ∀ H, Pv xs.length H → Q (.ref d) H) :
    ∃ W : Nat → Nat → Hp → Prop, (∃ m, W 0 m (upd H d (.lst []))) ∧ ∀ i m H, W i m H →
      ((Itt K a).stop i H ∧ Q (.ref d) H) ∨ ((Itt K a).go i H ∧ ∃ N : Hp → Prop, (∀ H', N H' → ∃ m', m' < m ∧ W (i + 1) m' H') ∧ ∀ x H', (Itt K a).yld i H x H' → g x (List.replicate k none ++ σ) H' fun σ2 H2 =>
        tc σ2 H2 fun b H3 => if b = true then te σ2 H3 fun y H4 => ∃ ys, H4 d = some (.lst ys) ∧ ys.length < sizeLine ∧ N (upd H4 d (.lst (ys ++ [y]))) else N H3) := by
  refine ⟨fun i m H => m = xs.length - i ∧ i ≤ xs.length ∧ Pv i H, ⟨xs.length, by simp, Nat.zero_le _, h0⟩, ?_⟩
  rintro i m H ⟨rfl, hi, p⟩
  have q := hl i H hi p
  by_cases hlt : i < xs.length
  · refine .inr ⟨⟨xs, xs[i], q, by simp [hlt]⟩, Pv (i + 1), fun H' p' => ⟨xs.length - (i + 1), by omega, rfl, hlt, p'⟩, fun x H' y => ?_⟩
    obtain ⟨e, y⟩ := y
    subst e
    exact hs i x _ (y xs q) p
  · have e : i = xs.length := by omega
    subst e
    exact .inl ⟨⟨xs, q, Nat.le_refl _⟩, hd H p⟩
theorem comp_list {K : PySem.W.Frag} {a : Addr} {xs : List V} {k : Nat} {g : TG} {tc : TT} {te : TE} {σ : St} {H : Hp} {Q : VK} {d : Addr} (Pv : Nat → Hp → Prop) (h0 : Pv 0 (upd H d (.lst []))) (hl : ∀ i H, i ≤ xs.length → Pv i H → SqL K H a xs)
    (hs : ∀ i x H, xs[i]? = some x → Pv i H → g x (List.replicate k none ++ σ) H fun σ2 H2 => tc σ2 H2 fun b H3 => if b = true then te σ2 H3 fun y H4 => ∃ ys, H4 d = some (.lst ys) ∧ ys.length < sizeLine ∧ Pv (i + 1) (upd H4 d (.lst (ys ++ [y]))) else Pv (i + 1) H3)
    (hd : ∀ H, Pv xs.length H → Q (.ref d) H) :
    ∃ W : Nat → Nat → Hp → Prop, (∃ m, W 0 m (upd H d (.lst []))) ∧ ∀ i m H, W i m H →
      ((Itl K a).stop i H ∧ Q (.ref d) H) ∨ ((Itl K a).go i H ∧ ∃ N : Hp → Prop, (∀ H', N H' → ∃ m', m' < m ∧ W (i + 1) m' H') ∧ ∀ x H', (Itl K a).yld i H x H' → g x (List.replicate k none ++ σ) H' fun σ2 H2 =>
        tc σ2 H2 fun b H3 => if b = true then te σ2 H3 fun y H4 => ∃ ys, H4 d = some (.lst ys) ∧ ys.length < sizeLine ∧ N (upd H4 d (.lst (ys ++ [y]))) else N H3) := by
  refine ⟨fun i m H => m = xs.length - i ∧ i ≤ xs.length ∧ Pv i H, ⟨xs.length, by simp, Nat.zero_le _, h0⟩, ?_⟩
  rintro i m H ⟨rfl, hi, p⟩
  have q := hl i H hi p
  by_cases hlt : i < xs.length
  · refine .inr ⟨⟨xs, xs[i], q, by simp [hlt]⟩, Pv (i + 1), fun H' p' => ⟨xs.length - (i + 1), by omega, rfl, hlt, p'⟩, fun x H' y => ?_⟩
    obtain ⟨e, y⟩ := y
    subst e
    exact hs i x _ (y xs q) p
  · have e : i = xs.length := by omega
    subst e
    exact .inl ⟨⟨xs, q, Nat.le_refl _⟩, hd H p⟩
theorem b_all : bootBuiltins "all" = some (.builtin "all") := by decide +kernel
theorem b_sum : bootBuiltins "sum" = some (.builtin "sum") := by decide +kernel
theorem b_list : bootBuiltins "list" = some (.type "list") := by decide +kernel
theorem b_tuple : bootBuiltins "tuple" = some (.type "tuple") := by decide +kernel
theorem PE.imp {X : Cx} {e : Expr} {t t' : TE} (h : PE X e t) (hi : ∀ σ H Q, t' σ H Q → t σ H Q) : PE X e t' := fun pins s σ H Q I q => h pins s σ H Q I (hi σ H Q q)
def turnC (tc : TT) (te : TE) (σ : St) (d : Addr) (x : V) (H : Hp) (Z : Hp → Prop) : Prop :=
  tc (some x :: σ) H fun b H3 => if b = true then te (some x :: σ) H3 fun y H4 => ∃ ys, H4 d = some (.lst ys) ∧ ys.length < sizeLine ∧ Z (upd H4 d (.lst (ys ++ [y]))) else Z H3
def tCompR1 (ta : TA) (tc : TT) (te : TE) : TE := fun σ H Q => ta σ H fun vs H1 => ∃ j : Int, vs = [.int j] ∧ -(2 ^ 62) ≤ j ∧ j < 2 ^ 62 ∧ ∀ d, H1 d = none →
  ∃ Pv : Nat → Hp → Prop, Pv 0 (upd H1 d (.lst [])) ∧ (∀ i H, i < j.toNat → Pv i H → turnC tc te σ d (.int (0 + i)) H (Pv (i + 1))) ∧ ∀ H, Pv j.toNat H → Q (.ref d) H
def tCompR2 (ta : TA) (tc : TT) (te : TE) : TE := fun σ H Q => ta σ H fun vs H1 => ∃ lo hi : Int, vs = [.int lo, .int hi] ∧ (-(2 ^ 62) ≤ lo ∧ lo < 2 ^ 62 ∧ -(2 ^ 62) ≤ hi ∧ hi < 2 ^ 62) ∧ ∀ d, H1 d = none →
  ∃ Pv : Nat → Hp → Prop, Pv 0 (upd H1 d (.lst [])) ∧ (∀ i H, i < (hi - lo).toNat → Pv i H → turnC tc te σ d (.int (lo + i)) H (Pv (i + 1))) ∧ ∀ H, Pv (hi - lo).toNat H → Q (.ref d) H
def tCompL (K : PySem.W.Frag) (tl : TE) (tc : TT) (te : TE) : TE := fun σ H Q => tl σ H fun v H1 => ∃ a xs, v = .ref a ∧ SqL K H1 a xs ∧ ∀ d, H1 d = none →
  ∃ Pv : Nat → Hp → Prop, Pv 0 (upd H1 d (.lst [])) ∧ (∀ i H, i ≤ xs.length → Pv i H → SqL K H a xs) ∧ (∀ i x H, xs[i]? = some x → Pv i H → turnC tc te σ d x H (Pv (i + 1))) ∧ ∀ H, Pv xs.length H → Q (.ref d) H
def tCompT (K : PySem.W.Frag) (tl : TE) (tc : TT) (te : TE) : TE := fun σ H Q => tl σ H fun v H1 => ∃ a xs, v = .ref a ∧ SqT K H1 a xs ∧ ∀ d, H1 d = none →
  ∃ Pv : Nat → Hp → Prop, Pv 0 (upd H1 d (.lst [])) ∧ (∀ i H, i ≤ xs.length → Pv i H → SqT K H a xs) ∧ (∀ i x H, xs[i]? = some x → Pv i H → turnC tc te σ d x H (Pv (i + 1))) ∧ ∀ H, Pv xs.length H → Q (.ref d) H
def MonoE (t : TE) : Prop := ∀ σ H (Q Q' : VK), (∀ v H1, Q v H1 → Q' v H1) → t σ H Q → t σ H Q'
def MonoA (t : TA) : Prop := ∀ σ H (Q Q' : List V → Hp → Prop), (∀ v H1, Q v H1 → Q' v H1) → t σ H Q → t σ H Q'
section
variable {X : Cx} {elt iter : Expr} {tg : Str} {tp : Pos} {cs : List Expr} {scope : Scope} {pos : Pos} {tc : TT} {te : TE} {M : List Str}
abbrev Inner (X : Cx) (scope : Scope) (tg : Str) (M : List Str) (cs : List Expr) (elt : Expr) (tc : TT) (te : TE) : Prop :=
  ∀ (cl : List (Str × Addr)) (C : Addr) (s0 : Shared) (H0 : Hp) (fp : List Addr), PTs (cxC X scope cl C s0 H0 fp (tg :: M)) cs tc ∧ PE (cxC X scope cl C s0 H0 fp (tg :: M)) elt te
theorem pe_compG {wi : TI} {t : TE} (hc : X.calm = true) (S : CompScope scope X.env X.N M) (nd : (tg :: M).Nodup) (hl : scope.names.lookup tg = some .local) (hi : PI X (.Name tg tp) iter wi) (hin : Inner X scope tg M cs elt tc te)
    (ht : ∀ σ H Q, t σ H Q → tComp 1 wi (gName 0) tc te σ H Q) (hs : ∀ x, foldedSetIterable iter X.env x = pure x) : PE X (.ListComp elt [⟨.Name tg tp, iter, cs, 0⟩] scope pos) t := by
  have hx : (relabel scope X.env).names.lookup tg = some .local := by
    rw [lookup_relabel, hl]
    rfl
  exact PE.imp (pe_comp (xs := [tg]) (M := M) hc S hi (fun cl C s0 H0 fp => ⟨pg_name (i := 0) nd rfl (Or.inl hx) (Or.inr hx), hin cl C s0 H0 fp⟩) (fun v σ H Q h => hg_one h) hs) ht
theorem pe_compR1 {a : Expr} {ta : TA} {p pos' : Pos} (hc : X.calm = true) (S : CompScope scope X.env X.N M) (nd : (tg :: M).Nodup) (hl : scope.names.lookup tg = some .local) (hg : Gl X "range") (hm : X.mg "range" = none) (ha : PA X [a] ta) (mo : MonoA ta)
    (hin : Inner X scope tg M cs elt tc te) (hs : starEach [a] X.env = [(false, eval a X.env)] := by rfl) (hf : ∀ x, foldedSetIterable (.Call (.Name "range" p) [a] [] pos') X.env x = pure x := by intro _; rfl) :
    PE X (.ListComp elt [⟨.Name tg tp, .Call (.Name "range" p) [a] [] pos', cs, 0⟩] scope pos) (tCompR1 ta tc te) := by
  refine pe_compG hc S nd hl (pi_range1 hg hm ha hs) hin (fun σ H Q h => ?_) hf
  refine mo σ H _ _ (fun vs H1 q => ?_) h
  obtain ⟨j, e, j1, j2, q⟩ := q
  refine ⟨j, e, j1, j2, fun d hd => ?_⟩
  obtain ⟨Pv, h0, hs, hd⟩ := q d hd
  exact comp_range (k := 1) (g := gName 0) Pv h0 hs hd
theorem pe_compR2 {a b : Expr} {ta : TA} {p pos' : Pos} (hc : X.calm = true) (S : CompScope scope X.env X.N M) (nd : (tg :: M).Nodup) (hl : scope.names.lookup tg = some .local) (hg : Gl X "range") (hm : X.mg "range" = none) (ha : PA X [a, b] ta) (mo : MonoA ta)
    (hin : Inner X scope tg M cs elt tc te) (hs : starEach [a, b] X.env = [(false, eval a X.env), (false, eval b X.env)] := by rfl) (hs2 : starEach [b] X.env = [(false, eval b X.env)] := by rfl) (hf : ∀ x, foldedSetIterable (.Call (.Name "range" p) [a, b] [] pos') X.env x = pure x := by intro _; rfl) :
    PE X (.ListComp elt [⟨.Name tg tp, .Call (.Name "range" p) [a, b] [] pos', cs, 0⟩] scope pos) (tCompR2 ta tc te) := by
  refine pe_compG hc S nd hl (pi_range2 hg hm ha hs hs2) hin (fun σ H Q h => ?_) hf
  refine mo σ H _ _ (fun vs H1 q => ?_) h
  obtain ⟨lo, hi, e, j1, q⟩ := q
  refine ⟨lo, hi, e, j1, fun d hd => ?_⟩
  obtain ⟨Pv, h0, hs, hd⟩ := q d hd
  exact comp_range (k := 1) (g := gName 0) Pv h0 hs hd
theorem pe_compL {tl : TE} (hc : X.calm = true) (S : CompScope scope X.env X.N M) (nd : (tg :: M).Nodup) (hl : scope.names.lookup tg = some .local) (hi : PE X iter tl) (mo : MonoE tl)
    (hin : Inner X scope tg M cs elt tc te) (hf : ∀ x, foldedSetIterable iter X.env x = pure x := by intro _; rfl) : PE X (.ListComp elt [⟨.Name tg tp, iter, cs, 0⟩] scope pos) (tCompL X.K tl tc te) := by
  refine pe_compG hc S nd hl (pi_list hi) hin (fun σ H Q h => ?_) hf
  refine mo σ H _ _ (fun v H1 q => ?_) h
  obtain ⟨a, xs, e, j1, q⟩ := q
  refine ⟨a, e, ⟨xs, j1⟩, fun d hd => ?_⟩
  obtain ⟨Pv, h0, hl, hs, hd⟩ := q d hd
  exact comp_list (k := 1) (g := gName 0) Pv h0 hl hs hd
theorem pe_compT {tl : TE} (hc : X.calm = true) (S : CompScope scope X.env X.N M) (nd : (tg :: M).Nodup) (hl : scope.names.lookup tg = some .local) (hi : PE X iter tl) (mo : MonoE tl)
    (hin : Inner X scope tg M cs elt tc te) (hf : ∀ x, foldedSetIterable iter X.env x = pure x := by intro _; rfl) : PE X (.ListComp elt [⟨.Name tg tp, iter, cs, 0⟩] scope pos) (tCompT X.K tl tc te) := by
  refine pe_compG hc S nd hl (pi_tup hi) hin (fun σ H Q h => ?_) hf
  refine mo σ H _ _ (fun v H1 q => ?_) h
  obtain ⟨a, xs, e, j1, q⟩ := q
  refine ⟨a, e, ⟨xs, j1⟩, fun d hd => ?_⟩
  obtain ⟨Pv, h0, hl, hs, hd⟩ := q d hd
  exact comp_tup (k := 1) (g := gName 0) Pv h0 hl hs hd
theorem ps_compG {wi : TI} {t : TE} {i : Nat} {x : Str} {pos1 spos : Pos} (hc : X.calm = true) (S : CompScope scope X.env X.N M) (nd : (tg :: M).Nodup) (hl : scope.names.lookup tg = some .local) (hi : PI X (.Name tg tp) iter wi) (hin : Inner X scope tg M cs elt tc te)
    (ht : ∀ σ H Q, t σ H Q → tComp 1 wi (gName 0) tc te σ H Q) (hN : X.N.Nodup) (hix : X.N[i]? = some x) (hx : X.env.scope.names.lookup x = some .local) (hw : swapsWith (.ListComp elt [⟨.Name tg tp, iter, cs, 0⟩] scope pos) (some (.Name x pos1)) spos.line X.env = pure true) (hs : ∀ x, foldedSetIterable iter X.env x = pure x) :
    PS X (.Assign [.Name x pos1] (.ListComp elt [⟨.Name tg tp, iter, cs, 0⟩] scope pos) spos) (tAsg t (gName i)) := by
  have hx' : (relabel scope X.env).names.lookup tg = some .local := by
    rw [lookup_relabel, hl]
    rfl
  intro pins s σ H D I h
  exact ps_comp (xs := [tg]) (M := M) hc S hi (fun cl C s0 H0 fp => ⟨pg_name (i := 0) nd rfl (Or.inl hx') (Or.inr hx'), hin cl C s0 H0 fp⟩) (fun v σ H Q h => hg_one h) hN hix hx hw hs pins s σ H D I (ht _ _ _ h)
end
theorem turn_all {te : TE} {σ : St} {d : Addr} {x : V} {H : Hp} {Z : Hp → Prop} (h : te (some x :: σ) H fun y H4 => ∃ ys, H4 d = some (.lst ys) ∧ ys.length < sizeLine ∧ Z (upd H4 d (.lst (ys ++ [y])))) : turnC tTrue te σ d x H Z := by
  unfold turnC tTrue
  exact iteT h
theorem mo_var {i : Nat} : MonoE (tVar i) := fun _ _ _ _ h ⟨v, e, q⟩ => ⟨v, e, h _ _ q⟩
theorem mo_c {v : V} : MonoE (tC v) := fun _ _ _ _ h q => h _ _ q
theorem mo_nil : MonoA tNil := fun _ _ _ _ h q => h _ _ q
theorem mo_cons {te : TE} {ta : TA} (h1 : MonoE te) (h2 : MonoA ta) : MonoA (tCons te ta) := fun σ H Q Q' h q => h1 σ H _ _ (fun v H1 q1 => h2 σ H1 _ _ (fun vs H2 q2 => h _ _ q2) q1) q
theorem mo_op {r : R2} {ta tb : TE} (hr : ∀ x y H (Q Q' : VK), (∀ v H1, Q v H1 → Q' v H1) → r x y H Q → r x y H Q') (h1 : MonoE ta) (h2 : MonoE tb) : MonoE (tOp r ta tb) := fun σ H Q Q' h q =>
  h1 σ H _ _ (fun v H1 q1 => h2 σ H1 _ _ (fun u H2 q2 => hr _ _ _ _ _ h q2) q1) q
theorem mo_rI0 {g : Int → Int → V} : ∀ x y H (Q Q' : VK), (∀ v H1, Q v H1 → Q' v H1) → rI0 g x y H Q → rI0 g x y H Q' := fun _ _ _ _ _ h ⟨i, j, e1, e2, q⟩ => ⟨i, j, e1, e2, h _ _ q⟩
theorem mo_len {K : PySem.W.Frag} {ta : TA} (h1 : MonoA ta) : MonoE (tCB (fun xs H Q => ∃ p ys, xs = [.ref p] ∧ (SqL K H p ys ∨ SqT K H p ys) ∧ Q (.int (ys.length : Nat)) H) ta) := fun σ H Q Q' h q =>
  h1 σ H _ _ (fun vs H1 ⟨p, ys, e, s, q1⟩ => ⟨p, ys, e, s, h _ _ q1⟩) q
end L2
set_option Elab.async false
set_option linter.all false
set_option maxRecDepth 100000
namespace L2
open PySem PySem.Spec PyProof.Rows
abbrev TW (H : Hp) (a : Addr) (ns : List Int) : Prop := H a = some (.tup (ns.map V.int))
abbrev Wd (H : Hp) (x : V) (w : List Int) : Prop := RTup H RInt x w
abbrev Ws (H : Hp) (xs : List V) (ws : List (List Int)) : Prop := Paired (RTup H RInt) xs ws
theorem Wd.ti {H : Hp} {x : V} {w : List Int} (h : Wd H x w) : ∃ a, x = .ref a ∧ TW H a w := by
  obtain ⟨a, xs, rfl, e, p⟩ := h
  exact ⟨a, rfl, by show H a = _; rw [e, Paired.ofInts p]⟩
theorem Wd.of {H : Hp} {a : Addr} {w : List Int} (h : TW H a w) : Wd H (.ref a) w := rtup_ints h
theorem Wd.same {H H' : Hp} {x : V} {w : List Int} (sm : Same H H') (h : Wd H x w) : Wd H' x w := by
  obtain ⟨a, xs, rfl, e, p⟩ := h
  exact ⟨a, xs, rfl, sm _ _ e, p⟩
theorem Ws.same {H H' : Hp} {xs : List V} {ws : List (List Int)} (sm : Same H H') (h : Ws H xs ws) : Ws H' xs ws := Paired.mapP h fun _ _ q => Wd.same sm q
section
variable {α β : Type} {R : α → β → Prop}
theorem Paired.appendP : ∀ {xs ys : List α} {ds es : List β}, Paired R xs ds → Paired R ys es → Paired R (xs ++ ys) (ds ++ es)
  | _, _, _, _, .nil, s => s
  | _, _, _, _, .cons r t, s => .cons r (Paired.appendP t s)
theorem Paired.left_of : ∀ {xs : List α} {ds : List β}, Paired R xs ds → ∀ (j : Nat) (d : β), ds[j]? = some d → ∃ x, xs[j]? = some x ∧ R x d
  | _, _, .nil, j, x, e => by simp at e
  | _, _, .cons r t, 0, x, e => by simp at e; subst e; exact ⟨_, rfl, r⟩
  | _, _, .cons r t, j + 1, x, e => by
    obtain ⟨d, e1, e2⟩ := Paired.left_of t j x (by simpa using e)
    exact ⟨d, by simpa using e1, e2⟩
end
theorem at_nat {xs : List V} {i : Nat} {x : V} (h : xs[i]? = some x) : atI xs (i : Int) = some x := atI_nat h
theorem at_int {ns : List Int} {k : Nat} {x : Int} (h : ns[k]? = some x) : atI (ns.map V.int) (k : Int) = some (.int x) := atI_nat (by rw [List.getElem?_map, h]; rfl)
theorem hu4 {A : Around} {k : Nat} (hr : Room k A) : A.units + 4 < cLine := by have := hr.units; omega
theorem small {n : Nat} (h : n ≤ 1000) : n ≤ sizeLine := Nat.le_of_lt (small1000 h)
theorem cut_to (xs : List V) (n : Nat) : cutV xs none (some (n : Int)) = xs.take n := by
  unfold cutV
  rw [HT.sIx_nat, HT.sIx_none]
  simp [List.take_eq_take_iff]
theorem cut_from (xs : List V) (n : Nat) : cutV xs (some (n : Int)) none = xs.drop n := by
  unfold cutV
  rw [HT.sIx_nat, HT.sIx_none]
  by_cases h : n ≤ xs.length
  · rw [Nat.min_eq_left h]
    exact List.take_of_length_le (by rw [List.length_drop]; omega)
  · rw [Nat.min_eq_right (by omega), List.drop_eq_nil_of_le (Nat.le_refl _), List.drop_eq_nil_of_le (by omega)]
    simp
theorem cutLit (xs : List V) (i : Int) (h : 0 ≤ i) : cutV xs none (some i) = xs.take i.toNat := by
  obtain ⟨n, rfl⟩ : ∃ n : Nat, i = n := ⟨i.toNat, by omega⟩
  rw [cut_to]; rfl
theorem same_upd {H H1 : Hp} {d : Addr} {o : HO} (h : H d = none) (sm : Same H H1) : Same H (upd H1 d o) := fun b u q => by rw [upd_ne (ne_of_none q h)]; exact sm b u q
structure Fns (P : Program) (w : World) (K : PySem.W.Frag) (mg : Str → Option Value) (base : Heap) (ps : List Str) (name : Str) (sp : Sp) (k : Nat) where
  g : Addr
  gd : FuncData
  ok : FnOk P w K mg base CX0 k g gd ps sp
  b : Binds K gd ps []
  kp : PySem.W.keepIn K (.ref g) = true
  m : mg name = some (.ref g)
def Fns.up {P : Program} {w : World} {K : PySem.W.Frag} {mg : Str → Option Value} {base : Heap} {ps : List Str} {name : Str} {sp : Sp} {j k : Nat} (f : Fns P w K mg base ps name sp j) (h : j ≤ k) : Fns P w K mg base ps name sp k := ⟨f.g, f.gd, f.ok.mono h, f.b, f.kp, f.m⟩
end L2
set_option Elab.async false
set_option linter.all false
set_option maxRecDepth 100000
namespace L2
open PySem PySem.Spec PyProof.Rows
def tMid (t : TS) : TS := fun D σ H => ∃ Mid : St → Hp → Prop, t { D with nx := Mid } σ H ∧ ∀ σ' H', Mid σ' H' → D.nx σ' H'
theorem ps_mid {X : Cx} {st : Stmt} {t : TS} (h : PS X st t) : PS X st (tMid t) := by
  intro pins s σ H D I ⟨Mid, h1, h2⟩
  refine thn (h pins s σ H _ I h1) fun fl s' q => ?_
  cases fl with
  | next => obtain ⟨σ', H', I', m⟩ := q; exact ⟨σ', H', I', h2 _ _ m⟩
  | brk => exact q
  | cont => exact q
  | ret u => exact q
def eMid (t : TE) : TE := fun σ H Q => ∃ Mid : V → Hp → Prop, t σ H Mid ∧ ∀ v H', Mid v H' → Q v H'
theorem pe_mid {X : Cx} {e : Expr} {t : TE} (h : PE X e t) : PE X e (eMid t) := by
  intro pins s σ H Q I ⟨Mid, h1, h2⟩
  exact thn (h pins s σ H _ I h1) fun u s' ⟨v, H', I', r, m⟩ => ⟨v, H', I', r, h2 _ _ m⟩
theorem mo_mid {t : TE} : MonoE (eMid t) := fun σ H Q Q' h ⟨Mid, h1, h2⟩ => ⟨Mid, h1, fun v H' m => h _ _ (h2 v H' m)⟩
theorem ixL {X : Cx} (K : PySem.W.Frag) (h : X.K = K := by rfl) : IxR X (rIxL K) := by subst h; exact ix_list
theorem ixT {X : Cx} (K : PySem.W.Frag) (h : X.K = K := by rfl) : IxR X (rIxT K) := by subst h; exact ix_tup
theorem Wd.upd {H : Hp} {l : Addr} {ls ls' : List V} {x : V} {w : List Int} (hl : H l = some (.lst ls)) (h : Wd H x w) : Wd (upd H l (.lst ls')) x w := by
  obtain ⟨a, xs, rfl, e, p⟩ := h
  exact ⟨a, xs, rfl, by rw [upd_ne (ne_of e hl (by intro z; cases z))]; exact e, p⟩
theorem Ws.upd {H : Hp} {l : Addr} {ls ls' xs : List V} {ws : List (List Int)} (hl : H l = some (.lst ls)) (h : Ws H xs ws) : Ws (upd H l (.lst ls')) xs ws := Paired.mapP h fun _ _ q => Wd.upd hl q
section
variable {X : Cx} {elt iter : Expr} {tg : Str} {tp : Pos} {cs : List Expr} {scope : Scope} {pos : Pos} {tc : TT} {te : TE} {M : List Str}
end
end L2
set_option Elab.async false
set_option linter.all false
set_option maxRecDepth 100000
namespace L2
open PySem PySem.Spec PyProof.Rows
def ExcAt (h : Heap) (e : Addr) (cls : Value) (od : Option Addr) (hd : Value) : Prop := ∃ oe vs, h.get? e = some oe ∧ oe.cls = cls ∧ oe.dict = od ∧ oe.data = .fields vs ∧ vs[1]? = some hd
def TbAt (h : Heap) (T : Addr) (fl : Value) : Prop := ∃ oT ts, h.get? T = some oT ∧ oT.data = .fields ts ∧ ts[3]? = some fl
def Mv (S fs : List Addr) (h h' : Heap) : Prop := ∀ b o, h.get? b = some o → b ∉ S → (b ∉ fs → h'.get? b = some o) ∧ ∃ sl, h'.get? b = some { o with slots := sl }
section
variable {S S' fs : List Addr} {h h1 h2 : Heap}
end
section
variable {M : Model} {A : Around} {E : Value → Shared → Prop} {s : Shared} {env : Env} {outer : List Env} {base : Heap} {L e T : Addr} {cls hd fl head : Value} {od : Option Addr} {S : List Addr} {Q : Unit → Shared → Prop}
def Loose (h : Heap) (e : Addr) (cls : Value) (od : Option Addr) (S : List Addr) : Prop :=
  e ∈ S ∧ (∀ b ∈ S, ∀ o, h.get? b = some o → ∃ vs, o.data = .fields vs) ∧ ∃ hd, ExcAt h e cls od hd ∧ (hd = .none ∨ ∃ T, T ∈ S ∧ hd = .ref T ∧ T ≠ e ∧ TbAt h T .none)
end
section
variable {X : Cx} {pins : List (Addr × Obj)} {σ : St} {H H' : Hp} {s : Shared} {h' : Heap} {b : Addr} {S : List Addr}
end
def CXF (P : Program) (w : World) : CXT := fun outer H s E e s' => ∃ (ea : Addr) (cls : Value) (od : Option Addr) (S : List Addr) (H' : Hp), e = .ref ea ∧ s'.os = s.os ∧ AllBare s'.gens ∧
  Un (frs outer) [] H H' s.heap s'.heap ∧ HOk P w H' s'.heap ∧ Loose s'.heap ea cls od S ∧ (∀ b ∈ S, s.heap.get? b = none ∧ H' b = none) ∧ E cls od H'
section
variable {P : Program} {w : World} {K : PySem.W.Frag} {mg : Str → Option Value} {base : Heap} {N : List Str} {qual : Str} {scope : Scope} {f : Addr} {cd : Value} {A : Around} {outer : List Env} {s₀ : Shared} {H₀ : Hp} {E : XK}
end
abbrev Cx.hand (X : Cx) (ea : Addr) : Cx := { X with A := X.A.mark (some (.ref ea)), calm := false, xe := fun _ _ => False }
section
variable {X : Cx} {pins pins' : List (Addr × Obj)} {σ : St} {H : Hp} {s : Shared} {h' : Heap} {ea : Addr} {xe : Value → Shared → Prop}
end
end L2
set_option Elab.async false
set_option linter.all false
set_option maxRecDepth 100000
namespace L2
open PySem PySem.Spec PyProof.Rows
def tMidT (t : TT) : TT := fun σ H Q => ∃ Mid : Bool → Hp → Prop, t σ H Mid ∧ ∀ b H', Mid b H' → Q b H'
theorem pt_mid {X : Cx} {e : Expr} {t : TT} (h : PT X e t) : PT X e (tMidT t) := by
  intro pins s σ H Q I ⟨Mid, h1, h2⟩
  exact thn (h pins s σ H _ I h1) fun b s' ⟨H', I', m⟩ => ⟨H', I', h2 _ _ m⟩
end L2
set_option Elab.async false
set_option linter.all false
set_option maxRecDepth 100000
namespace L2
open PySem PySem.Spec PyProof.Rows
section
variable {K : PySem.W.Frag} {prog : Program} {w : World} {A : Around} {E : Value → Shared → Prop} {s : Shared} {x C : Addr} {ox : Obj} {od : Option Obj} {name : Str} {tk : Tok}
end
section
variable {K : PySem.W.Frag} {C D : Addr}
end
structure Fns' (P : Program) (w : World) (K : PySem.W.Frag) (mg : Str → Option Value) (base : Heap) (ps : List Str) (name : Str) (sp : Sp) (k : Nat) where
  g : Addr
  gd : FuncData
  ok : FnOk P w K mg base (CXF P w) k g gd ps sp
  b : Binds K gd ps []
  kp : PySem.W.keepIn K (.ref g) = true
  m : mg name = some (.ref g)
def Fns'.up {P : Program} {w : World} {K : PySem.W.Frag} {mg : Str → Option Value} {base : Heap} {ps : List Str} {name : Str} {sp : Sp} {j k : Nat} (f : Fns' P w K mg base ps name sp j) (h : j ≤ k) : Fns' P w K mg base ps name sp k := ⟨f.g, f.gd, f.ok.mono h, f.b, f.kp, f.m⟩
end L2
set_option Elab.async false
set_option linter.all false
set_option maxRecDepth 100000
namespace L2
open PySem PySem.Spec PyProof.Rows
def SIt : Bool → Heap → Addr → Addr → Nat → Prop
  | true, h, i, l, n => h.IsTupleIter i l n
  | false, h, i, l, n => h.IsListIter i l n
def SAt : Bool → Heap → Addr → Array Value → Prop
  | true, h, l, xs => h.IsTuple l xs
  | false, h, l, xs => h.IsList l xs
theorem SIt.at {k : Bool} {h h' : Heap} {i l : Addr} {n : Nat} (x : SIt k h i l n) (e : ∀ o, h.get? i = some o → h'.get? i = some o) : SIt k h' i l n := by
  cases k with
  | true => obtain ⟨o, ho, r⟩ := x; exact ⟨o, e o ho, r⟩
  | false => obtain ⟨o, ho, r⟩ := x; exact ⟨o, e o ho, r⟩
theorem SIt.obj {k : Bool} {h : Heap} {i l : Addr} {n : Nat} (x : SIt k h i l n) : ∃ o, h.get? i = some o ∧ ∀ v, o.data ≠ .cell v := by
  cases k with
  | true => obtain ⟨o, ho, _, d⟩ := x; exact ⟨o, ho, fun v z => by rw [d] at z; cases z⟩
  | false => obtain ⟨o, ho, _, d⟩ := x; exact ⟨o, ho, fun v z => by rw [d] at z; cases z⟩
theorem SAt.at {k : Bool} {h h' : Heap} {l : Addr} {xs : Array Value} (x : SAt k h l xs) (e : ∀ o, h.get? l = some o → h'.get? l = some o) : SAt k h' l xs := by
  cases k with
  | true => obtain ⟨o, ho, r⟩ := x; exact ⟨o, e o ho, r⟩
  | false => obtain ⟨o, ho, r⟩ := x; exact ⟨o, e o ho, r⟩
section
variable {prog : Program} {w : World} {A : Around} {E : Value → Shared → Prop} {s : Shared} {k : Bool} {it l : Addr} {i : Nat} {xs : Array Value} {x : Value} {Q : Value → Shared → Prop}
theorem nextS (hit : SIt k s.heap it l i) (hl : SAt k s.heap l xs) (hx : xs[i]? = some x) (hQ : ∀ h', SIt k h' it l (i + 1) → Heap.SameBut it s.heap h' → Q x { s with heap := h' }) :
    wpAny (model prog w) A (Builtin.SmallTypes.nextOf (.ref it)) Q E s := by
  cases k with
  | false => exact wpAny_nextOf_list_item hit hl hx hQ
  | true =>
    have hit' : s.heap.IsTupleIter it l i := hit
    obtain ⟨o, ho, hc, hd⟩ := id hit'
    obtain ⟨ol, hol, _, nl, hdl⟩ := hl
    unfold Builtin.SmallTypes.nextOf
    refine wpAny_bind (wpAny_callSpecial?_slot (name := Str.ofString "__next__") hit'.typeIs F.slot_tuple_iterator_next (wpAny_call_entry F.slot_tuple_iterator_next hit'.typeIs F.entry_tuple_iterator_next ?_ (F.args_tuple_iterator_next_1 _)))
    show wpAny _ _ (field (.ref it) 0 >>= _) _ _ s
    refine wpAny_bind (wpAny_field ho hd (x := .ref l) rfl ?_)
    show wpAny _ _ (if (Value.ref l == Value.none) = true then _ else _) _ _ s
    rw [if_neg (show ¬ ((Value.ref l == Value.none) = true) from Bool.false_ne_true)]
    show wpAny _ _ (field (.ref it) 1 >>= _) _ _ s
    refine wpAny_bind (wpAny_field ho hd (x := .int i 0) rfl (show wpAny _ _ (seqItems? (.ref l) >>= _) _ _ s from wpAny_bind (wpAny_seqItems hol hdl ?_)))
    simp only [Int.toNat_natCast, hx]
    refine wpAny_bind (wpAny_setField ho hd (by simp) (wpAny_pure ⟨x, rfl, wpAny_pure (hQ _ ?_ (Heap.SameBut.update ..))⟩))
    exact ⟨_, Heap.get?_update_self _ ho (Obj.isFreed_of_fields (Obj.data_mapFields hd _)), (Obj.cls_mapFields ..).trans hc, by rw [Obj.data_mapFields hd]; simp [rawInt]⟩
theorem endS (hh : A.handled = none) (hit : SIt k s.heap it l i) (hl : SAt k s.heap l xs) (hx : xs[i]? = none) (hE : ∀ h' e, Heap.ExtBut it s.heap h' → (∃ o, h'.get? e = some o ∧ o.cls = .type "StopIteration") → E (.ref e) { s with heap := h' }) :
    wpAny (model prog w) A (Builtin.SmallTypes.nextOf (.ref it)) Q E s := by
  cases k with
  | false => exact wpAny_nextOf_list_end hh hit hl hx hE
  | true =>
    have hit' : s.heap.IsTupleIter it l i := hit
    obtain ⟨o, ho, hc, hd⟩ := id hit'
    obtain ⟨ol, hol, _, nl, hdl⟩ := hl
    unfold Builtin.SmallTypes.nextOf
    refine wpAny_bind (wpAny_callSpecial?_slot (name := Str.ofString "__next__") hit'.typeIs F.slot_tuple_iterator_next (wpAny_call_entry F.slot_tuple_iterator_next hit'.typeIs F.entry_tuple_iterator_next ?_ (F.args_tuple_iterator_next_1 _)))
    show wpAny _ _ (field (.ref it) 0 >>= _) _ _ s
    refine wpAny_bind (wpAny_field ho hd (x := .ref l) rfl ?_)
    show wpAny _ _ (if (Value.ref l == Value.none) = true then _ else _) _ _ s
    rw [if_neg (show ¬ ((Value.ref l == Value.none) = true) from Bool.false_ne_true)]
    show wpAny _ _ (field (.ref it) 1 >>= _) _ _ s
    refine wpAny_bind (wpAny_field ho hd (x := .int i 0) rfl (show wpAny _ _ (seqItems? (.ref l) >>= _) _ _ s from wpAny_bind (wpAny_seqItems hol hdl ?_)))
    simp only [Int.toNat_natCast, hx]
    refine wpAny_bind (wpAny_rule (wpAny_bind (wpAny_setField ho hd (by simp) ?_)))
    show wpAny _ _ (newExc (.type "StopIteration") [] >>= _) _ _ _
    refine wpAny_bind ?_
    simp only [newExc, newTuple]
    refine wpAny_bind (wpAny_newObj_type ?_ (by size_fits))
    refine wpAny_bind (m := firstArgMember _ _) (wpAny_of_eq (a := Value.none) (by first | rfl | (simp only [firstArgMember]; rfl)) ?_)
    refine wpAny_newObj_type ?_ (by size_fits)
    simp only [raiseNew]
    refine wpAny_bind (wpAny_handled ?_)
    rw [show A.in1.handled = none from hh]
    refine wpAny_bind (wpAny_pure (wpAny_throw ?_))
    exact hE _ _ (((Heap.SameBut.update ..).extBut.push _).push _) ⟨_, Heap.get?_push_size _ rfl, rfl⟩
end
structure ZAt (ka kb : Bool) (z TI TO i1 i2 l1 l2 : Addr) (n : Nat) (h : Heap) : Prop where
  zp : IsZip h z TI TO .none
  ti : IsPair h TI (.ref i1) (.ref i2)
  to_ : ∃ a b, IsPair h TO a b
  a1 : SIt ka h i1 l1 n
  a2 : SIt kb h i2 l2 n
section
variable {prog : Program} {w : World} {A : Around} {E : Value → Shared → Prop} {s : Shared} {ka kb : Bool} {z TI TO i1 i2 l1 l2 : Addr} {n : Nat} {xs ys : Array Value} {x y : Value}
theorem zipS_item {Q : Value → Shared → Prop} (D : ZipApart z TI TO i1 i2 l1 l2) (Z : ZAt ka kb z TI TO i1 i2 l1 l2 n s.heap) (hl1 : SAt ka s.heap l1 xs) (hl2 : SAt kb s.heap l2 ys) (hx : xs[n]? = some x) (hy : ys[n]? = some y)
    (hQ : ∀ h', IsZip h' z TI TO (rawInt s.heap.objs.size) → IsPair h' TO x y → SIt ka h' i1 l1 (n + 1) → SIt kb h' i2 l2 (n + 1) → IsPair h' s.heap.objs.size x y →
      (∀ c o, c ≠ z → c ≠ TO → c ≠ i1 → c ≠ i2 → s.heap.get? c = some o → h'.get? c = some o) → Q (.ref s.heap.objs.size) { s with heap := h' }) :
    wpAny (model prog w) A (Builtin.«zip.__next__» ⟨[.ref z], []⟩) (fun fin s' => ∃ v, fin = .done (.ret v) ∧ Q v s') E s := by
  obtain ⟨hz, hTI, ⟨a, b, hTO⟩, h1, h2⟩ := Z
  show wpAny _ _ (field (.ref z) 2 >>= _) _ _ _
  refine wpAny_bind (wpAny_field hz rfl (x := .bool false) rfl ?_)
  show wpAny _ _ (field (.ref z) 3 >>= _) _ _ _
  refine wpAny_bind (wpAny_field hz rfl (x := .ref TI) rfl (wpAny_bind (wpAny_seqItems hTI rfl ?_)))
  show wpAny _ _ (Builtin.SmallTypes.ownedTupleIsFree (.ref z) >>= _) _ _ _
  refine wpAny_bind ?_
  unfold Builtin.SmallTypes.ownedTupleIsFree
  refine wpAny_bind (wpAny_field hz rfl (x := .none) rfl (wpAny_pure ?_))
  simp only [if_true]
  refine wpAny_bind (wpAny_rule (wpAny_bind (wpAny_field hz rfl (x := .ref TO) rfl (wpAny_bind (wpAny_setField_rec hz (by simp) fun g1 z1 b1 => ?_)))))
  have z1' : IsZip g1 z TI TO .ellipsis := z1
  have k1 : ∀ c o, c ≠ z → s.heap.get? c = some o → g1.get? c = some o := fun c o hc e => b1.extBut _ _ hc e
  refine wpAny_bind ?_
  simp only [List.zipIdx_cons, List.zipIdx_nil, List.forIn_cons, List.forIn_nil]
  refine wpAny_bind (wpAny_bind (wpAny_onRaise ?_))
  show wpAny _ _ (Builtin.SmallTypes.nextOf (.ref i1) >>= _) _ _ _
  refine wpAny_bind (nextS (s := { s with heap := g1 }) (h1.at fun o e => k1 _ o D.i1z e) (hl1.at fun o e => k1 _ o D.l1z e) hx fun g2 h12 b2 => wpAny_pure ?_)
  have k2 : ∀ c o, c ≠ z → c ≠ i1 → s.heap.get? c = some o → g2.get? c = some o := fun c o hc hd e => b2.extBut _ _ hd (k1 c o hc e)
  have o2 : IsPair g2 TO a b := k2 _ _ D.TOz D.TOi1 hTO
  refine wpAny_bind (wpAny_seqItems o2 rfl (wpAny_bind (wpAny_updateSeq_pair (s := { s with heap := g2 }) o2 fun g3 o3 b3 => ?_)))
  have o3' : IsPair g3 TO x b := o3
  refine wpAny_bind (wpAny_letGo (wpAny_pure ?_))
  refine wpAny_bind (wpAny_bind (wpAny_onRaise ?_))
  show wpAny _ _ (Builtin.SmallTypes.nextOf (.ref i2) >>= _) _ _ _
  have k3 : ∀ c o, c ≠ z → c ≠ i1 → c ≠ TO → s.heap.get? c = some o → g3.get? c = some o := fun c o hc hd he e => b3.extBut _ _ he (k2 c o hc hd e)
  refine wpAny_bind (nextS (s := { s with heap := g3 }) (h2.at fun o e => k3 _ o D.i2z D.i12.symm D.TOi2.symm e) (hl2.at fun o e => k3 _ o D.l2z D.l2i1 D.l2TO e) hy fun g4 h24 b4 => wpAny_pure ?_)
  have o4 : IsPair g4 TO x b := b4.extBut _ _ D.TOi2 o3'
  refine wpAny_bind (wpAny_seqItems o4 rfl (wpAny_bind (wpAny_updateSeq_pair (s := { s with heap := g4 }) o4 fun g5 o5 b5 => ?_)))
  have o5' : IsPair g5 TO x y := o5
  refine wpAny_bind (wpAny_letGo (wpAny_pure (wpAny_pure ?_)))
  refine wpAny_bind (wpAny_seqItems o5' rfl (wpAny_bind (wpAny_newTuple ?_)))
  have sz : g5.objs.size = s.heap.objs.size := by rw [b5.1, b4.1, b3.1, b2.1, b1.1]
  have z5 : IsZip g5 z TI TO .ellipsis := b5.extBut _ _ D.TOz.symm (b4.extBut _ _ D.i2z.symm (b3.extBut _ _ D.TOz.symm (b2.extBut _ _ D.i1z.symm z1')))
  have k5 : ∀ c o, c ≠ z → c ≠ TO → c ≠ i1 → c ≠ i2 → s.heap.get? c = some o → g5.get? c = some o := fun c o c1 c2 c3 c4 e => b5.extBut _ _ c2 (b4.extBut _ _ c4 (k3 c o c1 c3 c2 e))
  have h15 : SIt ka g5 i1 l1 (n + 1) := h12.at fun o e => b5.extBut _ _ D.TOi1.symm (b4.extBut _ _ D.i12 (b3.extBut _ _ D.TOi1.symm e))
  have h25 : SIt kb g5 i2 l2 (n + 1) := h24.at fun o e => b5.extBut _ _ D.TOi2.symm e
  have zl : z < g5.objs.size := Heap.lt_size z5
  show wpAny _ _ (Builtin.SmallTypes.ownedTupleHandOut (.ref z) (.ref g5.objs.size) >>= _) _ _ _
  refine wpAny_bind ?_
  unfold Builtin.SmallTypes.ownedTupleHandOut
  have z6 : IsZip (g5.push { cls := .type "tuple", data := .seq #[x, y] }) z TI TO .ellipsis := Heap.get?_push_of_some _ z5
  refine wpAny_bind (wpAny_setField_rec z6 (by simp) fun g7 z7 b7 => ?_)
  replace z7 : IsZip g7 z TI TO (rawInt g5.objs.size) := z7
  refine wpAny_setField_rec z7 (by simp) fun g8 z8 b8 => ?_
  replace z8 : IsZip g8 z TI TO (rawInt g5.objs.size) := z8
  have up : ∀ c o, c ≠ z → g5.get? c = some o → g8.get? c = some o := fun c o c1 e => b8.extBut _ _ c1 (b7.extBut _ _ c1 (Heap.get?_push_of_some _ e))
  have p8 : IsPair g8 g5.objs.size x y := b8.extBut _ _ (Nat.ne_of_gt zl) (b7.extBut _ _ (Nat.ne_of_gt zl) (Heap.get?_push_size _ rfl))
  rw [sz] at z8 p8
  refine wpAny_pure ⟨_, rfl, ?_⟩
  show Q (.ref g5.objs.size) _
  rw [sz]
  exact hQ g8 z8 (up _ _ D.TOz o5') (h15.at fun o e => up _ o D.i1z e) (h25.at fun o e => up _ o D.i2z e) p8 fun c o c1 c2 c3 c4 e => up c o c1 (k5 c o c1 c2 c3 c4 e)
theorem zipS_end {Q : Fin → Shared → Prop} (hh : A.handled = none) (D : ZipApart z TI TO i1 i2 l1 l2) (Z : ZAt ka kb z TI TO i1 i2 l1 l2 n s.heap) (hl1 : SAt ka s.heap l1 xs) (hl2 : SAt kb s.heap l2 ys) (hend : xs[n]? = none ∨ ys[n]? = none)
    (hE : ∀ h' e, (∀ c o, c ≠ z → c ≠ TO → c ≠ i1 → c ≠ i2 → s.heap.get? c = some o → h'.get? c = some o) → (∃ o, h'.get? e = some o ∧ o.cls = .type "StopIteration") → E (.ref e) { s with heap := h' }) :
    wpAny (model prog w) A (Builtin.«zip.__next__» ⟨[.ref z], []⟩) Q E s := by
  obtain ⟨hz, hTI, ⟨a, b, hTO⟩, h1, h2⟩ := Z
  show wpAny _ _ (field (.ref z) 2 >>= _) _ _ _
  refine wpAny_bind (wpAny_field hz rfl (x := .bool false) rfl ?_)
  show wpAny _ _ (field (.ref z) 3 >>= _) _ _ _
  refine wpAny_bind (wpAny_field hz rfl (x := .ref TI) rfl (wpAny_bind (wpAny_seqItems hTI rfl ?_)))
  show wpAny _ _ (Builtin.SmallTypes.ownedTupleIsFree (.ref z) >>= _) _ _ _
  refine wpAny_bind ?_
  unfold Builtin.SmallTypes.ownedTupleIsFree
  refine wpAny_bind (wpAny_field hz rfl (x := .none) rfl (wpAny_pure ?_))
  simp only [if_true]
  refine wpAny_bind (wpAny_rule (wpAny_bind (wpAny_field hz rfl (x := .ref TO) rfl (wpAny_bind (wpAny_setField_rec hz (by simp) fun g1 z1 b1 => ?_)))))
  have z1' : IsZip g1 z TI TO .ellipsis := z1
  have k1 : ∀ c o, c ≠ z → s.heap.get? c = some o → g1.get? c = some o := fun c o hc e => b1.extBut _ _ hc e
  refine wpAny_bind ?_
  simp only [List.zipIdx_cons, List.zipIdx_nil, List.forIn_cons, List.forIn_nil]
  refine wpAny_bind (wpAny_bind (wpAny_onRaise ?_))
  show wpAny _ _ (Builtin.SmallTypes.nextOf (.ref i1) >>= _) _ _ _
  cases hx : xs[n]? with
  | none =>
    refine wpAny_bind (endS (s := { s with heap := g1 }) hh (h1.at fun o e => k1 _ o D.i1z e) (hl1.at fun o e => k1 _ o D.l1z e) hx fun g2 e b2 ⟨oe, he, ce⟩ => ?_)
    have z2 : IsZip g2 z TI TO .ellipsis := b2 _ _ D.i1z.symm z1'
    have ez : e ≠ z := fun q => by subst q; rw [z2] at he; cases he; simp at ce
    exact wpAny_setField_rec z2 (by simp) fun g3 _ b3 => hE g3 e (fun c o c1 _ c3 _ q => b3.extBut _ _ c1 (b2 _ _ c3 (k1 c o c1 q))) ⟨oe, b3.extBut _ _ ez he, ce⟩
  | some x =>
    have hy : ys[n]? = none := hend.resolve_left fun q => by rw [hx] at q; cases q
    refine wpAny_bind (nextS (s := { s with heap := g1 }) (h1.at fun o e => k1 _ o D.i1z e) (hl1.at fun o e => k1 _ o D.l1z e) hx fun g2 h12 b2 => wpAny_pure ?_)
    have k2 : ∀ c o, c ≠ z → c ≠ i1 → s.heap.get? c = some o → g2.get? c = some o := fun c o hc hd e => b2.extBut _ _ hd (k1 c o hc e)
    have o2 : IsPair g2 TO a b := k2 _ _ D.TOz D.TOi1 hTO
    refine wpAny_bind (wpAny_seqItems o2 rfl (wpAny_bind (wpAny_updateSeq_pair (s := { s with heap := g2 }) o2 fun g3 o3 b3 => ?_)))
    refine wpAny_bind (wpAny_letGo (wpAny_pure ?_))
    refine wpAny_bind (wpAny_bind (wpAny_onRaise ?_))
    show wpAny _ _ (Builtin.SmallTypes.nextOf (.ref i2) >>= _) _ _ _
    have k3 : ∀ c o, c ≠ z → c ≠ i1 → c ≠ TO → s.heap.get? c = some o → g3.get? c = some o := fun c o hc hd he e => b3.extBut _ _ he (k2 c o hc hd e)
    refine wpAny_bind (endS (s := { s with heap := g3 }) hh (h2.at fun o e => k3 _ o D.i2z D.i12.symm D.TOi2.symm e) (hl2.at fun o e => k3 _ o D.l2z D.l2i1 D.l2TO e) hy fun g4 e b4 ⟨oe, he, ce⟩ => ?_)
    have z4 : IsZip g4 z TI TO .ellipsis := b4 _ _ D.i2z.symm (b3.extBut _ _ D.TOz.symm (b2.extBut _ _ D.i1z.symm z1'))
    have ez : e ≠ z := fun q => by subst q; rw [z4] at he; cases he; simp at ce
    exact wpAny_setField_rec z4 (by simp) fun g5 _ b5 => hE g5 e (fun c o c1 c2 c3 c4 q => b5.extBut _ _ c1 (b4 _ _ c4 (k3 c o c1 c3 c2 q))) ⟨oe, b5.extBut _ _ ez he, ce⟩
theorem zipS_next {Q : Option Value → Shared → Prop} (D : ZipApart z TI TO i1 i2 l1 l2) (Z : ZAt ka kb z TI TO i1 i2 l1 l2 n s.heap) (hl1 : SAt ka s.heap l1 xs) (hl2 : SAt kb s.heap l2 ys) (hx : xs[n]? = some x) (hy : ys[n]? = some y)
    (hQ : ∀ h', IsZip h' z TI TO (rawInt s.heap.objs.size) → IsPair h' TO x y → SIt ka h' i1 l1 (n + 1) → SIt kb h' i2 l2 (n + 1) → IsPair h' s.heap.objs.size x y →
      (∀ c o, c ≠ z → c ≠ TO → c ≠ i1 → c ≠ i2 → s.heap.get? c = some o → h'.get? c = some o) → Q (some (.ref s.heap.objs.size)) { s with heap := h' }) : wpAny (model prog w) A (pyNext (.ref z)) Q E s := by
  have hT : s.TypeIs (.ref z) "zip" := ⟨_, Z.zp, rfl⟩
  unfold pyNext
  exact wpAny_bind (wpAny_attempt (wpAny_callSpecial?_slot (name := Str.ofString "__next__") hT F.slot_zip_next (wpAny_call_entry F.slot_zip_next hT F.entry_zip_next
    (zipS_item D Z hl1 hl2 hx hy fun h' a1 a2 a3 a4 a5 a7 => wpAny_pure (hQ h' a1 a2 a3 a4 a5 a7)) (F.args_zip_next_1 _))))
theorem zipS_stop {Q : Option Value → Shared → Prop} (hh : A.handled = none) (D : ZipApart z TI TO i1 i2 l1 l2) (Z : ZAt ka kb z TI TO i1 i2 l1 l2 n s.heap) (hl1 : SAt ka s.heap l1 xs) (hl2 : SAt kb s.heap l2 ys) (hend : xs[n]? = none ∨ ys[n]? = none)
    (hQ : ∀ h', (∀ c o, c ≠ z → c ≠ TO → c ≠ i1 → c ≠ i2 → s.heap.get? c = some o → h'.get? c = some o) → Q none { s with heap := h' }) : wpAny (model prog w) A (pyNext (.ref z)) Q E s := by
  have hT : s.TypeIs (.ref z) "zip" := ⟨_, Z.zp, rfl⟩
  unfold pyNext
  refine wpAny_bind (wpAny_attempt (wpAny_callSpecial?_slot (name := Str.ofString "__next__") hT F.slot_zip_next (wpAny_call_entry F.slot_zip_next hT F.entry_zip_next (zipS_end hh D Z hl1 hl2 hend fun h' e hk he => ?_) (F.args_zip_next_1 _))))
  obtain ⟨o, ho, hc⟩ := he
  exact wpAny_bind (wpAny_isInstance (T := "StopIteration") (b := true) ⟨o, ho, hc⟩ isSubtype_stop (wpAny_pure (hQ _ hk)))
end
end L2
set_option Elab.async false
set_option linter.all false
set_option maxRecDepth 100000
namespace L2
open PySem PySem.Spec PyProof.Rows
def SqK (K : PySem.W.Frag) : Bool → Hp → Addr → List V → Prop
  | true, H, a, xs => SqT K H a xs
  | false, H, a, xs => SqL K H a xs
theorem seqK {X : Cx} {pins : List (Addr × Obj)} {σ : St} {H : Hp} {s : Shared} {k : Bool} {a : Addr} {xs : List V} (I : Inv X pins σ H s) (h : SqK X.K k H a xs) : ∃ us, Vals xs us ∧ SAt k s.heap a us.toArray := by
  cases k with
  | true =>
    obtain ⟨its, rv, p, hz⟩ := I.tuple h
    exact ⟨its, rv, p⟩
  | false =>
    obtain ⟨its, rv, p, hz⟩ := I.list h
    exact ⟨its, rv, p.isList⟩
theorem seqK_inj {X : Cx} {pins : List (Addr × Obj)} {σ : St} {H : Hp} {s : Shared} {k : Bool} {a : Addr} {xs ys : List V} (I : Inv X pins σ H s) (h : SqK X.K k H a xs) (h2 : SqK X.K k H a ys) : xs = ys := by
  cases k with
  | true => exact I.tuple_inj h h2
  | false => exact I.list_inj h h2
theorem Inv.turnedL {X : Cx} {pins : List (Addr × Obj)} {σ : St} {H : Hp} {s : Shared} {h' : Heap} {t' : Nat} {L : List Addr} (I : Inv X pins σ H s) (k : ∀ b o, b ∉ L → s.heap.get? b = some o → h'.get? b = some o) (hf : ∀ b ∈ L, FpOk X pins H b) : Inv X pins σ H { s with heap := h', toks := t' } := by
  have nit : ∀ b u, H b = some u → b ∉ L := fun b u e z => by rw [(hf b z).1] at e; cases e
  have nl : X.env.locals ∉ L := fun z => (hf _ z).2.1 rfl
  refine I.step (g' := s.gens) (d' := s.drawn) (ch := L) (fun b hb => ?_) (fun b o _ _ hc e _ => k b o hc e) (fun b o _ _ hc e _ => ⟨o.slots, k b o hc e⟩) (fun _ _ _ _ n => n)
    (fun b o hc e => ⟨o, k b o hc e⟩) (fun _ _ e => e) (fun _ _ _ e => e) (fun b ps e => ⟨#[], by rw [e]; simp⟩) (fun m hm => ?_) (fun b u e => ?_) I.bare
  · obtain ⟨f0, f1, f2, f3, f4, f5⟩ := hf b hb
    exact ⟨f3, f1, f4, f5⟩
  · obtain ⟨o, es, ep, ho, r⟩ := hm
    exact ⟨o, es, ep, k _ o nl ho, r⟩
  · refine (I.hok b u e).stay (fun c v hc q => k c v ?_ q) (fun _ q => q) fun _ _ q => q
    rcases hc with z | z
    · rw [z]; exact nit b u e
    · exact nit c _ z
def Itz (K : PySem.W.Frag) (ka kb : Bool) (a b : Addr) : It :=
  ⟨fun i H => ∃ xs ys x y, SqK K ka H a xs ∧ SqK K kb H b ys ∧ xs[i]? = some x ∧ ys[i]? = some y,
   fun i H v H' => ∃ p x y, v = .ref p ∧ H p = none ∧ (∀ xs, SqK K ka H a xs → xs[i]? = some x) ∧ (∀ ys, SqK K kb H b ys → ys[i]? = some y) ∧ H' = upd H p (.tup [x, y]),
   fun i H => ∃ xs ys, SqK K ka H a xs ∧ SqK K kb H b ys ∧ (xs.length ≤ i ∨ ys.length ≤ i)⟩
theorem ZAt.obj {ka kb : Bool} {z TI TO i1 i2 l1 l2 : Addr} {n : Nat} {h : Heap} (Z : ZAt ka kb z TI TO i1 i2 l1 l2 n h) : ∀ b ∈ [z, TI, TO, i1, i2], ∃ o, h.get? b = some o ∧ ∀ v, o.data ≠ .cell v := fun b hb => by
  obtain ⟨hz, hTI, ⟨x, y, hTO⟩, h1, h2⟩ := Z
  simp only [List.mem_cons, List.not_mem_nil, or_false] at hb
  rcases hb with rfl | rfl | rfl | rfl | rfl
  · exact ⟨_, hz, fun v z => by cases z⟩
  · exact ⟨_, hTI, fun v z => by cases z⟩
  · exact ⟨_, hTO, fun v z => by cases z⟩
  · exact h1.obj
  · exact h2.obj
theorem turn_zip {P : Program} {w : World} {K : PySem.W.Frag} {elts : List Expr} {x1} {pos : Pos} {ka kb : Bool} {z TI TO i1 i2 a b : Addr} (D : ZipApart z TI TO i1 i2 a b) : Turn P w K (.Tuple elts x1 pos) (Itz K ka kb a b) [z, TI, TO, i1, i2] z (fun n h => ZAt ka kb z TI TO i1 i2 a b n h) where
  mem := by simp
  obj := fun i h st => st.obj
  keep := fun i h h' ⟨hz, hTI, ⟨x, y, hTO⟩, h1, h2⟩ k => ⟨k z (by simp) _ hz, k TI (by simp) _ hTI, ⟨x, y, k TO (by simp) _ hTO⟩, h1.at fun o e => k i1 (by simp) o e, h2.at fun o e => k i2 (by simp) o e⟩
  item := by
    intro X hP hw hK hc i pins s σ H E I hf st hg
    subst hP hw hK
    obtain ⟨xs, ys, x, y, q1, q2, hx, hy⟩ := hg
    obtain ⟨us, r1, p1⟩ := seqK I q1
    obtain ⟨vs, r2, p2⟩ := seqK I q2
    obtain ⟨u, hu, ru⟩ := r1.get hx
    obtain ⟨v, hv, rv⟩ := r2.get hy
    have lt : ∀ b ∈ [z, TI, TO, i1, i2], b < s.heap.objs.size := fun b hb => by
      obtain ⟨o, ho, _⟩ := st.obj b hb
      exact Heap.lt_size ho
    refine zipS_next D st p1 p2 (x := u) (y := v) (by simpa using hu) (by simpa using hv) fun h' z1 o1 a1 a2 pr kk => ?_
    refine ⟨_, rfl, wpAny_letOwnedTupleGo_zip (s := { s with heap := h' }) z1 fun h2 z2 b2 => ?_⟩
    have hT : H s.heap.objs.size = none := I.hok.fresh (Nat.le_refl _)
    have I1 : Inv X pins σ (upd H s.heap.objs.size (.tup [x, y])) { s with heap := s.heap.push { cls := .type "tuple", data := .seq #[u, v] } } := I.laid (t' := s.toks) (fun b u e => Heap.get?_push_of_some _ e) (Nat.le_refl _) ⟨by show 2 ≤ sizeLine; decide, [u, v], .cons ru (.cons rv .nil), ⟨_, Heap.get?_push_size _ rfl, _, rfl⟩⟩
    have Tz : s.heap.objs.size ≠ z := Nat.ne_of_gt (lt z (by simp))
    have fp : ∀ b ∈ [z, TI, TO, i1, i2], FpOk X pins (upd H s.heap.objs.size (.tup [x, y])) b := fun b hb => by
      obtain ⟨f0, f1, f2, f3, f4, f5⟩ := hf b hb
      exact ⟨by rw [upd_ne (Nat.ne_of_lt (lt b hb))]; exact f0, f1, f2, f3, f4, f5⟩
    have I2 := I1.turnedL (h' := h2) (t' := s.toks) (fun c o hc e => by
      simp only [List.mem_cons, List.not_mem_nil, or_false, not_or] at hc
      by_cases zc : c = s.heap.objs.size
      · subst zc
        rw [Heap.get?_push_size _ rfl] at e
        cases e
        exact b2.extBut _ _ Tz pr
      · have e' : s.heap.get? c = some o := by rw [← e]; exact (Heap.get?_push_ne _ _ _ zc).symm
        exact b2.extBut _ _ hc.1 (kk c o hc.1 hc.2.2.1 hc.2.2.2.1 hc.2.2.2.2 e')) fp
    refine ⟨.ref s.heap.objs.size, _, I2, rfl, ⟨_, x, y, rfl, hT, fun zs hz => ?_, fun zs hz => ?_, rfl⟩, ⟨z2, b2.extBut _ _ D.TIz (kk _ _ D.TIz D.TITO D.TIi1 D.TIi2 st.ti), ⟨u, v, b2.extBut _ _ D.TOz o1⟩, a1.at fun o e => b2.extBut _ _ D.i1z e, a2.at fun o e => b2.extBut _ _ D.i2z e⟩, fun b hb => (fp b hb).1⟩
    · rw [seqK_inj I hz q1]; exact hx
    · rw [seqK_inj I hz q2]; exact hy
  done := by
    intro X hP hw hK hc i pins s σ H E I hf st hg
    subst hP hw hK
    obtain ⟨xs, ys, q1, q2, hl⟩ := hg
    obtain ⟨us, r1, p1⟩ := seqK I q1
    obtain ⟨vs, r2, p2⟩ := seqK I q2
    have e1 := r1.length
    have e2 := r2.length
    refine zipS_stop (I.ok.hd hc) D st p1 p2 (hl.elim (fun q => .inl (by simp; omega)) fun q => .inr (by simp; omega)) fun h' kk => ⟨rfl, I.turnedL (t' := s.toks) (fun c o hc e => ?_) hf⟩
    simp only [List.mem_cons, List.not_mem_nil, or_false, not_or] at hc
    exact kk c o hc.1 hc.2.2.1 hc.2.2.2.1 hc.2.2.2.2 e
  self := fun _ _ _ _ _ st h => wpAny_pyIter_zip st.zp h
end L2
set_option Elab.async false
set_option linter.all false
set_option maxRecDepth 100000
namespace L2
open PySem PySem.Spec PyProof.Rows
def itO (k : Bool) (l : Addr) : Obj := match k with
  | true => { cls := .type "tuple_iterator", data := .fields #[.ref l, .int 0 0] }
  | false => { cls := .type "list_iterator", data := .fields #[.ref l, .int 0 0] }
theorem pyIterS {prog : Program} {w : World} {A : Around} {E : Value → Shared → Prop} {s : Shared} {k : Bool} {l : Addr} {xs : Array Value} {Q : Value → Shared → Prop} (h : SAt k s.heap l xs) (hQ : Q (.ref s.heap.objs.size) { s with heap := s.heap.push (itO k l) }) :
    wpAny (model prog w) A (pyIter (.ref l)) Q E s := by
  cases k with
  | true => exact wpAny_pyIter_tuple h hQ
  | false => exact wpAny_pyIter_list h hQ
theorem itO_free {k : Bool} {l : Addr} : (itO k l).isFreed = false := by cases k <;> rfl
theorem SIt.new {k : Bool} {l i : Addr} {h : Heap} (e : h.get? i = some (itO k l)) : SIt k h i l 0 := by
  cases k with
  | true => exact ⟨_, e, rfl, rfl⟩
  | false => exact ⟨_, e, rfl, rfl⟩
def zip5 (h : Heap) (ka kb : Bool) (l1 l2 : Addr) : Heap := ((((h.push (itO ka l1)).push (itO kb l2)).push { cls := .type "tuple", data := .seq #[.ref h.objs.size, .ref (h.push (itO ka l1)).objs.size] }).push { cls := .type "tuple", data := .seq #[.none, .none] }).push
  { cls := .type "zip", data := .fields #[.none, .bool false, .bool false, .ref ((h.push (itO ka l1)).push (itO kb l2)).objs.size, .ref (((h.push (itO ka l1)).push (itO kb l2)).push { cls := .type "tuple", data := .seq #[.ref h.objs.size, .ref (h.push (itO ka l1)).objs.size] }).objs.size] }
theorem meetsS (ka kb : Bool) (l1 l2 : Addr) (xs ys : Array Value) :
    Meets (Builtin.«zip.__new__» ⟨[.type "zip", .ref l1, .ref l2], []⟩) (fun _ R s => SAt ka s.heap l1 xs ∧ SAt kb s.heap l2 ys ∧ R (.ok (.ret (.ref (s.heap.objs.size + 4)))) { s with heap := zip5 s.heap ka kb l1 l2 }) :=
  .of_wp fun prog w A R s h => by
    obtain ⟨hp, g, d, tk, os⟩ := s
    obtain ⟨hl1, hl2, h⟩ := h
    have hsub := sub_zip
    have hL1 : SAt ka (Shared.heap ⟨hp, g, d, tk, os⟩) l1 xs := hl1
    have hL2 : SAt kb (Shared.heap ⟨hp.push (itO ka l1), g, d, tk, os⟩) l2 ys := hl2.at fun o e => Heap.get?_push_of_some _ e
    wp_walk using pyIterS hL1, pyIterS hL2
    refine ⟨_, rfl, ?_⟩
    have z : ((((hp.push (itO ka l1)).push (itO kb l2)).push { cls := .type "tuple", data := .seq #[.ref hp.objs.size, .ref (hp.push (itO ka l1)).objs.size] }).push { cls := .type "tuple", data := .seq #[.none, .none] }).objs.size = hp.objs.size + 4 := by
      rw [Heap.size_push, Heap.size_push, Heap.size_push, Heap.size_push]
    rw [← z] at h
    exact h
theorem callS {prog : Program} {w : World} {A : Around} {E : Value → Shared → Prop} {s : Shared} {ka kb : Bool} {l1 l2 : Addr} {xs ys : Array Value} {Q : Value → Shared → Prop} (h1 : SAt ka s.heap l1 xs) (h2 : SAt kb s.heap l2 ys)
    (h : ∀ h', ZAt ka kb (s.heap.objs.size + 4) (s.heap.objs.size + 2) (s.heap.objs.size + 3) s.heap.objs.size (s.heap.objs.size + 1) l1 l2 0 h' → (∀ c o, s.heap.get? c = some o → h'.get? c = some o) → Q (.ref (s.heap.objs.size + 4)) { s with heap := h' }) :
    wpAny (model prog w) A (call (.type "zip") [.ref l1, .ref l2]) Q E s := by
  refine callType_new F.called_zip (by decide) (F.typeCall_zip_2 _ _) (F.newCall_zip_2 _ _) (fun obj => F.args_object_init_3 obj _ _) F.entry_zip_new (meetsS ka kb l1 l2 xs ys) ⟨h1, h2, ?_⟩
  have kp : ∀ c o, s.heap.get? c = some o → (zip5 s.heap ka kb l1 l2).get? c = some o := fun c o x => Heap.get?_push_of_some _ (Heap.get?_push_of_some _ (Heap.get?_push_of_some _ (Heap.get?_push_of_some _ (Heap.get?_push_of_some _ x))))
  have z1 : (s.heap.push (itO ka l1)).objs.size = s.heap.objs.size + 1 := Heap.size_push ..
  have z2 : ((s.heap.push (itO ka l1)).push (itO kb l2)).objs.size = s.heap.objs.size + 2 := by rw [Heap.size_push, z1]
  have z3 : (((s.heap.push (itO ka l1)).push (itO kb l2)).push { cls := .type "tuple", data := .seq #[.ref s.heap.objs.size, .ref (s.heap.push (itO ka l1)).objs.size] }).objs.size = s.heap.objs.size + 3 := by rw [Heap.size_push, z2]
  have z4 : ((((s.heap.push (itO ka l1)).push (itO kb l2)).push { cls := .type "tuple", data := .seq #[.ref s.heap.objs.size, .ref (s.heap.push (itO ka l1)).objs.size] }).push { cls := .type "tuple", data := .seq #[.none, .none] }).objs.size = s.heap.objs.size + 4 := by rw [Heap.size_push, z3]
  have g1 : (zip5 s.heap ka kb l1 l2).get? s.heap.objs.size = some (itO ka l1) := Heap.get?_push_of_some _ (Heap.get?_push_of_some _ (Heap.get?_push_of_some _ (Heap.get?_push_of_some _ (Heap.get?_push_size _ itO_free))))
  have g2 : (zip5 s.heap ka kb l1 l2).get? (s.heap.objs.size + 1) = some (itO kb l2) := by rw [← z1]; exact Heap.get?_push_of_some _ (Heap.get?_push_of_some _ (Heap.get?_push_of_some _ (Heap.get?_push_size _ itO_free)))
  have g3 : (zip5 s.heap ka kb l1 l2).get? (s.heap.objs.size + 2) = some { cls := .type "tuple", data := .seq #[.ref s.heap.objs.size, .ref (s.heap.objs.size + 1)] } := by
    rw [← z2]
    have q : (zip5 s.heap ka kb l1 l2).get? ((s.heap.push (itO ka l1)).push (itO kb l2)).objs.size = some { cls := .type "tuple", data := .seq #[.ref s.heap.objs.size, .ref (s.heap.push (itO ka l1)).objs.size] } := Heap.get?_push_of_some _ (Heap.get?_push_of_some _ (Heap.get?_push_size _ rfl))
    rw [z1] at q
    exact q
  have g4 : (zip5 s.heap ka kb l1 l2).get? (s.heap.objs.size + 3) = some { cls := .type "tuple", data := .seq #[.none, .none] } := by rw [← z3]; exact Heap.get?_push_of_some _ (Heap.get?_push_size _ rfl)
  have g5 : (zip5 s.heap ka kb l1 l2).get? (s.heap.objs.size + 4) = some { cls := .type "zip", data := .fields #[.none, .bool false, .bool false, .ref (s.heap.objs.size + 2), .ref (s.heap.objs.size + 3)] } := by
    rw [← z4]
    have q : (zip5 s.heap ka kb l1 l2).get? ((((s.heap.push (itO ka l1)).push (itO kb l2)).push { cls := .type "tuple", data := .seq #[.ref s.heap.objs.size, .ref (s.heap.push (itO ka l1)).objs.size] }).push { cls := .type "tuple", data := .seq #[.none, .none] }).objs.size = some { cls := .type "zip", data := .fields #[.none, .bool false, .bool false, .ref ((s.heap.push (itO ka l1)).push (itO kb l2)).objs.size, .ref (((s.heap.push (itO ka l1)).push (itO kb l2)).push { cls := .type "tuple", data := .seq #[.ref s.heap.objs.size, .ref (s.heap.push (itO ka l1)).objs.size] }).objs.size] } := Heap.get?_push_size _ rfl
    rw [z2, z3] at q
    exact q
  show _ ∧ _
  exact ⟨⟨_, g5, rfl⟩, h _ ⟨g5, g3, ⟨_, _, g4⟩, .new g1, .new g2⟩ kp⟩
theorem b_zip : bootBuiltins "zip" = some (.type "zip") := by decide +kernel
def iZip (K : PySem.W.Frag) (ka kb : Bool) (ta : TA) : TI := fun σ H R => ta σ H fun vs H1 => ∃ a b xs ys, vs = [.ref a, .ref b] ∧ SqK K ka H1 a xs ∧ SqK K kb H1 b ys ∧ R (Itz K ka kb a b) H1
theorem pi_zip {X : Cx} {elts : List Expr} {x1} {tp : Pos} {a b : Expr} {ta : TA} {p pos : Pos} (ka kb : Bool) (hg : Gl X "zip") (hm : X.mg "zip" = none) (ha : PA X [a, b] ta) (hs : starEach [a, b] X.env = [(false, eval a X.env), (false, eval b X.env)] := by rfl) (hs2 : starEach [b] X.env = [(false, eval b X.env)] := by rfl) :
    PI X (.Tuple elts x1 tp) (.Call (.Name "zip" p) [a, b] [] pos) (iZip X.K ka kb ta) := by
  intro pins s σ H R I h
  refine Call_ (ld_blt I hg hm b_zip (PyProof.Rows.callWith_type1 (thn (ha pos pins s σ H _ I h) fun us s1 ⟨vs, H1, I1, r1, q1⟩ => ?_) (by rw [hs, hs2]) (by rw [hs2]; rfl)))
  obtain ⟨a', b', xs, ys, e, q1, q2, q⟩ := q1
  subst e
  obtain ⟨u, v, rfl, r1, r2⟩ := r1.two
  cases r1
  cases r2
  obtain ⟨us, e1, p1⟩ := seqK I1 q1
  obtain ⟨vs, e2, p2⟩ := seqK I1 q2
  have lt : ∀ {k : Bool} {l : Addr} {zs : Array Value}, SAt k s1.heap l zs → l < s1.heap.objs.size := fun {k l zs} x => by
    cases k with
    | true => obtain ⟨o, ho, _⟩ := x; exact Heap.lt_size ho
    | false => obtain ⟨o, ho, _⟩ := x; exact Heap.lt_size ho
  have t1 := lt p1
  have t2 := lt p2
  refine callS p1 p2 fun h' Z kp => wpAny_pyIter_zip (s := { s1 with heap := h' }) Z.zp ?_
  have D : ZipApart (s1.heap.objs.size + 4) (s1.heap.objs.size + 2) (s1.heap.objs.size + 3) s1.heap.objs.size (s1.heap.objs.size + 1) a' b' := by
    have t1' : @LT.lt Nat _ a' s1.heap.objs.size := t1
    have t2' : @LT.lt Nat _ b' s1.heap.objs.size := t2
    constructor <;> (show ¬ (@Eq Nat _ _); omega)
  refine ⟨_, [s1.heap.objs.size + 4, s1.heap.objs.size + 2, s1.heap.objs.size + 3, s1.heap.objs.size, s1.heap.objs.size + 1], _, _, H1, rfl, I1.kept (t' := s1.toks) kp, turn_zip D, Z, fun c hc => ?_, q⟩
  have ge : s1.heap.objs.size ≤ c := by
    simp only [List.mem_cons, List.not_mem_nil, or_false] at hc
    rcases hc with rfl | rfl | rfl | rfl | rfl <;> omega
  exact I1.fpOk ge (I1.hok.fresh ge)
end L2
set_option Elab.async false
set_option linter.all false
set_option maxRecDepth 100000
namespace L2
open PySem PySem.Spec PyProof.Rows
def turnZ (tc : TT) (te : TE) (σ : St) (d : Addr) (x y : V) (H : Hp) (Z : Hp → Prop) : Prop :=
  tc (some x :: some y :: σ) H fun b H3 => if b = true then te (some x :: some y :: σ) H3 fun v H4 => ∃ ys, H4 d = some (.lst ys) ∧ ys.length < sizeLine ∧ Z (upd H4 d (.lst (ys ++ [v]))) else Z H3
def tCompZ (K : PySem.W.Frag) (ka kb : Bool) (ta : TA) (tc : TT) (te : TE) : TE := fun σ H Q => ta σ H fun vs H1 => ∃ a b xs ys, vs = [.ref a, .ref b] ∧ SqK K ka H1 a xs ∧ SqK K kb H1 b ys ∧ xs.length = ys.length ∧ ∀ d, H1 d = none →
  ∃ Pv : Nat → Hp → Prop, Pv 0 (upd H1 d (.lst [])) ∧ (∀ i H, i ≤ xs.length → Pv i H → SqK K ka H a xs ∧ SqK K kb H b ys) ∧ (∀ i x y p H, xs[i]? = some x → ys[i]? = some y → Pv i H → H p = none → turnZ tc te σ d x y (upd H p (.tup [x, y])) (Pv (i + 1))) ∧ ∀ H, Pv xs.length H → Q (.ref d) H
def gPair (K : PySem.W.Frag) : TG := gTup K 2 (gCons (gName 0) (gCons (gName 1) gNil))
theorem gPair_two {K : PySem.W.Frag} {v : V} {σ : St} {H : Hp} {Q : St → Hp → Prop} (h : gPair K v (List.replicate 2 none ++ σ) H Q) : gPair K v (List.replicate 2 none ++ σ) H fun σ2 H2 => (∃ l : St, l.length = 2 ∧ σ2 = l ++ σ) ∧ Q σ2 H2 := by
  obtain ⟨a, xs, e, hq, hl, v1, r1, e1, v2, r2, e2, e3, q⟩ := h
  exact ⟨a, xs, e, hq, hl, v1, r1, e1, v2, r2, e2, e3, ⟨[some v1, some v2], rfl, rfl⟩, q⟩
theorem comp_zip {K : PySem.W.Frag} {ka kb : Bool} {a b : Addr} {xs ys : List V} {tc : TT} {te : TE} {σ : St} {H : Hp} {Q : VK} {d : Addr} (hlen : xs.length = ys.length) (Pv : Nat → Hp → Prop) (h0 : Pv 0 (upd H d (.lst []))) (hl : ∀ i H, i ≤ xs.length → Pv i H → SqK K ka H a xs ∧ SqK K kb H b ys)
    (hs : ∀ i x y p H, xs[i]? = some x → ys[i]? = some y → Pv i H → H p = none → turnZ tc te σ d x y (upd H p (.tup [x, y])) (Pv (i + 1)))
    (hd : ∀ H, Pv xs.length H → Q (.ref d) H) :
    ∃ W : Nat → Nat → Hp → Prop, (∃ m, W 0 m (upd H d (.lst []))) ∧ ∀ i m H, W i m H →
      ((Itz K ka kb a b).stop i H ∧ Q (.ref d) H) ∨ ((Itz K ka kb a b).go i H ∧ ∃ N : Hp → Prop, (∀ H', N H' → ∃ m', m' < m ∧ W (i + 1) m' H') ∧ ∀ x H', (Itz K ka kb a b).yld i H x H' → gPair K x (List.replicate 2 none ++ σ) H' fun σ2 H2 =>
        tc σ2 H2 fun b H3 => if b = true then te σ2 H3 fun y H4 => ∃ ys, H4 d = some (.lst ys) ∧ ys.length < sizeLine ∧ N (upd H4 d (.lst (ys ++ [y]))) else N H3) := by
  refine ⟨fun i m H => m = xs.length - i ∧ i ≤ xs.length ∧ Pv i H, ⟨xs.length, by simp, Nat.zero_le _, h0⟩, ?_⟩
  rintro i m H ⟨rfl, hi, p⟩
  obtain ⟨q1, q2⟩ := hl i H hi p
  by_cases hlt : i < xs.length
  · refine .inr ⟨⟨xs, ys, _, _, q1, q2, List.getElem?_eq_getElem hlt, List.getElem?_eq_getElem (by omega)⟩, Pv (i + 1), fun H' n => ⟨xs.length - (i + 1), by omega, rfl, by omega, n⟩, ?_⟩
    rintro v H' ⟨p', x, y, rfl, hn, e1, e2, rfl⟩
    exact ⟨p', [x, y], rfl, SqT.of upd_same, rfl, x, [y], rfl, y, [], rfl, rfl, hs i x y p' H (e1 _ q1) (e2 _ q2) p hn⟩
  · have e : i = xs.length := by omega
    subst e
    exact .inl ⟨⟨xs, ys, q1, q2, .inl (Nat.le_refl _)⟩, hd H p⟩
theorem pe_compZ {X : Cx} (K : PySem.W.Frag) (ka kb : Bool) {elt a b : Expr} {t1 t2 : Str} {p1 p2 tp p pos pos' : Pos} {k : Nat} {cs : List Expr} {scope : Scope} {tc : TT} {te : TE} {ta : TA} {M : List Str} (hc : X.calm = true) (S : CompScope scope X.env X.N M) (nd : (t1 :: t2 :: M).Nodup) (hl1 : scope.names.lookup t1 = some .local) (hl2 : scope.names.lookup t2 = some .local)
    (hg : Gl X "zip") (hm : X.mg "zip" = none) (ha : PA X [a, b] ta) (mo : MonoA ta)
    (hin : ∀ (cl : List (Str × Addr)) (C : Addr) (s0 : Shared) (H0 : Hp) (fp : List Addr) (pins : List (Addr × Obj)) (σ : St), Back X (cxC X scope cl C s0 H0 fp (t1 :: t2 :: M)) pins σ fp C s0 H0 → PTs (cxC X scope cl C s0 H0 fp (t1 :: t2 :: M)) cs tc ∧ PE (cxC X scope cl C s0 H0 fp (t1 :: t2 :: M)) elt te)
    (hs : starEach [a, b] X.env = [(false, eval a X.env), (false, eval b X.env)] := by rfl) (hs2 : starEach [b] X.env = [(false, eval b X.env)] := by rfl) (hf : ∀ x, foldedSetIterable (.Call (.Name "zip" p) [a, b] [] pos') X.env x = pure x := by intro _; rfl) (hK : X.K = K := by rfl) :
    PE X (.ListComp elt [⟨.Tuple [.Name t1 p1, .Name t2 p2] k tp, .Call (.Name "zip" p) [a, b] [] pos', cs, 0⟩] scope pos) (tCompZ K ka kb ta tc te) := by
  subst hK
  have hx1 : (relabel scope X.env).names.lookup t1 = some .local := by rw [lookup_relabel, hl1]; rfl
  have hx2 : (relabel scope X.env).names.lookup t2 = some .local := by rw [lookup_relabel, hl2]; rfl
  refine PE.imp (pe_compB (xs := [t1, t2]) (M := M) (g := gPair X.K) hc S (pi_zip ka kb hg hm ha hs hs2) (fun cl C s0 H0 fp pins σ bk => ⟨pg_tup hc (pgs_cons (pg_name (i := 0) nd rfl (Or.inl hx1) (Or.inr hx1)) (pgs_cons (pg_name (i := 1) nd rfl (Or.inl hx2) (Or.inr hx2)) pgs_nil)), hin cl C s0 H0 fp pins σ bk⟩) (fun v σ H Q h => gPair_two h) hf) (fun σ H Q h => ?_)
  refine mo σ H _ _ (fun vs H1 q => ?_) h
  obtain ⟨a', b', xs, ys, e, q1, q2, hlen, q⟩ := q
  refine ⟨a', b', xs, ys, e, q1, q2, fun d hd => ?_⟩
  obtain ⟨Pv, h0, hl, hs, hd⟩ := q d hd
  exact comp_zip hlen Pv h0 hl hs hd
end L2
set_option Elab.async false
set_option linter.all false
set_option maxRecDepth 100000
namespace L2
open PySem PySem.Spec PyProof.Rows
section
variable {κ : Type} [DecidableEq κ]
def valV (kvs : List (κ × V)) (k : κ) : Option V := (kvs.find? fun kv => decide (kv.1 = k)).map (·.2)
def putK (kvs : List (κ × V)) (k : κ) (v : V) : List (κ × V) :=
  if (kvs.any fun kv => decide (kv.1 = k)) = true then kvs.map (fun kv => if kv.1 = k then (kv.1, v) else kv) else kvs ++ [(k, v)]
def dropK (kvs : List (κ × V)) (k : κ) : List (κ × V) := kvs.filter fun kv => decide (kv.1 ≠ k)
end
abbrev KT (H : Hp) : List (List Key × V) → List (List Key × Addr × Value) → Prop := Paired fun p q => p.1 = q.1 ∧ H q.2.1 = some (.tup (p.1.map kV)) ∧ RelV p.2 q.2.2
section
variable {P : Program} {w : World} {H : Hp} {h : Heap} {a : Addr}
end
def DGet (H : Hp) (a : Addr) (y : V) (r : Option V) : Prop :=
  (∃ kvs k, Rd H a (.dK kvs) ∧ y = kV k ∧ r = valV kvs k) ∨ ∃ kvs k b, Rd H a (.dT kvs) ∧ y = .ref b ∧ H b = some (.tup (k.map kV)) ∧ r = valV kvs k
def DPut (H : Hp) (a : Addr) (y v : V) (H' : Hp) : Prop :=
  (∃ kvs k, H a = some (.dK kvs) ∧ y = kV k ∧ kvs.length < sizeLine ∧ H' = upd H a (.dK (putK kvs k v))) ∨
  ∃ kvs k b, H a = some (.dT kvs) ∧ y = .ref b ∧ H b = some (.tup (k.map kV)) ∧ kvs.length < sizeLine ∧ H' = upd H a (.dT (putK kvs k v))
section
variable {X : Cx} {pins : List (Addr × Obj)} {σ : St} {H : Hp} {s : Shared} {a : Addr} {y v : V} {u r : Value} {o : Option V} {A : Around} {E : Value → Shared → Prop}
end
section
variable {X : Cx} {pins : List (Addr × Obj)} {σ : St} {H : Hp} {s : Shared} {a : Addr} {kvs : List (Key × V)} {k : Key} {u : Value} {A : Around} {E : Value → Shared → Prop}
end
def NoSl (i : Expr) : Prop := ∀ ov iv, subscripted i false ov iv = operate [ov, iv] (getItem ov iv)
def tDGet (td ty : TE) : TE := fun σ H Q => td σ H fun x H1 => ty σ H1 fun y H2 => ∃ a v, x = .ref a ∧ DGet H2 a y (some v) ∧ Q v H2
def tDIn (ty td : TE) : TE := fun σ H Q => ty σ H fun y H1 => td σ H1 fun x H2 => ∃ a o, x = .ref a ∧ DGet H2 a y o ∧ Q (.bl o.isSome) H2
def sDPut (td ty tv : TE) : TS := fun D σ H => tv σ H fun v H1 => td σ H1 fun x H2 => ty σ H2 fun y H3 => ∃ a H4, x = .ref a ∧ DPut H3 a y v H4 ∧ D.nx σ H4
def sDAug (td ty tv : TE) (rd : V → V → Hp → VK → Prop) : TS := fun D σ H => td σ H fun x H1 => ty σ H1 fun y H2 => ∃ a v, x = .ref a ∧ DGet H2 a y (some v) ∧
  tv σ H2 fun y2 H3 => rd v y2 H3 fun z H4 => ∃ H5, DPut H4 a y z H5 ∧ D.nx σ H5
def sDDel (td ty : TE) : TS := fun D σ H => td σ H fun x H1 => ty σ H1 fun y H2 => ∃ a kvs k, x = .ref a ∧ H2 a = some (.dK kvs) ∧ y = kV k ∧ (valV kvs k).isSome = true ∧ D.nx σ (upd H2 a (.dK (dropK kvs k)))
section
variable {X : Cx} {o i e value : Expr} {pos pos' tpos : Pos} {td ty tv : TE}
end
def tDNewK : TE := fun _ H Q => ∀ p, H p = none → Q (.ref p) (upd H p (.dK []))
section
variable {X : Cx} {pos : Pos}
end
def tPairs : List (TE × TE) → St → Hp → (List (V × V) → Hp → Prop) → Prop
  | [], _, H, Q => Q [] H
  | (tk, tv) :: r, σ, H, Q => tk σ H fun x H1 => tv σ H1 fun y H2 => tPairs r σ H2 fun ps H3 => Q ((x, y) :: ps) H3
def mergeK (kvs more : List (Key × V)) : List (Key × V) := more.foldl (fun acc kv => putK acc kv.1 kv.2) kvs
def tDisp (trs : List (TE × TE)) : TE := fun σ H Q => ∀ p, H p = none → tPairs trs σ (upd H p (.dK [])) fun ps H2 => H2 p = some (.dK []) ∧ ∃ kvs : List (Key × V), ps = kvs.map (fun kv => (kV kv.1, kv.2)) ∧ kvs.length ≤ 15 ∧ Q (.ref p) (upd H2 p (.dK (mergeK [] kvs)))
structure M1 (X : Cx) (o : Expr) (m : Str) (apos : Pos) (e : Expr) (cpos : Pos) : Prop where
  base : attributeBase o m X.env (eval o X.env) = eval o X.env
  few : ((backTo cpos (starEach [e] X.env)).all (fun x => !x.1) && (backToKw cpos (keywordEach [] X.env)).all (fun x => x.1.isSome)
    && decide (([e] : List Expr).length + ([] : List Keyword).length + (if ([] : List Keyword).isEmpty then 0 else 1) < 30)) = true
  line : (apos.endLine == cpos.line) = true
  trees : backTo cpos (starEach [e] X.env) = [(false, eval e X.env)]
def IsD (H : Hp) (a : Addr) : Prop := (∃ kvs, Rd H a (.dK kvs)) ∨ ∃ kvs, Rd H a (.dT kvs)
section
variable {X : Cx} {pins : List (Addr × Obj)} {σ : St} {H : Hp} {s : Shared} {a : Addr} {y d : V} {u r : Value} {o : Option V} {A : Around} {E : Value → Shared → Prop}
end
def tDPop1 (td ty : TE) : TE := fun σ H Q => td σ H fun x H1 => ∃ a, x = .ref a ∧ IsD H1 a ∧ ty σ H1 fun y H2 => ∃ kvs k v, H2 a = some (.dK kvs) ∧ y = kV k ∧ valV kvs k = some v ∧ Q v (upd H2 a (.dK (dropK kvs k)))
section
variable {X : Cx} {o e f : Expr} {apos cpos : Pos} {td ty tx : TE}
end
section
variable {X : Cx} {pins : List (Addr × Obj)} {σ : St} {H : Hp} {s : Shared} {a : Addr} {kvs : List (Key × V)} {A : Around} {E : Value → Shared → Prop}
end
section
variable {X : Cx} {pins : List (Addr × Obj)} {σ : St} {H : Hp} {s : Shared} {a : Addr} {y : V} {u : Value} {A : Around} {E : Value → Shared → Prop}
end
end L2
set_option Elab.async false
set_option linter.all false
set_option maxRecDepth 100000
namespace L2
open PySem PySem.Spec PyProof.Rows
abbrev B30 : Int := 1000000000000000000000000000000
theorem e30 : (10 : Int) ^ (30 : Int).toNat = B30 := by decide
def CMulB (i j : Int) : Prop := (0 ≤ i ∧ i ≤ 10000000000 * B30) ∧ (0 ≤ j ∧ j ≤ 10000000000 * B30)
theorem CMulB.ok {i j : Int} (h : CMulB i j) : IntMulOk i j := by
  have q : ∀ k : Int, 0 ≤ k ∧ k ≤ 10000000000 * B30 → PySem.Builtin.Int.intBits k ≤ 140 := fun k hk => intBits_le_iff.mpr (by
    have e : (2 : Nat) ^ 140 = 1393796574908163946345982392040522594123776 := by decide
    rw [e]
    unfold B30 at hk
    omega)
  exact IntMulOk.of_le (q i h.1) (q j h.2) (by decide)
theorem op_mulB {X : Cx} : OpR X (binaryOp .Mult) (rI CMulB fun i j => .int (i * j)) := opI fun _ _ _ _ _ _ _ hc q => PyProof.Rows.mul_int q hc.ok
theorem b_max : bootBuiltins "max" = some (.builtin "max") := by decide +kernel
theorem turnZ_all {te : TE} {σ : St} {d : Addr} {x y : V} {H : Hp} {Z : Hp → Prop} (h : te (some x :: some y :: σ) H fun v H4 => ∃ ys, H4 d = some (.lst ys) ∧ ys.length < sizeLine ∧ Z (upd H4 d (.lst (ys ++ [v])))) : turnZ tTrue te σ d x y H Z := by
  show (if true = true then (te (some x :: some y :: σ) H fun v H4 => ∃ ys, H4 d = some (.lst ys) ∧ ys.length < sizeLine ∧ Z (upd H4 d (.lst (ys ++ [v])))) else Z H)
  rw [if_pos rfl]
  exact h
end L2
set_option Elab.async false
set_option linter.all false
set_option maxRecDepth 100000
namespace L2
open PySem PySem.Spec PyProof.Rows
section
variable {X : Cx} {elt iter : Expr} {tg : Str} {tp : Pos} {cs : List Expr} {scope : Scope} {pos : Pos} {tc : TT} {te : TE} {M : List Str}
theorem ps_compL {tl : TE} {pos1 spos : Pos} {i : Nat} {x : Str} (hN : X.N.Nodup) (hix : X.N[i]? = some x) (hx : X.env.scope.names.lookup x = some .local) (hc : X.calm = true) (S : CompScope scope X.env X.N M) (nd : (tg :: M).Nodup) (hl : scope.names.lookup tg = some .local) (hi : PE X iter tl) (mo : MonoE tl)
    (hin : Inner X scope tg M cs elt tc te) (hw : swapsWith (.ListComp elt [⟨.Name tg tp, iter, cs, 0⟩] scope pos) (some (.Name x pos1)) spos.line X.env = pure true := by rfl) (hf : ∀ x, foldedSetIterable iter X.env x = pure x := by intro _; rfl) :
    PS X (.Assign [.Name x pos1] (.ListComp elt [⟨.Name tg tp, iter, cs, 0⟩] scope pos) spos) (tAsg (tCompL X.K tl tc te) (gName i)) := by
  refine ps_compG hc S nd hl (pi_list hi) hin (fun σ H Q h => ?_) hN hix hx hw hf
  refine mo σ H _ _ (fun v H1 q => ?_) h
  obtain ⟨a, xs, e, j1, q⟩ := q
  refine ⟨a, e, ⟨xs, j1⟩, fun d hd => ?_⟩
  obtain ⟨Pv, h0, hl, hs, hd⟩ := q d hd
  exact comp_list (k := 1) (g := gName 0) Pv h0 hl hs hd
end
end L2
set_option Elab.async false
set_option linter.all false
set_option maxRecDepth 100000
set_option maxHeartbeats 1000000
namespace L2
open PySem PySem.Spec PyProof.Rows
section
variable {P : Program} {w : World} {A : Around} {H : Hp} {s : Shared} {n : Nat} {α β γ : Type} [DecidableEq α] [DecidableEq β] [DecidableEq γ]
variable {R1 : V → α → Prop} {R2 : V → β → Prop} {R3 : V → γ → Prop}
end
def srt (ns : List Int) : List Int := ns.mergeSort fun a b => decide (a ≤ b)
theorem srt_perm (ns : List Int) : (srt ns).Perm ns := List.mergeSort_perm ns _
theorem srt_rises (ns : List Int) : (srt ns).Pairwise (· ≤ ·) := by
  have h := List.pairwise_mergeSort (le := fun a b : Int => decide (a ≤ b)) (fun a b c h1 h2 => by simp at *; omega) (fun a b => by simp; omega) ns
  exact h.imp fun h => by simpa using h
def SqI (H : Hp) (a : Addr) (ns : List Int) : Prop := H a = some (.lst (ns.map V.int)) ∨ H a = some (.tup (ns.map V.int))
theorem ints_vals2 {ns : List Int} {us : List Value} (r : Vals (ns.map V.int) us) : IntsAre us ns := by
  induction ns generalizing us with
  | nil => cases r; exact .nil
  | cons n ns ih =>
    cases r with
    | cons r rr =>
      obtain ⟨t, rfl⟩ := r
      exact .cons _ _ (ih rr)
theorem intsAre_len {vs : List Value} {ns : List Int} (h : IntsAre vs ns) : vs.length = ns.length := by
  induction h with
  | nil => rfl
  | cons n t _ ih => simp [ih]
end L2
set_option Elab.async false
set_option linter.all false
set_option maxRecDepth 100000
set_option maxHeartbeats 1000000
namespace L2
open PySem PySem.Spec PyProof.Rows
theorem head_min {ns : List Int} {m : Int} (h : m ∈ ns) (h1 : ∀ x ∈ ns, m ≤ x) : (srt ns).headD 0 = m := by
  have p := srt_perm ns
  have r := srt_rises ns
  cases e : srt ns with
  | nil =>
    rw [e] at p
    have := p.symm.mem_iff.mp h
    cases this
  | cons a t =>
    rw [e] at p r
    have ha : m ≤ a := h1 a (p.mem_iff.mp (.head _))
    have hm : m ∈ a :: t := p.symm.mem_iff.mp h
    show a = m
    cases hm with
    | head => rfl
    | tail _ hm =>
      have := (List.pairwise_cons.mp r).1 m hm
      omega
theorem best_is {its : List Value} {ns : List Int} (hI : IntsAre its ns) (ne : ns ≠ []) {v : Value} (h : its.toArray[argBest (fun i j => decide (ns.getD i 0 < ns.getD j 0)) (its.toArray.size - 1)]? = some v) : ∃ t, v = .int ((srt ns).headD 0) t := by
  have li := intsAre_len hI
  have hb := argBest_lt (fun i => ns.getD i 0) (its.toArray.size - 1)
  have ez : its.toArray.size = its.length := List.size_toArray
  have n0 : 0 < ns.length := List.length_pos_iff.mpr ne
  have hv : its[argBest (fun i j => decide (ns.getD i 0 < ns.getD j 0)) (its.toArray.size - 1)]? = some v := by simpa using h
  obtain ⟨t, e⟩ := hI.int_at _ v hv
  refine ⟨t, ?_⟩
  rw [e]
  congr 1
  refine (head_min ?_ fun x hx => ?_).symm
  · rw [List.getD_eq_getElem?_getD, List.getElem?_eq_getElem (by have := hb.1; omega)]
    exact List.getElem_mem _
  · obtain ⟨j, hj⟩ := List.mem_iff_getElem?.mp hx
    have jl := (List.getElem?_eq_some_iff.mp hj).1
    have := hb.2 j (by omega)
    rw [show ns.getD j 0 = x by rw [List.getD_eq_getElem?_getD, hj]; rfl] at this
    exact this
theorem b_min' : bootBuiltins "min" = some (.builtin "min") := by decide +kernel
end L2
set_option Elab.async false
set_option linter.all false
set_option maxRecDepth 100000
namespace L2
open PySem PySem.Spec PyProof.Rows
def CDivC (_ j : Int) : Prop := 0 < j ∧ j < 2 ^ 200
theorem op_fdivC {X : Cx} : OpR X (binaryOp .FloorDiv) (rI CDivC fun i j => .int (i / j)) := opI fun i j _ _ _ _ _ hc q => by
  have h0 : 0 ≤ j := Int.le_of_lt hc.1
  have hn : j.natAbs.log2 < 9000 := by
    have h1 : j.natAbs < 2 ^ 200 := by
      have e : ((2 ^ 200 : Nat) : Int) = 2 ^ 200 := by norm_cast
      have := hc.2
      omega
    have h2 : j.natAbs ≠ 0 := by have := hc.1; omega
    have h3 := (Nat.log2_lt h2).mpr h1
    omega
  refine floordiv_int (by have := hc.1; omega) ?_ (.inl (PyProof.noPylong_of_log2 hn))
  rw [Int.fdiv_eq_ediv_of_nonneg _ h0]
  exact q
end L2
namespace L2
open PySem PySem.Spec PyProof.Rows
end L2
set_option Elab.async false
set_option linter.all false
set_option maxRecDepth 100000
set_option maxHeartbeats 1000000
namespace L2
open PySem PySem.Spec PyProof.Rows
section
variable {prog : Program} {w : World} {A : Around} {R : Result → Shared → Prop} {I : Addr} {fp wr : List Addr} {n : Nat} {P : Nat → Value → Prop} {St : Nat → Heap → Prop}
abbrev kwD (d : Value) : List (Str × Value) := [(Str.ofString "default", d)]
theorem minD_go (W : Walks prog w A.in1 I fp wr n P St) (bt : Nat → Nat → Bool) (C : CmpOf prog w A.in1 .Lt P bt) (S : Addr) (hS : S ∉ fp) (d : Value) :
    ∀ (k j : Nat) (s : Shared) (vb : Value) (c : Nat), n - (j + 1) = k → j + 1 ≤ n → St (j + 1) s.heap → P (argBest bt j) vb → s.heap.get? S = some { cls := .type "list", data := .seq #[vb, vb] c } →
      (∀ (v : Value) (h' : Heap) (tk : Nat), P (argBest bt (n - 1)) v → (∀ (b : Addr) (o : Obj), b ∉ wr → b ≠ S → s.heap.get? b = some o → h'.get? b = some o) → R (.ok (.ret v)) { s with heap := h', toks := tk }) →
      codeAny (model prog w) A (.builtin "min.loop" ⟨[.ref I, .none, .ref S], kwD d⟩) R s := by
  intro k
  induction k with
  | zero =>
    intro j s vb c hk hj st pv hs q
    have ej : j + 1 = n := by omega
    refine codeAny_builtin F.entry_min_loop ?_
    rw [Around.under_plainId F.plain_min_loop _]
    show wpAny _ A.in1 (seqItems? (.ref S) >>= _) _ _ s
    refine wpAny_bind (wpAny_seqItems hs rfl ?_)
    refine wpAny_bind (wpAny_tryCatch ?_)
    subst ej
    refine W.done s _ _ st fun h' tk hk' => ?_
    have hs' := hk' S _ (fun z => hS (W.sub _ z)) hs
    show wpAny _ A.in1 (updateSeq S _ >>= _) _ _ _
    refine wpAny_bind (wpAny_updateSeq hs' rfl ?_)
    refine wpAny_bind (wpAny_letGo ?_)
    refine wpAny_pure ?_
    refine q vb _ tk pv fun b o hb hne e => ?_
    rw [Heap.get?_update_ne _ _ _ _ hne]
    exact hk' b o hb e
  | succ k ih =>
    intro j s vb c hk hj st pv hs q
    have hlt : j + 1 < n := by omega
    refine codeAny_builtin F.entry_min_loop ?_
    rw [Around.under_plainId F.plain_min_loop _]
    show wpAny _ A.in1 (seqItems? (.ref S) >>= _) _ _ s
    refine wpAny_bind (wpAny_seqItems hs rfl ?_)
    refine wpAny_bind (wpAny_tryCatch ?_)
    refine W.item (j + 1) s _ _ hlt st fun v h' tk hv st' hk' => ?_
    have hs' := hk' S _ (fun z => hS (W.sub _ z)) hs
    show wpAny _ A.in1 (tryCatch (holding [v, v] (richCompare .Lt v vb >>= _)) _ >>= _) _ _ _
    refine wpAny_bind (wpAny_tryCatch (wpAny_holding (wpAny_bind ?_)))
    refine C (j + 1) (argBest bt j) v vb _ _ _ hv pv ?_
    refine wpAny_bind (wpAny_holding (wpAny_truthy_bool ?_))
    refine wpAny_bind (wpAny_letGo (wpAny_pure ?_))
    have eb : argBest bt (j + 1) = if bt (j + 1) (argBest bt j) = true then j + 1 else argBest bt j := rfl
    cases hb : bt (j + 1) (argBest bt j) with
    | true =>
      rw [hb, if_pos rfl] at eb
      show wpAny _ A.in1 (updateSeq S _ >>= _) _ _ _
      refine wpAny_bind (wpAny_updateSeq hs' rfl ?_)
      refine wpAny_bind (wpAny_letGo ?_)
      refine wpAny_pure ⟨plainId_quiet F.plain_min_loop _, ?_⟩
      have hs2 := get?_update_seq (c := "list") hs' (fun _ => #[v, v])
      refine ih (j + 1) _ v _ (by omega) (by omega) ?_ (by rw [eb]; exact hv) hs2 fun v2 h2 tk2 hv2 hk2 => ?_
      · refine W.frame (j + 2) h' _ st' fun b hb2 o e => ?_
        rw [Heap.get?_update_ne _ _ _ _ (fun z => hS (by rw [← z]; exact hb2))]
        exact e
      · refine q v2 h2 tk2 hv2 fun b o hb2 hne e => hk2 b o hb2 hne ?_
        rw [Heap.get?_update_ne _ _ _ _ hne]
        exact hk' b o hb2 e
    | false =>
      rw [hb, if_neg (by decide)] at eb
      show wpAny _ A.in1 (letGo _ _ >>= _) _ _ _
      refine wpAny_bind (wpAny_letGo ?_)
      refine wpAny_pure ⟨plainId_quiet F.plain_min_loop _, ?_⟩
      exact ih (j + 1) _ vb c (by omega) (by omega) st' (by rw [eb]; exact pv) hs' fun v2 h2 tk2 hv2 hk2 => q v2 h2 tk2 hv2 fun b o hb2 hne e => hk2 b o hb2 hne (hk' b o hb2 e)
theorem minD_first (W : Walks prog w A.in1 I fp wr n P St) (bt : Nat → Nat → Bool) (C : CmpOf prog w A.in1 .Lt P bt) (S : Addr) (hS : S ∉ fp) (d : Value) {s : Shared} {c : Nat} (st : St 0 s.heap) (hs : s.heap.get? S = some { cls := .type "list", data := .seq #[] c })
    (q0 : n = 0 → ∀ (h' : Heap) (tk : Nat), (∀ (b : Addr) (o : Obj), b ∉ wr → b ≠ S → s.heap.get? b = some o → h'.get? b = some o) → R (.ok (.ret d)) { s with heap := h', toks := tk })
    (q : 0 < n → ∀ (v : Value) (h' : Heap) (tk : Nat), P (argBest bt (n - 1)) v → (∀ (b : Addr) (o : Obj), b ∉ wr → b ≠ S → s.heap.get? b = some o → h'.get? b = some o) → R (.ok (.ret v)) { s with heap := h', toks := tk }) :
    codeAny (model prog w) A (.builtin "min.loop" ⟨[.ref I, .none, .ref S], kwD d⟩) R s := by
  refine codeAny_builtin F.entry_min_loop ?_
  rw [Around.under_plainId F.plain_min_loop _]
  show wpAny _ A.in1 (seqItems? (.ref S) >>= _) _ _ s
  refine wpAny_bind (wpAny_seqItems hs rfl ?_)
  refine wpAny_bind (wpAny_tryCatch ?_)
  by_cases n0 : n = 0
  · subst n0
    refine W.done s _ _ st fun h' tk hk' => ?_
    show wpAny _ A.in1 (rule _ >>= _) _ _ _
    refine wpAny_bind (wpAny_rule (wpAny_pure ?_))
    exact q0 rfl h' tk fun b o hb _ e => hk' b o hb e
  · have hlt : 0 < n := by omega
    refine W.item 0 s _ _ hlt st fun v h' tk hv st' hk' => ?_
    have hs' := hk' S _ (fun z => hS (W.sub _ z)) hs
    show wpAny _ A.in1 (updateSeq S _ >>= _) _ _ _
    refine wpAny_bind (wpAny_updateSeq hs' rfl ?_)
    refine wpAny_pure ⟨plainId_quiet F.plain_min_loop _, ?_⟩
    have hs2 := get?_update_seq (c := "list") hs' (fun _ => #[v, v])
    refine minD_go W bt C S hS d (n - 1) 0 _ v _ rfl hlt ?_ hv hs2 fun v2 h2 tk2 hv2 hk2 => ?_
    · refine W.frame 1 h' _ st' fun b hb2 o e => ?_
      rw [Heap.get?_update_ne _ _ _ _ (fun z => hS (by rw [← z]; exact hb2))]
      exact e
    · refine q hlt v2 h2 tk2 hv2 fun b o hb2 hne e => hk2 b o hb2 hne ?_
      rw [Heap.get?_update_ne _ _ _ _ hne]
      exact hk' b o hb2 e
end
def rMinD (xs zs : List V) (H : Hp) (Q : VK) : Prop := ∃ (a : Addr) (ns : List Int), xs = [.ref a] ∧ zs = [.non] ∧ H a = some (.lst (ns.map V.int)) ∧ Q (if ns = [] then .non else .int ((srt ns).headD 0)) H
theorem args_minD (a d : Value) : argsOk "min" { pos := [a], kw := kwD d } := rfl
theorem min_dflt {X : Cx} (hc : X.calm = true) {pins : List (Addr × Obj)} {s : Shared} {σ : St} {H : Hp} {vs zs : List V} {us ws : List Value} {Q : VK} (I : Inv X pins σ H s) (r : Vals vs us) (rz : Vals zs ws) (h : rMinD vs zs H Q) :
    wpAny (model X.prog X.w) X.A (call (.builtin "min") us (([Str.ofString "default"] : List Str).zip ws)) (EP X pins σ Q) X.xe s := by
  obtain ⟨a, ns, rfl, rfl, e, q⟩ := h
  obtain ⟨u, rfl, ru⟩ := vals1 r
  obtain ⟨d, rfl, rd⟩ := vals1 rz
  cases ru
  cases rd
  obtain ⟨_, its, n, rv, he⟩ := (show ObjOk X.prog X.w H s.heap a (.lst (ns.map V.int)) from I.hok a _ e)
  have hI := ints_vals2 rv
  have li := intsAre_len hI
  have hlt := Heap.lt_size he
  show wpAny _ _ (call (.builtin "min") [.ref a] (kwD .none)) _ _ _
  refine kmb_tree F.kind_min F.plain_min F.entry_min (args_minD _ _) ?_
  have eB : Builtin.Builtins.bindParams "min" ["key", "default"] 0 { kw := kwD .none } = pure [none, some .none] := rfl
  show wpAny _ X.A.in1 (Builtin.Builtins.bindParams "min" ["key", "default"] 0 { kw := kwD .none } >>= _) _ _ s
  rw [eB]
  show wpAny _ X.A.in1 (pyIter (.ref a) >>= _) _ _ s
  refine wpAny_bind (wpAny_pyIter_list (isL_of he) ?_)
  refine wpAny_bind (wpAny_newList ?_ (Nat.zero_le _))
  refine wpAny_pure ⟨plainId_quiet F.plain_min_loop _, ?_⟩
  have sz : (s.heap.push { cls := .type "list_iterator", data := .fields #[.ref a, rawInt 0] }).objs.size = s.heap.objs.size + 1 := Heap.size_push _ _
  have hS : (s.heap.push { cls := .type "list_iterator", data := .fields #[.ref a, rawInt 0] }).objs.size ∉ [s.heap.objs.size, a] := fun z => by
    rw [sz] at z
    simp only [List.mem_cons, List.not_mem_nil, or_false] at z
    rcases z with z | z
    · exact absurd z (Nat.ne_of_gt (Nat.lt_succ_self _))
    · rw [← z] at hlt
      exact absurd hlt (Nat.not_lt.mpr (Nat.le_succ _))
  have up : ∀ b o, s.heap.get? b = some o → ((s.heap.push { cls := .type "list_iterator", data := .fields #[.ref a, rawInt 0] }).push { cls := .type "list", data := .seq (([] : List Value).toArray) }).get? b = some o := fun b o eo => Heap.get?_push_of_some _ (Heap.get?_push_of_some _ eo)
  have ne1 : ∀ b o, s.heap.get? b = some o → b ∉ [s.heap.objs.size] := fun b o eo z => by
    rw [List.mem_singleton.mp z] at eo
    exact absurd (Heap.lt_size eo) (Nat.lt_irrefl _)
  have ne2 : ∀ b o, s.heap.get? b = some o → b ≠ (s.heap.push { cls := .type "list_iterator", data := .fields #[.ref a, rawInt 0] }).objs.size := fun b o eo z => by
    rw [sz] at z
    rw [z] at eo
    exact absurd (Heap.lt_size eo) (Nat.not_lt.mpr (Nat.le_succ _))
  refine minD_first (A := X.A) (c := 0) (Walks.list (A := X.A.in1) (by show X.A.handled = none; exact I.ok.hd hc) s.heap.objs.size a (Nat.ne_of_lt hlt) its.toArray) (fun i j => decide (ns.getD i 0 < ns.getD j 0)) (CmpOf.ints_lt _ (fun i v hv => hI.int_at i v (by simpa using hv))) _ hS .none
    ⟨⟨_, Heap.get?_push_of_some _ (Heap.get?_push_size _ rfl), rfl, rfl⟩, isL_of (up _ _ he)⟩ (Heap.get?_push_size _ rfl) (fun n0 h' tk hk => ?_) (fun n0 v h' tk hv hk => ?_)
  · have e0 : ns = [] := List.length_eq_zero_iff.mp (by rw [← li]; rw [List.size_toArray] at n0; exact n0)
    rw [if_pos e0] at q
    exact ⟨.non, H, I.kept (h' := h') (t' := tk) (fun b o eo => hk b o (ne1 b o eo) (ne2 b o eo) (up b o eo)), rfl, q⟩
  · have e0 : ns ≠ [] := fun z => by
      rw [z] at li
      rw [List.size_toArray] at n0
      simp at li
      rw [li] at n0
      simp at n0
    rw [if_neg e0] at q
    obtain ⟨t, rfl⟩ := best_is hI e0 hv
    exact ⟨.int _, H, I.kept (h' := h') (t' := tk) (fun b o eo => hk b o (ne1 b o eo) (ne2 b o eo) (up b o eo)), ⟨t, rfl⟩, q⟩
def tMinD (t tk : TA) : TE := fun σ H Q => t σ H fun vs H1 => tk σ H1 fun zs H2 => rMinD vs zs H2 Q
theorem pe_minD {X : Cx} {e e2 : Expr} {p pos kpos : Pos} {t tk : TA} (hc : X.calm = true) (hg : Gl X "min") (hm : X.mg "min" = none) (ha : PA X [e] t) (hk : PK X [⟨some "default", e2, kpos⟩] tk) (h1 : backTo pos (starEach [e] X.env) = (false, eval e X.env) :: backTo pos (starEach [] X.env) := by rfl)
    (h2 : ((backTo pos (starEach [e] X.env)).any (·.1)) = false := by rfl) (h3 : (backToKw pos (keywordEach [⟨some "default", e2, kpos⟩] X.env)).all (·.1.isSome) = true := by rfl) (h4 : (backToKw pos (keywordEach [⟨some "default", e2, kpos⟩] X.env)).any (·.1.isNone) = false := by rfl) (h5 : (backToKw pos (keywordEach [⟨some "default", e2, kpos⟩] X.env)).filterMap (·.1) = [Str.ofString "default"] := by rfl) :
    PE X (.Call (.Name "min" p) [e] [⟨some "default", e2, kpos⟩] pos) (tMinD t tk) := by
  intro pins s σ H Q I h
  refine wpAny_Call_Name_kw (ld_blt I hg hm b_min' ?_)
  refine callWith_kw (thn (ha pos pins s σ H _ I h) fun us s1 ⟨vs, H1, I1, r, q⟩ => ?_) h1 h2 h3 h4
  refine thn (hk pos pins s1 σ H1 _ I1 q) fun ws s2 ⟨zs, H2, I2, rz, q2⟩ => ?_
  rw [h5]
  exact min_dflt hc I2 r rz q2
end L2
set_option Elab.async false
set_option linter.all false
set_option maxRecDepth 100000
namespace L2
open PySem PySem.Spec PyProof.Rows
def Itr3 (lo st : Int) (n : Nat) : It := ⟨fun i _ => i < n, fun i H x H' => H' = H ∧ x = .int (lo + i * st), fun i _ => n ≤ i⟩
theorem turn_range3 {P : Program} {w : World} {K : PySem.W.Frag} {tg : Expr} (it : Addr) (lo st : Int) (n : Nat) : Turn P w K tg (Itr3 lo st n) [it] it (fun i h => IsRangeIter h it (lo + (i : Nat) * st) ((n : Int) - (i : Nat)) st) where
  mem := by simp
  obj := fun i h st b hb => by
    have e : b = it := by simpa using hb
    subst e
    exact ⟨_, st, fun v z => by
      have z' : Data.fields _ = Data.cell v := z
      cases z'⟩
  keep := fun i h h' st k => k it (by simp) _ st
  item := by
    intro X hP hw hK hc i pins s σ H E I hf st0 hg
    subst hP hw hK
    obtain ⟨f0, f1, f2, f3, f4, f5⟩ := hf it (by simp)
    have W := Walks.range (prog := X.prog) (w := X.w) (I.ok.hd hc) it lo st n
    refine W.item i s _ _ hg st0 fun v h' tk hv st' kk => ?_
    obtain ⟨t, rfl⟩ := hv
    have I1 : Inv X pins σ H { s with heap := h', toks := tk } := I.turned (fun b o hb e => kk b o (by simpa using hb) e) f0 f1 f3 f4 f5
    exact ⟨_, rfl, go_of (s := { s with heap := h', toks := tk }) (n := "range_iterator") st' rfl rfl (by decide) ⟨.int (lo + i * st), H, I1, ⟨t, rfl⟩, ⟨rfl, rfl⟩, st', fun b hb => (hf b hb).1⟩⟩
  done := by
    intro X hP hw hK hc i pins s σ H E I hf st0 hg
    subst hP hw hK
    obtain ⟨f0, f1, f2, f3, f4, f5⟩ := hf it (by simp)
    exact wpAny_pyNext_range_end (I.ok.hd hc) st0 (by have : n ≤ i := hg; omega) fun h' eb => ⟨rfl, I.turned (t' := s.toks) (fun b o hb e => eb b o hb e) f0 f1 f3 f4 f5⟩
  self := fun _ _ _ _ _ st h => wpAny_pyIter_rangeiter st h
theorem for_range3 {lo st : Int} {n : Nat} {g : TG} {tb : TS} {D : Ends} {σ : St} {H : Hp} (Pv : Nat → St → Hp → Prop) (h0 : Pv 0 σ H) (hs : ∀ i σ H, i < n → Pv i σ H → g (.int (lo + i * st)) σ H fun σ2 H2 => tb { D with nx := Pv (i + 1), ct := Pv (i + 1), bk := D.nx } σ2 H2) (hd : ∀ σ H, Pv n σ H → D.nx σ H) :
    ∃ W : Nat → Nat → St → Hp → Prop, (∃ m, W 0 m σ H) ∧ ∀ i m σ H, W i m σ H →
      ((Itr3 lo st n).stop i H ∧ D.nx σ H) ∨ ((Itr3 lo st n).go i H ∧ ∃ N : St → Hp → Prop, (∀ σ' H', N σ' H' → ∃ m', m' < m ∧ W (i + 1) m' σ' H') ∧ ∀ x H', (Itr3 lo st n).yld i H x H' → g x σ H' fun σ2 H2 => tb { D with nx := N, ct := N, bk := D.nx } σ2 H2) := by
  refine ⟨fun i m σ H => m = n - i ∧ i ≤ n ∧ Pv i σ H, ⟨n, by simp, Nat.zero_le _, h0⟩, ?_⟩
  rintro i m σ H ⟨rfl, hi, p⟩
  by_cases hlt : i < n
  · refine .inr ⟨hlt, Pv (i + 1), fun σ' H' q => ⟨n - (i + 1), by omega, rfl, by omega, q⟩, ?_⟩
    rintro v H' ⟨rfl, rfl⟩
    exact hs i σ _ hlt p
  · have e : i = n := by omega
    subst e
    exact .inl ⟨Nat.le_refl _, hd σ H p⟩
end L2
set_option Elab.async false
set_option linter.all false
set_option maxRecDepth 100000
set_option maxHeartbeats 1000000
namespace L2
open PySem PySem.Spec PyProof.Rows
theorem smallD {a : Int} (h1 : -1 ≤ a) (h2 : a < 1000000) : Builtin.Range.small a (-1) (-1) = true ∧ Builtin.Range.rangeSize a (-1) (-1) = a + 1 := by
  have z : Builtin.Range.rangeSize a (-1) (-1) = a + 1 := by
    unfold Builtin.Range.rangeSize
    rw [if_neg (by decide)]
    have e1 : (a - -1 - 1) / - -1 = a := by
      rw [show (- -1 : Int) = 1 from rfl, Int.ediv_one]
      omega
    split
    · rw [e1]
    · omega
  refine ⟨?_, z⟩
  have f : ∀ i : Int, -2 ≤ i → i ≤ 1000000 → Builtin.Range.rangeFitsLong i = true := fun i h3 h4 => by
    unfold Builtin.Range.rangeFitsLong
    rw [Bool.and_eq_true, decide_eq_true_eq, decide_eq_true_eq]
    omega
  unfold Builtin.Range.small
  rw [z, f a (by omega) (by omega), f (-1) (by omega) (by omega), f (a + 1) (by omega) (by omega), if_neg (by decide), f (-1 + (-1 + 1)) (by omega) (by omega)]
  simp
def iRngD (ta : TA) : TI := fun σ H R => ta σ H fun vs H1 => ∃ a : Int, vs = [.int a, .int (-1), .int (-1)] ∧ (-1 ≤ a ∧ a < 1000000) ∧ R (Itr3 a (-1) (a + 1).toNat) H1
theorem pi_rangeD {X : Cx} {tg : Expr} {a b c : Expr} {ta : TA} {p pos : Pos} (hg : Gl X "range") (hm : X.mg "range" = none) (ha : PA X [a, b, c] ta) (hs : starEach [a, b, c] X.env = (false, eval a X.env) :: starEach [b, c] X.env := by rfl) (hs2 : (backTo pos (starEach [b, c] X.env)).any (·.1) = false := by rfl) :
    PI X tg (.Call (.Name "range" p) [a, b, c] [] pos) (iRngD ta) := by
  intro pins s σ H R I h
  refine Call_ (ld_blt I hg hm boot_range (PyProof.Rows.callWith_type1 (thn (ha pos pins s σ H _ I h) fun us s1 ⟨vs, H1, I1, r1, q1⟩ => ?_) hs hs2))
  obtain ⟨i, e, ⟨h1, h2⟩, q⟩ := q1
  subst e
  cases r1 with
  | cons r rr =>
    cases rr with
    | cons r' rr =>
      cases rr with
      | cons r'' rr =>
        cases rr
        obtain ⟨t, rfl⟩ := r
        obtain ⟨t', rfl⟩ := r'
        obtain ⟨t'', rfl⟩ := r''
        obtain ⟨sm, z0⟩ := smallD h1 h2
        refine call_range_3 (by decide) ?_ (.inl (PyProof.noPylong_small (by decide)))
        refine wpAny_pyIter_range (IsRange.new ..) sm ?_
        have I2 : Inv X pins σ H1 { s1 with heap := s1.heap.push { cls := .type "range", data := .fields #[.int i t, .int (-1) t', .int (-1) t''] }, toks := s1.toks } := I1.kept fun b o e => Heap.get?_push_of_some _ e
        refine ⟨_, [_], _, _, H1, rfl, I2.kept (t' := s1.toks) fun b o e => Heap.get?_push_of_some _ e, turn_range3 _ i (-1) (i + 1).toNat, ?_, fun b hb => ?_, q⟩
        · have e1 : i + ((0 : Nat) : Int) * (-1) = i := by simp
          have e2 : ((((i + 1).toNat : Nat) : Int)) - ((0 : Nat) : Int) = Builtin.Range.rangeSize i (-1) (-1) := by rw [z0]; omega
          show IsRangeIter _ _ (i + ((0 : Nat) : Int) * (-1)) ((((i + 1).toNat : Nat) : Int) - ((0 : Nat) : Int)) (-1)
          rw [e1, e2]
          exact Heap.get?_push_size _ rfl
        · have e := List.mem_singleton.mp hb
          subst e
          exact I2.fpOk (Nat.le_refl _) (I2.hok.fresh (Nat.le_refl _))
end L2
set_option Elab.async false
set_option linter.all false
set_option maxRecDepth 100000
set_option maxHeartbeats 1000000
namespace L2
open PySem PySem.Spec PyProof.Rows
section
variable {X : Cx} {pins : List (Addr × Obj)} {σ : St} {H : Hp} {s : Shared}
theorem Inv.tup0 {a : Addr} {xs : List V} (I : Inv X pins σ H s) (e : H a = some (.tup xs)) : xs.length ≤ sizeLine ∧ ∃ (its : List Value) (n : Nat), Vals xs its ∧ s.heap.get? a = some { cls := .type "tuple", data := .seq its.toArray n } := by
  obtain ⟨z, its, r, o, e1, n, rfl⟩ := (show ObjOk X.prog X.w H s.heap a (.tup xs) from I.hok a _ e)
  exact ⟨z, its, n, r, e1⟩
end
def tBMT (r : V → List V → Hp → VK → Prop) (to : TE) (t : TA) : TE := fun σ H Q => to σ H fun x H1 => (∃ a xs, x = .ref a ∧ H1 a = some (.tup xs)) ∧ t σ H1 fun xs H2 => r x xs H2 Q
theorem pe_bmT {X : Cx} {id : String} {name : Str} {o e : Expr} {es : List Expr} {apos cpos : Pos} {to : TE} {t : TA} {r : V → List V → Hp → VK → Prop} (slot : Slot "tuple" name id) (hty : typeOf (.builtin id) = pure (.type "method_descriptor")) (hm : MtR X id r) (ho : PE X o to) (ha : PA X (e :: es) t)
    (hbase : attributeBase o name X.env (eval o X.env) = eval o X.env := by rfl)
    (hfew : ((backTo cpos (starEach (e :: es) X.env)).all (fun x => !x.1) && (backToKw cpos (keywordEach [] X.env)).all (fun x => x.1.isSome) && decide ((e :: es).length + ([] : List Keyword).length + (if ([] : List Keyword).isEmpty then 0 else 1) < 30)) = true := by rfl)
    (hline : (apos.endLine == cpos.line) = true := by rfl) (hs : starEach (e :: es) X.env = (false, eval e X.env) :: starEach es X.env := by rfl) (hplain : (backTo cpos (starEach es X.env)).any (·.1) = false := by rfl) :
    PE X (.Call (.Attribute o name apos) (e :: es) [] cpos) (tBMT r to t) := by
  intro pins s σ H Q I h
  refine wpAny_Call_method_late hbase hfew hline rfl (thn (ho pins s σ H _ I h) fun v s1 ⟨x, H1, I1, r1, ty, q1⟩ => ?_)
  obtain ⟨a, xs, rfl, ea⟩ := ty
  cases r1
  obtain ⟨_, its, n, _, e1⟩ := I1.tup0 ea
  refine ⟨"tuple", id, PySem.F.plainAttrs_tuple, slot, hty, ⟨_, e1, rfl⟩, fun b eb => ?_, ?_⟩
  · cases eb
    exact ⟨_, e1, rfl⟩
  have hA := ha cpos pins s1 σ H1 _ I1 q1
  rw [hs] at hA ⊢
  refine Calls.callWith_builtin (by show (false || (backTo cpos (starEach es X.env)).any (·.1)) = false; rw [hplain] <;> rfl) (Calls.evalArgs_plain ?_)
  exact thn hA fun us s2 ⟨vs, H2, I2, r2, q2⟩ => hm pins s2 σ H2 (.ref a) vs _ us Q I2 rfl r2 q2
def eqI (k : Int) : Value → Bool
  | .int i _ => i == k
  | _ => false
theorem count_is (k : Int) : ∀ {ns : List Int} {its : List Value}, Vals (ns.map V.int) its → its.countP (eqI k) = ns.count k
  | [], _, .nil => rfl
  | n :: ns, _, .cons r t => by
    obtain ⟨u, rfl⟩ := r
    rw [List.countP_cons, List.count_cons, count_is k t]
    rfl
theorem vals_int {ns : List Int} {its : List Value} (h : Vals (ns.map V.int) its) : ∀ y ∈ its, ∃ i t, y = .int i t := by
  induction ns generalizing its with
  | nil => cases h; intro y hy; cases hy
  | cons n ns ih =>
    cases h with
    | cons r t =>
      obtain ⟨u, rfl⟩ := r
      intro y hy
      rcases List.mem_cons.mp hy with z | z
      · exact ⟨n, u, z⟩
      · exact ih t y z
def rCntT : V → List V → Hp → VK → Prop := fun x vs H Q => ∃ (a : Addr) (ns : List Int) (k : Int), x = .ref a ∧ vs = [.int k] ∧ H a = some (.tup (ns.map V.int)) ∧ Q (.int ((ns.count k : Nat) : Int)) H
theorem mt_countT {X : Cx} : MtM X "tuple.count" rCntT := by
  intro pins s σ H x vs v us Q I rx rv h
  obtain ⟨a, ns, k, rfl, rfl, hH, q⟩ := h
  cases rx
  obtain ⟨y', rfl, ry⟩ := rv.one
  obtain ⟨t, rfl⟩ := ry
  obtain ⟨z, its, n, r, e0⟩ := I.tup0 hH
  refine call_meets PySem.F.slot_tuple_count ⟨_, e0, rfl⟩ PySem.F.entry_tuple_count (PySem.F.args_tuple_count_2 _ _) (SeqAt.tuple_countAt a its.toArray n none #[] (.int k t) (eqI k)) ⟨e0, fun y hy => ?_, ?_⟩
  · obtain ⟨i, u, rfl⟩ := vals_int r y (by simpa using hy)
    exact SeqAt.EqAt.int_int i u k t
  · refine ⟨.int _, H, I.tok _, ⟨_, rfl⟩, ?_⟩
    have e : (its.toArray.toList.countP (eqI k)) = ns.count k := by rw [List.toList_toArray]; exact count_is k r
    rw [e]
    exact q
def CMulS (i j : Int) : Prop := (-(100000000 * B30) ≤ i ∧ i ≤ 100000000 * B30) ∧ (-(100000000 * B30) ≤ j ∧ j ≤ 100000000 * B30)
theorem CMulS.ok {i j : Int} (h : CMulS i j) : IntMulOk i j := by
  have q : ∀ k : Int, -(100000000 * B30) ≤ k ∧ k ≤ 100000000 * B30 → PySem.Builtin.Int.intBits k ≤ 140 := fun k hk => intBits_le_iff.mpr (by
    have e : (2 : Nat) ^ 140 = 1393796574908163946345982392040522594123776 := by decide
    rw [e]
    unfold B30 at hk
    omega)
  exact IntMulOk.of_le (q i h.1) (q j h.2) (by decide)
theorem op_mulS {X : Cx} : OpR X (binaryOp .Mult) (rI CMulS fun i j => .int (i * j)) := opI fun _ _ _ _ _ _ _ hc q => PyProof.Rows.mul_int q hc.ok
end L2
set_option Elab.async false
set_option linter.all false
set_option maxRecDepth 100000
namespace L2
open PySem PySem.Spec PyProof.Rows
abbrev exA (a : Addr) (o : Obj) : HO := .ext fun h => h.get? a = some o
abbrev cdA (c : Addr) (q : Str) : HO := .ext fun h => h.CodeRec (.ref c) q
def unt (as : List Addr) (H : Hp) : Hp := fun b => if b ∈ as then none else H b
def rtk (as : List Addr) (H H' : Hp) : Hp := fun b => if b ∈ as then H b else H' b
theorem unt_in {as : List Addr} {H : Hp} {b : Addr} (h : b ∈ as) : unt as H b = none := if_pos h
theorem unt_out {as : List Addr} {H : Hp} {b : Addr} (h : b ∉ as) : unt as H b = H b := if_neg h
theorem rtk_in {as : List Addr} {H H' : Hp} {b : Addr} (h : b ∈ as) : rtk as H H' b = H b := if_pos h
theorem rtk_out {as : List Addr} {H H' : Hp} {b : Addr} (h : b ∉ as) : rtk as H H' b = H' b := if_neg h
def Exs (H : Hp) (as : List Addr) : Prop := ∀ a ∈ as, ∃ o, H a = some (exA a o)
section
variable {P : Program} {w : World} {H H' : Hp} {h h' : Heap} {as : List Addr} {fs ex : List Addr}
theorem Exs.out (x : Exs H as) {b : Addr} {u : HO} (e : H b = some u) (hn : ∀ o, u ≠ exA b o) : b ∉ as := fun z => by
  obtain ⟨o, e'⟩ := x b z
  rw [e] at e'
  exact hn o (Option.some.inj e')
theorem HOk.unt (x : HOk P w H h) (e : Exs H as) : HOk P w (L2.unt as H) h := fun a o q => by
  have ne : a ∉ as := fun z => by rw [unt_in z] at q; cases q
  rw [unt_out ne] at q
  exact (x a o q).stay (fun b u _ r => r) (fun b r => by rw [unt_out (e.out r fun o => by intro z; cases z)]; exact r) fun b xs r => by rw [unt_out (e.out r fun o => by intro z; cases z)]; exact r
theorem exA_ok {a : Addr} {o : Obj} (e : h.get? a = some o) : ObjOk P w H h a (exA a o) := ⟨e, ⟨o, e⟩, fun h1 h2 e1 k => k o e1⟩
theorem cdA_ok {c : Addr} {q : Str} (e : h.CodeRec (.ref c) q) : ObjOk P w H h c (cdA c q) := by
  obtain ⟨c2, o, vs, t, e1, g, r⟩ := e
  cases e1
  refine ⟨⟨c, o, vs, t, rfl, g, r⟩, ⟨o, g⟩, fun h1 h2 x k => ?_⟩
  obtain ⟨c3, o', vs', t', e2, g', r'⟩ := x
  cases e2
  exact ⟨c, o', vs', t', rfl, k _ g', r'⟩
theorem Un.rtk (u : Un fs ex (L2.unt as H) H' h h') (e : Exs H as) : Un fs ex H (L2.rtk as H H') h h' := by
  have no : ∀ {b : Addr}, H b = none → b ∉ as := fun {b} n z => by obtain ⟨o, q⟩ := e b z; rw [n] at q; cases q
  refine ⟨fun b o q n hb hx => u.keep b o q (by rw [unt_out (no n)]; exact n) hb hx, fun b o q n hb hx => u.slot b o q (by rw [unt_out (no n)]; exact n) hb hx, fun b o q n hx => ?_, u.there, fun b xs q => ?_, fun b o u' q => ?_, fun b ps q => ?_⟩
  · rw [rtk_out (no n)]; exact u.free b o q (by rw [unt_out (no n)]; exact n) hx
  · have ne := e.out q fun o => by intro z; cases z
    rw [rtk_out ne]; exact u.tups b xs (by rw [unt_out ne]; exact q)
  · have ne := e.out q fun o => by intro z; cases z
    rw [rtk_out ne]; exact u.frzs b o u' (by rw [unt_out ne]; exact q)
  · have ne := e.out q fun o => by intro z; cases z
    rw [rtk_out ne]; exact u.tbls b ps (by rw [unt_out ne]; exact q)
theorem HOk.rtk (x : HOk P w H' h') (u : Un fs ex (L2.unt as H) H' h h') (x0 : HOk P w H h) (e : Exs H as) (nf : ∀ a ∈ as, a ∉ fs ∧ a ∉ ex) : HOk P w (L2.rtk as H H') h' := fun a o q => by
  have no : ∀ {b : Addr}, b ∈ as → H' b = none ∧ ∀ o, H b = some (exA b o) → h'.get? b = some o := fun {b} z => by
    obtain ⟨o1, q1⟩ := e b z
    have g1 : h.get? b = some o1 := (x0 b _ q1).1
    refine ⟨u.free b o1 g1 (unt_in z) (nf b z).2, fun o2 q2 => ?_⟩
    have g2 : h.get? b = some o2 := (x0 b _ q2).1
    exact u.keep b o2 g2 (unt_in z) (nf b z).1 (nf b z).2
  by_cases z : a ∈ as
  · rw [rtk_in z] at q
    obtain ⟨o1, q1⟩ := e a z
    rw [q1] at q; cases q
    exact exA_ok ((no z).2 o1 q1)
  · rw [rtk_out z] at q
    have st : ∀ {b : Addr} {y : HO}, H' b = some y → b ∉ as := fun {b y} r k => by rw [(no k).1] at r; cases r
    exact (x a o q).stay (fun b u _ r => r) (fun b r => by rw [rtk_out (st r)]; exact r) fun b xs r => by rw [rtk_out (st r)]; exact r
end
def cxL (P : Program) (w : World) (K : PySem.W.Frag) (mg : Str → Option Value) (base : Heap) (N : List Str) (qual : Str) (scope : Scope) (g : Addr) (cd : Value) (cl : List (Str × Addr)) (A : Around) (outer : List Env) (s : Shared) (H : Hp) (xe : Value → Shared → Prop) : Cx where
  prog := P
  w := w
  K := K
  mg := mg
  base := base
  A := A.deeper (PySem.W.envX qual scope s.heap.objs.size g cd cl)
  N := N
  s₀ := s
  H₀ := H
  env := PySem.W.envX qual scope s.heap.objs.size g cd cl
  outer := outer
  stack := PySem.W.envX qual scope s.heap.objs.size g cd cl :: outer
  ex := []
  calm := true
  fn := fun _ => false
  pn := []
  xe := xe
structure LamScope (scope : Scope) (ps : List Str) (cl : List (Str × Addr)) : Prop where
  kind : scope.kind = .function
  co : scope.isCoroutine = false
  gen : scope.isGenerator = false
  nd : (ps ++ cl.map (·.1)).Nodup
  par : ∀ x ∈ ps, scope.names.lookup x = some .local
  nocell : ∀ y ∈ scope.names, y.2 ≠ .cell
  fr : ∀ y ∈ scope.names, y.2 = .free → y.1 ∈ cl.map (·.1)
  cap : ∀ x ∈ cl.map (·.1), scope.names.lookup x = some .free
theorem lookup_at : ∀ {cl : List (Str × Addr)} {i : Nat} {x : Str} {c : Addr}, (cl.map (·.1)).Nodup → cl[i]? = some (x, c) → cl.lookup x = some c
  | [], _, _, _, _, h => by simp at h
  | (y, d) :: cl, 0, x, c, _, h => by
    have h : y = x ∧ d = c := by simpa using h
    obtain ⟨rfl, rfl⟩ := h
    simp [List.lookup]
  | (y, d) :: cl, i + 1, x, c, nd, h => by
    have h : cl[i]? = some (x, c) := by simpa using h
    have ne : x ≠ y := fun z => (List.nodup_cons.mp nd).1 (by rw [← z]; exact List.mem_map.mpr ⟨_, List.mem_of_getElem? h, rfl⟩)
    have e : (x == y) = false := by simpa using ne
    rw [List.lookup, e]
    exact lookup_at (List.nodup_cons.mp nd).2 h
theorem at_lookup : ∀ {cl : List (Str × Addr)} {x : Str} {c : Addr}, cl.lookup x = some c → ∃ i : Nat, cl[i]? = some (x, c)
  | [], _, _, h => by cases h
  | (y, d) :: cl, x, c, h => by
    rw [List.lookup] at h
    cases e : (x == y) with
    | true =>
      rw [e] at h
      have : d = c := by simpa using h
      have xy : x = y := by simpa using e
      exact ⟨0, by rw [xy, this]; rfl⟩
    | false =>
      rw [e] at h
      obtain ⟨i, hi⟩ := at_lookup h
      exact ⟨i + 1, by simpa using hi⟩
theorem rev_lookup {us : List Value} : ∀ {ps : List Str}, ps.Nodup → ∀ {i : Nat} {x : Str} {u : Value}, ps[i]? = some x → us[i]? = some u → (ps.zip us).reverse.lookup x = some u := by
  induction us with
  | nil => intro ps _ i x u _ h; simp at h
  | cons v us ih =>
    intro ps nd i x u h1 h2
    cases ps with
    | nil => simp at h1
    | cons p ps =>
      rw [List.zip_cons_cons, List.reverse_cons, List.lookup_append]
      cases i with
      | zero =>
        have e1 : p = x := by simpa using h1
        have e2 : v = u := by simpa using h2
        subst e1 e2
        have : (ps.zip us).reverse.lookup p = none := by
          cases e : (ps.zip us).reverse.lookup p with
          | none => rfl
          | some y =>
            have := PySem.mem_of_lookup e
            rw [List.mem_reverse] at this
            exact absurd (List.of_mem_zip this).1 (List.nodup_cons.mp nd).1
        rw [this]
        simp [List.lookup]
      | succ i =>
        rw [ih (List.nodup_cons.mp nd).2 (by simpa using h1) (by simpa using h2)]
        rfl
theorem lam_call {P : Program} {w : World} {K : PySem.W.Frag} {mg : Str → Option Value} {base : Heap} {k : Nat} {name qual : Str} {params : Arguments} {body : Expr} {scope : Scope} {cl : List (Str × Addr)} {pm ctv : Value} {c' g : Addr} {ps : List Str} {A : Around} {outer : List Env} {s : Shared} {H : Hp} {us : List Value} {vs cvs : List V} {Q : VK} {E : XK}
    (S : LamScope scope ps cl) (hr : Room (k + 1) A) (e0 : Env0 P w K mg base A outer s H) (ho : H g = some (exA g (PySem.W.kla_obj name qual params body scope cl pm c' ctv))) (hc : H c' = some (cdA c' qual)) (nda : (cl.map (·.2)).Nodup)
    (hcl : ∀ (i : Nat) (x : Str) (c : Addr), cl[i]? = some (x, c) → ∃ o u v, H c = some (exA c o) ∧ o.data = .cell (some u) ∧ cvs[i]? = some v ∧ RelV v u) (lcv : cvs.length = cl.length) (r : Vals vs us) (hl : vs.length = ps.length)
    (hb : bindArgs (PySem.W.kla_fn name qual params body scope cl pm (.ref c') ctv) ⟨us, []⟩ = pure (ps.zip us))
    (hbody : ∀ xe, Room k (A.deeper (PySem.W.envX qual scope s.heap.objs.size g (.ref c') cl)) → ∃ t, PE (cxL P w K mg base (ps ++ cl.map (·.1)) qual scope g (.ref c') cl A outer s (unt (cl.map (·.2)) H) xe) body t ∧ t ((vs ++ cvs).map some) (unt (cl.map (·.2)) H) fun v H' => (∀ a ∈ cl.map (·.2), H' a = none) → Q v (rtk (cl.map (·.2)) H H')) :
    codeAny (model P w) A (.call (.ref g) ⟨us, []⟩) (CR CX0 outer P w H s Q E) s := by
  have lim : s.heap.NoLimit := e0.mod.nolimit.keeps fun b o e => (e0.bs b o e).1
  have eg : s.heap.get? g = some (PySem.W.kla_obj name qual params body scope cl pm c' ctv) := (e0.hok g _ ho).1
  have ec : s.heap.CodeRec (.ref c') qual := (e0.hok c' _ hc).1
  have exs : Exs H (cl.map (·.2)) := fun a ha => by
    obtain ⟨⟨x, c⟩, hm, rfl⟩ := List.mem_map.mp ha
    obtain ⟨i, hi⟩ := List.mem_iff_getElem?.mp hm
    obtain ⟨o, u, v, e1, _⟩ := hcl i x c hi
    exact ⟨o, e1⟩
  have ndp : ps.Nodup := (List.nodup_append.mp S.nd).1
  have ndc : (cl.map (·.1)).Nodup := (List.nodup_append.mp S.nd).2.1
  have lus : us.length = ps.length := by rw [← r.length, hl]
  refine PySem.W.kla_callFunE hr.depth eg rfl S.co S.gen rfl ec ?_
  rw [hb]
  refine wpAny_pure (wpAny_newFunctionEnv S.nocell (fun y hy => S.par y.1 (List.of_mem_zip hy).1) (fun h₁ hns hsb => ?_) S.kind)
  have hk₁ : ∀ b o, s.heap.get? b = some o → h₁.get? b = some o := fun b o e => hsb.extBut b o (Nat.ne_of_lt (Heap.lt_size e)) (Heap.get?_push_of_some _ e)
  refine ⟨lim.keeps hk₁, ?_⟩
  show codeAny _ _ (.expr body (PySem.W.envX qual scope s.heap.objs.size g (.ref c') cl)) _ _
  refine PySem.W.kla_codeExpr ?_
  obtain ⟨t, ht, hq⟩ := hbody (fun e' s' => wpAny (model P w) (A.deeper (PySem.W.envX qual scope s.heap.objs.size g (.ref c') cl)) (leaving (PySem.W.envX qual scope s.heap.objs.size g (.ref c') cl) e') (fun _ s'' => CR CX0 outer P w H s Q E (.error e') s'') (fun e'' s'' => CR CX0 outer P w H s Q E (.error e'') s'') s') (hr.deeper _)
  have cellAt : ∀ x c, cl.lookup x = some c → ∃ (i : Nat) (o : Obj) (u : Value) (v : V), cl[i]? = some (x, c) ∧ H c = some (exA c o) ∧ h₁.get? c = some o ∧ o.data = .cell (some u) ∧ cvs[i]? = some v ∧ RelV v u := fun x c e => by
    obtain ⟨i, hi⟩ := at_lookup e
    obtain ⟨o, u, v, e1, e2, e3, e4⟩ := hcl i x c hi
    exact ⟨i, o, u, v, hi, e1, hk₁ _ _ (e0.hok c _ e1).1, e2, e3, e4⟩
  have memA : ∀ x c, cl.lookup x = some c → c ∈ cl.map (·.2) := fun x c e => by
    obtain ⟨i, hi⟩ := at_lookup e
    exact List.mem_map.mpr ⟨_, List.mem_of_getElem? hi, rfl⟩
  have noA : ∀ b : Addr, b ∉ ([] : List Addr) := fun b z => by cases z
  have utn : ∀ {b : Addr}, H b = none → unt (cl.map (·.2)) H b = none := fun {b} n => by
    by_cases z : b ∈ cl.map (·.2)
    · exact unt_in z
    · rw [unt_out z]; exact n
  have I : Inv (cxL P w K mg base (ps ++ cl.map (·.1)) qual scope g (.ref c') cl A outer s (unt (cl.map (·.2)) H) (fun e' s' => wpAny (model P w) (A.deeper (PySem.W.envX qual scope s.heap.objs.size g (.ref c') cl)) (leaving (PySem.W.envX qual scope s.heap.objs.size g (.ref c') cl) e') (fun _ s'' => CR CX0 outer P w H s Q E (.error e') s'') (fun e'' s'' => CR CX0 outer P w H s Q E (.error e'') s'') s')) [] ((vs ++ cvs).map some) (unt (cl.map (·.2)) H) { s with heap := h₁, toks := s.toks + (ps.zip us).length } := by
    refine ⟨⟨e0.mod, S.kind, rfl, rfl, Nat.le_refl _, fun y z c h1 h2 => ?_, fun y hy => ?_, fun y c z h => (by cases z), fun _ => hr.hd, Around.frames_deeper e0.frames, .inr ⟨rfl, rfl⟩, fun b z => absurd z (noA b), fun b o e => ⟨(e0.bs b o e).1, utn (e0.bs b o e).2⟩, e0.bsz, fun b _ _ => noA b, fun b z => absurd z (noA b), e0.funs, fun b hb => utn (e0.frf b hb)⟩,
      rfl, e0.bare, Un.kept hk₁, ⟨_, hns, fun i y v h1 h2 h3 => ?_⟩, fun y c h => ?_, utn (e0.hok.fresh (Nat.le_refl _)), fun y c h => unt_in (memA y c h), fun p hp => absurd (show p ∈ ([] : List (Addr × Obj)) from hp) (by simp), (e0.hok.unt exs).kept hk₁, ?_⟩
    · obtain ⟨i, hi⟩ := at_lookup (show cl.lookup y = some c from h1)
      obtain ⟨j, hj⟩ := at_lookup (show cl.lookup z = some c from h2)
      have e1 : (cl.map (·.2))[i]? = some c := by rw [List.getElem?_map, hi]; rfl
      have e2 : (cl.map (·.2))[j]? = some c := by rw [List.getElem?_map, hj]; rfl
      have il := (List.getElem?_eq_some_iff.mp e1).1
      have ij : i = j := (List.getElem?_inj il nda).mp (e1.trans e2.symm)
      subst ij
      rw [hi] at hj
      exact congrArg Prod.fst (Option.some.inj hj)
    · have hy : scope.names.lookup y = some .cell ∨ scope.names.lookup y = some .free := hy
      rcases hy with hy | hy
      · exact absurd rfl (S.nocell _ (PySem.mem_of_lookup hy))
      · have hm := S.fr _ (PySem.mem_of_lookup hy) rfl
        obtain ⟨⟨x, c⟩, hx, e⟩ := List.mem_map.mp hm
        have e : x = y := e
        subst e
        obtain ⟨i, hi⟩ := List.mem_iff_getElem?.mp hx
        exact ⟨c, lookup_at ndc hi⟩
    · have h1 : (ps ++ cl.map (·.1))[i]? = some y := h1
      rw [List.getElem?_map] at h2
      by_cases hi : i < ps.length
      · rw [List.getElem?_append_left hi] at h1
        rw [List.getElem?_append_left (by omega)] at h2
        cases ev : vs[i]? with
        | none => rw [ev] at h2; cases h2
        | some v' =>
          rw [ev] at h2
          have : v' = v := by simpa using h2
          subst this
          obtain ⟨u, hu, rv⟩ := r.get ev
          exact ⟨u, rv, .inl ⟨S.par y (List.mem_of_getElem? h1), rev_lookup ndp h1 hu⟩⟩
      · rw [List.getElem?_append_right (by omega), List.getElem?_map] at h1
        rw [List.getElem?_append_right (by omega)] at h2
        cases ec' : cl[i - ps.length]? with
        | none => rw [ec'] at h1; cases h1
        | some q =>
          obtain ⟨x, c⟩ := q
          rw [ec'] at h1
          have : x = y := by simpa using h1
          subst this
          obtain ⟨o, u, v', e1, e2, e3, e4⟩ := hcl _ x c ec'
          rw [hl, e3] at h2
          have : v' = v := by simpa using h2
          subst this
          exact ⟨u, e4, .inr ⟨.inr (S.cap x (List.mem_map.mpr ⟨_, List.mem_of_getElem? ec', rfl⟩)), c, lookup_at ndc ec', o, hk₁ _ _ (e0.hok c _ e1).1, e2⟩⟩
    · obtain ⟨i, o, u, v, _, _, e3, e4, _⟩ := cellAt y c h
      exact ⟨_, o, e3, e4⟩
    · show ((vs ++ cvs).map some).length = (ps ++ cl.map (·.1)).length
      rw [List.length_map, List.length_append, List.length_append, List.length_map, hl, lcv]
  refine wpAny_mono (ht [] _ _ _ _ I hq) (fun u s' hs => ?_) fun e s' hs => hs
  obtain ⟨v, H', J, rv, q⟩ := hs
  have nf : ∀ a ∈ cl.map (·.2), a ∉ frs outer ∧ a ∉ ([] : List Addr) := fun a ha => ⟨fun z => (by
    obtain ⟨o, e⟩ := exs a ha
    rw [e0.frf a z] at e
    cases e), noA a⟩
  have un : Un (frs outer) [] (unt (cl.map (·.2)) H) H' s.heap s'.heap := J.base
  exact ⟨v, rtk (cl.map (·.2)) H H', J.os, J.bare, un.rtk exs, HOk.rtk J.hok un e0.hok exs nf, rv, q fun a ha => (by
    obtain ⟨o, e⟩ := exs a ha
    exact un.free a o (e0.hok a _ e).1 (unt_in ha) (noA a))⟩
end L2
set_option Elab.async false
set_option linter.all false
set_option maxRecDepth 100000
namespace L2
open PySem PySem.Spec PyProof.Rows
structure LamOk (P : Program) (w : World) (K : PySem.W.Frag) (mg : Str → Option Value) (base : Heap) (k : Nat) (R : Addr → List V → Hp → VK → Prop) : Prop where
  at' : ∀ {g : Addr} {vs : List V} {H : Hp} {Q : VK}, R g vs H Q → ∃ oc od fd sl, H g = some (exA g ⟨oc, od, .func fd, sl⟩)
  run : ∀ (A : Around) (outer : List Env) (s : Shared) (H : Hp) (g : Addr) (us : List Value) (vs : List V) (Q : VK), Room k A → Env0 P w K mg base A outer s H → Vals vs us → R g vs H Q → codeAny (model P w) A (.call (.ref g) ⟨us, []⟩) (CR CX0 outer P w H s Q E0) s
def tCallV (i : Nat) (R : Addr → List V → Hp → VK → Prop) (t : TA) : TE := fun σ H Q => ∃ g oc od fd sl, σ[i]? = some (some (.ref g)) ∧ H g = some (exA g ⟨oc, od, .func fd, sl⟩) ∧ t σ H fun vs H1 => R g vs H1 Q
theorem pe_callV {X : Cx} {i k : Nat} {x : Str} {R : Addr → List V → Hp → VK → Prop} {e : Expr} {es : List Expr} {t : TA} {p pos : Pos} (L : LamOk X.prog X.w X.K X.mg X.base k R) (hr : Room k X.A) (hN : X.N[i]? = some x) (hv : Vis X.env.scope x) (ha : PA X (e :: es) t)
    (hd : (x == ("__debug__" : Str)) = false := by decide) (hcd : (x == ("__classdict__" : Str)) = false := by decide) (he : starEach (e :: es) X.env = (false, eval e X.env) :: starEach es X.env := by rfl) (hpl : (backTo pos (starEach es X.env)).any (·.1) = false := by rfl) :
    PE X (.Call (.Name x p) (e :: es) [] pos) (tCallV i R t) := by
  intro pins s σ H Q I h
  obtain ⟨g, oc, od, fd, sl, e1, e2, h⟩ := h
  refine wpAny_Call_Name_kw (thn ((pe_var (pos := p) hN hv hd hcd) pins s σ H (fun v H' => v = .ref g ∧ H' = H) I ⟨_, e1, rfl, rfl⟩) fun u s1 hu => ?_)
  obtain ⟨v, H', I1, rv, rfl, rfl⟩ := hu
  obtain rfl : u = Value.ref g := rv
  refine PySem.W.callWith_F ⟨oc, od, fd, sl, (I1.hok g _ e2).1⟩ (thn (ha pos pins s1 σ H' _ I1 h) fun us s2 ⟨vs, H1, I2, r, q⟩ => ⟨?_, ?_⟩) he hpl
  · obtain ⟨oc', od', fd', sl', e3⟩ := L.at' q
    exact ⟨oc', od', fd', sl', (I2.hok g _ e3).1⟩
  · refine wpAny_call (codeAny_mono (L.run X.A X.stack s2 H1 g us vs Q hr I2.env0 r q) fun r s' hq => ?_)
    cases r with
    | error e => exact False.elim hq
    | ok fl =>
      cases fl with
      | ret u => exact I2.after hq
      | next => exact False.elim hq
      | brk => exact False.elim hq
      | cont => exact False.elim hq
abbrev tabOf (lpos : Pos) (c' : Addr) : Array Value := #[rawInt lpos.line, rawInt lpos.col, .ref c']
def TabAt (H : Hp) (T : Addr) (lpos : Pos) (q : Str) : Prop := H T = some (.tbl #[]) ∨ ∃ c', H T = some (.tbl (tabOf lpos c')) ∧ H c' = some (cdA c' q)
structure LamH (H H2 : Hp) (T : Addr) (lpos : Pos) (q : Str) (c' g : Addr) (o : Obj) : Prop where
  tb : H2 T = some (.tbl (tabOf lpos c'))
  cd : H2 c' = some (cdA c' q)
  ob : H2 g = some (exA g o)
  ot : ∀ b u, b ≠ T → H b = some u → H2 b = some u
  ng : H g = none
  sm : ∀ c2, H T = some (.tbl (tabOf lpos c2)) → c2 = c'
theorem tab_inj {lpos : Pos} {c c' : Addr} (e : tabOf lpos c = tabOf lpos c') : c = c' := by
  have h2 := congrArg (fun z : Array Value => z[2]?) e
  have h3 : some (Value.ref c) = some (Value.ref c') := h2
  cases h3
  rfl
theorem Un.lam {fs : List Addr} {P : Program} {w : World} {H H3 : Hp} {h h3 : Heap} {T : Addr} {ps more : Array Value} (hok : HOk P w H h) (k : ∀ b u, b ≠ T → h.get? b = some u → h3.get? b = some u) (eT : ∃ u, h3.get? T = some u) (e : H T = some (.tbl ps)) (e3 : H3 T = some (.tbl (ps ++ more))) (ot : ∀ b, b < h.objs.size → b ≠ T → H3 b = H b) : Un fs [] H H3 h h3 := by
  have nT : ∀ {b : Addr}, H b = none → b ≠ T := fun {b} n z => by rw [z, e] at n; cases n
  refine ⟨fun b o q n _ _ => k b o (nT n) q, fun b o q n _ _ => ⟨o.slots, k b o (nT n) q⟩, fun b o q n _ => ?_, fun b o q _ => ?_, fun b xs q => ?_, fun b o u q => ?_, fun b qs q => ?_⟩
  · rw [ot b (Heap.lt_size q) (nT n)]; exact n
  · by_cases z : b = T
    · subst z; exact eT
    · exact ⟨o, k b o z q⟩
  · rw [ot b (hok.lt q) (ne_of q e (by intro z; cases z))]; exact q
  · rw [ot b (hok.lt q) (ne_of q e (by intro z; cases z))]; exact q
  · by_cases z : b = T
    · subst z
      rw [e] at q; cases q
      exact ⟨more, e3⟩
    · exact ⟨#[], by rw [ot b (hok.lt q) z, q]; simp⟩
theorem HOk.lam {P : Program} {w : World} {H H3 : Hp} {h h3 : Heap} {T : Addr} {ps : Array Value} (hok : HOk P w H h) (k : ∀ b u, b ≠ T → h.get? b = some u → h3.get? b = some u) (e : H T = some (.tbl ps)) (ot : ∀ b, b < h.objs.size → b ≠ T → H3 b = H b) (new : ∀ a o, H3 a = some o → (a = T ∨ h.objs.size ≤ a) → ObjOk P w H3 h3 a o) : HOk P w H3 h3 := fun a o q => by
  by_cases z : a = T
  · exact new a o q (.inl z)
  by_cases y : h.objs.size ≤ a
  · exact new a o q (.inr y)
  have q' : H a = some o := by rw [← ot a (by omega) z]; exact q
  refine (hok a o q').stay (fun b u hb r => k b u ?_ r) (fun b r => ?_) fun b xs r => ?_
  · rcases hb with rfl | hb
    · exact z
    · exact ne_of hb e (by intro z; cases z)
  · rw [ot b (hok.lt r) (ne_of r e (by intro z; cases z))]; exact r
  · rw [ot b (hok.lt r) (ne_of r e (by intro z; cases z))]; exact r
structure LamMk (X : Cx) (c T bm : Addr) : Prop where
  code : X.env.code = .ref c
  hd : PySem.W.codeHdIn X.K c T = true
  hbm : X.mg "__builtins__" = some (.ref bm)
  bo : ∃ o, X.base.get? bm = some o ∧ o.cls = .type "module" ∧ o.dict = some builtinsNs ∧ o.data = .plain
  b1 : bm ≠ builtinsNs
  b2 : bm ≠ mainGlobals
  b3 : bm ≠ T
  b4 : mainGlobals ≠ T
def tLam (T : Addr) (lpos : Pos) (q : Str) (mk : Addr → Value → Value → Obj) : TE := fun _ H Q => TabAt H T lpos q ∧ ∀ c' pm ctv g H2, LamH H H2 T lpos q c' g (mk c' pm ctv) → Q (.ref g) H2
theorem pe_lam {X : Cx} {params : Arguments} {body : Expr} {lscope : Scope} {lpos : Pos} {c T bm : Addr} {clos : List (Str × Addr)} (M : LamMk X c T bm) (hcl : closureFor lscope X.env = pure clos) (hdef : defaultsOf params X.env = ([], []) := by rfl) :
    PE X (.Lambda params body lscope lpos) (tLam T lpos (X.env.qual ++ "<lambda>") fun c' pm ctv => PySem.W.kla_obj "<lambda>" (X.env.qual ++ "<lambda>") params body lscope clos pm c' ctv) := by
  intro pins s σ H Q I h
  obtain ⟨tab, h⟩ := h
  refine PySem.W.kla_eval hdef ?_
  have hg : s.heap.Ns mainGlobals X.mg := I.mod.glob.keeps I.bk
  have C := PySem.W.codeHd_of_K I.kIn M.hd
  obtain ⟨ob, lo, l1, l2, l3⟩ := M.bo
  have hB : s.heap.BuiltinsAt X.mg T := ⟨bm, ob, M.hbm, M.b1, M.b2, M.b3, I.bk _ _ lo, l1, l2, l3⟩
  rcases tab with e | ⟨c', e, ec⟩
  · have hP : s.heap.get? T = some (PySem.W.tabObj #[]) := I.hok T _ e
    refine PySem.W.kla_makeFunction hcl I.ok.glob hg M.code C hP trivial rfl M.b4 hB fun c' ctv h' tk hx hge hlt hrec htb => ?_
    have ltT : T < s.heap.objs.size := I.hok.lt e
    have gs : s.heap.objs.size ≤ h'.objs.size := Nat.le_trans hge (Nat.le_of_lt hlt)
    have cg : c' ≠ h'.objs.size := Nat.ne_of_lt hlt
    have cT : c' ≠ T := fun z => Nat.lt_irrefl _ (Nat.lt_of_lt_of_le ltT (z ▸ hge))
    have gT : h'.objs.size ≠ T := fun z => Nat.lt_irrefl _ (Nat.lt_of_lt_of_le ltT (z ▸ gs))
    generalize eo : PySem.W.kla_obj "<lambda>" (X.env.qual ++ "<lambda>") params body lscope clos ((X.mg "__name__").getD .none) c' ctv = o
    have hfr : o.isFreed = false := by rw [← eo]; rfl
    let H3 : Hp := upd (upd (upd H T (.tbl (tabOf lpos c'))) c' (cdA c' (X.env.qual ++ "<lambda>"))) h'.objs.size (exA h'.objs.size o)
    have t3 : H3 T = some (.tbl (tabOf lpos c')) := by
      show upd _ _ _ T = _
      rw [upd_ne (Ne.symm gT), upd_ne (Ne.symm cT), upd_same]
    have c3 : H3 c' = some (cdA c' (X.env.qual ++ "<lambda>")) := by
      show upd _ _ _ c' = _
      rw [upd_ne cg, upd_same]
    have g3 : H3 h'.objs.size = some (exA h'.objs.size o) := upd_same
    have ot : ∀ b, b < s.heap.objs.size → b ≠ T → H3 b = H b := fun b hb hT => by
      show upd _ _ _ b = _
      rw [upd_ne (Nat.ne_of_lt (Nat.lt_of_lt_of_le hb gs)), upd_ne (Nat.ne_of_lt (Nat.lt_of_lt_of_le hb hge)), upd_ne hT]
    have k3 : ∀ b u, b ≠ T → s.heap.get? b = some u → (h'.push o).get? b = some u := fun b u hb q => Heap.get?_push_of_some _ (hx b u hb q)
    have un : Un X.fs [] H H3 s.heap (h'.push o) := Un.lam (more := tabOf lpos c') I.hok k3 ⟨_, Heap.get?_push_of_some _ htb⟩ e (by rw [t3]; simp) ot
    have hk3 : HOk X.prog X.w H3 (h'.push o) := HOk.lam I.hok k3 e ot fun a u q hq => by
      by_cases z1 : a = T
      · subst z1
        rw [t3] at q; cases q
        have : (h'.push o).get? a = some (PySem.W.tabObj (#[] ++ #[rawInt lpos.line, rawInt lpos.col, .ref c'])) := Heap.get?_push_of_some _ htb
        show (h'.push o).get? a = some _
        simpa using this
      by_cases z2 : a = c'
      · subst z2
        rw [c3] at q; cases q
        exact cdA_ok (hrec.push _)
      by_cases z3 : a = h'.objs.size
      · subst z3
        rw [g3] at q; cases q
        exact exA_ok (Heap.get?_push_size _ hfr)
      · exfalso
        rcases hq with y | y
        · exact z1 y
        · have : H3 a = H a := by
            show upd _ _ _ a = _
            rw [upd_ne z3, upd_ne z2, upd_ne z1]
          rw [this, I.hok.fresh y] at q
          cases q
    refine ⟨.ref h'.objs.size, H3, I.un (t' := tk) un hk3, rfl, h c' _ ctv h'.objs.size H3 ⟨t3, c3, by rw [g3, ← eo], fun b u hb q => by rw [ot b (I.hok.lt q) hb]; exact q, I.hok.fresh gs, fun c2 e2 => by
      rw [e] at e2
      have h1 := HO.tbl.inj (Option.some.inj e2)
      have h2 := congrArg Array.size h1
      cases h2⟩⟩
  · have hP : s.heap.get? T = some (PySem.W.tabObj (tabOf lpos c')) := I.hok T _ e
    refine PySem.W.kla_makeFunctionHit (cv := .ref c') hcl I.ok.glob hg M.code C hP (by exact trivial) (by simp [tabOf, codeAmong, rawInt]) hB fun ctv h' tk hk hsz => ?_
    generalize eo : ({ cls := .type "function", data := .func (PySem.W.kla_fn "<lambda>" (X.env.qual ++ "<lambda>") params body lscope clos ((X.mg "__name__").getD .none) (.ref c') ctv) } : Obj) = o
    have hfr : o.isFreed = false := by rw [← eo]; rfl
    have ltc : c' < s.heap.objs.size := I.hok.lt ec
    have ltT : T < s.heap.objs.size := I.hok.lt e
    refine ⟨.ref h'.objs.size, upd H h'.objs.size (exA h'.objs.size o), I.laid (t' := tk) (fun b u q => Heap.get?_push_of_some _ (hk b u q)) hsz (exA_ok (Heap.get?_push_size _ hfr)), rfl, h c' _ ctv h'.objs.size _ ⟨?_, ?_, by rw [upd_same, ← eo], fun b u hb q => ?_, I.hok.fresh hsz, fun c2 e2 => ?_⟩⟩
    · rw [upd_ne (Nat.ne_of_lt (Nat.lt_of_lt_of_le ltT hsz))]; exact e
    · rw [upd_ne (Nat.ne_of_lt (Nat.lt_of_lt_of_le ltc hsz))]; exact ec
    · rw [upd_ne (Nat.ne_of_lt (Nat.lt_of_lt_of_le (I.hok.lt q) hsz))]; exact q
    · rw [e] at e2
      exact (tab_inj (HO.tbl.inj (Option.some.inj e2))).symm
end L2
set_option Elab.async false
set_option linter.all false
set_option maxRecDepth 100000
namespace L2
open PySem PySem.Spec PyProof.Rows
def trk' (as : List Addr) (os : Addr → Obj) (H : Hp) : Hp := fun b => if b ∈ as then some (exA b (os b)) else H b
theorem trk_in {as : List Addr} {os : Addr → Obj} {H : Hp} {b : Addr} (h : b ∈ as) : trk' as os H b = some (exA b (os b)) := if_pos h
theorem trk_out {as : List Addr} {os : Addr → Obj} {H : Hp} {b : Addr} (h : b ∉ as) : trk' as os H b = H b := if_neg h
section
variable {P : Program} {w : World} {H H3 : Hp} {h h' : Heap} {as : List Addr} {os : Addr → Obj} {fs ex : List Addr}
theorem HOk.trk (x : HOk P w H h) (n : ∀ c ∈ as, H c = none) (g : ∀ c ∈ as, h.get? c = some (os c)) : HOk P w (trk' as os H) h := fun a o q => by
  by_cases z : a ∈ as
  · rw [trk_in z] at q; cases q
    exact exA_ok (g a z)
  · rw [trk_out z] at q
    have no : ∀ {b : Addr} {y : HO}, H b = some y → b ∉ as := fun {b y} r k => by rw [n b k] at r; cases r
    exact (x a o q).stay (fun b u _ r => r) (fun b r => by rw [trk_out (no r)]; exact r) fun b xs r => by rw [trk_out (no r)]; exact r
theorem Un.untrk (u : Un fs ex (trk' as os H) H3 h h') (n : ∀ c ∈ as, H c = none) (g : ∀ c ∈ as, h.get? c = some (os c)) (g3 : ∀ c ∈ as, h'.get? c = some (os c)) : Un fs ex H (unt as H3) h h' := by
  have no : ∀ {b : Addr} {y : HO}, H b = some y → b ∉ as := fun {b y} r k => by rw [n b k] at r; cases r
  refine ⟨fun b o q nb hb hx => ?_, fun b o q nb hb hx => ?_, fun b o q nb hx => ?_, fun b o q hx => ?_, fun b xs q => ?_, fun b o u' q => ?_, fun b ps q => ?_⟩
  · by_cases z : b ∈ as
    · rw [g b z] at q; cases q
      exact g3 b z
    · exact u.keep b o q (by rw [trk_out z]; exact nb) hb hx
  · by_cases z : b ∈ as
    · rw [g b z] at q; cases q
      exact ⟨_, g3 b z⟩
    · exact u.slot b o q (by rw [trk_out z]; exact nb) hb hx
  · by_cases z : b ∈ as
    · exact unt_in z
    · rw [unt_out z]; exact u.free b o q (by rw [trk_out z]; exact nb) hx
  · by_cases z : b ∈ as
    · exact ⟨_, g3 b z⟩
    · exact u.there b o q hx
  · rw [unt_out (no q)]; exact u.tups b xs (by rw [trk_out (no q)]; exact q)
  · rw [unt_out (no q)]; exact u.frzs b o u' (by rw [trk_out (no q)]; exact q)
  · rw [unt_out (no q)]; exact u.tbls b ps (by rw [trk_out (no q)]; exact q)
end
structure CellsOf (X : Cx) (cl : List (Str × Addr)) : Prop where
  at' : ∀ q ∈ cl, X.env.cells.lookup q.1 = some q.2
  fn : ∀ q ∈ cl, X.fn q.1 = true
  ki : ∀ q ∈ cl, X.env.scope.names.lookup q.1 = some .cell
def tCallT (X : Cx) (cl : List (Str × Addr)) (sp : Sp) (t : TA) : TE := fun σ H Q => t σ H fun vs H1 => ∀ os : Addr → Obj, (∀ (j i : Nat) (n : Str) (c : Addr) (v : V), cl[j]? = some (n, c) → X.N[i]? = some n → σ[i]? = some (some v) → ∃ u, (os c).data = .cell (some u) ∧ RelV v u) → (∀ c ∈ cl.map (·.2), H1 c = none) →
  sp vs (trk' (cl.map (·.2)) os H1) (fun v H3 => (∀ c ∈ cl.map (·.2), H3 c = some (exA c (os c))) ∧ Q v (unt (cl.map (·.2)) H3)) E0
theorem pe_callT {X : Cx} {k : Nat} {f : Addr} {fd : FuncData} {ps : List Str} {sp : Sp} {x : Str} {p pos : Pos} {e : Expr} {es : List Expr} {t : TA} {cl : List (Str × Addr)} (F : FnOk X.prog X.w X.K X.mg X.base CX0 k f fd ps sp) (hr : Room k X.A) (hg : Gl X x) (hm : X.mg x = some (.ref f)) (hk : PySem.W.keepIn X.K (.ref f) = true) (hb : Binds X.K fd ps []) (hc : CellsOf X cl)
    (ha : PA X (e :: es) t) (hdb : (x == ("__debug__" : Str)) = false := by decide) (he : starEach (e :: es) X.env = (false, eval e X.env) :: starEach es X.env := by rfl) (hpl : (backTo pos (starEach es X.env)).any (·.1) = false := by rfl) :
    PE X (.Call (.Name x p) (e :: es) [] pos) (tCallT X cl sp t) := by
  intro pins s σ H Q I h
  refine wpAny_Call_Name_kw (ld_glob I hg hm ?_ hdb)
  refine PySem.W.callWith_K (h₀ := X.base) I.ok.mod.kin hk (thn (ha pos pins s σ H _ I h) fun us s1 ⟨vs, H1, I1, r, q⟩ => ⟨I1.kIn, ?_⟩) he hpl
  have mem : ∀ c ∈ cl.map (·.2), ∃ n, (n, c) ∈ cl := fun c hc => by
    obtain ⟨⟨n, c'⟩, h1, rfl⟩ := List.mem_map.mp hc
    exact ⟨n, h1⟩
  let os : Addr → Obj := fun c => (s1.heap.get? c).getD ⟨.none, none, .plain, #[]⟩
  have g : ∀ c ∈ cl.map (·.2), s1.heap.get? c = some (os c) := fun c hc' => by
    obtain ⟨n, hn⟩ := mem c hc'
    obtain ⟨v, o, ho, _⟩ := I1.cell n c (hc.at' _ hn)
    show _ = some ((s1.heap.get? c).getD _)
    rw [ho]
    rfl
  have nn : ∀ c ∈ cl.map (·.2), H1 c = none := fun c hc' => by
    obtain ⟨n, hn⟩ := mem c hc'
    exact I1.freeC n c (hc.at' _ hn)
  have above : ∀ c ∈ cl.map (·.2), X.s₀.heap.objs.size ≤ c := fun c hc' => by
    obtain ⟨n, hn⟩ := mem c hc'
    exact I1.ok.cab n c (hc.fn _ hn) (hc.at' _ hn)
  have hq := q os (fun j i n c v h1 h2 h3 => by
    have hmem := List.mem_of_getElem? h1
    obtain ⟨m, hn, hl⟩ := I1.loc
    obtain ⟨u, rv, l⟩ := hl i n v h2 h3 (.inr (.inl (hc.ki _ hmem)))
    refine ⟨u, ?_, rv⟩
    rcases l with ⟨hk', _⟩ | ⟨_, c0, e0, o, ho, hd⟩
    · have z : some NameKind.cell = some .local := (hc.ki _ hmem).symm.trans hk'
      cases z
    · have ec : some c0 = some c := e0.symm.trans (hc.at' _ hmem)
      cases ec
      have : os c = o := by
        show (s1.heap.get? c).getD _ = o
        rw [ho]
        rfl
      rw [this]
      exact hd) nn
  have e0 := I1.env0
  have e1 : Env0 X.prog X.w X.K X.mg X.base X.A X.stack s1 (trk' (cl.map (·.2)) os H1) := ⟨e0.frames, e0.mod, fun b o hb' => ⟨(e0.bs b o hb').1, by
    rw [trk_out fun z => Nat.lt_irrefl _ (Nat.lt_of_lt_of_le (Heap.lt_size hb') (Nat.le_trans I1.ok.bsz (above b z)))]
    exact (e0.bs b o hb').2⟩, e0.bsz, e0.funs, fun b hb' => by
    rw [trk_out fun z => ?_]
    · exact e0.frf b hb'
    · obtain ⟨n, hn⟩ := mem b z
      rcases List.mem_cons.mp (I1.stkSub b hb') with y | y
      · exact I1.cne n b (hc.at' _ hn) y
      · obtain ⟨_, o, ho, _⟩ := I1.ok.funs.mem y
        exact Nat.lt_irrefl _ (Nat.lt_of_lt_of_le (Heap.lt_size ho) (above b z)), e0.hok.trk nn g, e0.bare⟩
  have hl : (us ++ ([] : List Value)).length = ps.length := by rw [List.append_nil, ← r.length]; exact F.len _ _ _ _ hq
  have hb1 := hb s1 us I1.kIn hl
  rw [List.append_nil] at hb1
  refine wpAny_call (codeAny_mono (F.run X.A X.stack s1 _ ⟨us, []⟩ us vs _ E0 hr e1 hb1 r hq) fun r s' hq' => ?_)
  cases r with
  | error e => exact False.elim hq'
  | ok fl =>
    cases fl with
    | ret u =>
      obtain ⟨v, H3, os', bare, un, hok3, rv, q3, q4⟩ := hq'
      have g3 : ∀ c ∈ cl.map (·.2), s'.heap.get? c = some (os c) := fun c hc' => (hok3 c _ (q3 c hc')).1
      exact I1.after ⟨v, unt (cl.map (·.2)) H3, os', bare, un.untrk nn g g3, hok3.unt fun a ha => ⟨_, q3 a ha⟩, rv, q4⟩
    | next => exact False.elim hq'
    | brk => exact False.elim hq'
    | cont => exact False.elim hq'
theorem Fun.okC {P : Program} {w : World} {K : PySem.W.Frag} {mg : Str → Option Value} {base : Heap} {x qual : Str} {st : Stmt} {f : Addr} {fd : FuncData} {N ps : List Str} {k : Nat} {sp : Sp} (F : Fun K x qual st f fd) (S : FnScope N ps (defScope st)) (len : ∀ vs H Q E, sp vs H Q E → vs.length = ps.length)
    (hbody : ∀ (A : Around) (outer : List Env) (s : Shared) (H : Hp) (vs : List V) (Q : VK) (E : XK), Room k (A.deeper (envOfC qual (defScope st) s.heap.objs.size f fd.code)) → sp vs H Q E →
      ∃ t, PSs (cxOf CX0 P w K mg base N qual (defScope st) f fd.code A outer s H E).nox (defBody st) t ∧ t { nx := fun _ H' => Q .non H', rt := Q } (start N vs) H) : FnOk P w K mg base CX0 (k + 1) f fd ps sp := by
  obtain ⟨oc, od, kV, doc, pm, an, cdv, ct, osl, rfl, lk, hcd⟩ := F.ex
  refine fn_of lk hcd S len fun A outer s H vs Q E hr hsp => ?_
  obtain ⟨t, h, q⟩ := hbody A outer s H vs Q E hr hsp
  exact ⟨t, h.nox, q⟩
end L2
set_option Elab.async false
set_option linter.all false
set_option maxRecDepth 100000
namespace L2
open PySem PySem.Spec PyProof.Rows
structure BMod (mg : Str → Option Value) (base : Heap) (ts : List Addr) (bm : Addr) : Prop where
  hbm : mg "__builtins__" = some (.ref bm)
  bo : ∃ o, base.get? bm = some o ∧ o.cls = .type "module" ∧ o.dict = some builtinsNs ∧ o.data = .plain
  b1 : bm ≠ builtinsNs
  b2 : bm ≠ mainGlobals
  b3 : ∀ T ∈ ts, bm ≠ T
  b4 : ∀ T ∈ ts, mainGlobals ≠ T
theorem law_callT {P : Program} {w : World} {K : PySem.W.Frag} {mg mb : Str → Option Value} {CX : CXT} {k : Nat} {fa a : Addr} {fd : FuncData} {x : Str} {sp : Sp} {s₁ : Shared} {vs : List Value} {ns : List Int} {ts : List Addr}
    (KX : K.In s₁.heap) (hns : s₁.heap.Ns mainGlobals mg) (hb : s₁.heap.Ns builtinsNs mb) (hbb : ∀ x : Str, x ≠ "__name__" → mb x = bootBuiltins x) (hlim : s₁.heap.NoLimit) (hg : s₁.gens = #[])
    (ha : s₁.heap.get? a = some { cls := .type "list", data := .seq vs.toArray }) (hi : IntsAre vs ns) (hl : ns.length ≤ sizeLine) (hr : Room k callerA)
    (ht : ∀ T ∈ ts, s₁.heap.get? T = some (PySem.W.tabObj #[]) ∧ (∃ c, PySem.W.CodeHd s₁.heap c T) ∧ K.lookup T = none)
    (hbm : ∃ bm ob, mg "__builtins__" = some (.ref bm) ∧ bm ≠ builtinsNs ∧ s₁.heap.get? bm = some ob ∧ ob.cls = .type "module" ∧ ob.dict = some builtinsNs ∧ ob.data = .plain)
    (F : ∀ base : Heap, K.In base → base.Ns mainGlobals mg → (∃ bm, BMod mg base ts bm) → FnOk P w K mg base CX k fa fd [x] sp) (hbind : ∀ (s : Shared) (u : Value), BindsTo s fd ⟨[u], []⟩ [(x, u)])
    (hsp : ∀ H : Hp, (∀ T ∈ ts, H T = some (.tbl #[])) → SqL K H a (ns.map V.int) → sp [.ref a] H (fun v _ => v = .bl true) fun _ _ _ => False)
    (hCX : ∀ H e s', CX [] H s₁ (fun _ _ _ => False) e s' → False) :
    codeAny (model P w) callerA (.call (.ref fa) ⟨[.ref a], []⟩) (fun r s' => r = .ok (.ret (.bool true)) ∧ OldK s₁.heap s'.heap ∧ s'.os = s₁.os ∧ AllBare s'.gens) s₁ := by
  have rv := vals_ints hi
  have lenV := hi.length
  have core : ∀ H : Hp, (∀ b, H b = none ∨ (∃ o xs, H b = some (.frz o (.lst xs)) ∧ b = a) ∨ (H b = some (.tbl #[]) ∧ b ∈ ts)) → (∀ T ∈ ts, H T = some (.tbl #[])) → SqL K H a (ns.map V.int) → HOk P w H s₁.heap → (∀ b, H b ≠ none → K.lookup b = none) →
      codeAny (model P w) callerA (.call (.ref fa) ⟨[.ref a], []⟩) (fun r s' => r = .ok (.ret (.bool true)) ∧ OldK s₁.heap s'.heap ∧ s'.os = s₁.os ∧ AllBare s'.gens) s₁ := by
    intro H hO hT hS hok hK
    have base_of : ∀ {b : Addr} {o : Obj}, s₁.heap.get? b = some o → H b = none → (hidT s₁.heap H).get? b = some o := fun e n => hidT_get e n
    have noA : ∀ {b : Addr} {o : Obj} {es : Array DictEntry} {ep : Nat}, s₁.heap.get? b = some o → o.data = .dict es ep → H b = none := fun {b o es ep} e d => by
      rcases hO b with z | ⟨_, _, _, rfl⟩ | ⟨_, hb'⟩
      · exact z
      · rw [ha] at e; cases e
        have d' : Data.seq vs.toArray _ = Data.dict es ep := d
        cases d'
      · rw [(ht b hb').1] at e; cases e
        have d' : Data.fields #[] = Data.dict es ep := d
        cases d'
    have nsK : ∀ {b : Addr} {m : Str → Option Value}, s₁.heap.Ns b m → (hidT s₁.heap H).Ns b m := fun {b m} ⟨o, es, ep, e, d, r⟩ => ⟨o, es, ep, base_of e (noA e d), d, r⟩
    have hKb : K.In (hidT s₁.heap H) := fun b o e => base_of (KX b o e) (by
      cases q : H b with
      | none => rfl
      | some u =>
        rw [hK b (by rw [q]; simp)] at e; cases e)
    have hM : Mod K mg (hidT s₁.heap H) := ⟨hKb, nsK hns, ⟨mb, nsK hb, hbb⟩, let ⟨mc, h1, h2⟩ := hlim; ⟨mc, nsK h1, h2⟩⟩
    have e0 : Env0 P w K mg (hidT s₁.heap H) callerA [] s₁ H := ⟨rfl, hM, fun b o e => of_hidT e, Nat.le_of_eq (hidT_size _ _), trivial, fun b hb => absurd (show b ∈ ([] : List Addr) from hb) (by simp), hok, .of_eq hg⟩
    have hBM : ∃ bm, BMod mg (hidT s₁.heap H) ts bm := by
      obtain ⟨bm, ob, h1, h2, h3, h4, h5, h6⟩ := hbm
      have n1 : bm ≠ a := fun z => by
        rw [z, ha] at h3
        cases h3
        have h4 : Value.type "list" = Value.type "module" := h4
        injection h4 with e
        exact absurd e (by decide)
      have n2 : ∀ T ∈ ts, bm ≠ T := fun T hT' z => by
        rw [z, (ht T hT').1] at h3
        cases h3
        cases h6
      have ng : ∀ {o : Obj}, s₁.heap.get? mainGlobals = some o → ∃ es ep, o.data = .dict es ep := fun {o} e => by
        obtain ⟨o', es, ep, e', d, _⟩ := hns
        rw [e'] at e
        cases e
        exact ⟨es, ep, d⟩
      refine ⟨bm, h1, ⟨ob, base_of h3 ?_, h4, h5, h6⟩, h2, fun z => ?_, n2, fun T hT' z => ?_⟩
      · rcases hO bm with z | ⟨_, _, _, z⟩ | ⟨_, z⟩
        · exact z
        · exact absurd z n1
        · exact absurd rfl (n2 bm z)
      · rw [z] at h3
        obtain ⟨es, ep, d⟩ := ng h3
        rw [d] at h6
        cases h6
      · have := (ht T hT').1
        rw [← z] at this
        obtain ⟨es, ep, d⟩ := ng this
        cases d
    refine codeAny_mono ((F _ hKb (nsK hns) hBM).run callerA [] s₁ H ⟨[.ref a], []⟩ [.ref a] [.ref a] _ _ hr e0 (hbind s₁ (.ref a)) (.cons rfl .nil) (hsp H hT hS)) fun r s' h => ?_
    cases r with
    | error e => exact (hCX H e s' h).elim
    | ok fl =>
      cases fl with
      | next => exact False.elim h
      | brk => exact False.elim h
      | cont => exact False.elim h
      | ret u =>
        obtain ⟨v, H', os, bare, un, hok', r', q⟩ := h
        have q' : v = .bl true := q
        subst q'
        obtain rfl : u = Value.bool true := r'
        refine ⟨rfl, ⟨fun b o e => ?_, fun b o e => un.there b o e (by simp)⟩, os, bare⟩
        rcases hO b with z | ⟨ob, xs, z, _⟩ | ⟨z, hb'⟩
        · exact .inl (un.keep b o e z (by intro z; exact absurd (show b ∈ ([] : List Addr) from z) (by simp)) (by simp))
        · have z2 := un.frzs b ob _ z
          obtain ⟨e1, _⟩ := hok b _ z
          obtain ⟨e2, _⟩ := hok' b _ z2
          rw [e] at e1; cases e1
          exact .inl e2
        · obtain ⟨more, z2⟩ := un.tbls b _ z
          have e1 : s₁.heap.get? b = some (PySem.W.tabObj #[]) := (ht b hb').1
          have e2 : s'.heap.get? b = some { cls := .none, data := .fields (#[] ++ more) } := hok' b _ z2
          rw [e1] at e; cases e
          obtain ⟨c, C⟩ := (ht b hb').2.1
          exact .inr (.inl ⟨(C.tab e1).isCodeTable, rfl, #[], more, rfl, e2⟩)
  have neA : ∀ T ∈ ts, T ≠ a := fun T hT z => by
    have e := (ht T hT).1
    rw [z, ha] at e
    cases e
  have tOk : ∀ {H : Hp} {T : Addr}, T ∈ ts → ObjOk P w H s₁.heap T (.tbl #[]) := fun {H T} hT => (ht T hT).1
  cases hk : K.lookup a with
  | some o =>
    have e := KX a o hk
    rw [ha] at e
    cases e
    refine core (fun b => if b ∈ ts then some (.tbl #[]) else none) (fun b => ?_) (fun T hT => if_pos hT) (.inr ⟨_, vs.toArray, _, hk, rfl, rfl, rfl, by rw [List.size_toArray, lenV]; exact hl, by simpa using rv⟩) (fun b u z => ?_) fun b z => ?_
    · by_cases y : b ∈ ts
      · exact .inr (.inr ⟨if_pos y, y⟩)
      · exact .inl (if_neg y)
    · by_cases y : b ∈ ts
      · have z' := (if_pos y).symm.trans z
        cases z'
        exact tOk y
      · have z' := (if_neg y).symm.trans z
        cases z'
    · by_cases y : b ∈ ts
      · exact (ht b y).2.2
      · exact absurd (if_neg y) z
  | none =>
    refine core (fun b => if b ∈ ts then some (.tbl #[]) else if b = a then some (.frz { cls := .type "list", data := .seq vs.toArray } (.lst (ns.map V.int))) else none) (fun b => ?_) (fun T hT => if_pos hT) (.inl (.inr ⟨{ cls := .type "list", data := .seq vs.toArray }, ?_⟩)) (fun b u z => ?_) fun b z => ?_
    · by_cases y : b ∈ ts
      · exact .inr (.inr ⟨if_pos y, y⟩)
      · by_cases hb' : b = a
        · exact .inr (.inl ⟨_, _, (if_neg y).trans (if_pos hb'), hb'⟩)
        · exact .inl ((if_neg y).trans (if_neg hb'))
    · exact (if_neg fun y => neA a y rfl).trans (if_pos rfl)
    · by_cases y : b ∈ ts
      · have z' := (if_pos y).symm.trans z
        cases z'
        exact tOk y
      · by_cases hb' : b = a
        · have z' := ((if_neg y).trans (if_pos hb')).symm.trans z
          cases z'
          subst hb'
          exact ⟨ha, by rw [List.length_map]; exact hl, vs, _, rv, ha⟩
        · have z' := ((if_neg y).trans (if_neg hb')).symm.trans z
          cases z'
    · by_cases y : b ∈ ts
      · exact (ht b y).2.2
      · by_cases hb' : b = a
        · rw [hb']; exact hk
        · exact absurd ((if_neg y).trans (if_neg hb')) z
theorem walk_ofT {l : PySem.W.OpenLaw} {n k : Nat} {q : Program} {loose : List Str} {XP : (Str → Option Value) → Heap → Prop} {YP : World → Heap → Prop} {d : DefRec} {K : Params → PySem.W.Frag} {CX : World → CXT} {sp : World → Sp} {x : Str} {ts : List Addr}
    (hn : l.most = some n) (hn2 : n ≤ sizeLine) (hdf : d.params.defaults = []) (hr : Room k callerA)
    (hY : ∀ (w : World) (h : Heap), YP w h → (K w.params).In h ∧ ∀ T ∈ ts, h.get? T = some (PySem.W.tabObj #[]))
    (hT : ∀ (w : World), ∀ T ∈ ts, (∃ c, PySem.W.codeHdIn (K w.params) c T = true) ∧ (K w.params).lookup T = none)
    (F : ∀ (w : World) (mg : Str → Option Value) (fa : Addr) (h : Heap), (K w.params).In h → h.Ns mainGlobals mg → mg d.name = some (.ref fa) →
      ∃ fd : FuncData, (∀ (s : Shared) (u : Value), BindsTo s fd ⟨[u], []⟩ [(x, u)]) ∧
        ∀ base : Heap, (K w.params).In base → base.Ns mainGlobals mg → (∃ bm, BMod mg base ts bm) → FnOk l.prog w (K w.params) mg base (CX w) k fa fd [x] (sp w))
    (hsp : ∀ (w : World) (H : Hp) (a : Addr) (ns : List Int), ns.length ≤ n → (∀ T ∈ ts, H T = some (.tbl #[])) → SqL (K w.params) H a (ns.map V.int) → sp w [.ref a] H (fun v _ => v = .bl true) fun _ _ _ => False)
    (hCX : ∀ (w : World) (H : Hp) (s : Shared) (e : Value) (s' : Shared), CX w [] H s (fun _ _ _ => False) e s' → False) :
    PySem.W.WalkO q loose XP YP l.row.toRowW d [] (fun f vs => PySem.call f vs) := by
  refine Att.attach_call hn hdf fun w s₀ s₁ mg mb fa o pm cd doc a vs ns G Y ho hd hcd hmg hobj hints hlen hg => ?_
  obtain ⟨KX, KT⟩ := hY w _ Y
  obtain ⟨fd, hb, hF⟩ := F w mg fa _ KX G.T.g hmg
  exact law_callT KX G.T.g G.T.b G.T.builtins G.T.nolimit hg hobj hints (Nat.le_trans hlen hn2) hr (fun T hT' => ⟨KT T hT', (let ⟨c, e⟩ := (hT w T hT').1; ⟨c, PySem.W.codeHd_of_K KX e⟩), (hT w T hT').2⟩) G.T.bmain hF hb (fun H hO hS => hsp w H a ns hlen hO hS) fun H e s' => hCX w H s₁ e s'
end L2
set_option Elab.async false
set_option linter.all false
set_option maxRecDepth 100000
namespace K98
open PySem L2
abbrev OI := Option Int
def lo (xs : List OI) : OI := if xs.filterMap id = [] then none else some ((srt (xs.filterMap id)).headD 0)
def oadd : OI → OI → OI
  | some a, some b => some (a + b)
  | _, _ => none
theorem mem_fm {xs : List OI} {k : Int} : k ∈ xs.filterMap id ↔ some k ∈ xs := by
  rw [List.mem_filterMap]
  constructor
  · rintro ⟨a, h, e⟩
    have e' : a = some k := e
    rw [← e']; exact h
  · intro h
    exact ⟨some k, h, rfl⟩
theorem head_in {ns : List Int} (h : ns ≠ []) : (srt ns).headD 0 ∈ ns ∧ ∀ x ∈ ns, (srt ns).headD 0 ≤ x := by
  have p := srt_perm ns
  have r := srt_rises ns
  cases e : srt ns with
  | nil =>
    rw [e] at p
    exact absurd p.symm.eq_nil h
  | cons a t =>
    rw [e] at p r
    refine ⟨p.mem_iff.mp (.head _), fun x hx => ?_⟩
    show a ≤ x
    rcases List.mem_cons.mp (p.symm.mem_iff.mp hx) with z | z
    · rw [z]; exact Int.le_refl _
    · exact (List.pairwise_cons.mp r).1 x z
theorem lo_some {xs : List OI} {m : Int} : lo xs = some m ↔ some m ∈ xs ∧ ∀ k, some k ∈ xs → m ≤ k := by
  unfold lo
  split
  · rename_i h
    constructor
    · intro z; cases z
    · rintro ⟨z, _⟩
      have := mem_fm.mpr z
      rw [h] at this
      cases this
  · rename_i h
    obtain ⟨h1, h2⟩ := head_in h
    constructor
    · intro z
      cases z
      exact ⟨mem_fm.mp h1, fun k hk => h2 k (mem_fm.mpr hk)⟩
    · rintro ⟨z1, z2⟩
      have a1 := h2 m (mem_fm.mpr z1)
      have a2 := z2 _ (mem_fm.mp h1)
      congr 1
      omega
theorem lo_none {xs : List OI} : lo xs = none ↔ ∀ k, some k ∉ xs := by
  unfold lo
  split
  · rename_i h
    refine ⟨fun _ k hk => ?_, fun _ => rfl⟩
    have := mem_fm.mpr hk
    rw [h] at this
    cases this
  · rename_i h
    refine ⟨fun z => (by cases z), fun z => ?_⟩
    exact absurd (mem_fm.mp (head_in h).1) (z _)
theorem lo_eq {xs ys : List OI} (h1 : ∀ m, some m ∈ xs → ∃ k, k ≤ m ∧ some k ∈ ys) (h2 : ∀ m, some m ∈ ys → ∃ k, k ≤ m ∧ some k ∈ xs) : lo xs = lo ys := by
  cases e : lo ys with
  | none =>
    rw [lo_none] at e ⊢
    intro k hk
    obtain ⟨k', _, h⟩ := h1 k hk
    exact e k' h
  | some m =>
    rw [lo_some] at e ⊢
    obtain ⟨k, hk, hm⟩ := h2 m e.1
    obtain ⟨k', hk', hm'⟩ := h1 k hm
    have := e.2 k' hm'
    have ek : k = m := by omega
    subst ek
    refine ⟨hm, fun x hx => ?_⟩
    obtain ⟨y, hy, hy'⟩ := h1 x hx
    have := e.2 y hy'
    omega
theorem lo_le {xs : List OI} {k : Int} (h : some k ∈ xs) : ∃ m, lo xs = some m ∧ m ≤ k := by
  cases e : lo xs with
  | none => exact absurd h (lo_none.mp e k)
  | some m => exact ⟨m, rfl, (lo_some.mp e).2 k h⟩
theorem lo_append (xs ys : List OI) : lo (xs ++ ys) = lo [lo xs, lo ys] := by
  refine lo_eq (fun m hm => ?_) (fun m hm => ?_)
  · rcases List.mem_append.mp hm with h | h
    · obtain ⟨k, e, hk⟩ := lo_le h
      exact ⟨k, hk, by rw [e]; exact .head _⟩
    · obtain ⟨k, e, hk⟩ := lo_le h
      exact ⟨k, hk, by rw [e]; exact .tail _ (.head _)⟩
  · simp only [List.mem_cons, List.not_mem_nil, or_false] at hm
    rcases hm with h | h
    · exact ⟨m, Int.le_refl _, List.mem_append.mpr (.inl (lo_some.mp h.symm).1)⟩
    · exact ⟨m, Int.le_refl _, List.mem_append.mpr (.inr (lo_some.mp h.symm).1)⟩
theorem lo_flat {α : Type} (xs : List α) (f : α → List OI) : lo (xs.flatMap f) = lo (xs.map fun x => lo (f x)) := by
  refine lo_eq (fun m hm => ?_) (fun m hm => ?_)
  · obtain ⟨x, hx, h⟩ := List.mem_flatMap.mp hm
    obtain ⟨k, e, hk⟩ := lo_le h
    exact ⟨k, hk, List.mem_map.mpr ⟨x, hx, e⟩⟩
  · obtain ⟨x, hx, h⟩ := List.mem_map.mp hm
    exact ⟨m, Int.le_refl _, List.mem_flatMap.mpr ⟨x, hx, (lo_some.mp h).1⟩⟩
theorem lo_add (a : Int) (xs : List OI) : oadd (some a) (lo xs) = lo (xs.map (oadd (some a))) := by
  cases e : lo xs with
  | none =>
    symm
    show lo _ = none
    rw [lo_none] at e ⊢
    intro k hk
    obtain ⟨x, hx, h⟩ := List.mem_map.mp hk
    cases x with
    | none => cases h
    | some y => exact e y hx
  | some m =>
    symm
    show lo _ = some (a + m)
    rw [lo_some] at e ⊢
    refine ⟨List.mem_map.mpr ⟨some m, e.1, rfl⟩, fun k hk => ?_⟩
    obtain ⟨x, hx, h⟩ := List.mem_map.mp hk
    cases x with
    | none => cases h
    | some y =>
      have := e.2 y hx
      cases h
      omega
theorem lo_addO (x : OI) (xs : List OI) : oadd x (lo xs) = lo (xs.map (oadd x)) := by
  cases x with
  | some a => exact lo_add a xs
  | none =>
    symm
    show lo _ = none
    rw [lo_none]
    intro k hk
    obtain ⟨x, hx, h⟩ := List.mem_map.mp hk
    cases h
theorem lo_one (x : OI) : lo [x] = x := by
  cases x with
  | none => exact lo_none.mpr fun k hk => by simp at hk
  | some m => exact lo_some.mpr ⟨.head _, fun k hk => by simp at hk; omega⟩
theorem lo_nil : lo [] = none := lo_none.mpr fun k hk => by cases hk
abbrev Pa := List (Nat × Nat × Nat)
def P : Nat → Nat → Nat → Nat → List Pa
  | 0, _, i, j => if i = j then [[]] else []
  | m + 1, l, i, j => if i = j then [[]] else ((List.range (j - i)).flatMap fun b => (P m (l + 1) (i + b + 1) j).map fun r => (i, i + b + 1, l) :: r) ++ P m (l + 1) i j
theorem P_succ (m l i j : Nat) : P (m + 1) l i j = if i = j then [[]] else ((List.range (j - i)).flatMap fun b => (P m (l + 1) (i + b + 1) j).map fun r => (i, i + b + 1, l) :: r) ++ P m (l + 1) i j := rfl
theorem P_same (m l i : Nat) : P m l i i = [[]] := by
  cases m <;> (unfold P; rw [if_pos rfl])
section
variable (p : Nat → Int) (W : Nat → Nat → Int) (F : Nat → Nat → OI)
def part (q : Nat × Nat × Nat) : OI := oadd (some (p q.2.2 * W q.1 q.2.1)) (F q.1 q.2.1)
def cost : Pa → OI
  | [] => some 0
  | q :: r => oadd (part p W F q) (cost r)
structure Eqs (L : Nat) (h t : Nat → Nat → Nat → OI) (i j : Nat) : Prop where
  eh : ∀ l, l < L → h l i j = oadd (some (p l * W i j)) (F i j)
  et : ∀ l, l < L → t l i j = lo [lo ((List.range (j - i)).map fun b => oadd (h l i (i + b + 1)) (t (l + 1) (i + b + 1) j)), t (l + 1) i j]
variable {p W F} {L n : Nat} {h t : Nat → Nat → Nat → OI}
theorem tails_are {i0 : Nat} (dg : ∀ l i, l ≤ L → i ≤ n → t l i i = some 0) (ed : ∀ i j, i < j → j ≤ n → t L i j = none) (eq : ∀ i j, i0 ≤ i → i < j → j ≤ n → Eqs p W F L h t i j) :
    ∀ m l i j, l + m = L → i0 ≤ i → i ≤ j → j ≤ n → t l i j = lo ((P m l i j).map fun r => cost p W F r)
  | 0, l, i, j, hl, h0, hij, hj => by
    have el : l = L := by omega
    subst el
    by_cases e : i = j
    · subst e
      rw [dg l i (Nat.le_refl _) hj, P_same]
      exact (lo_one _).symm
    · rw [ed i j (by omega) hj]
      unfold P
      rw [if_neg e]
      exact lo_nil.symm
  | m + 1, l, i, j, hl, h0, hij, hj => by
    by_cases e : i = j
    · subst e
      rw [dg l i (by omega) hj, P_same]
      exact (lo_one _).symm
    · have E := eq i j h0 (by omega) hj
      rw [E.et l (by omega)]
      unfold P
      rw [if_neg e, List.map_append, lo_append, ← tails_are dg ed eq m (l + 1) i j (by omega) h0 hij hj]
      congr 2
      rw [List.map_flatMap, lo_flat]
      congr 1
      refine List.map_congr_left fun b hb => ?_
      have hb' := List.mem_range.mp hb
      rw [(eq i (i + b + 1) h0 (by omega) (by omega)).eh l (by omega), tails_are dg ed eq m (l + 1) (i + b + 1) j (by omega) (by omega) (by omega) hj, lo_addO, List.map_map, List.map_map]
      congr 1
def bnd (L : Nat) (h t : Nat → Nat → Nat → OI) (i j : Nat) : OI := if j - i = 1 then some 0 else lo ((List.range L).map fun l => lo ((List.range (j - 1 - i)).map fun b => oadd (h l i (i + b + 1)) (t (l + 1) (i + b + 1) j)))
theorem P_ne {m l i j : Nat} (hij : i < j) : ∀ r ∈ P m l i j, r ≠ [] := by
  induction m generalizing l i with
  | zero =>
    intro r hr
    unfold P at hr
    rw [if_neg (by omega)] at hr
    cases hr
  | succ m ih =>
    intro r hr
    unfold P at hr
    rw [if_neg (by omega)] at hr
    rcases List.mem_append.mp hr with z | z
    · obtain ⟨b, _, z⟩ := List.mem_flatMap.mp z
      obtain ⟨r', _, rfl⟩ := List.mem_map.mp z
      intro y; cases y
    · exact ih hij r z
theorem P_some {m l i j : Nat} (hij : i < j) : P (m + 1) l i j ≠ [] := by
  unfold P
  rw [if_neg (by omega)]
  intro z
  have z1 := (List.append_eq_nil_iff.mp z).1
  have : (i, i + (j - i - 1) + 1, l) :: [] ∈ (List.range (j - i)).flatMap fun b => (P m (l + 1) (i + b + 1) j).map fun r => (i, i + b + 1, l) :: r := by
    refine List.mem_flatMap.mpr ⟨j - i - 1, List.mem_range.mpr (by omega), List.mem_map.mpr ⟨[], ?_, rfl⟩⟩
    rw [show i + (j - i - 1) + 1 = j by omega, P_same]
    exact .head _
  rw [z1] at this
  cases this
theorem P_many {i j : Nat} (hij : i < j) : ∀ m l, (P m l i j).filter (fun r => decide (1 < r.length)) = (List.range m).flatMap fun a => (List.range (j - 1 - i)).flatMap fun b => (P (m - 1 - a) (l + a + 1) (i + b + 1) j).map fun r => (i, i + b + 1, l + a) :: r
  | 0, l => by
    unfold P
    rw [if_neg (by omega)]
    rfl
  | m + 1, l => by
    have ih := P_many hij m (l + 1)
    rw [P_succ m l i j, if_neg (by omega), List.filter_append, ih, List.range_succ_eq_map, List.flatMap_cons, List.flatMap_map]
    congr 1
    · rw [show j - i = (j - 1 - i) + 1 by omega, List.range_succ, List.flatMap_append, List.filter_append]
      have e2 : ([j - 1 - i].flatMap fun b => (P m (l + 1) (i + b + 1) j).map fun r => (i, i + b + 1, l) :: r).filter (fun r => decide (1 < r.length)) = [] := by
        rw [List.flatMap_cons, List.flatMap_nil, List.append_nil, show i + (j - 1 - i) + 1 = j by omega, P_same]
        rfl
      rw [e2, List.append_nil, List.filter_eq_self.mpr]
      · rfl
      · intro r hr
        obtain ⟨b, hb, z⟩ := List.mem_flatMap.mp hr
        obtain ⟨r', hr', rfl⟩ := List.mem_map.mp z
        have hb' := List.mem_range.mp hb
        have := P_ne (by omega) r' hr'
        rw [decide_eq_true_eq, List.length_cons]
        have := List.length_pos_iff.mpr this
        omega
    · refine congrArg (fun f => (List.range m).flatMap f) (funext fun a => ?_)
      show _ = (List.range (j - 1 - i)).flatMap fun b => (P (m + 1 - 1 - (a + 1)) (l + (a + 1) + 1) (i + b + 1) j).map fun r => (i, i + b + 1, l + (a + 1)) :: r
      rw [show m + 1 - 1 - (a + 1) = m - 1 - a by omega, show l + (a + 1) = l + 1 + a by omega]
theorem bound_is {i j : Nat} (dg : ∀ l i, l ≤ L → i ≤ n → t l i i = some 0) (ed : ∀ i j, i < j → j ≤ n → t L i j = none) (hh : ∀ l c, l < L → i < c → c < j → h l i c = oadd (some (p l * W i c)) (F i c)) (eq : ∀ a b, i + 1 ≤ a → a < b → b ≤ n → Eqs p W F L h t a b) (hij : i + 1 < j) (hj : j ≤ n) :
    bnd L h t i j = lo (((P L 0 i j).filter fun r => decide (1 < r.length)).map fun r => cost p W F r) := by
  unfold bnd
  rw [if_neg (by omega), P_many (by omega), List.map_flatMap, lo_flat]
  congr 1
  refine List.map_congr_left fun l hl => ?_
  have hl' := List.mem_range.mp hl
  rw [List.map_flatMap, lo_flat]
  congr 1
  refine List.map_congr_left fun b hb => ?_
  have hb' := List.mem_range.mp hb
  rw [hh l (i + b + 1) hl' (by omega) (by omega), tails_are dg ed eq (L - 1 - l) (l + 1) (i + b + 1) j (by omega) (by omega) (by omega) hj, lo_addO, List.map_map, List.map_map, Nat.zero_add]
  congr 1
theorem many_ne {L i j : Nat} (hL : 2 ≤ L) (hij : i + 1 < j) : (P L 0 i j).filter (fun r => decide (1 < r.length)) ≠ [] := by
  rw [P_many (by omega)]
  obtain ⟨L, rfl⟩ : ∃ K, L = K + 2 := ⟨L - 2, by omega⟩
  intro z
  have h1 : P (L + 1) 1 (i + 1) j ≠ [] := P_some (by omega)
  obtain ⟨r, hr⟩ := List.exists_mem_of_ne_nil _ h1
  have : (i, i + 0 + 1, 0) :: r ∈ (List.range (L + 2)).flatMap fun a => (List.range (j - 1 - i)).flatMap fun b => (P (L + 2 - 1 - a) (0 + a + 1) (i + b + 1) j).map fun r => (i, i + b + 1, 0 + a) :: r := by
    refine List.mem_flatMap.mpr ⟨0, List.mem_range.mpr (by omega), List.mem_flatMap.mpr ⟨0, List.mem_range.mpr (by omega), List.mem_map.mpr ⟨r, ?_, rfl⟩⟩⟩
    exact hr
  rw [z] at this
  cases this
end
theorem P_in : ∀ m l i j, i ≤ j → ∀ r ∈ P m l i j, ∀ q ∈ r, i ≤ q.1 ∧ q.1 < q.2.1 ∧ q.2.1 ≤ j ∧ l ≤ q.2.2 ∧ q.2.2 < l + m
  | 0, l, i, j, h, r, hr, q, hq => by
    unfold P at hr
    split at hr
    · rw [List.mem_singleton.mp hr] at hq; cases hq
    · cases hr
  | m + 1, l, i, j, h, r, hr, q, hq => by
    rw [P_succ] at hr
    split at hr
    · rw [List.mem_singleton.mp hr] at hq; cases hq
    · rcases List.mem_append.mp hr with z | z
      · obtain ⟨b, hb, z⟩ := List.mem_flatMap.mp z
        have hb' := List.mem_range.mp hb
        obtain ⟨r', hr', rfl⟩ := List.mem_map.mp z
        rcases List.mem_cons.mp hq with y | y
        · rw [y]; exact ⟨Nat.le_refl _, by show i < i + b + 1; omega, by show i + b + 1 ≤ j; omega, Nat.le_refl _, by show l < l + (m + 1); omega⟩
        · have := P_in m (l + 1) (i + b + 1) j (by omega) r' hr' q y
          omega
      · have := P_in m (l + 1) i j h r z q hq
        omega
theorem many_in {L i j : Nat} (hij : i < j) : ∀ r ∈ (P L 0 i j).filter (fun r => decide (1 < r.length)), ∀ q ∈ r, i ≤ q.1 ∧ q.1 < q.2.1 ∧ q.2.1 ≤ j ∧ q.2.1 - q.1 < j - i ∧ q.2.2 < L := fun r hr q hq => by
  have hP := P_in L 0 i j (by omega) r (List.mem_filter.mp hr).1 q hq
  rw [P_many hij] at hr
  obtain ⟨a, ha, z⟩ := List.mem_flatMap.mp hr
  obtain ⟨b, hb, z⟩ := List.mem_flatMap.mp z
  have hb' := List.mem_range.mp hb
  obtain ⟨r', hr', rfl⟩ := List.mem_map.mp z
  rcases List.mem_cons.mp hq with y | y
  · rw [y] at hP ⊢
    exact ⟨Nat.le_refl _, by show i < i + b + 1; omega, by show i + b + 1 ≤ j; omega, by show i + b + 1 - i < j - i; omega, by have := hP.2.2.2.2; omega⟩
  · have := P_in _ _ _ j (by omega) r' hr' q y
    omega
end K98
set_option Elab.async false
set_option linter.all false
set_option maxRecDepth 100000
namespace K98
open PySem L2
def top (i : Nat) : Stmt := PySem.Challenge.pw_lettertoll_k98_whole_costs_of_moved_numb.main.body.getD i (.Pass ⟨0, 0, 0, 0⟩)
def kidN (n : Nat) : Stmt → Stmt
  | .ClassDef _ _ _ b .. => b.getD n (.Pass ⟨0, 0, 0, 0⟩)
  | s => s
abbrev sNbd : Stmt := top 49
abbrev sWb : Stmt := top 50
abbrev sTw : Stmt := top 51
abbrev sFold : Stmt := top 53
abbrev sCellA : Stmt := top 54
abbrev sAmount : Stmt := top 55
abbrev sMoved : Stmt := top 56
abbrev sLl : Stmt := top 57
abbrev sLn : Stmt := top 58
abbrev iCounts : Stmt := kidN 0 (top 47)
abbrev sPutC : Stmt := kidN 1 (top 47)
abbrev sOver : Stmt := kidN 2 (top 47)
abbrev sBy : Stmt := kidN 3 (top 47)
abbrev sSums : Stmt := top 18
abbrev sRow : Stmt := top 19
abbrev sSquare : Stmt := top 20
abbrev sLeast : Stmt := top 21
abbrev sAdded : Stmt := top 22
abbrev sPl : Stmt := top 24
abbrev sPw : Stmt := top 25
abbrev sLf : Stmt := top 27
abbrev sCk : Stmt := top 28
abbrev sKw : Stmt := top 29
abbrev sIck : Stmt := top 30
abbrev sAlone : Stmt := top 9
abbrev sPPrice : Stmt := top 10
abbrev sBegins : Stmt := top 11
abbrev sClash : Stmt := top 13
abbrev sRises : Stmt := top 14
abbrev sIsKept : Stmt := top 15
abbrev sPCost : Stmt := top 16
abbrev sIs : Stmt := top 8
abbrev sPM : Stmt := top 32
abbrev sWM : Stmt := top 33
abbrev sRL : Stmt := top 34
abbrev sRT : Stmt := top 35
abbrev sWN : Stmt := top 36
abbrev sPS : Stmt := top 37
abbrev sWS : Stmt := top 38
abbrev sEt : Stmt := top 41
abbrev sBe : Stmt := top 42
abbrev sSo : Stmt := top 43
abbrev sPst : Stmt := top 44
abbrev sWst : Stmt := top 45
abbrev sLaw : Stmt := top 59
abbrev iParted : Stmt := kidN 0 (top 23)
abbrev sPut : Stmt := kidN 1 (top 23)
abbrev sLs : Stmt := kidN 2 (top 23)
abbrev sBound : Stmt := kidN 3 (top 23)
abbrev sBrow : Stmt := kidN 4 (top 23)
abbrev sBounds : Stmt := kidN 5 (top 23)
abbrev sWays : Stmt := kidN 6 (top 23)
abbrev iPm : Stmt := kidN 0 (top 39)
abbrev sNow : Stmt := kidN 1 (top 39)
abbrev sShare : Stmt := kidN 2 (top 39)
abbrev sAt : Stmt := kidN 3 (top 39)
abbrev iWm : Stmt := kidN 0 (top 40)
abbrev sNowW : Stmt := kidN 1 (top 40)
abbrev sShareW : Stmt := kidN 2 (top 40)
abbrev sAtW : Stmt := kidN 3 (top 40)
def oV : OI → V
  | none => .non
  | some i => .int i
section
variable {P : Program} {w : World} {K : PySem.W.Frag} {mg : Str → Option Value} {base : Heap} {f : Addr} {fd : FuncData}
def sums (ws : List Int) (k : Nat) : List Int := (List.range (k + 1)).map fun i => (ws.take i).sum
def spSums : Sp := fun vs H Q _ => ∃ (q : Addr) (ws : List Int), vs = [.ref q] ∧ TW H q ws ∧ ws.length ≤ 100 ∧ ∀ (p : Addr) H', Same H H' → H p = none → H' p = some (.lst ((sums ws ws.length).map V.int)) → Q (.ref p) H'
theorem scSums : FnScope ["weights", "sums", "weight"] ["weights"] (defScope sSums) := ⟨rfl, rfl, rfl, by decide +kernel, rfl, by decide +kernel, by decide +kernel⟩
theorem sums_succ {ws : List Int} {k : Nat} : sums ws (k + 1) = sums ws k ++ [(ws.take (k + 1)).sum] := by
  unfold sums
  rw [List.range_succ (n := k + 1), List.map_append]
  rfl
theorem sums_last {ws : List Int} {k : Nat} : ∃ xs, sums ws k = xs ++ [(ws.take k).sum] := by
  unfold sums
  rw [List.range_succ, List.map_append]
  exact ⟨_, rfl⟩
theorem sums_len {ws : List Int} {k : Nat} : (sums ws k).length = k + 1 := by unfold sums; rw [List.length_map, List.length_range]
theorem ok_sums (F : Fun K "weight_sums" "weight_sums" sSums f fd) : FnOk P w K mg base CX0 1 f fd ["weights"] spSums := by
  refine F.ok (k := 0) scSums (fun vs H Q E h => ?_) (fun cdv A outer s H vs Q E hr h => ?_)
  · obtain ⟨q, ws, rfl, _⟩ := h
    rfl
  obtain ⟨q, ws, rfl, hq, l1, qq⟩ := h
  refine ⟨_, pss_cons (ps_set (i := 1) scSums.nd rfl (Or.inl rfl) (pe_lst (pa_cons pe_int pa_nil)))
    (pss_cons (ps_for PassesOwn.never rfl (pi_tup (pv 0)) (pg_name (i := 2) scSums.nd rfl (Or.inl rfl))
      (pss_one (ps_expr (pe_bm PySem.F.plainAttrs_list PySem.F.slot_list_append PySem.F.type_list_append mt_append (pv 1) (pa_cons (pe_op op_add (pe_ix ix_list (pv 1) (pe_un un_neg pe_int) (fun _ _ => rfl)) (pv 2)) pa_nil)))))
    (pss_one (ps_ret (pv 1)))), ?_⟩
  refine ⟨(by show 1 ≤ sizeLine; decide), fun l hl => ?_⟩
  have s1 := same_newO hl (.lst [.int 0])
  have g1 : upd H l (.lst [.int 0]) l = some (.lst ((sums ws 0).map V.int)) := upd_same
  generalize upd H l (.lst [.int 0]) = H1 at s1 g1 ⊢
  refine ⟨_, rfl, q, rfl, ⟨_, SqT.of (s1 _ _ hq)⟩, ?_⟩
  refine for_tup (xs := ws.map V.int) (fun i σ H' => Same H H' ∧ H' l = some (.lst ((sums ws i).map V.int)) ∧ ∃ x2 : Option V, σ = [some (.ref q), some (.ref l), x2]) ⟨s1, g1, _, rfl⟩ (fun i σ H' _ hP => SqT.of (hP.1 _ _ hq)) (fun i x σ H2 hx hP => ?_) (fun σ H2 hP => ?_)
  · obtain ⟨s2, g2, x2, rfl⟩ := hP
    have il := (List.getElem?_eq_some_iff.mp hx).1
    rw [List.length_map] at il
    rw [List.getElem?_map] at hx
    obtain ⟨z, hz, rfl⟩ := Option.map_eq_some_iff.mp hx
    obtain ⟨xs, ex⟩ := sums_last (ws := ws) (k := i)
    refine ⟨_, rfl, .inl ⟨rfl, _, SqL.of g2⟩, _, rfl, _, rfl, l, _, _, _, rfl, rfl, SqL.of g2, (by rw [ex, List.map_append]; exact atI_last _ _), _, rfl, _, _, rfl, rfl, l, _, _, rfl, rfl, g2, small1000 (by rw [List.length_map, sums_len]; omega), same_upd hl s2, ?_, _, rfl⟩
    rw [upd_same, sums_succ, List.map_append, List.take_add_one, hz]
    simp
  · obtain ⟨s2, g2, x2, rfl⟩ := hP
    rw [List.length_map] at g2
    exact ⟨_, rfl, qq l H2 s2 hl g2⟩
def rowW (s i : Nat) (o : OI) : List V := (List.range s).map fun j => oV (if j = i then o else none)
theorem rowW_is {s i : Nat} {o : OI} : (List.replicate s V.non).set i (oV o) = rowW s i o := by
  refine List.ext_getElem? fun j => ?_
  unfold rowW
  rw [List.getElem?_map]
  by_cases hj : j < s
  · rw [List.getElem?_range hj]
    by_cases e : i = j
    · subst e
      rw [List.getElem?_set_self (by rw [List.length_replicate]; exact hj)]
      simp
    · rw [List.getElem?_set_ne e, List.getElem?_replicate, if_pos hj]
      show some V.non = some (oV (if j = i then o else none))
      rw [if_neg (fun z => e z.symm)]
      rfl
  · rw [List.getElem?_eq_none (by rw [List.length_set, List.length_replicate]; omega), List.getElem?_eq_none (by rw [List.length_range]; omega)]
    rfl
theorem reps_non (n : Nat) : (List.replicate n [V.non]).flatten = List.replicate n V.non := by
  induction n with
  | zero => rfl
  | succ n ih => rw [List.replicate_succ, List.flatten_cons, ih, List.replicate_succ]; rfl
def spRow : Sp := fun vs H Q _ => ∃ (s i : Nat) (o : OI), vs = [.int (s : Int), .int (i : Int), oV o] ∧ i < s ∧ s ≤ 100 ∧ ∀ (p : Addr) H', Same H H' → H p = none → H' p = some (.lst (rowW s i o)) → Q (.ref p) H'
theorem scRow : FnScope ["side", "at", "number", "row"] ["side", "at", "number"] (defScope sRow) := ⟨rfl, rfl, rfl, by decide +kernel, rfl, by decide +kernel, by decide +kernel⟩
theorem ixN_nat {n j : Nat} (h : j < n) : ixN n (j : Int) = some j := by
  unfold ixN
  rw [if_pos (by omega), if_pos (by omega)]
  rfl
theorem ok_row (F : Fun K "row_with" "row_with" sRow f fd) : FnOk P w K mg base CX0 1 f fd ["side", "at", "number"] spRow := by
  refine F.ok (k := 0) scRow (fun vs H Q E h => ?_) (fun cdv A outer s H vs Q E hr h => ?_)
  · obtain ⟨s, i, o, rfl, _⟩ := h
    rfl
  obtain ⟨n, i, o, rfl, hi, hn, qq⟩ := h
  refine ⟨_, pss_cons (ps_set (i := 3) scRow.nd rfl (Or.inl rfl) (pe_op op_rep (pe_lst (pa_cons pe_non pa_nil)) (pv 0)))
    (pss_cons (ps_asg (pv 2) (pg_sub (pv 3) (pv 1) set_list))
    (pss_one (ps_ret (pv 3)))), ?_⟩
  refine ⟨(by show 1 ≤ sizeLine; decide), fun l hl => ?_⟩
  have s1 := same_newO hl (.lst [.non])
  have g1 : upd H l (.lst [.non]) l = some (.lst [.non]) := upd_same
  generalize upd H l (.lst [.non]) = H1 at s1 g1 ⊢
  refine ⟨_, rfl, l, (n : Int), _, rfl, rfl, g1, by omega, by omega, by show 1 * _ ≤ _; exact Nat.le_of_lt (small1000 (by omega)), fun p hp => ?_⟩
  rw [reps_non, Int.toNat_natCast]
  have s2 := same_newO hp (.lst (List.replicate n V.non))
  have g2 : upd H1 p (.lst (List.replicate n V.non)) p = some (.lst (List.replicate n V.non)) := upd_same
  generalize upd H1 p (.lst (List.replicate n V.non)) = H2 at s2 g2 ⊢
  have hpn := s1.free hp
  refine ⟨_, rfl, _, rfl, _, rfl, p, _, _, i, rfl, rfl, g2, (by rw [List.length_replicate]; exact ixN_nat hi), ?_⟩
  rw [rowW_is]
  exact ⟨_, rfl, qq p _ (same_upd hpn (s1.trans s2)) hpn upd_same⟩
def ext {α : Type} (ca : Nat → α) (i : Nat) (p : α) : Nat → α := fun k => if k = i then p else ca k
theorem ext_same {α : Type} {ca : Nat → α} {i k : Nat} {p : α} (h : k = i) : ext ca i p k = p := if_pos h
theorem ext_ne {α : Type} {ca : Nat → α} {i k : Nat} {p : α} (h : ¬ k = i) : ext ca i p k = ca k := if_neg h
def spSquare : Sp := fun vs H Q _ => ∃ (s : Nat) (o : OI), vs = [.int (s : Int), oV o] ∧ s ≤ 100 ∧ ∀ (b : Addr) (ca : Nat → Addr) H', Same H H' → H b = none → (∀ i, i < s → H (ca i) = none) → (∀ i j, i < s → j < s → ca i = ca j → i = j) → (∀ i, i < s → ca i ≠ b) →
  H' b = some (.lst ((List.range s).map fun i => .ref (ca i))) → (∀ i, i < s → H' (ca i) = some (.lst (rowW s i o))) → Q (.ref b) H'
theorem scSquare : FnScope ["side", "diagonal"] ["side", "diagonal"] (defScope sSquare) := ⟨rfl, rfl, rfl, by decide +kernel, rfl, by decide +kernel, by decide +kernel⟩
theorem ndSq : (("at" : Str) :: ["side", "diagonal"]).Nodup := by decide +kernel
theorem ok_square (F : Fun K "square" "square" sSquare f fd) (GR : Fns P w K mg base ["side", "at", "number"] "row_with" spRow 1) (mr : mg "range" = none) : FnOk P w K mg base CX0 2 f fd ["side", "diagonal"] spSquare := by
  refine F.ok (k := 1) scSquare (fun vs H Q E h => ?_) (fun cdv A outer s H vs Q E hr h => ?_)
  · obtain ⟨s, o, rfl, _⟩ := h
    rfl
  obtain ⟨n, o, rfl, hn, qq⟩ := h
  refine ⟨_, pss_one (ps_ret (pe_compR1 (M := ["side", "diagonal"]) rfl (CompScope.of (defScope sSquare) ["side", "diagonal"] rfl rfl rfl (by decide +kernel) (by decide +kernel) (by decide +kernel) rfl (by decide +kernel)) ndSq rfl (by rfl) mr (pa_cons (pv 0) pa_nil) (mo_cons mo_var mo_nil)
      (fun cl C s0 H0 fp => ⟨pts_nil, pe_call GR.ok hr (by rfl) GR.m GR.kp GR.b .nil pass0 (pa_cons (pv 1) (pa_cons (pv 0) (pa_cons (pv 2) pa_nil)))⟩))), ?_⟩
  refine ⟨_, rfl, (n : Int), rfl, by omega, by omega, fun d hd => ?_⟩
  refine ⟨fun i H' => Same H H' ∧ ∃ ca : Nat → Addr, (∀ k, k < i → H (ca k) = none) ∧ (∀ j k, j < i → k < i → ca j = ca k → j = k) ∧ (∀ k, k < i → ca k ≠ d) ∧ H' d = some (.lst ((List.range i).map fun k => .ref (ca k))) ∧ ∀ k, k < i → H' (ca k) = some (.lst (rowW n k o)), ⟨same_newO hd _, fun _ => d, fun k hk => absurd hk (Nat.not_lt_zero _), fun j k hj => absurd hj (Nat.not_lt_zero _), fun k hk => absurd hk (Nat.not_lt_zero _), upd_same, fun k hk => absurd hk (Nat.not_lt_zero _)⟩, fun i H1 hi hP => ?_, fun H1 hP => ?_⟩
  · obtain ⟨s1, ca, c1, c2, c3, c4, c5⟩ := hP
    have i' : i < n := by omega
    rw [show (0 : Int) + (i : Int) = (i : Int) from Int.zero_add _]
    refine turn_all ⟨_, rfl, _, rfl, _, rfl, n, i, o, rfl, i', hn, fun p H2 s2 hp2 g2 => ?_⟩
    have pd : p ≠ d := fun z => by rw [z, c4] at hp2; cases hp2
    have pk : ∀ k, k < i → ca k ≠ p := fun k hk z => by rw [← z, c5 k hk] at hp2; cases hp2
    refine ⟨_, s2 _ _ c4, ?_, same_upd hd (s1.trans s2), ext ca i p, fun k hk => ?_, fun j k hj hk e => ?_, fun k hk => ?_, ?_, fun k hk => ?_⟩
    · rw [List.length_map, List.length_range]; exact small1000 (by omega)
    · by_cases z : k = i
      · rw [ext_same z]; exact s1.free hp2
      · rw [ext_ne z]; exact c1 k (by omega)
    · by_cases z1 : j = i <;> by_cases z2 : k = i
      · omega
      · rw [ext_same z1, ext_ne z2] at e
        exact absurd e.symm (pk k (by omega))
      · rw [ext_ne z1, ext_same z2] at e
        exact absurd e (pk j (by omega))
      · rw [ext_ne z1, ext_ne z2] at e
        exact c2 j k (by omega) (by omega) e
    · by_cases z : k = i
      · rw [ext_same z]; exact pd
      · rw [ext_ne z]; exact c3 k (by omega)
    · rw [upd_same, List.range_succ, List.map_append]
      refine congrArg (fun z => some (HO.lst z)) ?_
      congr 1
      · refine List.map_congr_left fun k hk => ?_
        rw [ext_ne (by have := List.mem_range.mp hk; omega)]
      · show [V.ref p] = [V.ref (ext ca i p i)]
        rw [ext_same rfl]
    · by_cases z : k = i
      · rw [ext_same z, upd_ne pd, z]; exact g2
      · rw [ext_ne z, upd_ne (c3 k (by omega))]; exact s2 _ _ (c5 k (by omega))
  · obtain ⟨s1, ca, c1, c2, c3, c4, c5⟩ := hP
    rw [Int.toNat_natCast] at c1 c2 c3 c4 c5
    exact qq d ca H1 s1 hd c1 c2 c3 c4 c5
def spLeast : Sp := fun vs H Q _ => ∃ (a : Addr) (xs : List OI), vs = [.ref a] ∧ H a = some (.lst (xs.map oV)) ∧ xs.length ≤ 100 ∧ ∀ H', Same H H' → Q (oV (lo xs)) H'
theorem scLeast : FnScope ["numbers"] ["numbers"] (defScope sLeast) := ⟨rfl, rfl, rfl, by decide +kernel, rfl, by decide +kernel, by decide +kernel⟩
theorem ndLe : (("number" : Str) :: ["numbers"]).Nodup := by decide +kernel
set_option maxHeartbeats 4000000 in
theorem ok_least (F : Fun K "least" "least" sLeast f fd) (mn : mg "min" = none) : FnOk P w K mg base CX0 1 f fd ["numbers"] spLeast := by
  refine F.ok (k := 0) scLeast (fun vs H Q E h => ?_) (fun cdv A outer s H vs Q E hr h => ?_)
  · obtain ⟨a, xs, rfl, _⟩ := h
    rfl
  obtain ⟨a, xs, rfl, ha, l1, qq⟩ := h
  refine ⟨_, pss_one (ps_ret (pe_minD rfl (by rfl) mn (pa_cons (pe_compL (M := ["numbers"]) rfl (CompScope.of (defScope sLeast) ["numbers"] rfl rfl rfl (by decide +kernel) (by decide +kernel) (by decide +kernel) rfl (by decide +kernel)) ndLe rfl (pv 0) mo_var
      (fun cl C s0 H0 fp => ⟨pts_one (pt_cmp (pc_notN (pv 0))), pv 0⟩)) pa_nil) (pk_cons pe_non pk_nil))), ?_⟩
  refine ⟨_, rfl, a, _, rfl, SqL.of ha, fun d hd => ?_⟩
  refine ⟨fun i H' => Same H H' ∧ H' d = some (.lst (((xs.take i).filterMap id).map V.int)), ⟨same_newO hd _, upd_same⟩, fun i H' _ hP => SqL.of (hP.1 _ _ ha), fun i x H' hx hP => ?_, fun H' hP => ?_⟩
  · obtain ⟨s5, hd'⟩ := hP
    have il := (List.getElem?_eq_some_iff.mp hx).1
    rw [List.length_map] at il
    rw [List.getElem?_map] at hx
    obtain ⟨z, hz, rfl⟩ := Option.map_eq_some_iff.mp hx
    have et : (xs.take (i + 1)).filterMap id = (xs.take i).filterMap id ++ [z].filterMap id := by rw [List.take_add_one, hz, List.filterMap_append]; rfl
    refine ⟨_, rfl, _, rfl, ?_⟩
    cases z with
    | none => exact ⟨s5, by rw [et]; simpa using hd'⟩
    | some v =>
      refine ⟨_, rfl, _, hd', ?_, same_upd hd s5, ?_⟩
      · rw [List.length_map]
        have := List.length_filterMap_le id (xs.take i)
        rw [List.length_take] at this
        exact small1000 (by omega)
      · rw [upd_same, et, List.map_append]
        rfl
  · obtain ⟨s5, hd'⟩ := hP
    rw [List.length_map, List.take_length] at hd'
    refine ⟨d, _, rfl, rfl, hd', ?_⟩
    have := qq H' s5
    unfold lo at this
    split
    · rename_i h
      rw [if_pos h] at this
      exact this
    · rename_i h
      rw [if_neg h] at this
      exact this
def spAdded : Sp := fun vs H Q _ => ∃ a b : OI, vs = [oV a, oV b] ∧ Q (oV (oadd a b)) H
theorem scAdded : FnScope ["one", "other"] ["one", "other"] (defScope sAdded) := ⟨rfl, rfl, rfl, by decide +kernel, rfl, by decide +kernel, by decide +kernel⟩
theorem ok_added (F : Fun K "added" "added" sAdded f fd) : FnOk P w K mg base CX0 1 f fd ["one", "other"] spAdded := by
  refine F.ok (k := 0) scAdded (fun vs H Q E h => ?_) (fun cdv A outer s H vs Q E hr h => ?_)
  · obtain ⟨a, b, rfl, _⟩ := h
    rfl
  obtain ⟨a, b, rfl, q⟩ := h
  refine ⟨_, pss_cons (ps_if (PW.pt (pw_or (pt_cmp (pc_isN (pv 0))) (pw_or1 (pt_cmp (pc_isN (pv 1)))))) (pss_one (ps_ret pe_non)) pss_nil) (pss_one (ps_ret (pe_op op_add (pv 0) (pv 1)))), ?_⟩
  refine ⟨_, rfl, _, rfl, ?_⟩
  cases a with
  | none => exact q
  | some i =>
    refine iteF ?_
    refine ⟨_, rfl, _, rfl, ?_⟩
    cases b with
    | none => exact q
    | some j => exact iteF ⟨_, rfl, _, rfl, _, _, rfl, rfl, q⟩
end
end K98
set_option Elab.async false
set_option linter.all false
set_option maxRecDepth 100000
namespace K98
open PySem L2
structure Tb (H : Hp) (a : Addr) (ba : Nat → Addr) (ca : Nat → Nat → Addr) (L s : Nat) (T : Nat → Nat → Nat → OI) : Prop where
  o : H a = some (.lst ((List.range L).map fun l => .ref (ba l)))
  b : ∀ l, l < L → H (ba l) = some (.lst ((List.range s).map fun i => .ref (ca l i)))
  c : ∀ l i, l < L → i < s → H (ca l i) = some (.lst ((List.range s).map fun j => oV (T l i j)))
theorem Tb.same {H H' : Hp} {a : Addr} {ba : Nat → Addr} {ca : Nat → Nat → Addr} {L s : Nat} {T : Nat → Nat → Nat → OI} (h : Tb H a ba ca L s T) (k : Same H H') : Tb H' a ba ca L s T := ⟨k _ _ h.o, fun l hl => k _ _ (h.b l hl), fun l i hl hi => k _ _ (h.c l i hl hi)⟩
structure Ad where
  su : Addr
  th : Addr
  tt : Addr
  bh : Nat → Addr
  ch : Nat → Nat → Addr
  bt : Nat → Addr
  ct : Nat → Nat → Addr
def Z (X : Ad) (L s : Nat) (a : Addr) : Prop := (∃ l i, l < L ∧ i < s ∧ a = X.ch l i) ∨ ∃ l i, l < L + 1 ∧ i < s ∧ a = X.ct l i
abbrev pf (p : Addr) (n : Int) (X : Ad) : List (Str × V) := [("prices", .ref p), ("things", .int n), ("sums", .ref X.su), ("heads", .ref X.th), ("tails", .ref X.tt)]
structure PAt (C : Addr) (H : Hp) (r p : Addr) (ps ws : List Int) (X : Ad) (h t : Nat → Nat → Nat → OI) : Prop where
  ob : ∃ dx, H r = some (.ins C dx (pf p (ws.length : Int) X))
  hp : TW H p ps
  su : H X.su = some (.lst ((sums ws ws.length).map V.int))
  hd : Tb H X.th X.bh X.ch ps.length (ws.length + 1) h
  tl : Tb H X.tt X.bt X.ct (ps.length + 1) (ws.length + 1) t
  ih : ∀ l i l' i', l < ps.length → l' < ps.length → i < ws.length + 1 → i' < ws.length + 1 → X.ch l i = X.ch l' i' → l = l' ∧ i = i'
  it : ∀ l i l' i', l < ps.length + 1 → l' < ps.length + 1 → i < ws.length + 1 → i' < ws.length + 1 → X.ct l i = X.ct l' i' → l = l' ∧ i = i'
  ix : ∀ l i l' i', l < ps.length → l' < ps.length + 1 → i < ws.length + 1 → i' < ws.length + 1 → X.ch l i ≠ X.ct l' i'
  ns : ¬ Z X ps.length (ws.length + 1) X.su
theorem PAt.same {C : Addr} {H H' : Hp} {r p : Addr} {ps ws : List Int} {X : Ad} {h t : Nat → Nat → Nat → OI} (a : PAt C H r p ps ws X h t) (k : Same H H') : PAt C H' r p ps ws X h t := by
  obtain ⟨dx, ho⟩ := a.ob
  exact ⟨⟨dx, k _ _ ho⟩, k _ _ a.hp, k _ _ a.su, a.hd.same k, a.tl.same k, a.ih, a.it, a.ix, a.ns⟩
structure PC (K : PySem.W.Frag) (C : Addr) : Prop where
  c : Cls K C
  np : NoAttr K C "prices"
  nn : NoAttr K C "things"
  ns : NoAttr K C "sums"
  nh : NoAttr K C "heads"
  nt : NoAttr K C "tails"
abbrev pf1 (p : Addr) : List (Str × V) := [("prices", .ref p)]
abbrev pf2 (p : Addr) (n : Int) : List (Str × V) := [("prices", .ref p), ("things", .int n)]
abbrev pf3 (p : Addr) (n : Int) (su : Addr) : List (Str × V) := [("prices", .ref p), ("things", .int n), ("sums", .ref su)]
abbrev pf4 (p : Addr) (n : Int) (su th : Addr) : List (Str × V) := [("prices", .ref p), ("things", .int n), ("sums", .ref su), ("heads", .ref th)]
structure Grow (H0 H' : Hp) (s : Nat) (o : OI) (i : Nat) (ba : Nat → Addr) (ca : Nat → Nat → Addr) (d : Addr) : Prop where
  same : Same H0 H'
  fb : ∀ l, l < i → H0 (ba l) = none
  fc : ∀ l k, l < i → k < s → H0 (ca l k) = none
  inj : ∀ l k l' k', l < i → l' < i → k < s → k' < s → ca l k = ca l' k' → l = l' ∧ k = k'
  nb : ∀ l, l < i → ba l ≠ d
  nc : ∀ l k, l < i → k < s → ca l k ≠ d
  lo_ : H' d = some (.lst ((List.range i).map fun l => .ref (ba l)))
  lb : ∀ l, l < i → H' (ba l) = some (.lst ((List.range s).map fun k => .ref (ca l k)))
  lc : ∀ l k, l < i → k < s → H' (ca l k) = some (.lst (rowW s k o))
theorem Grow.start {H0 : Hp} {s : Nat} {o : OI} {d : Addr} (hd : H0 d = none) : Grow H0 (upd H0 d (.lst [])) s o 0 (fun _ => d) (fun _ _ => d) d :=
  ⟨same_newO hd _, fun l hl => absurd hl (Nat.not_lt_zero _), fun l k hl => absurd hl (Nat.not_lt_zero _), fun l k l' k' hl => absurd hl (Nat.not_lt_zero _), fun l hl => absurd hl (Nat.not_lt_zero _), fun l k hl => absurd hl (Nat.not_lt_zero _), upd_same, fun l hl => absurd hl (Nat.not_lt_zero _), fun l k hl => absurd hl (Nat.not_lt_zero _)⟩
theorem Grow.step {H0 H1 H2 : Hp} {s : Nat} {o : OI} {i : Nat} {ba : Nat → Addr} {ca : Nat → Nat → Addr} {d b : Addr} {c' : Nat → Addr} (hd : H0 d = none) (g : Grow H0 H1 s o i ba ca d) (k : Same H1 H2) (fb : H1 b = none) (fc : ∀ k, k < s → H1 (c' k) = none) (ij : ∀ j k, j < s → k < s → c' j = c' k → j = k) (hb : H2 b = some (.lst ((List.range s).map fun k => .ref (c' k)))) (hc : ∀ k, k < s → H2 (c' k) = some (.lst (rowW s k o))) :
    Grow H0 (upd H2 d (.lst (((List.range i).map fun l => V.ref (ba l)) ++ [.ref b]))) s o (i + 1) (ext ba i b) (ext ca i c') d := by
  have bd : b ≠ d := fun z => by rw [z, g.lo_] at fb; cases fb
  have cd : ∀ k, k < s → c' k ≠ d := fun k hk z => by
    have := fc k hk
    rw [z, g.lo_] at this; cases this
  have cc : ∀ l k k', l < i → k < s → k' < s → ca l k ≠ c' k' := fun l k k' hl hk hk' z => by
    have := fc k' hk'
    rw [← z, g.lc l k hl hk] at this; cases this
  refine ⟨same_upd hd (g.same.trans k), fun l hl => ?_, fun l m hl hm => ?_, fun l m l' m' hl hl' hm hm' e => ?_, fun l hl => ?_, fun l m hl hm => ?_, ?_, fun l hl => ?_, fun l m hl hm => ?_⟩
  · by_cases z : l = i
    · rw [ext_same z]; exact g.same.free fb
    · rw [ext_ne z]; exact g.fb l (by omega)
  · by_cases z : l = i
    · rw [ext_same z]; exact g.same.free (fc m hm)
    · rw [ext_ne z]; exact g.fc l m (by omega) hm
  · by_cases z1 : l = i <;> by_cases z2 : l' = i
    · rw [ext_same z1, ext_same z2] at e
      exact ⟨by omega, ij m m' hm hm' e⟩
    · rw [ext_same z1, ext_ne z2] at e
      exact absurd e.symm (cc l' m' m (by omega) hm' hm)
    · rw [ext_ne z1, ext_same z2] at e
      exact absurd e (cc l m m' (by omega) hm hm')
    · rw [ext_ne z1, ext_ne z2] at e
      exact g.inj l m l' m' (by omega) (by omega) hm hm' e
  · by_cases z : l = i
    · rw [ext_same z]; exact bd
    · rw [ext_ne z]; exact g.nb l (by omega)
  · by_cases z : l = i
    · rw [ext_same z]; exact cd m hm
    · rw [ext_ne z]; exact g.nc l m (by omega) hm
  · rw [upd_same, List.range_succ, List.map_append]
    refine congrArg (fun z => some (HO.lst z)) ?_
    congr 1
    · refine List.map_congr_left fun l hl => ?_
      rw [ext_ne (by have := List.mem_range.mp hl; omega)]
    · show [V.ref b] = [V.ref (ext ba i b i)]
      rw [ext_same rfl]
  · by_cases z : l = i
    · rw [ext_same z, ext_same z, upd_ne bd]; exact hb
    · rw [ext_ne z, ext_ne z, upd_ne (g.nb l (by omega))]; exact k _ _ (g.lb l (by omega))
  · by_cases z : l = i
    · rw [ext_same z, upd_ne (cd m hm)]; exact hc m hm
    · rw [ext_ne z, upd_ne (g.nc l m (by omega) hm)]; exact k _ _ (g.lc l m (by omega) hm)
def KeepR (r : Addr) (H H' : Hp) : Prop := ∀ a o, a ≠ r → H a = some o → H' a = some o
section
variable {P : Program} {w : World} {K : PySem.W.Frag} {mg : Str → Option Value} {base : Heap} {f : Addr} {fd : FuncData}
abbrev NI : List Str := ["self", "prices", "weights", "side"]
abbrev h0 : Nat → Nat → Nat → OI := fun _ a b => if b = a then none else none
abbrev t0 : Nat → Nat → Nat → OI := fun _ a b => if b = a then some 0 else none
def spPInit (C : Addr) : Sp := fun vs H Q _ => ∃ (r dx p q : Addr) (ps ws : List Int), vs = [.ref r, .ref p, .ref q] ∧ H r = some (.ins C dx []) ∧ TW H p ps ∧ TW H q ws ∧ 1 ≤ ps.length ∧ ps.length ≤ 10 ∧ ws.length ≤ 20 ∧
  ∀ H' X, KeepR r H H' → PAt C H' r p ps ws X h0 t0 → (∀ a, Z X ps.length (ws.length + 1) a → H a = none) → Q .non H'
theorem scPInit : FnScope NI ["self", "prices", "weights"] (defScope iParted) := ⟨rfl, rfl, rfl, by decide +kernel, rfl, by decide +kernel, by decide +kernel⟩
theorem ndI1 : (("price" : Str) :: NI).Nodup := by decide +kernel
theorem ndI2 : (("letter" : Str) :: NI).Nodup := by decide +kernel
set_option maxHeartbeats 8000000 in
theorem ok_pinit {C : Addr} (F : Fun K "__init__" "Parted.__init__" iParted f fd) (GS : Fns P w K mg base ["weights"] "weight_sums" spSums 2) (GQ : Fns P w K mg base ["side", "diagonal"] "square" spSquare 2) (rc : PC K C) (ml : mg "len" = none) (mr : mg "range" = none) : FnOk P w K mg base CX0 3 f fd ["self", "prices", "weights"] (spPInit C) := by
  refine F.ok (k := 2) scPInit (fun vs H Q E h => ?_) (fun cdv A outer s H vs Q E hr h => ?_)
  · obtain ⟨r, dx, p, q, ps, ws, rfl, _⟩ := h
    rfl
  obtain ⟨r, dx, p, q, ps, ws, rfl, hr0, hp, hq, p1, p10, w20, qq⟩ := h
  refine ⟨_, pss_cons (ps_fld (pv 0) (pv 1) rfl)
    (pss_cons (ps_fld (pv 0) (pe_callB call_len_seq (by rfl) ml PySem.boot_len (pa_cons (pv 2) pa_nil)) rfl)
    (pss_cons (ps_fld (pv 0) (pe_call GS.ok hr (by rfl) GS.m GS.kp GS.b .nil pass0 (pa_cons (pv 2) pa_nil)) rfl)
    (pss_cons (ps_set (i := 3) scPInit.nd rfl (Or.inr rfl) (pe_op op_add (pe_fld (pv 0) rfl) pe_int))
    (pss_cons (ps_fld (pv 0) (pe_compT (M := NI) rfl (CompScope.of (defScope iParted) NI rfl rfl rfl (by decide +kernel) (by decide +kernel) (by decide +kernel) rfl (by decide +kernel)) ndI1 rfl (pv 1) mo_var
      (fun cl C s0 H0 fp => ⟨pts_nil, pe_call GQ.ok hr (by rfl) GQ.m GQ.kp GQ.b .nil pass0 (pa_cons (pv 4) (pa_cons pe_non pa_nil))⟩)) rfl)
    (pss_one (ps_fld (pv 0) (pe_compR1 (M := NI) rfl (CompScope.of (defScope iParted) NI rfl rfl rfl (by decide +kernel) (by decide +kernel) (by decide +kernel) rfl (by decide +kernel)) ndI2 rfl (by rfl) mr (pa_cons (pe_op op_add (pe_callB call_len_seq (by rfl) ml PySem.boot_len (pa_cons (pv 1) pa_nil)) pe_int) pa_nil) (mo_cons (mo_op mo_rI0 (mo_len (mo_cons mo_var mo_nil)) mo_c) mo_nil)
      (fun cl C s0 H0 fp => ⟨pts_nil, pe_call GQ.ok hr (by rfl) GQ.m GQ.kp GQ.b .nil pass0 (pa_cons (pv 4) (pa_cons pe_int pa_nil))⟩)) rfl)))))), ?_⟩
  have pr : p ≠ r := ne_of hp hr0 (by intro z; cases z)
  have qr : q ≠ r := ne_of hq hr0 (by intro z; cases z)
  refine ⟨_, rfl, _, rfl, r, C, dx, _, rfl, hr0, rc.c, rc.np, (by show 0 < 1000; decide), ?_⟩
  rw [show putF "prices" (V.ref p) [] = (pf1 p) from rfl]
  have g1 : upd H r (.ins C dx (pf1 p)) r = some (.ins C dx (pf1 p)) := upd_same
  have k1 : KeepR r H (upd H r (.ins C dx (pf1 p))) := fun a o ha e => by rw [upd_ne ha]; exact e
  have f1 : ∀ a, upd H r (.ins C dx (pf1 p)) a = none → H a = none := fun a e => by
    by_cases z : a = r
    · subst z; rw [upd_same] at e; cases e
    · rw [upd_ne z] at e; exact e
  generalize upd H r (.ins C dx (pf1 p)) = H1 at g1 k1 f1 ⊢
  refine ⟨_, rfl, q, _, rfl, .inr (SqT.of (k1 _ _ qr hq)), _, rfl, r, C, dx, _, rfl, g1, rc.c, rc.nn, (by show 1 < 1000; decide), ?_⟩
  rw [List.length_map, show putF "things" (V.int (ws.length : Int)) (pf1 p) = (pf2 p (ws.length : Int)) from rfl]
  have g2 : upd H1 r (.ins C dx (pf2 p (ws.length : Int))) r = some (.ins C dx (pf2 p (ws.length : Int))) := upd_same
  have k2 : KeepR r H (upd H1 r (.ins C dx (pf2 p (ws.length : Int)))) := fun a o ha e => by rw [upd_ne ha]; exact k1 a o ha e
  have f2 : ∀ a, upd H1 r (.ins C dx (pf2 p (ws.length : Int))) a = none → H a = none := fun a e => by
    by_cases z : a = r
    · subst z; rw [upd_same] at e; cases e
    · rw [upd_ne z] at e; exact f1 a e
  generalize upd H1 r (.ins C dx (pf2 p (ws.length : Int))) = H2 at g2 k2 f2 ⊢
  refine ⟨_, rfl, q, ws, rfl, k2 _ _ qr hq, by omega, fun su H3 s3 hn3 hs3 => ?_⟩
  have g3 := s3 _ _ g2
  refine ⟨_, rfl, r, C, dx, _, rfl, g3, rc.c, rc.ns, (by show 2 < 1000; decide), ?_⟩
  have sr : su ≠ r := ne_of hs3 g3 (by intro z; cases z)
  rw [show putF "sums" (V.ref su) (pf2 p (ws.length : Int)) = (pf3 p (ws.length : Int) su) from rfl]
  have g4 : upd H3 r (.ins C dx (pf3 p (ws.length : Int) su)) r = some (.ins C dx (pf3 p (ws.length : Int) su)) := upd_same
  have k4 : KeepR r H (upd H3 r (.ins C dx (pf3 p (ws.length : Int) su))) := fun a o ha e => by rw [upd_ne ha]; exact s3 _ _ (k2 a o ha e)
  have f4 : ∀ a, upd H3 r (.ins C dx (pf3 p (ws.length : Int) su)) a = none → H a = none := fun a e => by
    by_cases z : a = r
    · subst z; rw [upd_same] at e; cases e
    · rw [upd_ne z] at e; exact f2 a (s3.free e)
  have hs4 : upd H3 r (.ins C dx (pf3 p (ws.length : Int) su)) su = some (.lst ((sums ws ws.length).map V.int)) := by rw [upd_ne sr]; exact hs3
  generalize upd H3 r (.ins C dx (pf3 p (ws.length : Int) su)) = H4 at g4 k4 f4 hs4 ⊢
  refine ⟨_, rfl, r, C, dx, _, _, rfl, g4, rc.c, rc.nn, rfl, _, _, rfl, rfl, ?_⟩
  have hp4 : TW H4 p ps := k4 _ _ pr hp
  refine ⟨_, rfl, p, _, rfl, SqT.of hp4, fun th hth => ?_⟩
  refine ⟨fun i H' => ∃ ba ca, Grow H4 H' (ws.length + 1) none i ba ca th, ⟨_, _, Grow.start hth⟩, fun i H' _ hP => (by obtain ⟨ba, ca, g⟩ := hP; exact SqT.of (g.same _ _ hp4)), fun i x H' hx hP => ?_, fun H5 hP => ?_⟩
  · obtain ⟨ba, ca, g⟩ := hP
    have il := (List.getElem?_eq_some_iff.mp hx).1
    rw [List.length_map] at il
    refine turn_all ⟨_, rfl, ws.length + 1, none, rfl, by omega, fun b c' H6 s6 fb fc ij cb hb hc => ⟨_, s6 _ _ g.lo_, ?_, _, _, g.step hth s6 fb fc ij hb hc⟩⟩
    rw [List.length_map, List.length_range]; exact small1000 (by omega)
  obtain ⟨bh, ch, gh⟩ := hP
  rw [List.length_map] at gh
  have g5 := gh.same _ _ g4
  refine ⟨_, rfl, r, C, dx, _, rfl, g5, rc.c, rc.nh, (by show 3 < 1000; decide), ?_⟩
  rw [show putF "heads" (V.ref th) (pf3 p (ws.length : Int) su) = (pf4 p (ws.length : Int) su th) from rfl]
  have rh1 : th ≠ r := ne_of gh.lo_ g5 (by intro z; cases z)
  have rh2 : ∀ l, l < ps.length → bh l ≠ r := fun l hl => ne_of (gh.lb l hl) g5 (by intro z; cases z)
  have rh3 : ∀ l k, l < ps.length → k < ws.length + 1 → ch l k ≠ r := fun l k hl hk => ne_of (gh.lc l k hl hk) g5 (by intro z; cases z)
  have tb6 : Tb (upd H5 r (.ins C dx (pf4 p (ws.length : Int) su th))) th bh ch ps.length (ws.length + 1) h0 := ⟨by rw [upd_ne rh1]; exact gh.lo_, fun l hl => by rw [upd_ne (rh2 l hl)]; exact gh.lb l hl, fun l k hl hk => by rw [upd_ne (rh3 l k hl hk)]; exact gh.lc l k hl hk⟩
  have g6 : upd H5 r (.ins C dx (pf4 p (ws.length : Int) su th)) r = some (.ins C dx (pf4 p (ws.length : Int) su th)) := upd_same
  have k46 : KeepR r H4 (upd H5 r (.ins C dx (pf4 p (ws.length : Int) su th))) := fun a o ha e => by rw [upd_ne ha]; exact gh.same _ _ e
  have f6 : ∀ a, upd H5 r (.ins C dx (pf4 p (ws.length : Int) su th)) a = none → H4 a = none := fun a e => by
    by_cases z : a = r
    · subst z; rw [upd_same] at e; cases e
    · rw [upd_ne z] at e; exact gh.same.free e
  generalize upd H5 r (.ins C dx (pf4 p (ws.length : Int) su th)) = H6 at tb6 g6 k46 f6 ⊢
  have hp6 : TW H6 p ps := k46 _ _ pr hp4
  have hs6 := k46 _ _ sr hs4
  refine ⟨_, rfl, p, _, rfl, .inr (SqT.of hp6), _, _, rfl, rfl, _, rfl, by rw [List.length_map]; omega, by rw [List.length_map]; omega, fun tt htt => ?_⟩
  have en : ((((ps.map V.int).length : Nat) : Int) + 1).toNat = ps.length + 1 := by rw [List.length_map]; omega
  rw [en]
  refine ⟨fun i H' => ∃ ba ca, Grow H6 H' (ws.length + 1) (some 0) i ba ca tt, ⟨_, _, Grow.start htt⟩, fun i H' hi hP => ?_, fun H7 hP => ?_⟩
  · obtain ⟨ba, ca, g⟩ := hP
    refine turn_all ⟨_, rfl, ws.length + 1, some 0, rfl, by omega, fun b c' H8 s8 fb fc ij cb hb hc => ⟨_, s8 _ _ g.lo_, ?_, _, _, g.step htt s8 fb fc ij hb hc⟩⟩
    rw [List.length_map, List.length_range]; exact small1000 (by omega)
  obtain ⟨bt, ct, gt⟩ := hP
  have g7 := gt.same _ _ g6
  refine ⟨_, rfl, r, C, dx, _, rfl, g7, rc.c, rc.nt, (by show 4 < 1000; decide), ?_⟩
  rw [show putF "tails" (V.ref tt) (pf4 p (ws.length : Int) su th) = pf p (ws.length : Int) ⟨su, th, tt, bh, ch, bt, ct⟩ from rfl]
  have rt1 : tt ≠ r := ne_of gt.lo_ g7 (by intro z; cases z)
  have rt2 : ∀ l, l < ps.length + 1 → bt l ≠ r := fun l hl => ne_of (gt.lb l hl) g7 (by intro z; cases z)
  have rt3 : ∀ l k, l < ps.length + 1 → k < ws.length + 1 → ct l k ≠ r := fun l k hl hk => ne_of (gt.lc l k hl hk) g7 (by intro z; cases z)
  have k68 : KeepR r H6 (upd H7 r (.ins C dx (pf p (ws.length : Int) ⟨su, th, tt, bh, ch, bt, ct⟩))) := fun a o ha e => by rw [upd_ne ha]; exact gt.same _ _ e
  refine qq _ ⟨su, th, tt, bh, ch, bt, ct⟩ (fun a o ha e => k68 a o ha (k46 a o ha (k4 a o ha e))) ⟨⟨dx, upd_same⟩, k68 _ _ pr hp6, k68 _ _ sr hs6, ⟨k68 _ _ rh1 tb6.o, fun l hl => k68 _ _ (rh2 l hl) (tb6.b l hl), fun l k hl hk => k68 _ _ (rh3 l k hl hk) (tb6.c l k hl hk)⟩, ⟨by rw [upd_ne rt1]; exact gt.lo_, fun l hl => by rw [upd_ne (rt2 l hl)]; exact gt.lb l hl, fun l k hl hk => by rw [upd_ne (rt3 l k hl hk)]; exact gt.lc l k hl hk⟩, fun l i l' i' hl hl' hi hi' e => gh.inj l i l' i' hl hl' hi hi' e, fun l i l' i' hl hl' hi hi' e => gt.inj l i l' i' hl hl' hi hi' e, fun l i l' i' hl hl' hi hi' e => ?_, fun z => ?_⟩ fun a hz => ?_
  · have e1 := gt.fc l' i' hl' hi'
    have e : ch l i = ct l' i' := e
    rw [← e, tb6.c l i hl hi] at e1
    cases e1
  · rcases z with ⟨l, i, hl, hi, e⟩ | ⟨l, i, hl, hi, e⟩
    · have e1 := gh.fc l i hl hi
      have e : su = ch l i := e
      rw [← e, hs4] at e1
      cases e1
    · have e1 := gt.fc l i hl hi
      have e : su = ct l i := e
      rw [← e, hs6] at e1
      cases e1
  · rcases hz with ⟨l, i, hl, hi, e⟩ | ⟨l, i, hl, hi, e⟩
    · have e : a = ch l i := e
      rw [e]
      exact f4 _ (gh.fc l i hl hi)
    · have e : a = ct l i := e
      rw [e]
      exact f4 _ (f6 _ (gt.fc l i hl hi))
end
end K98
set_option Elab.async false
set_option linter.all false
set_option maxRecDepth 100000
namespace K98
open PySem L2
theorem at_rng {f : Nat → V} {n k : Nat} (h : k < n) : atI ((List.range n).map f) (k : Int) = some (f k) := atI_nat (by rw [List.getElem?_map, List.getElem?_range h]; rfl)
theorem mo_fld {K : PySem.W.Frag} {ta : TE} {f : Str} (h : MonoE ta) : MonoE (tFld K ta f) := fun σ H Q Q' hq q => h σ H _ _ (fun v H1 ⟨a, C, dx, fs, u, e1, e2, e3, e4, e5, q1⟩ => ⟨a, C, dx, fs, u, e1, e2, e3, e4, e5, hq _ _ q1⟩) q
structure Mt (P : Program) (w : World) (K : PySem.W.Frag) (mg : Str → Option Value) (base : Heap) (C : Addr) (name : Str) (ps : List Str) (sp : Sp) (k : Nat) where
  f : Addr
  fd : FuncData
  m : Meth K C name f
  ok : FnOk P w K mg base CX0 k f fd ps sp
  b : Binds K fd ps []
def Mt.up {P : Program} {w : World} {K : PySem.W.Frag} {mg : Str → Option Value} {base : Heap} {C : Addr} {name : Str} {ps : List Str} {sp : Sp} {j k : Nat} (f : Mt P w K mg base C name ps sp j) (h : j ≤ k) : Mt P w K mg base C name ps sp k := ⟨f.f, f.fd, f.m, f.ok.mono h, f.b⟩
def up3 (T : Nat → Nat → Nat → OI) (l i j : Nat) (v : OI) : Nat → Nat → Nat → OI := fun l' i' j' => if l' = l ∧ i' = i ∧ j' = j then v else T l' i' j'
theorem up3_at {T : Nat → Nat → Nat → OI} {l i j : Nat} {v : OI} : up3 T l i j v l i j = v := if_pos ⟨rfl, rfl, rfl⟩
theorem up3_ne {T : Nat → Nat → Nat → OI} {l i j l' i' j' : Nat} {v : OI} (h : ¬ (l' = l ∧ i' = i ∧ j' = j)) : up3 T l i j v l' i' j' = T l' i' j' := if_neg h
theorem row_set {T : Nat → Nat → Nat → OI} {l i j s : Nat} {v : OI} (hj : j < s) : ((List.range s).map fun k => oV (T l i k)).set j (oV v) = (List.range s).map fun k => oV (up3 T l i j v l i k) := by
  refine List.ext_getElem? fun k => ?_
  rw [List.getElem?_map]
  by_cases hk : k < s
  · rw [List.getElem?_range hk]
    by_cases e : j = k
    · subst e
      rw [List.getElem?_set_self (by rw [List.length_map, List.length_range]; exact hk)]
      show some (oV v) = some (oV (up3 T l i j v l i j))
      rw [up3_at]
    · rw [List.getElem?_set_ne e, List.getElem?_map, List.getElem?_range hk]
      show some (oV (T l i k)) = some (oV (up3 T l i j v l i k))
      rw [up3_ne fun z => e z.2.2.symm]
  · rw [List.getElem?_eq_none (by rw [List.length_set, List.length_map, List.length_range]; omega), List.getElem?_eq_none (by rw [List.length_range]; omega)]
    rfl
theorem ne_refs {f : Nat → Addr} {g : Nat → OI} {m n : Nat} (hm : 0 < m) (hn : 0 < n) : (List.range m).map (fun l => V.ref (f l)) ≠ (List.range n).map fun j => oV (g j) := fun z => by
  have h1 : ((List.range m).map (fun l => V.ref (f l)))[0]? = some (V.ref (f 0)) := by rw [List.getElem?_map, List.getElem?_range hm]; rfl
  have h2 : ((List.range n).map fun j => oV (g j))[0]? = some (oV (g 0)) := by rw [List.getElem?_map, List.getElem?_range hn]; rfl
  rw [z, h2] at h1
  cases hg : g 0 <;> (rw [hg] at h1; cases h1)
theorem Tb.keep {H : Hp} {a c : Addr} {ba : Nat → Addr} {ca : Nat → Nat → Addr} {L s : Nat} {T : Nat → Nat → Nat → OI} {g : Nat → OI} {n : Nat} {o : HO} (h : Tb H a ba ca L s T) (hL : 0 < L) (hs : 0 < s) (hn : 0 < n) (hc : H c = some (.lst ((List.range n).map fun j => oV (g j)))) (nc : ∀ l i, l < L → i < s → ca l i ≠ c) : Tb (upd H c o) a ba ca L s T := by
  refine ⟨?_, fun l hl => ?_, fun l i hl hi => ?_⟩
  · rw [upd_ne (ne_of h.o hc (fun z => ne_refs hL hn (HO.lst.inj z)))]
    exact h.o
  · rw [upd_ne (ne_of (h.b l hl) hc (fun z => ne_refs hs hn (HO.lst.inj z)))]
    exact h.b l hl
  · rw [upd_ne (nc l i hl hi)]
    exact h.c l i hl hi
theorem Tb.put {H : Hp} {a : Addr} {ba : Nat → Addr} {ca : Nat → Nat → Addr} {L s : Nat} {T : Nat → Nat → Nat → OI} {l i j : Nat} {v : OI} (h : Tb H a ba ca L s T) (inj : ∀ l i l' i', l < L → l' < L → i < s → i' < s → ca l i = ca l' i' → l = l' ∧ i = i') (hl : l < L) (hi : i < s) (hj : j < s) :
    Tb (upd H (ca l i) (.lst (((List.range s).map fun k => oV (T l i k)).set j (oV v)))) a ba ca L s (up3 T l i j v) := by
  rw [row_set hj]
  have hc := h.c l i hl hi
  refine ⟨?_, fun l' hl' => ?_, fun l' i' hl' hi' => ?_⟩
  · rw [upd_ne (ne_of h.o hc (fun z => ne_refs (m := L) (n := s) (by omega) (by omega) (HO.lst.inj z)))]
    exact h.o
  · rw [upd_ne (ne_of (h.b l' hl') hc (fun z => ne_refs (m := s) (n := s) (by omega) (by omega) (HO.lst.inj z)))]
    exact h.b l' hl'
  · by_cases e : l' = l ∧ i' = i
    · obtain ⟨rfl, rfl⟩ := e
      rw [upd_same]
    · rw [upd_ne (fun z => e (inj l' i' l i hl' hl hi' hi z)), h.c l' i' hl' hi']
      refine congrArg (fun z => some (HO.lst z)) (List.map_congr_left fun k _ => ?_)
      rw [up3_ne fun z => e ⟨z.1, z.2.1⟩]
theorem PAt.puth {C : Addr} {H : Hp} {r p : Addr} {ps ws : List Int} {X : Ad} {h t : Nat → Nat → Nat → OI} {l i j : Nat} {v : OI} (a : PAt C H r p ps ws X h t) (hl : l < ps.length) (hi : i < ws.length + 1) (hj : j < ws.length + 1) :
    PAt C (upd H (X.ch l i) (.lst (((List.range (ws.length + 1)).map fun k => oV (h l i k)).set j (oV v)))) r p ps ws X (up3 h l i j v) t := by
  obtain ⟨dx, ho⟩ := a.ob
  have hc := a.hd.c l i hl hi
  refine ⟨⟨dx, ?_⟩, ?_, ?_, a.hd.put a.ih hl hi hj, a.tl.keep (by omega) (by omega) (by omega) hc fun l' i' hl' hi' => Ne.symm (a.ix l i l' i' hl hl' hi hi'), a.ih, a.it, a.ix, a.ns⟩
  · rw [upd_ne (ne_of ho hc (by intro z; cases z))]; exact ho
  · show upd _ _ _ p = _
    rw [upd_ne (ne_of a.hp hc (by intro z; cases z))]; exact a.hp
  · rw [upd_ne (fun z => a.ns (.inl ⟨l, i, hl, hi, z⟩))]; exact a.su
theorem PAt.putt {C : Addr} {H : Hp} {r p : Addr} {ps ws : List Int} {X : Ad} {h t : Nat → Nat → Nat → OI} {l i j : Nat} {v : OI} (a : PAt C H r p ps ws X h t) (hL : 0 < ps.length) (hl : l < ps.length + 1) (hi : i < ws.length + 1) (hj : j < ws.length + 1) :
    PAt C (upd H (X.ct l i) (.lst (((List.range (ws.length + 1)).map fun k => oV (t l i k)).set j (oV v)))) r p ps ws X h (up3 t l i j v) := by
  obtain ⟨dx, ho⟩ := a.ob
  have hc := a.tl.c l i hl hi
  refine ⟨⟨dx, ?_⟩, ?_, ?_, a.hd.keep hL (by omega) (by omega) hc fun l' i' hl' hi' => a.ix l' i' l i hl' hl hi' hi, a.tl.put a.it hl hi hj, a.ih, a.it, a.ix, a.ns⟩
  · rw [upd_ne (ne_of ho hc (by intro z; cases z))]; exact ho
  · show upd _ _ _ p = _
    rw [upd_ne (ne_of a.hp hc (by intro z; cases z))]; exact a.hp
  · rw [upd_ne (fun z => a.ns (.inr ⟨l, i, hl, hi, z⟩))]; exact a.su
def KZ (X : Ad) (L s : Nat) (H H' : Hp) : Prop := ∀ a o, ¬ Z X L s a → H a = some o → H' a = some o
section
variable {P : Program} {w : World} {K : PySem.W.Frag} {mg : Str → Option Value} {base : Heap} {f : Addr} {fd : FuncData}
abbrev lsum (h t : Nat → Nat → Nat → OI) (l i j k : Nat) : OI := lo ((List.range (k - i)).map fun b => oadd (h l i (i + b + 1)) (t (l + 1) (i + b + 1) j))
abbrev NLs : List Str := ["self", "letter", "first", "end", "last", "heads", "tails"]
def spLs (C : Addr) : Sp := fun vs H Q _ => ∃ (r p : Addr) (ps ws : List Int) (X : Ad) (h t : Nat → Nat → Nat → OI) (l i j k : Nat), vs = [.ref r, .int (l : Int), .int (i : Int), .int (j : Int), .int (k : Int)] ∧ PAt C H r p ps ws X h t ∧ ws.length ≤ 20 ∧ l < ps.length ∧ i ≤ k ∧ k ≤ ws.length ∧ j ≤ ws.length ∧ ∀ H', Same H H' → Q (oV (lsum h t l i j k)) H'
theorem scLs : FnScope NLs ["self", "letter", "first", "end", "last"] (defScope sLs) := ⟨rfl, rfl, rfl, by decide +kernel, rfl, by decide +kernel, by decide +kernel⟩
theorem ndLs : (("cut" : Str) :: NLs).Nodup := by decide +kernel
set_option maxHeartbeats 8000000 in
theorem ok_ls {C : Addr} (F : Fun K "least_sum" "Parted.least_sum" sLs f fd) (GL : Fns P w K mg base ["numbers"] "least" spLeast 1) (GA : Fns P w K mg base ["one", "other"] "added" spAdded 1) (rc : PC K C) (mr : mg "range" = none) : FnOk P w K mg base CX0 2 f fd ["self", "letter", "first", "end", "last"] (spLs C) := by
  refine F.ok (k := 1) scLs (fun vs H Q E h => ?_) (fun cdv A outer s H vs Q E hr h => ?_)
  · obtain ⟨r, p, ps, ws, X, h, t, l, i, j, k, rfl, _⟩ := h
    rfl
  obtain ⟨r, p, ps, ws, X, h, t, l, i, j, k, rfl, pa, w20, hl, hik, hk, hj, q⟩ := h
  refine ⟨_, pss_cons (ps_set (i := 5) scLs.nd rfl (Or.inr rfl) (pe_ix ix_list (pe_ix ix_list (pe_fld (pv 0) rfl) (pv 1) (fun _ _ => rfl)) (pv 2) (fun _ _ => rfl)))
    (pss_cons (ps_set (i := 6) scLs.nd rfl (Or.inr rfl) (pe_ix ix_list (pe_fld (pv 0) rfl) (pe_op op_add (pv 1) pe_int) (fun _ _ => rfl)))
    (pss_one (ps_ret (pe_call GL.ok hr (by rfl) GL.m GL.kp GL.b .nil pass0 (pa_cons (pe_compR2 (M := NLs) rfl (CompScope.of (defScope sLs) NLs rfl rfl rfl (by decide +kernel) (by decide +kernel) (by decide +kernel) rfl (by decide +kernel)) ndLs rfl (by rfl) mr (pa_cons (pe_op op_add (pv 2) pe_int) (pa_cons (pe_op op_add (pv 4) pe_int) pa_nil)) (mo_cons (mo_op mo_rI0 mo_var mo_c) (mo_cons (mo_op mo_rI0 mo_var mo_c) mo_nil))
      (fun cl C s0 H0 fp => ⟨pts_nil, pe_call GA.ok hr (by rfl) GA.m GA.kp GA.b .nil pass0 (pa_cons (pe_ix (ixL K) (pv 6) (pv 0) (fun _ _ => rfl)) (pa_cons (pe_ix (ixL K) (pe_ix (ixL K) (pv 7) (pv 0) (fun _ _ => rfl)) (pv 4) (fun _ _ => rfl)) pa_nil))⟩)) pa_nil))))), ?_⟩
  obtain ⟨dx, ho⟩ := pa.ob
  have i1 : i < ws.length + 1 := by omega
  have hT := pa.hd
  have tT := pa.tl
  refine ⟨_, rfl, r, C, dx, _, _, rfl, ho, rc.c, rc.nh, rfl, _, rfl, X.th, _, _, _, rfl, rfl, SqL.of hT.o, at_rng hl, _, rfl, X.bh l, _, _, _, rfl, rfl, SqL.of (hT.b l hl), at_rng i1, ?_⟩
  refine ⟨_, rfl, r, C, dx, _, _, rfl, ho, rc.c, rc.nt, rfl, _, rfl, _, _, rfl, rfl, X.tt, _, _, _, rfl, rfl, SqL.of tT.o, at_rng (k := l + 1) (by omega), ?_⟩
  refine ⟨_, rfl, _, _, rfl, rfl, _, rfl, _, _, rfl, rfl, _, _, rfl, ⟨by omega, by omega, by omega, by omega⟩, fun d hd => ?_⟩
  have en : (((k : Int) + 1) - ((i : Int) + 1)).toNat = k - i := by omega
  dsimp only
  rw [en]
  refine ⟨fun b H' => Same H H' ∧ H' d = some (.lst (((List.range b).map fun b => oadd (h l i (i + b + 1)) (t (l + 1) (i + b + 1) j)).map oV)), ⟨same_newO hd _, upd_same⟩, fun b H' hb hP => ?_, fun H' hP => ?_⟩
  · obtain ⟨s5, hd'⟩ := hP
    have eb : (i : Int) + 1 + (b : Int) = ((i + b + 1 : Nat) : Int) := by push_cast; omega
    rw [eb]
    have hb1 : i + b + 1 < ws.length + 1 := by omega
    refine turn_all ⟨_, rfl, _, rfl, X.ch l i, _, _, _, rfl, rfl, SqL.of (s5 _ _ (hT.c l i hl i1)), at_rng hb1, _, rfl, _, rfl, X.bt (l + 1), _, _, _, rfl, rfl, SqL.of (s5 _ _ (tT.b (l + 1) (by omega))), at_rng hb1, _, rfl, X.ct (l + 1) (i + b + 1), _, _, _, rfl, rfl, SqL.of (s5 _ _ (tT.c (l + 1) (i + b + 1) (by omega) hb1)), at_rng (k := j) (by omega), _, _, rfl, _, hd', ?_, same_upd hd s5, ?_⟩
    · rw [List.length_map, List.length_map, List.length_range]; exact small1000 (by omega)
    · rw [upd_same, List.range_succ, List.map_append, List.map_append]; rfl
  · obtain ⟨s5, hd'⟩ := hP
    exact ⟨d, _, rfl, hd', by rw [List.length_map, List.length_range]; omega, fun H6 s6 => q H6 (s5.trans s6)⟩
abbrev NB : List Str := ["self", "first", "end"]
def spBound (C : Addr) : Sp := fun vs H Q _ => ∃ (r p : Addr) (ps ws : List Int) (X : Ad) (h t : Nat → Nat → Nat → OI) (i j : Nat), vs = [.ref r, .int (i : Int), .int (j : Int)] ∧ PAt C H r p ps ws X h t ∧ ws.length ≤ 20 ∧ ps.length ≤ 10 ∧ i < j ∧ j ≤ ws.length ∧ ∀ H', Same H H' → Q (oV (bnd ps.length h t i j)) H'
theorem scBound : FnScope NB ["self", "first", "end"] (defScope sBound) := ⟨rfl, rfl, rfl, by decide +kernel, rfl, by decide +kernel, by decide +kernel⟩
theorem ndB : (("letter" : Str) :: NB).Nodup := by decide +kernel
set_option maxHeartbeats 8000000 in
theorem ok_bound {C : Addr} (F : Fun K "bound" "Parted.bound" sBound f fd) (GL : Fns P w K mg base ["numbers"] "least" spLeast 2) (M : Mt P w K mg base C "least_sum" ["self", "letter", "first", "end", "last"] (spLs C) 2) (rc : PC K C) (ml : mg "len" = none) (mr : mg "range" = none) : FnOk P w K mg base CX0 3 f fd ["self", "first", "end"] (spBound C) := by
  refine F.ok (k := 2) scBound (fun vs H Q E h => ?_) (fun cdv A outer s H vs Q E hr h => ?_)
  · obtain ⟨r, p, ps, ws, X, h, t, i, j, rfl, _⟩ := h
    rfl
  obtain ⟨r, p, ps, ws, X, h, t, i, j, rfl, pa, w20, p10, hij, hj, q⟩ := h
  refine ⟨_, pss_cons (ps_if (pt_cmpR op_eq (pe_op op_sub (pv 2) (pv 1)) pe_int (nomark _)) (pss_one (ps_ret pe_int)) pss_nil)
    (pss_one (ps_ret (pe_call GL.ok hr (by rfl) GL.m GL.kp GL.b .nil pass0 (pa_cons (pe_compR1 (M := NB) rfl (CompScope.of (defScope sBound) NB rfl rfl rfl (by decide +kernel) (by decide +kernel) (by decide +kernel) rfl (by decide +kernel)) ndB rfl (by rfl) mr (pa_cons (pe_callB call_len_seq (by rfl) ml PySem.boot_len (pa_cons (pe_fld (pv 0) rfl) pa_nil)) pa_nil) (mo_cons (mo_len (mo_cons (mo_fld mo_var) mo_nil)) mo_nil)
      (fun cl C s0 H0 fp => ⟨pts_nil, pe_meth (pv 1) rc.c M.m M.ok hr M.b .nil pass0 (pa_cons (pv 0) (pa_cons (pv 2) (pa_cons (pv 3) (pa_cons (pe_op op_sub (pv 3) pe_int) pa_nil))))⟩)) pa_nil)))), ?_⟩
  obtain ⟨dx, ho⟩ := pa.ob
  refine ⟨_, rfl, _, rfl, _, _, rfl, rfl, rfl, _, rfl, ?_⟩
  refine ite2 (fun z => ?_) (fun z => ?_)
  · have z1 : j - i = 1 := by
      have y : V.int ((j : Int) - (i : Int)) = V.int 1 := of_decide_eq_true z
      have := V.int.inj y
      omega
    have := q H (Same.refl _)
    unfold bnd at this
    rw [if_pos z1] at this
    exact this
  · have z1 : ¬ j - i = 1 := fun y => z (decide_eq_true (by show V.int ((j : Int) - (i : Int)) = V.int 1; congr 1; omega))
    unfold bnd at q
    rw [if_neg z1] at q
    refine ⟨_, rfl, r, C, dx, _, _, rfl, ho, rc.c, rc.np, rfl, p, _, rfl, .inr (SqT.of pa.hp), _, rfl, by rw [List.length_map]; omega, by rw [List.length_map]; omega, fun d hd => ?_⟩
    rw [List.length_map, Int.toNat_natCast]
    refine ⟨fun l H' => Same H H' ∧ H' d = some (.lst (((List.range l).map fun l => lsum h t l i j (j - 1)).map oV)), ⟨same_newO hd _, upd_same⟩, fun l H' hl hP => ?_, fun H' hP => ?_⟩
    · obtain ⟨s5, hd'⟩ := hP
      rw [show (0 : Int) + (l : Int) = (l : Int) from Int.zero_add _]
      have ej : (j : Int) - 1 = ((j - 1 : Nat) : Int) := by omega
      refine turn_all ⟨_, rfl, r, dx, _, rfl, s5 _ _ ho, rfl, _, rfl, _, rfl, _, rfl, _, rfl, _, _, rfl, rfl, r, p, ps, ws, X, h, t, l, i, j, j - 1, (by show V.ref r :: ([V.int (l : Int), V.int (i : Int), V.int (j : Int), V.int ((j : Int) - 1)] ++ []) = _; rw [ej]; rfl), pa.same s5, w20, hl, by omega, by omega, hj, fun H6 s6 => ⟨_, s6 _ _ hd', ?_, same_upd hd (s5.trans s6), ?_⟩⟩
      · rw [List.length_map, List.length_map, List.length_range]; exact small1000 (by omega)
      · rw [upd_same, List.range_succ, List.map_append, List.map_append]; rfl
    · obtain ⟨s5, hd'⟩ := hP
      exact ⟨d, _, rfl, hd', by rw [List.length_map, List.length_range]; omega, fun H6 s6 => q H6 (s5.trans s6)⟩
end
end K98
set_option Elab.async false
set_option linter.all false
set_option maxRecDepth 100000
namespace K98
open PySem L2
def Wt (ws : List Int) (i j : Nat) : Int := (ws.take j).sum - (ws.take i).sum
abbrev pl (ps : List Int) (l : Nat) : Int := ps.getD l 0
def Bw (ns : List Int) : Prop := ∀ x ∈ ns, 0 ≤ x ∧ x ≤ B30
theorem sum_bd {ns : List Int} (h : Bw ns) : 0 ≤ ns.sum ∧ ns.sum ≤ ns.length * B30 := by
  induction ns with
  | nil => simp
  | cons a t ih =>
    have h1 := h a (.head _)
    have h2 := ih fun x hx => h x (.tail _ hx)
    rw [List.sum_cons, List.length_cons]
    have e : (((t.length + 1 : Nat) : Int)) * B30 = t.length * B30 + B30 := by push_cast; rw [Int.add_mul]; omega
    rw [e]
    omega
theorem Wt_is {ws : List Int} {i j : Nat} (h : i ≤ j) : Wt ws i j = ((ws.take j).drop i).sum := by
  have e : ws.take j = ws.take i ++ (ws.take j).drop i := by
    have := (List.take_append_drop i (ws.take j)).symm
    rw [List.take_take, Nat.min_eq_left h] at this
    exact this
  unfold Wt
  have e2 : (ws.take j).sum = (ws.take i).sum + ((ws.take j).drop i).sum := by rw [← List.sum_append, ← e]
  omega
theorem Wt_bd {ws : List Int} {i j : Nat} (h : i ≤ j) (b : Bw ws) (l : ws.length ≤ 20) : 0 ≤ Wt ws i j ∧ Wt ws i j ≤ 20 * B30 := by
  rw [Wt_is h]
  have b2 : Bw ((ws.take j).drop i) := fun x hx => b x (List.mem_of_mem_take (List.mem_of_mem_drop hx))
  have := sum_bd b2
  have l2 : ((ws.take j).drop i).length ≤ 20 := by rw [List.length_drop, List.length_take]; omega
  refine ⟨this.1, Int.le_trans this.2 ?_⟩
  exact Int.mul_le_mul_of_nonneg_right (by omega) (by decide)
theorem lsum_congr {h1 h2 t1 t2 : Nat → Nat → Nat → OI} {l i j k : Nat} (eh : ∀ b, i < b → b ≤ k → h1 l i b = h2 l i b) (et : ∀ a, i < a → a ≤ k → t1 (l + 1) a j = t2 (l + 1) a j) : lsum h1 t1 l i j k = lsum h2 t2 l i j k := by
  show lo _ = lo _
  congr 1
  refine List.map_congr_left fun b hb => ?_
  have := List.mem_range.mp hb
  rw [eh _ (by omega) (by omega), et _ (by omega) (by omega)]
structure Put (ps ws : List Int) (h t h' t' : Nat → Nat → Nat → OI) (i j : Nat) (fl : OI) (m : Nat) : Prop where
  oh : ∀ l a b, ¬ (a = i ∧ b = j) → h' l a b = h l a b
  ot : ∀ l a b, ¬ (a = i ∧ b = j) → t' l a b = t l a b
  oe : t' ps.length i j = t ps.length i j
  eh : ∀ l, ps.length - m ≤ l → l < ps.length → h' l i j = oadd (some (pl ps l * Wt ws i j)) fl
  et : ∀ l, ps.length - m ≤ l → l < ps.length → t' l i j = lo [lsum h' t' l i j j, t' (l + 1) i j]
theorem Put.step {ps ws : List Int} {h t h' t' : Nat → Nat → Nat → OI} {i j : Nat} {fl : OI} {m l : Nat} (u : Put ps ws h t h' t' i j fl m) (hm : m < ps.length) (el : l = ps.length - 1 - m) :
    Put ps ws h t (up3 h' l i j (oadd (some (pl ps l * Wt ws i j)) fl)) (up3 t' l i j (lo [lsum (up3 h' l i j (oadd (some (pl ps l * Wt ws i j)) fl)) t' l i j j, t' (l + 1) i j])) i j fl (m + 1) := by
  generalize ev : oadd (some (pl ps l * Wt ws i j)) fl = v
  have hT : ∀ l', l' ≠ l → ∀ v2 a b, up3 t' l i j v2 l' a b = t' l' a b := fun l' hne v2 a b => up3_ne fun z => hne z.1
  have hH : ∀ l', l' ≠ l → ∀ a b, up3 h' l i j v l' a b = h' l' a b := fun l' hne a b => up3_ne fun z => hne z.1
  generalize ev2 : lo [lsum (up3 h' l i j v) t' l i j j, t' (l + 1) i j] = v2
  refine ⟨fun l' a b z => ?_, fun l' a b z => ?_, ?_, fun l' h1 h2 => ?_, fun l' h1 h2 => ?_⟩
  · rw [up3_ne fun y => z ⟨y.2.1, y.2.2⟩]; exact u.oh l' a b z
  · rw [up3_ne fun y => z ⟨y.2.1, y.2.2⟩]; exact u.ot l' a b z
  · rw [hT _ (by omega)]; exact u.oe
  · by_cases e : l' = l
    · subst e; rw [up3_at]; exact ev.symm
    · rw [hH l' e]; exact u.eh l' (by omega) h2
  · by_cases e : l' = l
    · subst e
      rw [up3_at, ← ev2, hT (l' + 1) (by omega)]
      congr 2
      exact lsum_congr (fun _ _ _ => rfl) fun a _ _ => (hT (l' + 1) (by omega) _ a j).symm
    · rw [hT l' e, u.et l' (by omega) h2, hT (l' + 1) (by omega)]
      congr 2
      exact lsum_congr (fun b _ _ => (hH l' e i b).symm) fun a _ _ => (hT (l' + 1) (by omega) v2 a j).symm
section
variable {P : Program} {w : World} {K : PySem.W.Frag} {mg : Str → Option Value} {base : Heap} {f : Addr} {fd : FuncData}
abbrev NPt : List Str := ["self", "first", "end", "floor", "weight", "letter", "with_letter"]
def spPut (C : Addr) : Sp := fun vs H Q _ => ∃ (r p : Addr) (ps ws : List Int) (X : Ad) (h t : Nat → Nat → Nat → OI) (i j : Nat) (fl : OI), vs = [.ref r, .int (i : Int), .int (j : Int), oV fl] ∧ PAt C H r p ps ws X h t ∧ ws.length ≤ 20 ∧ 1 ≤ ps.length ∧ ps.length ≤ 10 ∧ Bw ps ∧ Bw ws ∧ i < j ∧ j ≤ ws.length ∧
  ∀ H' h' t', KZ X ps.length (ws.length + 1) H H' → PAt C H' r p ps ws X h' t' → Put ps ws h t h' t' i j fl ps.length → Q .non H'
theorem scPut : FnScope NPt ["self", "first", "end", "floor"] (defScope sPut) := ⟨rfl, rfl, rfl, by decide +kernel, rfl, by decide +kernel, by decide +kernel⟩
theorem at_sums {ws : List Int} {k : Nat} (h : k ≤ ws.length) : atI ((sums ws ws.length).map V.int) (k : Int) = some (.int (ws.take k).sum) := by
  unfold sums
  rw [List.map_map]
  exact at_rng (f := fun i => V.int (ws.take i).sum) (by omega)
theorem at_pl {ps : List Int} {l : Nat} (h : l < ps.length) : atI (ps.map V.int) (l : Int) = some (.int (pl ps l)) := by
  rw [at_int (List.getElem?_eq_getElem h)]
  unfold pl
  rw [List.getD_eq_getElem?_getD, List.getElem?_eq_getElem h]
  rfl
theorem pl_bd {ps : List Int} (b : Bw ps) (l : Nat) : 0 ≤ pl ps l ∧ pl ps l ≤ B30 := by
  unfold pl
  rw [List.getD_eq_getElem?_getD]
  cases e : ps[l]? with
  | none => exact ⟨by show (0 : Int) ≤ 0; omega, by show (0 : Int) ≤ B30; decide⟩
  | some x => exact b x (List.mem_of_getElem? e)
set_option maxHeartbeats 16000000 in
theorem ok_put {C : Addr} (F : Fun K "put" "Parted.put" sPut f fd) (GL : Fns P w K mg base ["numbers"] "least" spLeast 2) (GA : Fns P w K mg base ["one", "other"] "added" spAdded 2) (M : Mt P w K mg base C "least_sum" ["self", "letter", "first", "end", "last"] (spLs C) 2) (rc : PC K C) (ml : mg "len" = none) (mr : mg "range" = none) : FnOk P w K mg base CX0 3 f fd ["self", "first", "end", "floor"] (spPut C) := by
  refine F.ok (k := 2) scPut (fun vs H Q E h => ?_) (fun cdv A outer s H vs Q E hr h => ?_)
  · obtain ⟨r, p, ps, ws, X, h, t, i, j, fl, rfl, _⟩ := h
    rfl
  obtain ⟨r, p, ps, ws, X, h, t, i, j, fl, rfl, pa, w20, p1, p10, bp, bw, hij, hj, q⟩ := h
  refine ⟨_, pss_cons (ps_set (i := 4) scPut.nd rfl (Or.inl rfl) (pe_op op_sub (pe_ix ix_list (pe_fld (pv 0) rfl) (pv 2) (fun _ _ => rfl)) (pe_ix ix_list (pe_fld (pv 0) rfl) (pv 1) (fun _ _ => rfl))))
    (pss_one (ps_for PassesOwn.never rfl (pi_rangeD (by rfl) mr (pa_cons (pe_op op_sub (pe_callB call_len_seq (by rfl) ml PySem.boot_len (pa_cons (pe_fld (pv 0) rfl) pa_nil)) pe_int) (pa_cons (pe_un un_neg pe_int) (pa_cons (pe_un un_neg pe_int) pa_nil)))) (pg_name (i := 5) scPut.nd rfl (Or.inl rfl))
      (pss_cons (ps_asg (pe_call GA.ok hr (by rfl) GA.m GA.kp GA.b .nil pass0 (pa_cons (pe_op op_mulB (pe_ix ix_tup (pe_fld (pv 0) rfl) (pv 5) (fun _ _ => rfl)) (pv 4)) (pa_cons (pv 3) pa_nil))) (pg_sub (pe_ix ix_list (pe_ix ix_list (pe_fld (pv 0) rfl) (pv 5) (fun _ _ => rfl)) (pv 1) (fun _ _ => rfl)) (pv 2) set_list))
      (pss_cons (ps_set (i := 6) scPut.nd rfl (Or.inl rfl) (pe_meth (pv 0) rc.c M.m M.ok hr M.b .nil pass0 (pa_cons (pv 5) (pa_cons (pv 1) (pa_cons (pv 2) (pa_cons (pv 2) pa_nil))))))
      (pss_one (ps_asg (pe_call GL.ok hr (by rfl) GL.m GL.kp GL.b .nil pass0 (pa_cons (pe_lst (pa_cons (pv 6) (pa_cons (pe_ix ix_list (pe_ix ix_list (pe_ix ix_list (pe_fld (pv 0) rfl) (pe_op op_add (pv 5) pe_int) (fun _ _ => rfl)) (pv 1) (fun _ _ => rfl)) (pv 2) (fun _ _ => rfl)) pa_nil))) pa_nil)) (pg_sub (pe_ix ix_list (pe_ix ix_list (pe_fld (pv 0) rfl) (pv 5) (fun _ _ => rfl)) (pv 1) (fun _ _ => rfl)) (pv 2) set_list))))))), ?_⟩
  obtain ⟨dx, ho⟩ := pa.ob
  refine ⟨_, rfl, r, C, dx, _, _, rfl, ho, rc.c, rc.ns, rfl, _, rfl, X.su, _, _, _, rfl, rfl, SqL.of pa.su, at_sums hj, _, rfl, r, C, dx, _, _, rfl, ho, rc.c, rc.ns, rfl, _, rfl, X.su, _, _, _, rfl, rfl, SqL.of pa.su, at_sums (k := i) (by omega), _, _, rfl, rfl, ?_⟩
  have eW : (fun (x y : Int) => V.int (x - y)) (ws.take j).sum (ws.take i).sum = .int (Wt ws i j) := rfl
  dsimp only at eW ⊢
  rw [eW]
  have wb := Wt_bd (Nat.le_of_lt hij) bw w20
  refine ⟨_, rfl, r, C, dx, _, _, rfl, ho, rc.c, rc.np, rfl, p, _, rfl, .inr (SqT.of pa.hp), _, _, rfl, rfl, _, rfl, _, rfl, _, rfl, ⟨by rw [List.length_map]; omega, by rw [List.length_map]; omega⟩, ?_⟩
  rw [List.length_map, show ((ps.length : Int) - 1 + 1).toNat = ps.length by omega]
  have i1 : i < ws.length + 1 := by omega
  have j1 : j < ws.length + 1 := by omega
  refine for_range3 (fun m σ H' => KZ X ps.length (ws.length + 1) H H' ∧ (∃ h' t', PAt C H' r p ps ws X h' t' ∧ Put ps ws h t h' t' i j fl m) ∧ ∃ x5 x6 : Option V, σ = [some (.ref r), some (.int (i : Int)), some (.int (j : Int)), some (oV fl), some (.int (Wt ws i j)), x5, x6])
    ⟨fun _ _ _ e => e, ⟨h, t, pa, fun _ _ _ _ => rfl, fun _ _ _ _ => rfl, rfl, fun l a b => by omega, fun l a b => by omega⟩, _, _, rfl⟩ (fun m σ H1 hm hP => ?_) (fun σ H1 hP => ?_)
  · obtain ⟨k1, ⟨h', t', pa1, u⟩, x5, x6, rfl⟩ := hP
    obtain ⟨l, el⟩ : ∃ l, l = ps.length - 1 - m := ⟨_, rfl⟩
    have ev : (ps.length : Int) - 1 + (m : Int) * (-1) = (l : Int) := by omega
    rw [ev]
    have hl : l < ps.length := by omega
    obtain ⟨dx1, ho1⟩ := pa1.ob
    have pb := pl_bd bp l
    refine ⟨_, rfl, r, C, dx1, _, _, rfl, ho1, rc.c, rc.np, rfl, _, rfl, p, _, _, _, rfl, rfl, SqT.of pa1.hp, at_pl hl, _, rfl, _, _, rfl, rfl, ⟨⟨pb.1, by unfold B30 at *; omega⟩, ⟨wb.1, by unfold B30 at *; omega⟩⟩, _, rfl, some (pl ps l * Wt ws i j), fl, rfl, ?_⟩
    refine ⟨_, rfl, r, C, dx1, _, _, rfl, ho1, rc.c, rc.nh, rfl, _, rfl, X.th, _, _, _, rfl, rfl, SqL.of pa1.hd.o, at_rng hl, _, rfl, X.bh l, _, _, _, rfl, rfl, SqL.of (pa1.hd.b l hl), at_rng i1, _, rfl, X.ch l i, _, _, j, rfl, rfl, pa1.hd.c l i hl i1, (by rw [List.length_map, List.length_range]; exact ixN_nat j1), ?_⟩
    have pa2 := pa1.puth (v := oadd (some (pl ps l * Wt ws i j)) fl) hl i1 j1
    have k2 : KZ X ps.length (ws.length + 1) H (upd H1 (X.ch l i) (.lst (((List.range (ws.length + 1)).map fun k => oV (h' l i k)).set j (oV (oadd (some (pl ps l * Wt ws i j)) fl))))) := fun a o hz e => by
      rw [upd_ne (fun z => hz (.inl ⟨l, i, hl, i1, z⟩))]
      exact k1 a o hz e
    generalize upd H1 (X.ch l i) (.lst (((List.range (ws.length + 1)).map fun k => oV (h' l i k)).set j (oV (oadd (some (pl ps l * Wt ws i j)) fl)))) = H2 at pa2 k2 ⊢
    obtain ⟨dx2, ho2⟩ := pa2.ob
    refine ⟨_, rfl, r, dx2, _, rfl, ho2, rfl, _, rfl, _, rfl, _, rfl, _, rfl, r, p, ps, ws, X, _, t', l, i, j, j, rfl, pa2, w20, hl, by omega, hj, hj, fun H3 s3 => ?_⟩
    have pa3 := pa2.same s3
    have k3 : KZ X ps.length (ws.length + 1) H H3 := fun a o hz e => s3 _ _ (k2 a o hz e)
    obtain ⟨dx3, ho3⟩ := pa3.ob
    have l1 : l + 1 < ps.length + 1 := by omega
    refine ⟨_, rfl, _, rfl, r, C, dx3, _, _, rfl, ho3, rc.c, rc.nt, rfl, _, rfl, _, _, rfl, rfl, X.tt, _, _, _, rfl, rfl, SqL.of pa3.tl.o, at_rng l1, _, rfl, X.bt (l + 1), _, _, _, rfl, rfl, SqL.of (pa3.tl.b _ l1), at_rng i1, _, rfl, X.ct (l + 1) i, _, _, _, rfl, rfl, SqL.of (pa3.tl.c _ i l1 i1), at_rng j1, (by show 2 ≤ sizeLine; decide), fun e1 he1 => ?_⟩
    have s4 := same_newO he1 (.lst [oV (lsum (up3 h' l i j (oadd (some (pl ps l * Wt ws i j)) fl)) t' l i j j), oV (t' (l + 1) i j)])
    have g4 : upd H3 e1 (.lst [oV (lsum (up3 h' l i j (oadd (some (pl ps l * Wt ws i j)) fl)) t' l i j j), oV (t' (l + 1) i j)]) e1 = some (.lst (([lsum (up3 h' l i j (oadd (some (pl ps l * Wt ws i j)) fl)) t' l i j j, t' (l + 1) i j] : List OI).map oV)) := upd_same
    generalize upd H3 e1 (.lst [oV (lsum (up3 h' l i j (oadd (some (pl ps l * Wt ws i j)) fl)) t' l i j j), oV (t' (l + 1) i j)]) = H4 at s4 g4 ⊢
    refine ⟨e1, _, rfl, g4, by show 2 ≤ 100; decide, fun H5 s5 => ?_⟩
    have pa5 := pa3.same (s4.trans s5)
    have k5 : KZ X ps.length (ws.length + 1) H H5 := fun a o hz e => (s4.trans s5) _ _ (k3 a o hz e)
    obtain ⟨dx5, ho5⟩ := pa5.ob
    have l2 : l < ps.length + 1 := by omega
    refine ⟨_, rfl, r, C, dx5, _, _, rfl, ho5, rc.c, rc.nt, rfl, _, rfl, X.tt, _, _, _, rfl, rfl, SqL.of pa5.tl.o, at_rng l2, _, rfl, X.bt l, _, _, _, rfl, rfl, SqL.of (pa5.tl.b _ l2), at_rng i1, _, rfl, X.ct l i, _, _, j, rfl, rfl, pa5.tl.c l i l2 i1, (by rw [List.length_map, List.length_range]; exact ixN_nat j1), ?_⟩
    refine ⟨fun a o hz e => ?_, ⟨_, _, pa5.putt p1 l2 i1 j1, u.step hm el⟩, _, _, rfl⟩
    rw [upd_ne (fun z => hz (.inr ⟨l, i, l2, i1, z⟩))]
    exact k5 a o hz e
  · obtain ⟨k1, ⟨h', t', pa1, u⟩, x5, x6, rfl⟩ := hP
    exact q H1 h' t' k1 pa1 u
end
end K98
set_option Elab.async false
set_option linter.all false
set_option maxRecDepth 100000
namespace K98
open PySem L2
def Dn (f e i j : Nat) : Prop := f < i ∨ (i = f ∧ j < e)
abbrev most (ps ws : List Int) (F : Nat → Nat → OI) (i j : Nat) : OI := lo (((P ps.length 0 i j).filter fun r => decide (1 < r.length)).map fun r => cost (pl ps) (Wt ws) F r)
def bdO (ps ws : List Int) (F : Nat → Nat → OI) (i j : Nat) : OI := if j - i = 1 then some 0 else most ps ws F i j
theorem bnd_congr {L : Nat} {h t h' t' : Nat → Nat → Nat → OI} {i j : Nat} (hij : i < j) (eh : ∀ l b, i < b → b < j → h' l i b = h l i b) (et : ∀ l a, i < a → a < j → t' l a j = t l a j) : bnd L h' t' i j = bnd L h t i j := by
  unfold bnd
  split
  · rfl
  · congr 1
    refine List.map_congr_left fun l _ => ?_
    exact lsum_congr (k := j - 1) (fun b h1 h2 => eh l b h1 (by omega)) fun a h1 h2 => et (l + 1) a h1 (by omega)
section
variable {P : Program} {w : World} {K : PySem.W.Frag} {mg : Str → Option Value} {base : Heap} {f : Addr} {fd : FuncData}
def spBrow (C : Addr) : Sp := fun vs H Q _ => ∃ (r p : Addr) (ps ws : List Int) (X : Ad) (h t : Nat → Nat → Nat → OI) (i : Nat), vs = [.ref r, .int (i : Int)] ∧ PAt C H r p ps ws X h t ∧ ws.length ≤ 20 ∧ ps.length ≤ 10 ∧ i < ws.length ∧
  ∀ (a : Addr) H', Same H H' → H a = none → H' a = some (.lst ((List.range (ws.length - i)).map fun b => oV (bnd ps.length h t i (i + b + 1)))) → Q (.ref a) H'
theorem scBrow : FnScope ["self", "first"] ["self", "first"] (defScope sBrow) := ⟨rfl, rfl, rfl, by decide +kernel, rfl, by decide +kernel, by decide +kernel⟩
theorem ndBr : (("end" : Str) :: ["self", "first"]).Nodup := by decide +kernel
set_option maxHeartbeats 4000000 in
theorem ok_brow {C : Addr} (F : Fun K "bound_row" "Parted.bound_row" sBrow f fd) (M : Mt P w K mg base C "bound" ["self", "first", "end"] (spBound C) 3) (rc : PC K C) (mr : mg "range" = none) : FnOk P w K mg base CX0 4 f fd ["self", "first"] (spBrow C) := by
  refine F.ok (k := 3) scBrow (fun vs H Q E h => ?_) (fun cdv A outer s H vs Q E hr h => ?_)
  · obtain ⟨r, p, ps, ws, X, h, t, i, rfl, _⟩ := h
    rfl
  obtain ⟨r, p, ps, ws, X, h, t, i, rfl, pa, w20, p10, hi, q⟩ := h
  refine ⟨_, pss_one (ps_ret (pe_compR2 (M := ["self", "first"]) rfl (CompScope.of (defScope sBrow) ["self", "first"] rfl rfl rfl (by decide +kernel) (by decide +kernel) (by decide +kernel) rfl (by decide +kernel)) ndBr rfl (by rfl) mr (pa_cons (pe_op op_add (pv 1) pe_int) (pa_cons (pe_op op_add (pe_fld (pv 0) rfl) pe_int) pa_nil)) (mo_cons (mo_op mo_rI0 mo_var mo_c) (mo_cons (mo_op mo_rI0 (mo_fld mo_var) mo_c) mo_nil))
      (fun cl C s0 H0 fp => ⟨pts_nil, pe_meth (pv 1) rc.c M.m M.ok hr M.b .nil pass0 (pa_cons (pv 2) (pa_cons (pv 0) pa_nil))⟩))), ?_⟩
  obtain ⟨dx, ho⟩ := pa.ob
  refine ⟨_, rfl, _, _, rfl, rfl, _, rfl, r, C, dx, _, _, rfl, ho, rc.c, rc.nn, rfl, _, _, rfl, rfl, _, _, rfl, ⟨by omega, by omega, by omega, by omega⟩, fun d hd => ?_⟩
  have en : (((ws.length : Int) + 1) - ((i : Int) + 1)).toNat = ws.length - i := by omega
  dsimp only
  rw [en]
  refine ⟨fun b H' => Same H H' ∧ H' d = some (.lst ((List.range b).map fun b => oV (bnd ps.length h t i (i + b + 1)))), ⟨same_newO hd _, upd_same⟩, fun b H' hb hP => ?_, fun H' hP => ?_⟩
  · obtain ⟨s5, hd'⟩ := hP
    have eb : (i : Int) + 1 + (b : Int) = ((i + b + 1 : Nat) : Int) := by push_cast; omega
    rw [eb]
    refine turn_all ⟨_, rfl, r, dx, _, rfl, s5 _ _ ho, rfl, _, rfl, _, rfl, r, p, ps, ws, X, h, t, i, i + b + 1, rfl, pa.same s5, w20, p10, by omega, by omega, fun H6 s6 => ⟨_, s6 _ _ hd', ?_, same_upd hd (s5.trans s6), ?_⟩⟩
    · rw [List.length_map, List.length_range]; exact small1000 (by omega)
    · rw [upd_same, List.range_succ, List.map_append]; rfl
  · obtain ⟨s5, hd'⟩ := hP
    exact q d H' s5 hd hd'
def spBounds (C : Addr) : Sp := fun vs H Q _ => ∃ (r p : Addr) (ps ws : List Int) (X : Ad) (h t : Nat → Nat → Nat → OI), vs = [.ref r] ∧ PAt C H r p ps ws X h t ∧ ws.length ≤ 20 ∧ ps.length ≤ 10 ∧
  ∀ (d : Addr) (ra : Nat → Addr) H', Same H H' → H d = none → (∀ i, i < ws.length → H (ra i) = none) → (∀ i j, i < ws.length → j < ws.length → ra i = ra j → i = j) → (∀ i, i < ws.length → ra i ≠ d) →
    H' d = some (.lst ((List.range ws.length).map fun i => .ref (ra i))) → (∀ i, i < ws.length → H' (ra i) = some (.lst ((List.range (ws.length - i)).map fun b => oV (bnd ps.length h t i (i + b + 1))))) → Q (.ref d) H'
theorem scBounds : FnScope ["self"] ["self"] (defScope sBounds) := ⟨rfl, rfl, rfl, by decide +kernel, rfl, by decide +kernel, by decide +kernel⟩
theorem ndBs : (("first" : Str) :: ["self"]).Nodup := by decide +kernel
set_option maxHeartbeats 4000000 in
theorem ok_bounds {C : Addr} (F : Fun K "bounds" "Parted.bounds" sBounds f fd) (M : Mt P w K mg base C "bound_row" ["self", "first"] (spBrow C) 4) (rc : PC K C) (mr : mg "range" = none) : FnOk P w K mg base CX0 5 f fd ["self"] (spBounds C) := by
  refine F.ok (k := 4) scBounds (fun vs H Q E h => ?_) (fun cdv A outer s H vs Q E hr h => ?_)
  · obtain ⟨r, p, ps, ws, X, h, t, rfl, _⟩ := h
    rfl
  obtain ⟨r, p, ps, ws, X, h, t, rfl, pa, w20, p10, qq⟩ := h
  refine ⟨_, pss_one (ps_ret (pe_compR1 (M := ["self"]) rfl (CompScope.of (defScope sBounds) ["self"] rfl rfl rfl (by decide +kernel) (by decide +kernel) (by decide +kernel) rfl (by decide +kernel)) ndBs rfl (by rfl) mr (pa_cons (pe_fld (pv 0) rfl) pa_nil) (mo_cons (mo_fld mo_var) mo_nil)
      (fun cl C s0 H0 fp => ⟨pts_nil, pe_meth (pv 1) rc.c M.m M.ok hr M.b .nil pass0 (pa_cons (pv 0) pa_nil)⟩))), ?_⟩
  obtain ⟨dx, ho⟩ := pa.ob
  refine ⟨_, rfl, r, C, dx, _, _, rfl, ho, rc.c, rc.nn, rfl, _, rfl, by omega, by omega, fun d hd => ?_⟩
  rw [Int.toNat_natCast]
  refine ⟨fun i H' => Same H H' ∧ ∃ ra : Nat → Addr, (∀ k, k < i → H (ra k) = none) ∧ (∀ j k, j < i → k < i → ra j = ra k → j = k) ∧ (∀ k, k < i → ra k ≠ d) ∧ H' d = some (.lst ((List.range i).map fun k => .ref (ra k))) ∧ ∀ k, k < i → H' (ra k) = some (.lst ((List.range (ws.length - k)).map fun b => oV (bnd ps.length h t k (k + b + 1)))), ⟨same_newO hd _, fun _ => d, fun k hk => absurd hk (Nat.not_lt_zero _), fun j k hj => absurd hj (Nat.not_lt_zero _), fun k hk => absurd hk (Nat.not_lt_zero _), upd_same, fun k hk => absurd hk (Nat.not_lt_zero _)⟩, fun i H1 hi hP => ?_, fun H1 hP => ?_⟩
  · obtain ⟨s1, ca, c1, c2, c3, c4, c5⟩ := hP
    rw [show (0 : Int) + (i : Int) = (i : Int) from Int.zero_add _]
    refine turn_all ⟨_, rfl, r, dx, _, rfl, s1 _ _ ho, rfl, _, rfl, r, p, ps, ws, X, h, t, i, rfl, pa.same s1, w20, p10, hi, fun a H2 s2 hp2 g2 => ?_⟩
    have pd : a ≠ d := fun z => by rw [z, c4] at hp2; cases hp2
    have pk : ∀ k, k < i → ca k ≠ a := fun k hk z => by rw [← z, c5 k hk] at hp2; cases hp2
    refine ⟨_, s2 _ _ c4, ?_, same_upd hd (s1.trans s2), ext ca i a, fun k hk => ?_, fun j k hj hk e => ?_, fun k hk => ?_, ?_, fun k hk => ?_⟩
    · rw [List.length_map, List.length_range]; exact small1000 (by omega)
    · by_cases z : k = i
      · rw [ext_same z]; exact s1.free hp2
      · rw [ext_ne z]; exact c1 k (by omega)
    · by_cases z1 : j = i <;> by_cases z2 : k = i
      · omega
      · rw [ext_same z1, ext_ne z2] at e
        exact absurd e.symm (pk k (by omega))
      · rw [ext_ne z1, ext_same z2] at e
        exact absurd e (pk j (by omega))
      · rw [ext_ne z1, ext_ne z2] at e
        exact c2 j k (by omega) (by omega) e
    · by_cases z : k = i
      · rw [ext_same z]; exact pd
      · rw [ext_ne z]; exact c3 k (by omega)
    · rw [upd_same, List.range_succ, List.map_append]
      refine congrArg (fun z => some (HO.lst z)) ?_
      congr 1
      · refine List.map_congr_left fun k hk => ?_
        rw [ext_ne (by have := List.mem_range.mp hk; omega)]
      · show [V.ref a] = [V.ref (ext ca i a i)]
        rw [ext_same rfl]
    · by_cases z : k = i
      · rw [ext_same z, upd_ne pd, z]; exact g2
      · rw [ext_ne z, upd_ne (c3 k (by omega))]; exact s2 _ _ (c5 k (by omega))
  · obtain ⟨s1, ca, c1, c2, c3, c4, c5⟩ := hP
    exact qq d ca H1 s1 hd c1 c2 c3 c4 c5
structure Num (ps ws : List Int) : Prop where
  p2 : 2 ≤ ps.length
  p10 : ps.length ≤ 10
  w1 : 1 ≤ ws.length
  w20 : ws.length ≤ 20
  bp : Bw ps
  bw : Bw ws
structure Cl (P : Program) (w : World) (K : PySem.W.Frag) (mg : Str → Option Value) (base : Heap) (C : Addr) where
  rc : PC K C
  g : mg "Parted" = some (.ref C)
  fi : Addr
  di : FuncData
  mkk : Mk K C fi
  oki : FnOk P w K mg base CX0 3 fi di ["self", "prices", "weights"] (spPInit C)
  bi : Binds K di ["self", "prices", "weights"] []
end
end K98
set_option Elab.async false
set_option linter.all false
set_option maxRecDepth 100000
namespace K98
open PySem L2
structure Fin (ps ws : List Int) (h t : Nat → Nat → Nat → OI) (F : Nat → Nat → OI) (pr : Nat → Nat → Prop) : Prop where
  dg : ∀ l i, l ≤ ps.length → i ≤ ws.length → t l i i = some 0
  ed : ∀ i j, i < j → j ≤ ws.length → t ps.length i j = none
  eq : ∀ i j, i < j → j ≤ ws.length → pr i j → Eqs (pl ps) (Wt ws) F ps.length h t i j
theorem Fin.weak {ps ws : List Int} {h t : Nat → Nat → Nat → OI} {F : Nat → Nat → OI} {pr pr' : Nat → Nat → Prop} (a : Fin ps ws h t F pr) (h1 : ∀ i j, i < j → j ≤ ws.length → pr' i j → pr i j) : Fin ps ws h t F pr' :=
  ⟨a.dg, a.ed, fun i j hij hj hp => a.eq i j hij hj (h1 i j hij hj hp)⟩
theorem Fin.step {ps ws : List Int} {h t h' t' : Nat → Nat → Nat → OI} {F : Nat → Nat → OI} {f e : Nat} (a : Fin ps ws h t F (Dn f e)) (hfe : f < e) (he : e ≤ ws.length) (u : Put ps ws h t h' t' f e (F f e) ps.length) : Fin ps ws h' t' F (Dn f (e + 1)) := by
  refine ⟨fun l i hl hi => ?_, fun i j hij hj => ?_, fun i j hij hj hp => ?_⟩
  · rw [u.ot l i i (by omega)]; exact a.dg l i hl hi
  · by_cases z : i = f ∧ j = e
    · rw [z.1, z.2, u.oe]; exact a.ed f e hfe he
    · rw [u.ot _ i j z]; exact a.ed i j hij hj
  · by_cases z : i = f ∧ j = e
    · obtain ⟨rfl, rfl⟩ := z
      refine ⟨fun l hl => ?_, fun l hl => u.et l (by omega) hl⟩
      rw [u.eh l (by omega) hl]
    · have d : Dn f e i j := by
        rcases hp with y | y
        · exact .inl y
        · exact .inr ⟨y.1, by omega⟩
      have E := a.eq i j hij hj d
      have nh : ∀ b, i < b → b ≤ j → ¬ (i = f ∧ b = e) := fun b h1 h2 y => by
        rcases d with w | w <;> omega
      have nt : ∀ x, i < x → x ≤ j → ¬ (x = f ∧ j = e) := fun x h1 h2 y => by
        rcases d with w | w <;> omega
      refine ⟨fun l hl => ?_, fun l hl => ?_⟩
      · rw [u.oh l i j z]; exact E.eh l hl
      · rw [u.ot l i j z, u.ot (l + 1) i j z, E.et l hl]
        congr 2
        exact (lsum_congr (k := j) (fun b h1 h2 => u.oh l i b (nh b h1 h2)) fun x h1 h2 => u.ot (l + 1) x j (nt x h1 h2)).symm
theorem Fin.bdO {ps ws : List Int} {h t : Nat → Nat → Nat → OI} {F : Nat → Nat → OI} (a : Fin ps ws h t F (fun _ _ => True)) : ∀ i j, i < j → j ≤ ws.length → bnd ps.length h t i j = bdO ps ws F i j := fun f e hfe he => by
  unfold K98.bdO
  by_cases e1 : e - f = 1
  · unfold bnd; rw [if_pos e1, if_pos e1]
  · rw [if_neg e1]
    exact bound_is (p := pl ps) (W := Wt ws) (F := F) a.dg a.ed (fun l c hl h1 h2 => (a.eq f c h1 (by omega) trivial).eh l hl) (fun x y h1 h2 h3 => a.eq x y h2 h3 trivial) (by omega) he
def up2 (F : Nat → Nat → OI) (i j : Nat) (v : OI) : Nat → Nat → OI := fun a b => if a = i ∧ b = j then v else F a b
theorem cost_none {p : Nat → Int} {W : Nat → Nat → Int} {F : Nat → Nat → OI} : ∀ {r : Pa}, cost p W F r = none ↔ ∃ q ∈ r, F q.1 q.2.1 = none
  | [] => ⟨fun z => (by cases z), fun ⟨q, h, _⟩ => (by cases h)⟩
  | q :: r => by
    have ih := cost_none (p := p) (W := W) (F := F) (r := r)
    show oadd (part p W F q) (cost p W F r) = none ↔ _
    unfold part
    cases e1 : F q.1 q.2.1 with
    | none => exact ⟨fun _ => ⟨q, .head _, e1⟩, fun _ => rfl⟩
    | some v =>
      cases e2 : cost p W F r with
      | none =>
        obtain ⟨q', h', e'⟩ := ih.mp e2
        exact ⟨fun _ => ⟨q', .tail _ h', e'⟩, fun _ => rfl⟩
      | some u =>
        refine ⟨fun z => (by cases z), fun ⟨q', h', e'⟩ => ?_⟩
        rcases List.mem_cons.mp h' with z | z
        · rw [z, e1] at e'; cases e'
        · rw [ih.mpr ⟨q', z, e'⟩] at e2; cases e2
structure Fln (ps ws : List Int) (h t : Nat → Nat → Nat → OI) (F : Nat → Nat → OI) (pr : Nat → Nat → Prop) : Prop where
  fin : Fin ps ws h t F pr
  bd : ∀ i j, i < j → j ≤ ws.length → pr i j → bnd ps.length h t i j = F i j
theorem Fln.weak {ps ws : List Int} {h t : Nat → Nat → Nat → OI} {F : Nat → Nat → OI} {pr pr' : Nat → Nat → Prop} (a : Fln ps ws h t F pr) (h1 : ∀ i j, i < j → j ≤ ws.length → pr' i j → pr i j) : Fln ps ws h t F pr' :=
  ⟨a.fin.weak h1, fun i j hij hj hp => a.bd i j hij hj (h1 i j hij hj hp)⟩
theorem Fln.step {ps ws : List Int} {h t h' t' : Nat → Nat → Nat → OI} {F : Nat → Nat → OI} {f e : Nat} (a : Fln ps ws h t F (Dn f e)) (hfe : f < e) (he : e ≤ ws.length) (u : Put ps ws h t h' t' f e (bnd ps.length h t f e) ps.length) : ∃ F', Fln ps ws h' t' F' (Dn f (e + 1)) := by
  have nd : ∀ {i j}, Dn f e i j → ¬ (i = f ∧ j = e) := fun d z => by rcases d with w | w <;> omega
  have ef : up2 F f e (bnd ps.length h t f e) f e = bnd ps.length h t f e := by unfold up2; rw [if_pos ⟨rfl, rfl⟩]
  have a' : Fin ps ws h t (up2 F f e (bnd ps.length h t f e)) (Dn f e) := ⟨a.fin.dg, a.fin.ed, fun i j hij hj hp => ⟨fun l hl => by
    unfold up2
    rw [if_neg (nd hp)]
    exact (a.fin.eq i j hij hj hp).eh l hl, (a.fin.eq i j hij hj hp).et⟩⟩
  refine ⟨up2 F f e (bnd ps.length h t f e), a'.step hfe he (by rw [ef]; exact u), fun i j hij hj hp => ?_⟩
  by_cases z : i = f ∧ j = e
  · obtain ⟨rfl, rfl⟩ := z
    rw [ef, bnd_congr hij (fun l b h1 h2 => u.oh l i b (by omega)) (fun l x h1 h2 => u.ot l x j (by omega))]
  · have d : Dn f e i j := by
      rcases hp with y | y
      · exact .inl y
      · exact .inr ⟨y.1, by omega⟩
    unfold up2
    rw [if_neg z, bnd_congr hij (fun l b h1 h2 => u.oh l i b (fun y => by rcases d with w | w <;> omega)) (fun l x h1 h2 => u.ot l x j (fun y => by rcases d with w | w <;> omega))]
    exact a.bd i j hij hj d
theorem Fln.own {ps ws : List Int} {h t : Nat → Nat → Nat → OI} {F : Nat → Nat → OI} (a : Fln ps ws h t F (fun _ _ => True)) : ∀ i j, i < j → j ≤ ws.length → F i j = bdO ps ws F i j := fun i j hij hj => by
  rw [← a.bd i j hij hj trivial]
  exact a.fin.bdO i j hij hj
abbrev rowO (F : Nat → Nat → OI) (n i : Nat) : List OI := (List.range (n - i)).map fun b => F i (i + b + 1)
structure FlO (H : Hp) (d : Addr) (ra : Nat → Addr) (n : Nat) (F : Nat → Nat → OI) : Prop where
  o : H d = some (.lst ((List.range n).map fun i => .ref (ra i)))
  r : ∀ i, i < n → H (ra i) = some (.lst ((rowO F n i).map oV))
theorem FlO.same {H H' : Hp} {d : Addr} {ra : Nat → Addr} {n : Nat} {F : Nat → Nat → OI} (h : FlO H d ra n F) (s : Same H H') : FlO H' d ra n F := ⟨s _ _ h.o, fun i hi => s _ _ (h.r i hi)⟩
section
variable {P : Program} {w : World} {K : PySem.W.Frag} {mg : Str → Option Value} {base : Heap} {f : Addr} {fd : FuncData}
abbrev NPl : List Str := ["prices", "weights", "parted", "first", "end"]
def spPl (C : Addr) : Sp := fun vs H Q _ => ∃ (p q : Addr) (ps ws : List Int), vs = [.ref p, .ref q] ∧ TW H p ps ∧ TW H q ws ∧ Num ps ws ∧ ∀ (r : Addr) X h t F H', Same H H' → PAt C H' r p ps ws X h t → Fln ps ws h t F (fun _ _ => True) → Q (.ref r) H'
theorem scPl : FnScope NPl ["prices", "weights"] (defScope sPl) := ⟨rfl, rfl, rfl, by decide +kernel, rfl, by decide +kernel, by decide +kernel⟩
set_option maxHeartbeats 8000000 in
theorem ok_pl {C : Addr} (F : Fun K "parted_least" "parted_least" sPl f fd) (cl : Cl P w K mg base C) (MP : Mt P w K mg base C "put" ["self", "first", "end", "floor"] (spPut C) 4) (MB : Mt P w K mg base C "bound" ["self", "first", "end"] (spBound C) 4) (ml : mg "len" = none) (mr : mg "range" = none) : FnOk P w K mg base CX0 5 f fd ["prices", "weights"] (spPl C) := by
  refine F.ok (k := 4) scPl (fun vs H Q E h => ?_) (fun cdv A outer s H vs Q E hr h => ?_)
  · obtain ⟨p, q, ps, ws, rfl, _⟩ := h
    rfl
  obtain ⟨p, q, ps, ws, rfl, hp, hq, nu, qq⟩ := h
  obtain ⟨p2, p10, w1, w20, bp, bw⟩ := nu
  refine ⟨_, pss_cons (ps_set (i := 2) scPl.nd rfl (Or.inl rfl) (pe_make cl.mkk cl.oki hr (by rfl) cl.g cl.bi .nil pass0 (pa_cons (pv 0) (pa_cons (pv 1) pa_nil))))
    (pss_cons (ps_for PassesOwn.never rfl (pi_rangeD (by rfl) mr (pa_cons (pe_op op_sub (pe_callB call_len_seq (by rfl) ml PySem.boot_len (pa_cons (pv 1) pa_nil)) pe_int) (pa_cons (pe_un un_neg pe_int) (pa_cons (pe_un un_neg pe_int) pa_nil)))) (pg_name (i := 3) scPl.nd rfl (Or.inl rfl))
      (pss_one (ps_for PassesOwn.never rfl (pi_range2 (by rfl) mr (pa_cons (pe_op op_add (pv 3) pe_int) (pa_cons (pe_op op_add (pe_callB call_len_seq (by rfl) ml PySem.boot_len (pa_cons (pv 1) pa_nil)) pe_int) pa_nil))) (pg_name (i := 4) scPl.nd rfl (Or.inl rfl))
        (pss_one (ps_expr (pe_meth (pv 2) cl.rc.c MP.m MP.ok hr MP.b .nil pass0 (pa_cons (pv 3) (pa_cons (pv 4) (pa_cons (pe_meth (pv 2) cl.rc.c MB.m MB.ok hr MB.b .nil pass0 (pa_cons (pv 3) (pa_cons (pv 4) pa_nil))) pa_nil)))))))))
    (pss_one (ps_ret (pv 2)))), ?_⟩
  refine ⟨_, rfl, _, rfl, fun r dx rn hdx _ => ?_⟩
  have sm : Same H (upd (upd H dx (.own r)) r (.ins C dx [])) := same_upd rn (same_newO hdx _)
  refine ⟨r, dx, p, q, ps, ws, rfl, upd_same, sm _ _ hp, sm _ _ hq, by omega, p10, w20, fun H1 X k1 pa1 fz => ⟨rfl, ?_⟩⟩
  have s1 : Same H H1 := fun a o e => k1 a o (fun z => by rw [z, rn] at e; cases e) (sm a o e)
  have fz' : ∀ a, Z X ps.length (ws.length + 1) a → H a = none := fun a hz => sm.free (fz a hz)
  have nz : ∀ {a o}, H a = some o → ¬ Z X ps.length (ws.length + 1) a := fun e hz => by rw [fz' _ hz] at e; cases e
  have st0 : ∃ F, Fln ps ws h0 t0 F (fun i _ => ws.length ≤ i) := ⟨fun _ _ => none, ⟨fun l i _ _ => if_pos rfl, fun i j hij _ => if_neg (by omega), fun i j hij hj hp => absurd hp (by show ¬ ws.length ≤ i; omega)⟩, fun i j hij hj hp => absurd hp (by show ¬ ws.length ≤ i; omega)⟩
  refine ⟨_, rfl, q, _, rfl, .inr (SqT.of (s1 _ _ hq)), _, _, rfl, rfl, _, rfl, _, rfl, _, rfl, ⟨by rw [List.length_map]; omega, by rw [List.length_map]; omega⟩, ?_⟩
  rw [List.length_map, show ((ws.length : Int) - 1 + 1).toNat = ws.length by omega]
  refine for_range3 (fun m σ H' => Same H H' ∧ (∃ h t F, PAt C H' r p ps ws X h t ∧ Fln ps ws h t F (fun i _ => ws.length - m ≤ i)) ∧ ∃ x3 x4 : Option V, σ = [some (.ref p), some (.ref q), some (.ref r), x3, x4])
    ⟨s1, (by obtain ⟨F, hF⟩ := st0; exact ⟨h0, t0, F, pa1, hF⟩), _, _, rfl⟩ (fun m σ H2 hm hP => ?_) (fun σ H2 hP => ?_)
  · obtain ⟨s2, ⟨h, t, F, pa2, fn2⟩, x3, x4, rfl⟩ := hP
    obtain ⟨f, ef⟩ : ∃ f, f = ws.length - 1 - m := ⟨_, rfl⟩
    have ev : (ws.length : Int) - 1 + (m : Int) * (-1) = (f : Int) := by omega
    rw [ev]
    have hf : f < ws.length := by omega
    refine ⟨_, rfl, _, _, rfl, rfl, _, rfl, q, _, rfl, .inr (SqT.of (s2 _ _ hq)), _, _, rfl, rfl, _, _, rfl, ⟨by omega, by omega, by rw [List.length_map]; omega, by rw [List.length_map]; omega⟩, ?_⟩
    refine for_range (fun k σ H' => Same H H' ∧ (∃ h t F, PAt C H' r p ps ws X h t ∧ Fln ps ws h t F (Dn f (f + 1 + k))) ∧ ∃ x4 : Option V, σ = [some (.ref p), some (.ref q), some (.ref r), some (.int (f : Int)), x4])
      ⟨s2, ⟨h, t, F, pa2, fn2.weak fun i j hij hj d => by show ws.length - m ≤ i; rcases d with z | z <;> omega⟩, _, rfl⟩ (fun k σ H3 hk hP => ?_) (fun σ H3 hP => ?_)
    · obtain ⟨s3, ⟨h3, t3, F3, pa3, fn3⟩, x4, rfl⟩ := hP
      have hk' : f + 1 + k ≤ ws.length := by
        have : (ws.map V.int).length = ws.length := List.length_map ..
        omega
      have ee : (f : Int) + 1 + (k : Int) = ((f + 1 + k : Nat) : Int) := by push_cast; omega
      rw [ee]
      obtain ⟨dx3, ho3⟩ := pa3.ob
      refine ⟨_, rfl, r, dx3, _, rfl, ho3, rfl, _, rfl, _, rfl, _, rfl, r, dx3, _, rfl, ho3, rfl, _, rfl, _, rfl, r, p, ps, ws, X, h3, t3, f, f + 1 + k, rfl, pa3, w20, p10, by omega, hk', fun H4 s4 => ?_⟩
      refine ⟨r, p, ps, ws, X, h3, t3, f, f + 1 + k, _, rfl, pa3.same s4, w20, by omega, p10, bp, bw, by omega, hk', fun H5 h5 t5 k5 pa5 u => ?_⟩
      obtain ⟨F5, fn5⟩ := fn3.step (by omega) hk' u
      exact ⟨fun a o e => k5 a o (nz e) (s4 _ _ (s3 _ _ e)), ⟨h5, t5, F5, pa5, fn5⟩, _, rfl⟩
    · obtain ⟨s3, ⟨h3, t3, F3, pa3, fn3⟩, x4, rfl⟩ := hP
      have en : (((((ws.map V.int).length : Nat) : Int) + 1) - ((f : Int) + 1)).toNat = ws.length - f := by rw [List.length_map]; omega
      rw [en] at fn3
      exact ⟨s3, ⟨h3, t3, F3, pa3, fn3.weak fun i j hij hj d => by
        have d : ws.length - (m + 1) ≤ i := d
        by_cases z : f < i
        · exact .inl z
        · exact .inr ⟨by omega, by omega⟩⟩, _, _, rfl⟩
  · obtain ⟨s2, ⟨h, t, F, pa2, fn2⟩, x3, x4, rfl⟩ := hP
    exact ⟨_, rfl, qq r X h t F H2 s2 pa2 (fn2.weak fun i j _ _ _ => by show ws.length - ws.length ≤ i; omega)⟩
theorem scLf : FnScope ["prices", "weights"] ["prices", "weights"] (defScope sLf) := ⟨rfl, rfl, rfl, by decide +kernel, rfl, by decide +kernel, by decide +kernel⟩
end
end K98
set_option Elab.async false
set_option linter.all false
set_option maxRecDepth 100000
namespace K98
open PySem L2
namespace CT
def mi (xs : List Int) : OI := lo (xs.map some)
def ct (xs : List Int) : Nat := match mi xs with
  | none => 0
  | some m => xs.count m
theorem mi_some {xs : List Int} {m : Int} : mi xs = some m ↔ m ∈ xs ∧ ∀ k ∈ xs, m ≤ k := by
  unfold mi
  rw [lo_some]
  constructor
  · rintro ⟨h1, h2⟩
    obtain ⟨x, hx, e⟩ := List.mem_map.mp h1
    cases e
    exact ⟨hx, fun k hk => h2 k (List.mem_map.mpr ⟨k, hk, rfl⟩)⟩
  · rintro ⟨h1, h2⟩
    refine ⟨List.mem_map.mpr ⟨m, h1, rfl⟩, fun k hk => ?_⟩
    obtain ⟨x, hx, e⟩ := List.mem_map.mp hk
    cases e
    exact h2 _ hx
theorem mi_none {xs : List Int} : mi xs = none ↔ xs = [] := by
  unfold mi
  rw [lo_none]
  constructor
  · intro h
    cases xs with
    | nil => rfl
    | cons x xs => exact absurd (.head _) (h x)
  · rintro rfl k hk
    cases hk
theorem mi_flat {α : Type} (B : List α) (X : α → List Int) : mi (B.flatMap X) = lo (B.map fun b => mi (X b)) := by
  unfold mi
  rw [List.map_flatMap, lo_flat]
def sums (k : Int) (as bs : List Int) : List Int := as.flatMap fun a => bs.map fun b => k + a + b
theorem mi_sums (k : Int) (as bs : List Int) : mi (sums k as bs) = oadd (oadd (some k) (mi as)) (mi bs) := by
  cases ea : mi as with
  | none =>
    rw [mi_none.mp ea]
    exact mi_none.mpr rfl
  | some a =>
    cases eb : mi bs with
    | none =>
      rw [mi_none.mp eb]
      refine mi_none.mpr ?_
      unfold sums
      rw [List.flatMap_eq_nil_iff]
      intro x _
      rfl
    | some b =>
      obtain ⟨a1, a2⟩ := mi_some.mp ea
      obtain ⟨b1, b2⟩ := mi_some.mp eb
      refine mi_some.mpr ⟨List.mem_flatMap.mpr ⟨a, a1, List.mem_map.mpr ⟨b, b1, rfl⟩⟩, fun x hx => ?_⟩
      obtain ⟨a', ha, hx⟩ := List.mem_flatMap.mp hx
      obtain ⟨b', hb, rfl⟩ := List.mem_map.mp hx
      have := a2 a' ha
      have := b2 b' hb
      omega
abbrev Code := List (List Int)
def Bk (L l m : Nat) : List (Nat × Nat) := (List.range (L - l)).flatMap fun a => (List.range m).map fun b => (l + a, b)
theorem Bk_mem {L l m : Nat} {q : Nat × Nat} : q ∈ Bk L l m ↔ l ≤ q.1 ∧ q.1 < L ∧ q.2 < m := by
  unfold Bk
  constructor
  · intro h
    obtain ⟨a, ha, h⟩ := List.mem_flatMap.mp h
    obtain ⟨b, hb, rfl⟩ := List.mem_map.mp h
    have := List.mem_range.mp ha
    have := List.mem_range.mp hb
    exact ⟨by show l ≤ l + a; omega, by show l + a < L; omega, by assumption⟩
  · rintro ⟨h1, h2, h3⟩
    refine List.mem_flatMap.mpr ⟨q.1 - l, List.mem_range.mpr (by omega), List.mem_map.mpr ⟨q.2, List.mem_range.mpr h3, ?_⟩⟩
    rw [show l + (q.1 - l) = q.1 by omega]
section
variable (L n : Nat) (h t : Nat → Nat → Nat → OI) (F : Nat → Nat → OI) (p : Nat → Int) (W : Nat → Nat → Int)
def vl (i j : Nat) (q : Nat × Nat) : OI := oadd (h q.1 i (i + q.2 + 1)) (t (q.1 + 1) (i + q.2 + 1) j)
structure Tb : Prop where
  dg : ∀ l j, l ≤ L → j ≤ n → t l j j = some 0
  tt : ∀ l i j, l ≤ L → i < j → j ≤ n → t l i j = lo ((Bk L l (j - i)).map (vl h t i j))
  ff : ∀ i j, i < j → j ≤ n → F i j = if j - i = 1 then some 0 else lo ((Bk L 0 (j - 1 - i)).map (vl h t i j))
  hh : ∀ l i j, l < L → i < j → j ≤ n → h l i j = oadd (some (p l * W i j)) (F i j)
  tn : ∀ l i j, l < L → i < j → j ≤ n → t l i j ≠ none
  fn : ∀ i j, i < j → j ≤ n → F i j ≠ none
  pw : ∀ l i j, l < L → i < j → j ≤ n → 0 < p l * W i j
variable (cd : Nat → Nat → Nat) (tl : Nat → Nat → Nat → Nat)
def ovr (l i j : Nat) : Nat := (((Bk L l (j - i)).filter fun q => decide (vl h t i j q = t l i j)).map fun q => cd i (i + q.2 + 1) * tl (q.1 + 1) (i + q.2 + 1) j).sum
variable (Cs : Nat → List Code) (Rs : Nat → Nat → List Code) (co : Nat → Code → Int)
def ahd (l : Nat) (c : Code) : Code := c.map fun w => (l : Int) :: w
def bhd (many : Nat) (q : Nat × Nat) : List Code := if q.2 + 1 < many then Rs (many - (q.2 + 1)) (q.1 + 1) else [[]]
def rw' (many low most : Nat) : List Code := (Bk L low most).flatMap fun q => (Cs (q.2 + 1)).flatMap fun c => (bhd Rs many q).map fun r => ahd q.1 c ++ r
structure En : Prop where
  c1 : Cs 1 = [[[]]]
  cs : ∀ m, 1 < m → Cs m = rw' L Cs Rs m 0 (m - 1)
  rs : ∀ m l, 1 ≤ m → l < L → Rs m l = rw' L Cs Rs m l m
  rL : ∀ m, Rs m L = []
  nil : ∀ i, co i [] = 0
  one : ∀ i, co i [[]] = 0
  app : ∀ i l m c r, c ∈ Cs m → co i (ahd l c ++ r) = p l * W i (i + m) + co i c + co (i + m) r
variable {L n h t F p W cd tl Cs Rs co}
theorem flat_congr {α β : Type} {f g : α → List β} : ∀ {xs : List α}, (∀ x ∈ xs, f x = g x) → xs.flatMap f = xs.flatMap g
  | [], _ => rfl
  | x :: xs, h => by rw [List.flatMap_cons, List.flatMap_cons, h x (.head _), flat_congr fun y hy => h y (.tail _ hy)]
end
end CT
end K98
set_option Elab.async false
set_option linter.all false
set_option maxRecDepth 100000
namespace K98
open PySem L2
abbrev Po (ns : List Int) : Prop := ∀ x ∈ ns, (1 : Int) ≤ x
theorem Wt_pos {ws : List Int} {i j : Nat} (bw : Po ws) (hij : i < j) (hj : j ≤ ws.length) : 1 ≤ Wt ws i j := by
  rw [Wt_is (by omega)]
  have : ∀ xs : List Int, xs ≠ [] → (∀ x ∈ xs, 1 ≤ x) → 1 ≤ xs.sum := by
    intro xs
    induction xs with
    | nil => intro h; exact absurd rfl h
    | cons x xs ih =>
      intro _ h
      rw [List.sum_cons]
      have h1 := h x (.head _)
      by_cases e : xs = []
      · rw [e, List.sum_nil]; omega
      · have := ih e fun y hy => h y (.tail _ hy)
        omega
  refine this _ (fun z => ?_) fun x hx => bw x (List.mem_of_mem_take (List.mem_of_mem_drop hx))
  have := congrArg List.length z
  rw [List.length_drop, List.length_take, List.length_nil] at this
  omega
theorem pl_pos {ps : List Int} {l : Nat} (bp : Po ps) (hl : l < ps.length) : 1 ≤ pl ps l := by
  have : pl ps l = ps[l]'hl := by
    unfold pl
    rw [List.getD_eq_getElem?_getD, List.getElem?_eq_getElem hl]
    rfl
  rw [this]
  exact bp _ (List.getElem_mem hl)
theorem F_some {ps ws : List Int} {F : Nat → Nat → OI} (hL : 2 ≤ ps.length) (own : ∀ i j, i < j → j ≤ ws.length → F i j = bdO ps ws F i j) : ∀ d i j, j - i ≤ d → i < j → j ≤ ws.length → F i j ≠ none
  | 0, i, j, hd, hij, hj => by omega
  | d + 1, i, j, hd, hij, hj => by
    rw [own i j hij hj]
    unfold bdO
    split
    · intro z; cases z
    · rename_i e
      intro z
      obtain ⟨r, hr⟩ := List.exists_mem_of_ne_nil _ (many_ne (L := ps.length) (i := i) (j := j) hL (by omega))
      cases ec : cost (pl ps) (Wt ws) F r with
      | some v => exact absurd (List.mem_map.mpr ⟨r, hr, ec⟩) (lo_none.mp z v)
      | none =>
        obtain ⟨q, hq, e'⟩ := cost_none.mp ec
        have hin := many_in hij r hr q hq
        exact F_some hL own d q.1 q.2.1 (by omega) hin.2.1 (by omega) e'
theorem Bk_succ {L l m : Nat} (h : l < L) : CT.Bk L l m = ((List.range m).map fun b => (l, b)) ++ CT.Bk L (l + 1) m := by
  unfold CT.Bk
  obtain ⟨k, hk⟩ : ∃ k, L - l = k + 1 := ⟨L - l - 1, by omega⟩
  rw [hk, show L - (l + 1) = k by omega, List.range_succ_eq_map, List.flatMap_cons, List.flatMap_map]
  congr 1
  refine CT.flat_congr fun a _ => ?_
  refine List.map_congr_left fun b _ => ?_
  rw [show l + (a + 1) = l + 1 + a by omega]
theorem lo_app2 (xs ys : List OI) : lo (xs ++ ys) = lo [lo xs, lo ys] := lo_append xs ys
theorem Fln.tt {ps ws : List Int} {h t : Nat → Nat → Nat → OI} {F : Nat → Nat → OI} (a : Fln ps ws h t F (fun _ _ => True)) : ∀ k l i j, l + k = ps.length → i < j → j ≤ ws.length → t l i j = lo ((CT.Bk ps.length l (j - i)).map (CT.vl h t i j))
  | 0, l, i, j, hl, hij, hj => by
    have e : l = ps.length := by omega
    subst e
    rw [a.fin.ed i j hij hj]
    unfold CT.Bk
    rw [Nat.sub_self]
    exact lo_nil.symm
  | k + 1, l, i, j, hl, hij, hj => by
    rw [(a.fin.eq i j hij hj trivial).et l (by omega), Bk_succ (by omega), List.map_append, lo_app2, a.tt k (l + 1) i j (by omega) hij hj, List.map_map]
    rfl
theorem Fln.tb {ps ws : List Int} {h t : Nat → Nat → Nat → OI} {F : Nat → Nat → OI} (a : Fln ps ws h t F (fun _ _ => True)) (hL : 2 ≤ ps.length) (bp : Po ps) (bw : Po ws) : CT.Tb ps.length ws.length h t F (pl ps) (Wt ws) := by
  have own := a.own
  have fn : ∀ i j, i < j → j ≤ ws.length → F i j ≠ none := fun i j hij hj => F_some hL own (j - i) i j (Nat.le_refl _) hij hj
  have hh : ∀ l i j, l < ps.length → i < j → j ≤ ws.length → h l i j = oadd (some (pl ps l * Wt ws i j)) (F i j) := fun l i j hl hij hj => (a.fin.eq i j hij hj trivial).eh l hl
  have tt : ∀ l i j, l ≤ ps.length → i < j → j ≤ ws.length → t l i j = lo ((CT.Bk ps.length l (j - i)).map (CT.vl h t i j)) := fun l i j hl hij hj => a.tt (ps.length - l) l i j (by omega) hij hj
  refine ⟨a.fin.dg, tt, fun i j hij hj => ?_, hh, fun l i j hl hij hj => ?_, fn, fun l i j hl hij hj => ?_⟩
  · rw [← a.bd i j hij hj trivial]
    unfold bnd
    split
    · rfl
    · unfold CT.Bk
      rw [Nat.sub_zero, List.map_flatMap, lo_flat]
      congr 1
      refine List.map_congr_left fun l _ => ?_
      rw [List.map_map, Nat.zero_add]
      rfl
  · rw [tt l i j (by omega) hij hj]
    intro z
    have hm : CT.vl h t i j (l, j - i - 1) ∈ (CT.Bk ps.length l (j - i)).map (CT.vl h t i j) := List.mem_map.mpr ⟨_, CT.Bk_mem.mpr ⟨Nat.le_refl _, hl, by show j - i - 1 < j - i; omega⟩, rfl⟩
    have ev : CT.vl h t i j (l, j - i - 1) = oadd (oadd (some (pl ps l * Wt ws i j)) (F i j)) (some 0) := by
      unfold CT.vl
      show oadd (h l i (i + (j - i - 1) + 1)) (t (l + 1) (i + (j - i - 1) + 1) j) = _
      rw [show i + (j - i - 1) + 1 = j by omega, hh l i j hl hij hj, a.fin.dg (l + 1) j (by omega) hj]
    rw [ev] at hm
    cases f : F i j with
    | none => exact fn i j hij hj f
    | some x =>
      rw [f] at hm
      exact lo_none.mp z _ hm
  · have h1 := pl_pos bp hl
    have h2 := Wt_pos bw hij hj
    exact Int.mul_pos (by omega) (by omega)
section
variable {P' : Program} {w : World} {K : PySem.W.Frag} {mg : Str → Option Value} {base : Heap} {f : Addr} {fd : FuncData}
def Way (H : Hp) (i : Nat) (x : V) (q : Nat × Nat) : Prop := ∃ a, x = .ref a ∧ H a = some (.tup [.int (q.1 : Int), .int ((i + q.2 + 1 : Nat) : Int)])
theorem Way.same {H H' : Hp} {i : Nat} {x : V} {q : Nat × Nat} (s : Same H H') (h : Way H i x q) : Way H' i x q := by
  obtain ⟨a, rfl, e⟩ := h
  exact ⟨a, rfl, s _ _ e⟩
theorem Way.upd {H : Hp} {i : Nat} {x : V} {q : Nat × Nat} {d : Addr} {zs : List V} {o : HO} (hd : H d = some (.lst zs)) (h : Way H i x q) : Way (L2.upd H d o) i x q := by
  obtain ⟨a, rfl, e⟩ := h
  exact ⟨a, rfl, by rw [upd_ne (ne_of e hd (by intro z; cases z))]; exact e⟩
abbrev NWy : List Str := ["self", "letter", "first", "end", "goal", "found", "way", "cut"]
def wys (L : Nat) (h t : Nat → Nat → Nat → OI) (l i j : Nat) : List (Nat × Nat) := (CT.Bk L l (j - i)).filter fun q => decide (CT.vl h t i j q = t l i j)
def spWays (C : Addr) : Sp := fun vs H Q _ => ∃ (r p : Addr) (ps ws : List Int) (X : Ad) (h t : Nat → Nat → Nat → OI) (l i j : Nat), vs = [.ref r, .int (l : Int), .int (i : Int), .int (j : Int)] ∧ PAt C H r p ps ws X h t ∧ ws.length ≤ 20 ∧ ps.length ≤ 10 ∧ l < ps.length ∧ i < j ∧ j ≤ ws.length ∧
  ∀ (d : Addr) xs H', Same H H' → H' d = some (.lst xs) → Paired (Way H' i) xs (wys ps.length h t l i j) → Q (.ref d) H'
theorem scWays : FnScope NWy ["self", "letter", "first", "end"] (defScope sWays) := ⟨rfl, rfl, rfl, by decide +kernel, rfl, by decide +kernel, by decide +kernel⟩
theorem scal_O (a b : OI) : scal (oV a) (oV b) = true := by cases a <;> cases b <;> rfl
theorem oV_inj {a b : OI} (h : oV a = oV b) : a = b := by
  cases a <;> cases b <;> first | rfl | cases h | skip
  rfl
set_option maxHeartbeats 8000000 in
theorem ok_ways {C : Addr} (F : Fun K "ways" "Parted.ways" sWays f fd) (GA : Fns P' w K mg base ["one", "other"] "added" spAdded 2) (rc : PC K C) (ml : mg "len" = none) (mr : mg "range" = none) : FnOk P' w K mg base CX0 3 f fd ["self", "letter", "first", "end"] (spWays C) := by
  refine F.ok (k := 2) scWays (fun vs H Q E h => ?_) (fun cdv A outer s H vs Q E hr h => ?_)
  · obtain ⟨r, p, ps, ws, X, h, t, l, i, j, rfl, _⟩ := h
    rfl
  obtain ⟨r, p, ps, ws, X, h, t, l, i, j, rfl, pa, w20, p10, hl, hij, hj, q⟩ := h
  refine ⟨_, pss_cons (ps_set (i := 4) scWays.nd rfl (Or.inl rfl) (pe_ix ix_list (pe_ix ix_list (pe_ix ix_list (pe_fld (pv 0) rfl) (pv 1) (fun _ _ => rfl)) (pv 2) (fun _ _ => rfl)) (pv 3) (fun _ _ => rfl)))
    (pss_cons (ps_set (i := 5) scWays.nd rfl (Or.inl rfl) (pe_lst pa_nil))
    (pss_cons (ps_for PassesOwn.never rfl (pi_range2 (by rfl) mr (pa_cons (pv 1) (pa_cons (pe_callB call_len_seq (by rfl) ml PySem.boot_len (pa_cons (pe_fld (pv 0) rfl) pa_nil)) pa_nil))) (pg_name (i := 6) scWays.nd rfl (Or.inl rfl))
      (pss_one (ps_for PassesOwn.never rfl (pi_range2 (by rfl) mr (pa_cons (pe_op op_add (pv 2) pe_int) (pa_cons (pe_op op_add (pv 3) pe_int) pa_nil))) (pg_name (i := 7) scWays.nd rfl (Or.inl rfl))
        (pss_one (ps_if (pt_cmpR op_eq (pe_call GA.ok hr (by rfl) GA.m GA.kp GA.b .nil pass0 (pa_cons (pe_ix ix_list (pe_ix ix_list (pe_ix ix_list (pe_fld (pv 0) rfl) (pv 6) (fun _ _ => rfl)) (pv 2) (fun _ _ => rfl)) (pv 7) (fun _ _ => rfl)) (pa_cons (pe_ix ix_list (pe_ix ix_list (pe_ix ix_list (pe_fld (pv 0) rfl) (pe_op op_add (pv 6) pe_int) (fun _ _ => rfl)) (pv 7) (fun _ _ => rfl)) (pv 3) (fun _ _ => rfl)) pa_nil))) (pv 4) (nomark _))
          (pss_one (ps_expr (pe_bm PySem.F.plainAttrs_list PySem.F.slot_list_append PySem.F.type_list_append mt_append (pv 5) (pa_cons (pe_tup (pa_cons (pv 6) (pa_cons (pv 7) pa_nil))) pa_nil)))) pss_nil)))))
    (pss_one (ps_ret (pv 5))))), ?_⟩
  obtain ⟨dx, ho⟩ := pa.ob
  have i1 : i < ws.length + 1 := by omega
  have j1 : j < ws.length + 1 := by omega
  refine ⟨_, rfl, r, C, dx, _, _, rfl, ho, rc.c, rc.nt, rfl, _, rfl, X.tt, _, _, _, rfl, rfl, SqL.of pa.tl.o, at_rng (k := l) (by omega), _, rfl, X.bt l, _, _, _, rfl, rfl, SqL.of (pa.tl.b l (by omega)), at_rng i1, _, rfl, X.ct l i, _, _, _, rfl, rfl, SqL.of (pa.tl.c l i (by omega) i1), at_rng j1, ?_⟩
  refine ⟨(by show 0 ≤ sizeLine; decide), fun d hd => ?_⟩
  have s1 := same_newO hd (.lst [])
  have g1 : upd H d (.lst []) d = some (.lst []) := upd_same
  generalize upd H d (.lst []) = H1 at s1 g1 ⊢
  refine ⟨_, rfl, _, rfl, r, C, dx, _, _, rfl, s1 _ _ ho, rc.c, rc.np, rfl, p, _, rfl, .inr (SqT.of (s1 _ _ pa.hp)), ?_⟩
  rw [List.length_map]
  refine ⟨_, _, rfl, ⟨by omega, by omega, by omega, by omega⟩, ?_⟩
  have e0 : ((ps.length : Int) - (l : Int)).toNat = ps.length - l := by omega
  rw [e0]
  let pw : Nat × Nat → Bool := fun q => decide (CT.vl h t i j q = t l i j)
  have fin : ∀ a, (((List.range a).flatMap fun a => (List.range (j - i)).map fun b => (l + a, b)).filter pw).length ≤ a * (j - i) := fun a => by
    refine Nat.le_trans (List.length_filter_le _ _) ?_
    induction a with
    | zero => simp
    | succ a ih => rw [List.range_succ, List.flatMap_append, List.length_append, Nat.succ_mul]; simp; simp at ih; omega
  refine for_range (fun a σ H' => Same H H' ∧ (∃ xs, H' d = some (.lst xs) ∧ Paired (Way H' i) xs (((List.range a).flatMap fun a => (List.range (j - i)).map fun b => (l + a, b)).filter pw)) ∧ ∃ x6 x7 : Option V, σ = [some (.ref r), some (.int (l : Int)), some (.int (i : Int)), some (.int (j : Int)), some (oV (t l i j)), some (.ref d), x6, x7])
    ⟨s1, ⟨[], g1, .nil⟩, _, _, rfl⟩ (fun a σ H2 ha hP => ?_) (fun σ H2 hP => ?_)
  · obtain ⟨s2, ⟨xs2, g2, w2⟩, x6, x7, rfl⟩ := hP
    have ea : (l : Int) + (a : Int) = ((l + a : Nat) : Int) := by push_cast; rfl
    rw [ea]
    refine ⟨_, rfl, _, _, rfl, rfl, _, rfl, _, _, rfl, rfl, _, _, rfl, ⟨by omega, by omega, by omega, by omega⟩, ?_⟩
    have e1 : (((j : Int) + 1) - ((i : Int) + 1)).toNat = j - i := by omega
    rw [e1]
    refine for_range (fun b σ H' => Same H H' ∧ (∃ xs, H' d = some (.lst xs) ∧ Paired (Way H' i) xs ((((List.range a).flatMap fun a => (List.range (j - i)).map fun b => (l + a, b)) ++ (List.range b).map fun b => (l + a, b)).filter pw)) ∧ ∃ x7 : Option V, σ = [some (.ref r), some (.int (l : Int)), some (.int (i : Int)), some (.int (j : Int)), some (oV (t l i j)), some (.ref d), some (.int ((l + a : Nat) : Int)), x7])
      ⟨s2, ⟨xs2, g2, by rw [List.range_zero, List.map_nil, List.append_nil]; exact w2⟩, _, rfl⟩ (fun b σ H3 hb hP => ?_) (fun σ H3 hP => ?_)
    · obtain ⟨s3, ⟨xs, g3, w3⟩, x7, rfl⟩ := hP
      have eb : (i : Int) + 1 + (b : Int) = ((i + b + 1 : Nat) : Int) := by push_cast; omega
      rw [eb]
      have pa3 := pa.same s3
      have hla : l + a < ps.length := by omega
      have hb1 : i + b + 1 < ws.length + 1 := by omega
      have lx : xs.length ≤ 500 := by
        rw [w3.length]
        have h1 := fin a
        have h2 : a * (j - i) ≤ 10 * 20 := Nat.mul_le_mul (by omega) (by omega)
        rw [List.filter_append, List.length_append]
        have h3 := List.length_filter_le pw ((List.range b).map fun b => (l + a, b))
        rw [List.length_map, List.length_range] at h3
        omega
      refine ⟨_, rfl, r, C, dx, _, _, rfl, s3 _ _ ho, rc.c, rc.nh, rfl, _, rfl, X.th, _, _, _, rfl, rfl, SqL.of pa3.hd.o, at_rng hla, _, rfl, X.bh (l + a), _, _, _, rfl, rfl, SqL.of (pa3.hd.b (l + a) hla), at_rng i1, _, rfl, X.ch (l + a) i, _, _, _, rfl, rfl, SqL.of (pa3.hd.c (l + a) i hla i1), at_rng hb1, ?_⟩
      refine ⟨_, rfl, r, C, dx, _, _, rfl, s3 _ _ ho, rc.c, rc.nt, rfl, _, rfl, _, _, rfl, rfl, X.tt, _, _, _, rfl, rfl, SqL.of pa3.tl.o, at_rng (k := l + a + 1) (by omega), _, rfl, X.bt (l + a + 1), _, _, _, rfl, rfl, SqL.of (pa3.tl.b (l + a + 1) (by omega)), at_rng hb1, _, rfl, X.ct (l + a + 1) (i + b + 1), _, _, _, rfl, rfl, SqL.of (pa3.tl.c (l + a + 1) (i + b + 1) (by omega) hb1), at_rng j1, ?_⟩
      refine ⟨_, _, rfl, _, rfl, scal_O _ _, _, rfl, ?_⟩
      have ef : (((List.range a).flatMap fun a => (List.range (j - i)).map fun b => (l + a, b)) ++ (List.range (b + 1)).map fun b => (l + a, b)).filter pw = (((List.range a).flatMap fun a => (List.range (j - i)).map fun b => (l + a, b)) ++ (List.range b).map fun b => (l + a, b)).filter pw ++ (if pw (l + a, b) = true then [(l + a, b)] else []) := by
        rw [List.range_succ, List.map_append, ← List.append_assoc, List.filter_append]
        congr 1
        show [(l + a, b)].filter pw = _
        rw [List.filter_cons]
        rfl
      refine ite2 (fun y => ?_) (fun y => ?_)
      · have y1 : pw (l + a, b) = true := decide_eq_true (oV_inj (of_decide_eq_true y))
        refine ⟨_, rfl, .inl ⟨rfl, _, SqL.of g3⟩, _, rfl, _, rfl, (by show 2 ≤ sizeLine; decide), fun tt htt => ?_⟩
        have s4 := same_newO htt (.tup [.int ((l + a : Nat) : Int), .int ((i + b + 1 : Nat) : Int)])
        have g4 := s4 _ _ g3
        have ht4 : upd H3 tt (.tup [.int ((l + a : Nat) : Int), .int ((i + b + 1 : Nat) : Int)]) tt = some (.tup [.int ((l + a : Nat) : Int), .int ((i + b + 1 : Nat) : Int)]) := upd_same
        generalize upd H3 tt (.tup [.int ((l + a : Nat) : Int), .int ((i + b + 1 : Nat) : Int)]) = H4 at s4 g4 ht4 ⊢
        refine ⟨d, _, _, rfl, rfl, g4, small1000 (by omega), same_upd hd (s3.trans s4), ⟨_, upd_same, ?_⟩, _, rfl⟩
        rw [ef, if_pos y1]
        exact L2.Paired.appendP (Paired.mapP w3 fun _ _ r => (r.same s4).upd g4) (.cons (Way.upd g4 ⟨tt, rfl, ht4⟩) .nil)
      · have y1 : ¬ pw (l + a, b) = true := fun z => y (decide_eq_true (congrArg oV (of_decide_eq_true z)))
        exact ⟨s3, ⟨xs, g3, by rw [ef, if_neg y1, List.append_nil]; exact w3⟩, _, rfl⟩
    · obtain ⟨s3, ⟨xs, g3, w3⟩, x7, rfl⟩ := hP
      refine ⟨s3, ⟨xs, g3, ?_⟩, _, _, rfl⟩
      rw [List.range_succ, List.flatMap_append]
      simpa using w3
  · obtain ⟨s2, ⟨xs2, g2, w2⟩, x6, x7, rfl⟩ := hP
    exact ⟨_, rfl, q d xs2 H2 s2 g2 w2⟩
end
end K98
set_option Elab.async false
set_option linter.all false
set_option maxRecDepth 100000
namespace K98
open PySem L2
namespace CT
section
variable {L n : Nat} {h t : Nat → Nat → Nat → OI} {F : Nat → Nat → OI} {p : Nat → Int} {W : Nat → Nat → Int}
theorem only (T : Tb L n h t F p W) {i w : Nat} (hw : i + w ≤ n) (h2 : 2 ≤ w) : ∀ q ∈ Bk L 0 w, vl h t i (i + w) q = t 0 i (i + w) → q.2 < w - 1 := by
  intro q hq ev
  by_cases z : q.2 < w - 1
  · exact z
  exfalso
  obtain ⟨_, q2, q3⟩ := Bk_mem.mp hq
  have e3 : i + q.2 + 1 = i + w := by omega
  have es : vl h t i (i + w) q = oadd (oadd (some (p q.1 * W i (i + w))) (F i (i + w))) (some 0) := by
    unfold vl
    rw [e3, T.hh q.1 i (i + w) q2 (by omega) hw, T.dg (q.1 + 1) (i + w) (by omega) hw]
  have et := T.tt 0 i (i + w) (Nat.zero_le _) (by omega) hw
  rw [show i + w - i = w by omega] at et
  have eF : F i (i + w) = lo ((Bk L 0 (w - 1)).map (vl h t i (i + w))) := by
    rw [T.ff i (i + w) (by omega) hw, if_neg (by omega), show i + w - 1 - i = w - 1 by omega]
  cases f : F i (i + w) with
  | none => exact T.fn i (i + w) (by omega) hw f
  | some x =>
    have hx := (lo_some.mp (eF.symm.trans f)).1
    obtain ⟨r, hr, er⟩ := List.mem_map.mp hx
    obtain ⟨a, b, c⟩ := Bk_mem.mp hr
    obtain ⟨m, em, hm⟩ := lo_le (List.mem_map.mpr ⟨r, Bk_mem.mpr ⟨a, b, (by omega : r.2 < w)⟩, er⟩ : some x ∈ (Bk L 0 w).map (vl h t i (i + w)))
    rw [← et] at em
    rw [es, f, em] at ev
    have ev : some (p q.1 * W i (i + w) + x + 0) = some m := ev
    have := Option.some.inj ev
    have pos := T.pw q.1 i (i + w) q2 (by omega) hw
    omega
end
end CT
theorem wys_mem {L l i j : Nat} {h t : Nat → Nat → Nat → OI} {q : Nat × Nat} : q ∈ wys L h t l i j ↔ q ∈ CT.Bk L l (j - i) ∧ CT.vl h t i j q = t l i j := by
  unfold wys
  rw [List.mem_filter, decide_eq_true_eq]
section
variable {L n : Nat} {h t : Nat → Nat → Nat → OI} {F : Nat → Nat → OI} {p : Nat → Int} {W : Nat → Nat → Int}
theorem wys_lt (T : CT.Tb L n h t F p W) {l i j : Nat} (hl : l < L) (hij : i < j) (hj : j ≤ n) {q : Nat × Nat} (hq : q ∈ wys L h t l i j) : l ≤ q.1 ∧ q.1 < L ∧ q.2 + 1 ≤ j - i ∧ (q.2 + 1 < j - i → q.1 + 1 < L) := by
  obtain ⟨h1, h2⟩ := wys_mem.mp hq
  obtain ⟨a, b, c⟩ := CT.Bk_mem.mp h1
  refine ⟨a, b, by omega, fun hlt => ?_⟩
  by_cases e : q.1 + 1 < L
  · exact e
  · exfalso
    have eL : q.1 + 1 = L := by omega
    have en : t (q.1 + 1) (i + q.2 + 1) j = none := by
      rw [T.tt (q.1 + 1) (i + q.2 + 1) j (by omega) (by omega) hj, eL]
      unfold CT.Bk
      rw [Nat.sub_self]
      exact lo_nil
    refine T.tn l i j hl hij hj ?_
    rw [← h2]
    unfold CT.vl
    rw [en]
    cases h q.1 i (i + q.2 + 1) <;> rfl
theorem wys_ne (T : CT.Tb L n h t F p W) {l i j : Nat} (hl : l < L) (hij : i < j) (hj : j ≤ n) : ∃ q r, wys L h t l i j = q :: r := by
  cases e : t l i j with
  | none => exact absurd e (T.tn l i j hl hij hj)
  | some x =>
    have et := T.tt l i j (by omega) hij hj
    have hx := (lo_some.mp (et.symm.trans e)).1
    obtain ⟨q, hq, ev⟩ := List.mem_map.mp hx
    have hm : q ∈ wys L h t l i j := wys_mem.mpr ⟨hq, by rw [ev, e]⟩
    cases eq : wys L h t l i j with
    | nil => rw [eq] at hm; cases hm
    | cons q r => exact ⟨q, r, rfl⟩
mutual
inductive Kc (L : Nat) (h t : Nat → Nat → Nat → OI) : Nat → Nat → CT.Code → Prop
  | one (i : Nat) : Kc L h t i (i + 1) [[]]
  | more (i j : Nat) (c : CT.Code) : i + 2 ≤ j → Kt L h t 0 i j c → Kc L h t i j c
inductive Kt (L : Nat) (h t : Nat → Nat → Nat → OI) : Nat → Nat → Nat → CT.Code → Prop
  | nil (l j : Nat) : Kt L h t l j j []
  | cons (l i j : Nat) (q : Nat × Nat) (c r : CT.Code) : q ∈ wys L h t l i j → Kc L h t i (i + q.2 + 1) c → Kt L h t (q.1 + 1) (i + q.2 + 1) j r → Kt L h t l i j (CT.ahd q.1 c ++ r)
end
end
def SameT (T : Addr) (H H' : Hp) : Prop := ∀ a o, a ≠ T → H a = some o → H' a = some o
theorem SameT.trans {T : Addr} {H H1 H2 : Hp} (a : SameT T H H1) (b : SameT T H1 H2) : SameT T H H2 := fun x o n e => b x o n (a x o n e)
theorem SameT.of {T : Addr} {H H' : Hp} (s : Same H H') : SameT T H H' := fun a o _ e => s a o e
theorem TabAt.same {H H' : Hp} {T : Addr} {lpos : Pos} {q : Str} (s : Same H H') (x : TabAt H T lpos q) : TabAt H' T lpos q := by
  rcases x with e | ⟨c, e, ec⟩
  · exact .inl (s _ _ e)
  · exact .inr ⟨c, s _ _ e, s _ _ ec⟩
theorem TabAt.tb {H : Hp} {T : Addr} {lpos : Pos} {q : Str} (x : TabAt H T lpos q) : ∃ ps, H T = some (.tbl ps) := by
  rcases x with e | ⟨c, e, _⟩
  · exact ⟨_, e⟩
  · exact ⟨_, e⟩
theorem PAt.sameT {C : Addr} {H H' : Hp} {r p T : Addr} {ps ws : List Int} {X : Ad} {h t : Nat → Nat → Nat → OI} {qs : Array Value} (a : PAt C H r p ps ws X h t) (hT : H T = some (.tbl qs)) (k : SameT T H H') : PAt C H' r p ps ws X h t := by
  obtain ⟨dx, ho⟩ := a.ob
  refine ⟨⟨dx, k _ _ (ne_of ho hT (by intro z; cases z)) ho⟩, k _ _ (ne_of a.hp hT (by intro z; cases z)) a.hp, k _ _ (ne_of a.su hT (by intro z; cases z)) a.su, ⟨k _ _ (ne_of a.hd.o hT (by intro z; cases z)) a.hd.o, fun l hl => k _ _ (ne_of (a.hd.b l hl) hT (by intro z; cases z)) (a.hd.b l hl), fun l i hl hi => k _ _ (ne_of (a.hd.c l i hl hi) hT (by intro z; cases z)) (a.hd.c l i hl hi)⟩, ⟨k _ _ (ne_of a.tl.o hT (by intro z; cases z)) a.tl.o, fun l hl => k _ _ (ne_of (a.tl.b l hl) hT (by intro z; cases z)) (a.tl.b l hl), fun l i hl hi => k _ _ (ne_of (a.tl.c l i hl hi) hT (by intro z; cases z)) (a.tl.c l i hl hi)⟩, a.ih, a.it, a.ix, a.ns⟩
def lamE : Expr := match defBody sKw with
  | [_, .Return (some (.Call _ [_, _, _, e] _ _)) _] => e
  | _ => .Constant .none 0 ⟨0, 0, 0, 0⟩
def lamP : Arguments := match lamE with | .Lambda p _ _ _ => p | _ => defArgs sKw
def lamB : Expr := match lamE with | .Lambda _ b _ _ => b | e => e
def lamS : Scope := match lamE with | .Lambda _ _ s _ => s | _ => defScope sKw
def lamO : Pos := match lamE with | .Lambda _ _ _ p => p | _ => ⟨0, 0, 0, 0⟩
abbrev lamQ : Str := (("kept_words" : Str) ++ ".<locals>.") ++ "<lambda>"
abbrev lamK (c : Addr) (c' : Addr) (pm ctv : Value) : Obj := PySem.W.kla_obj "<lambda>" lamQ lamP lamB lamS [("parted", c)] pm c' ctv
example : lamE = .Lambda lamP lamB lamS lamO := rfl
theorem scLam (c : Addr) : LamScope lamS ["start", "stop"] [("parted", c)] := ⟨rfl, rfl, rfl, (by show (["start", "stop", "parted"] : List Str).Nodup; decide +kernel), by decide +kernel, by decide +kernel, (by show ∀ y ∈ lamS.names, y.2 = .free → y.1 ∈ (["parted"] : List Str); decide +kernel), (by show ∀ x ∈ (["parted"] : List Str), lamS.names.lookup x = some .free; decide +kernel)⟩
end K98
set_option Elab.async false
set_option linter.all false
set_option maxRecDepth 100000
namespace K98
open PySem L2
section
variable {P' : Program} {w : World} {K : PySem.W.Frag} {mg : Str → Option Value} {base : Heap} {f : Addr} {fd : FuncData}
structure Cok (L : Nat) (h t : Nat → Nat → Nat → OI) (i j : Nat) (c : CT.Code) : Prop where
  k : Kc L h t i j c
  ln : c.length = j - i
  wd : ∀ u ∈ c, u.length ≤ j - i - 1
def TabTo (T : Addr) (H H' : Hp) : Prop := TabAt H' T lamO lamQ ∧ ∀ c', H T = some (.tbl (tabOf lamO c')) → H' T = some (.tbl (tabOf lamO c'))
abbrev NKw : List Str := ["parted", "first", "end"]
abbrev PPw : List Str := ["parted", "first", "end", "words_of"]
abbrev NPw : List Str := ["parted", "first", "end", "words_of", "words", "letter", "start", "way"]
def spKw (C T : Addr) (d : Nat) : Sp := fun vs H Q _ => ∃ (r p : Addr) (ps ws : List Int) (X : Ad) (h t : Nat → Nat → Nat → OI) (F : Nat → Nat → OI) (i j : Nat), vs = [.ref r, .int (i : Int), .int (j : Int)] ∧ PAt C H r p ps ws X h t ∧ CT.Tb ps.length ws.length h t F (pl ps) (Wt ws) ∧ 2 ≤ ps.length ∧ ps.length ≤ 10 ∧ ws.length ≤ 20 ∧ i < j ∧ j ≤ ws.length ∧ j - i ≤ d ∧ TabAt H T lamO lamQ ∧
  ∀ (a : Addr) xs cde H', SameT T H H' → TabTo T H H' → H' a = some (.lst xs) → Ws H' xs cde → Cok ps.length h t i j cde → Q (.ref a) H'
def lamR (C T : Addr) (d : Nat) : Addr → List V → Hp → VK → Prop := fun g vs H Q => ∃ (c c' : Addr) (pm ctv : Value) (oc : Obj) (u : Value) (r : Addr), H g = some (exA g (lamK c c' pm ctv)) ∧ H c' = some (cdA c' lamQ) ∧ H c = some (exA c oc) ∧ oc.data = .cell (some u) ∧ RelV (.ref r) u ∧ vs.length = 2 ∧
  spKw C T d (.ref r :: vs) (unt [c] H) (fun v H' => H' c = none → Q v (rtk [c] H H')) E0
theorem lam_ok {C T : Addr} {d k : Nat} (OK : FnOk P' w K mg base CX0 k f fd NKw (spKw C T d)) (mk : mg "kept_words" = some (.ref f)) (kk : PySem.W.keepIn K (.ref f) = true) (bk : Binds K fd NKw []) : LamOk P' w K mg base (k + 1) (lamR C T d) where
  at' := fun ⟨c, c', pm, ctv, oc, u, r, e, _⟩ => ⟨_, _, _, _, e⟩
  run := fun A outer s H g us vs Q hr e0 r' h => by
    obtain ⟨c, c', pm, ctv, oc, u, r, eg, ec', ec, ed, rv, lv, hsp⟩ := h
    have lu : us.length = 2 := by rw [← r'.length]; exact lv
    refine lam_call (k := k) (cvs := [.ref r]) (scLam c) hr e0 eg ec' (by simp) (fun i x c0 hi => ?_) rfl r' lv ?_ fun xe hr' => ⟨_, pe_call OK hr' (by rfl) mk kk bk .nil pass0 (pa_cons (pv 2) (pa_cons (pv 0) (pa_cons (pv 1) pa_nil))), ?_⟩
    · cases i with
      | zero =>
        have hi : (("parted" : Str), c) = (x, c0) := Option.some.inj hi
        cases hi
        exact ⟨oc, u, .ref r, ec, ed, rfl, rv⟩
      | succ i => simp at hi
    · match us, lu with
      | [u1, u2], _ => rfl
    · match vs, lv, hsp with
      | [v1, v2], _, hsp =>
        refine ⟨_, rfl, _, rfl, _, rfl, ?_⟩
        obtain ⟨r0, p, ps, ws, X, h, t, F, i, j, e, pa, T', p2, p10, w20, hij, hj, hd, tab, q⟩ := hsp
        refine ⟨r0, p, ps, ws, X, h, t, F, i, j, e, pa, T', p2, p10, w20, hij, hj, hd, tab, fun a xs cde H' s' tb' g' w' k' hn => ?_⟩
        exact q a xs cde H' s' tb' g' w' k' (hn c (by simp))
theorem SameT.upd {T d : Addr} {H H' : Hp} {o : HO} (hd : H d = none) (s : SameT T H H') : SameT T H (L2.upd H' d o) := fun a u n e => by
  rw [upd_ne (fun z => by rw [z, hd] at e; cases e)]
  exact s a u n e
theorem SameT.rtk {T c : Addr} {H H' : Hp} (s : SameT T (unt [c] H) H') : SameT T H (L2.rtk [c] H H') := fun a o n e => by
  by_cases z : a ∈ [c]
  · rw [rtk_in z]; exact e
  · rw [rtk_out z]; exact s a o n (by rw [unt_out z]; exact e)
theorem keep_rtk {c : Addr} {H H' : Hp} (n : H' c = none) : Same H' (L2.rtk [c] H H') := fun a o e => by
  rw [rtk_out (fun z => by rw [List.mem_singleton.mp z, n] at e; cases e)]
  exact e
theorem PAt.unt {C : Addr} {H : Hp} {r p c : Addr} {ps ws : List Int} {X : Ad} {h t : Nat → Nat → Nat → OI} {oc : Obj} (a : PAt C H r p ps ws X h t) (hc : H c = some (exA c oc)) : PAt C (L2.unt [c] H) r p ps ws X h t := by
  obtain ⟨dx, ho⟩ := a.ob
  have u : ∀ {b : Addr} {o : HO}, H b = some o → o ≠ exA c oc → L2.unt [c] H b = some o := fun {b o} e n => by
    rw [unt_out (fun z => by rw [List.mem_singleton.mp z, hc] at e; exact n (Option.some.inj e).symm)]
    exact e
  refine ⟨⟨dx, u ho (by intro z; cases z)⟩, u a.hp (by intro z; cases z), u a.su (by intro z; cases z), ⟨u a.hd.o (by intro z; cases z), fun l hl => u (a.hd.b l hl) (by intro z; cases z), fun l i hl hi => u (a.hd.c l i hl hi) (by intro z; cases z)⟩, ⟨u a.tl.o (by intro z; cases z), fun l hl => u (a.tl.b l hl) (by intro z; cases z), fun l i hl hi => u (a.tl.c l i hl hi) (by intro z; cases z)⟩, a.ih, a.it, a.ix, a.ns⟩
structure Clo (H : Hp) (g c c' r : Addr) : Prop where
  ex : ∃ (pm ctv : Value) (oc : Obj) (u : Value), H g = some (exA g (lamK c c' pm ctv)) ∧ H c' = some (cdA c' lamQ) ∧ H c = some (exA c oc) ∧ oc.data = .cell (some u) ∧ RelV (.ref r) u
  ne : c' ≠ c
theorem Clo.same {H H' : Hp} {g c c' r T : Addr} {qs : Array Value} (a : Clo H g c c' r) (hT : H T = some (.tbl qs)) (s : SameT T H H') : Clo H' g c c' r := by
  obtain ⟨pm, ctv, oc, u, e1, e2, e3, e4, e5⟩ := a.ex
  exact ⟨⟨pm, ctv, oc, u, s _ _ (ne_of e1 hT (by intro z; cases z)) e1, s _ _ (ne_of e2 hT (by intro z; cases z)) e2, s _ _ (ne_of e3 hT (by intro z; cases z)) e3, e4, e5⟩, a.ne⟩
theorem TabAt.unt {H : Hp} {T c : Addr} {lpos : Pos} {q : Str} {oc : Obj} (x : TabAt H T lpos q) (hc : H c = some (exA c oc)) (hn : ∀ c', H T = some (.tbl (tabOf lpos c')) → c' ≠ c) : TabAt (L2.unt [c] H) T lpos q := by
  obtain ⟨ps, e0⟩ := TabAt.tb x
  have nT : T ∉ [c] := fun z => (ne_of e0 hc (by intro z; cases z)) (List.mem_singleton.mp z)
  rcases x with e | ⟨c', e, ec⟩
  · exact .inl (by rw [unt_out nT]; exact e)
  · exact .inr ⟨c', by rw [unt_out nT]; exact e, by rw [unt_out (fun z => hn c' e (List.mem_singleton.mp z))]; exact ec⟩
def spPw (C T : Addr) (d : Nat) : Sp := fun vs H Q _ => ∃ (r p g c c' : Addr) (ps ws : List Int) (X : Ad) (h t : Nat → Nat → Nat → OI) (F : Nat → Nat → OI) (i j : Nat), vs = [.ref r, .int (i : Int), .int (j : Int), .ref g] ∧ PAt C H r p ps ws X h t ∧ CT.Tb ps.length ws.length h t F (pl ps) (Wt ws) ∧ 2 ≤ ps.length ∧ ps.length ≤ 10 ∧ ws.length ≤ 20 ∧ i + 2 ≤ j ∧ j ≤ ws.length ∧ j - i ≤ d + 1 ∧ H T = some (.tbl (tabOf lamO c')) ∧ Clo H g c c' r ∧
  ∀ (a : Addr) xs cde H', SameT T H H' → H' T = some (.tbl (tabOf lamO c')) → H' a = some (.lst xs) → Ws H' xs cde → Kt ps.length h t 0 i j cde → cde.length = j - i → (∀ u ∈ cde, u.length ≤ j - i - 1) → Q (.ref a) H'
theorem scPw : FnScope NPw PPw (defScope sPw) := ⟨rfl, rfl, rfl, by decide +kernel, rfl, by decide +kernel, by decide +kernel⟩
theorem ndPw : (("word" : Str) :: NPw).Nodup := by decide +kernel
set_option maxHeartbeats 16000000 in
theorem ok_pw {C T : Addr} {d k : Nat} (hk : 3 ≤ k) (F : Fun K "parted_words" "parted_words" sPw f fd) (LO : LamOk P' w K mg base k (lamR C T d)) (MW' : Mt P' w K mg base C "ways" ["self", "letter", "first", "end"] (spWays C) 3) (rcP : PC K C) : FnOk P' w K mg base CX0 (k + 1) f fd PPw (spPw C T d) := by
  refine F.ok (k := k) scPw (fun vs H Q E h => ?_) (fun cdv A outer s H vs Q E hr h => ?_)
  · obtain ⟨r, p, g, c, c', ps, ws, X, h, t, Fl, i, j, rfl, _⟩ := h
    rfl
  obtain ⟨r, p, g, c, c', ps, ws, X, h, t, Fl, i, j, rfl, pa, T', p2, p10, w20, hij, hj, hd, tab, clo, q⟩ := h
  have MW := MW'.up hk
  refine ⟨_, pss_cons (ps_set (i := 4) scPw.nd rfl (Or.inl rfl) (pe_lst pa_nil))
    (pss_cons (ps_set (i := 5) scPw.nd rfl (Or.inl rfl) pe_int)
    (pss_cons (ps_set (i := 6) scPw.nd rfl (Or.inl rfl) (pv 1))
    (pss_cons (ps_while PassesOwn.never (pt_cmpR op_lt (pv 6) (pv 2) (nomark _))
      (pss_cons (ps_set (i := 7) scPw.nd rfl (Or.inr rfl) (pe_ix ix_list (pe_meth (pv 0) rcP.c MW.m MW.ok hr MW.b .nil pass0 (pa_cons (pv 5) (pa_cons (pv 6) (pa_cons (pv 2) pa_nil)))) pe_int (fun _ _ => rfl)))
      (pss_cons (ps_expr (pe_bm PySem.F.plainAttrs_list PySem.F.slot_list_extend PySem.F.type_list_extend mt_extend (pv 4) (pa_cons (pe_compL (M := NPw) rfl (CompScope.of (defScope sPw) NPw rfl rfl rfl (by decide +kernel) (by decide +kernel) (by decide +kernel) rfl (by decide +kernel)) ndPw rfl (pe_mid (pe_callV (i := 3) LO hr rfl (Or.inl rfl) (pa_cons (pv 6) (pa_cons (pe_ix ix_tup (pv 7) pe_int (fun _ _ => rfl)) pa_nil)))) mo_mid
        (fun cl C s0 H0 fp => ⟨pts_nil, pe_op op_catG (pe_tup (pa_cons (pe_ix (ixT K) (pv 8) pe_int (fun _ _ => rfl)) pa_nil)) (pv 0)⟩)) pa_nil)))
      (pss_cons (ps_set (i := 5) scPw.nd rfl (Or.inl rfl) (pe_op op_add (pe_ix ix_tup (pv 7) pe_int (fun _ _ => rfl)) pe_int))
      (pss_one (ps_set (i := 6) scPw.nd rfl (Or.inl rfl) (pe_ix ix_tup (pv 7) pe_int (fun _ _ => rfl)))))))
    )
    (pss_one (ps_ret (pv 4)))))), ?_⟩
  refine ⟨(by show 0 ≤ sizeLine; decide), fun d1 hd1 => ?_⟩
  have s1 : Same H (upd H d1 (.lst [])) := same_newO hd1 _
  have g1 : upd H d1 (.lst []) d1 = some (.lst []) := upd_same
  generalize upd H d1 (.lst []) = H1 at s1 g1 ⊢
  refine ⟨_, rfl, ?_⟩
  refine ⟨fun m σ H' => SameT T H H' ∧ H' T = some (.tbl (tabOf lamO c')) ∧ ∃ (l a : Nat) (acc : CT.Code) (xs : List V) (x7 : Option V), m = j - a ∧ i ≤ a ∧ a ≤ j ∧ (a < j → l < ps.length) ∧ (a = i → l = 0) ∧ acc.length = a - i ∧ (∀ u ∈ acc, u.length ≤ j - i - 1) ∧ (∀ rr, Kt ps.length h t l a j rr → Kt ps.length h t 0 i j (acc ++ rr)) ∧ H' d1 = some (.lst xs) ∧ Ws H' xs acc ∧ σ = [some (.ref r), some (.int (i : Int)), some (.int (j : Int)), some (.ref g), some (.ref d1), some (.int (l : Int)), some (.int (a : Int)), x7],
    ⟨_, SameT.of s1, s1 _ _ tab, 0, i, [], [], _, rfl, Nat.le_refl _, by omega, fun _ => by omega, fun _ => rfl, by simp, fun u hu => (by cases hu), fun rr hr => hr, g1, .nil, rfl⟩, ?_⟩
  rintro m σ H2 ⟨s2, tab2, l, a, acc, xs, x7, rfl, hia, haj, hl, hl0, lac, wac, kac, g2, w2, rfl⟩
  refine ⟨_, rfl, _, rfl, _, _, rfl, rfl, _, rfl, ?_⟩
  refine ite2 (fun z => ?_) (fun z => ?_)
  rotate_left
  · have z1 : a = j := by
      have : ¬ (a : Int) < (j : Int) := fun y => z (decide_eq_true y)
      omega
    subst z1
    have kt := kac [] (.nil l a)
    rw [List.append_nil] at kt
    exact ⟨_, rfl, q d1 xs acc H2 s2 tab2 g2 w2 kt lac wac⟩
  have z1 : a < j := by
    have : (a : Int) < (j : Int) := of_decide_eq_true z
    omega
  have hl' := hl z1
  have pa2 := pa.sameT tab s2
  have clo2 := clo.same tab s2
  obtain ⟨dp, hop⟩ := pa2.ob
  obtain ⟨q0, qr, eqs⟩ := wys_ne T' hl' z1 hj
  have hq0 : q0 ∈ wys ps.length h t l a j := by rw [eqs]; exact .head _
  obtain ⟨b1, b2, b3, b4⟩ := wys_lt T' hl' z1 hj hq0
  have cut : a + q0.2 + 1 - a ≤ d := by
    by_cases y : a = i
    · have l0 := hl0 y
      subst y l0
      have hm := wys_mem.mp hq0
      have := CT.only T' (i := a) (w := j - a) (by omega) (by omega) q0 hm.1 (by rw [show a + (j - a) = j by omega]; exact hm.2)
      omega
    · omega
  refine ⟨_, fun σ' H' n' => n', ?_⟩
  refine ⟨_, rfl, r, dp, _, rfl, hop, rfl, _, rfl, _, rfl, _, rfl, r, p, ps, ws, X, h, t, l, a, j, rfl, pa2, w20, p10, hl', z1, hj, fun d2 ys H3 s3 g3 w3 => ?_⟩
  rw [eqs] at w3
  cases w3 with
  | cons rw0 wr =>
  obtain ⟨wt, rfl, hwt⟩ := rw0
  refine ⟨d2, _, _, _, rfl, rfl, SqL.of g3, (show atI (V.ref wt :: _) 0 = some (V.ref wt) from at_nat (i := 0) rfl), ?_⟩
  have g23 := s3 _ _ g2
  have tab3 := s3 _ _ tab2
  have clo3 := clo2.same tab2 (SameT.of s3)
  obtain ⟨pm, ctv, oc, u, e1, e2, e3, e4, e5⟩ := clo3.ex
  have pa3 := pa2.same s3
  have s03 : SameT T H H3 := s2.trans (SameT.of s3)
  refine ⟨_, rfl, .inl ⟨rfl, _, SqL.of g23⟩, ?_⟩
  refine ⟨fun v H' => ∃ al ws' cde, v = .ref al ∧ SameT T H3 H' ∧ H' T = some (.tbl (tabOf lamO c')) ∧ H' al = some (.lst ws') ∧ Ws H' ws' cde ∧ Cok ps.length h t a (a + q0.2 + 1) cde, ?_, fun v H4 hv => ?_⟩
  · refine ⟨g, _, _, _, _, rfl, e1, _, rfl, _, rfl, wt, _, _, _, rfl, rfl, SqT.of hwt, rfl, ?_⟩
    refine ⟨c, c', pm, ctv, oc, u, r, e1, e2, e3, e4, e5, rfl, ?_⟩
    have tu : TabAt (unt [c] H3) T lamO lamQ := TabAt.unt (.inr ⟨c', tab3, e2⟩) e3 fun c2 e => by
      rw [tab3] at e
      have : c' = c2 := by
        have h1 := HO.tbl.inj (Option.some.inj e)
        have h2 := congrArg (fun z : Array Value => z[2]?) h1
        have h3 : some (Value.ref c') = some (Value.ref c2) := h2
        cases h3
        rfl
      rw [← this]
      exact clo3.ne
    refine ⟨r, p, ps, ws, X, h, t, Fl, a, a + q0.2 + 1, rfl, pa3.unt e3, T', p2, p10, w20, by omega, by omega, cut, tu, fun al ws' cde H' s' tb' g' w' k' hn => ?_⟩
    have sk := keep_rtk (H := H3) hn
    have nT : T ∉ [c] := fun z => (ne_of tab3 e3 (by intro z; cases z)) (List.mem_singleton.mp z)
    exact ⟨al, ws', cde, rfl, s'.rtk, sk _ _ (tb'.2 c' (by rw [unt_out nT]; exact tab3)), sk _ _ g', Ws.same sk w', k'⟩
  obtain ⟨al, ws', cde, rfl, s4, tab4, g4, w4, k4⟩ := hv
  have neT : ∀ {b : Addr} {o : HO}, H3 b = some o → (∀ qs, o ≠ .tbl qs) → H4 b = some o := fun {b o} e n => s4 _ _ (ne_of e tab3 (n _)) e
  have g24 : H4 d1 = some (.lst xs) := neT g23 fun qs => by intro z; cases z
  have hwt4 : H4 wt = some (.tup [.int (q0.1 : Int), .int ((a + q0.2 + 1 : Nat) : Int)]) := neT hwt fun qs => by intro z; cases z
  have w24 : Ws H4 xs acc := Paired.mapP (Ws.same s3 w2) fun x y hx => by
    obtain ⟨b, zs, rfl, e, pp⟩ := hx
    exact ⟨b, zs, rfl, neT e (fun qs => by intro z; cases z), pp⟩
  have s04 : SameT T H H4 := s03.trans s4
  have lw : ws'.length = cde.length := w4.length
  refine ⟨al, _, rfl, SqL.of g4, fun e3' he3 => ?_⟩
  refine ⟨fun kk H' => Same H4 H' ∧ ∃ zs, H' e3' = some (.lst zs) ∧ Ws H' zs ((cde.take kk).map fun u => ((q0.1 : Nat) : Int) :: u), ⟨same_newO he3 _, [], upd_same, .nil⟩, fun kk H' _ hP => SqL.of (hP.1 _ _ g4), fun kk y H' hy hP => ?_, fun H5 hP => ?_⟩
  · obtain ⟨s5, zs, g5, w5⟩ := hP
    obtain ⟨o, ho2, ru⟩ := Paired.right_of w4 kk y hy
    obtain ⟨ua, rfl, hua⟩ := Wd.ti ru
    have kl := (List.getElem?_eq_some_iff.mp ho2).1
    have lu := k4.wd o (List.mem_of_getElem? ho2)
    refine turn_all ⟨_, rfl, wt, _, _, _, rfl, rfl, SqT.of (s5 _ _ hwt4), rfl, (by show 1 ≤ sizeLine; decide), fun t1 ht1 => ?_⟩
    have s6 := same_newO ht1 (.tup [.int (q0.1 : Int)])
    have h6 : upd H' t1 (.tup [.int (q0.1 : Int)]) t1 = some (.tup [.int (q0.1 : Int)]) := upd_same
    generalize upd H' t1 (.tup [.int (q0.1 : Int)]) = H6 at s6 h6 ⊢
    refine ⟨_, rfl, t1, ua, _, _, rfl, rfl, h6, s6 _ _ (s5 _ _ hua), small (by rw [List.length_map, List.length_singleton]; omega), fun p5 H7 s7 hp5 => ?_⟩
    refine ⟨zs, s7 _ _ (s6 _ _ g5), small1000 (by rw [w5.length, List.length_map, List.length_take, k4.ln]; omega), same_upd he3 ((s5.trans s6).trans s7), _, upd_same, ?_⟩
    rw [List.take_add_one, ho2, List.map_append]
    exact Paired.appendP (Ws.upd (s7 _ _ (s6 _ _ g5)) (Ws.same (s6.trans s7) w5)) (.cons (Wd.upd (s7 _ _ (s6 _ _ g5)) (Wd.of hp5)) .nil)
  obtain ⟨s5, zs5, g5, w5⟩ := hP
  rw [lw, List.take_length] at w5
  have lz : zs5.length = cde.length := by rw [w5.length, List.length_map]
  have lx : xs.length = acc.length := w2.length
  have g25 := s5 _ _ g24
  have hwt5 := s5 _ _ hwt4
  refine ⟨d1, e3', _, _, rfl, rfl, g25, g5, small (by rw [lx, lz, lac, k4.ln]; omega), ?_⟩
  have hwt6 : upd H5 d1 (.lst (xs ++ zs5)) wt = some (.tup [.int (q0.1 : Int), .int ((a + q0.2 + 1 : Nat) : Int)]) := by rw [upd_ne (ne_of hwt5 g25 (by intro z; cases z))]; exact hwt5
  have tab6 : upd H5 d1 (.lst (xs ++ zs5)) T = some (.tbl (tabOf lamO c')) := by rw [upd_ne (ne_of (s5 _ _ tab4) g25 (by intro z; cases z))]; exact s5 _ _ tab4
  have s06 : SameT T H (upd H5 d1 (.lst (xs ++ zs5))) := (s04.trans (SameT.of s5)).upd hd1
  refine ⟨_, rfl, wt, _, _, _, rfl, rfl, SqT.of hwt6, rfl, _, _, rfl, rfl, ?_⟩
  refine ⟨_, rfl, wt, _, _, _, rfl, rfl, SqT.of hwt6, rfl, ?_⟩
  refine ⟨_, (by omega : j - (a + q0.2 + 1) < j - a), s06, tab6, q0.1 + 1, a + q0.2 + 1, acc ++ CT.ahd q0.1 cde, xs ++ zs5, _, rfl, by omega, by omega, fun y => b4 (by omega), fun y => absurd y (by omega), ?_, fun u hu => ?_, fun rr hrr => ?_, upd_same, ?_, rfl⟩
  · rw [List.length_append, lac]
    unfold CT.ahd
    rw [List.length_map, k4.ln]
    omega
  · rcases List.mem_append.mp hu with y | y
    · exact wac u y
    · unfold CT.ahd at y
      obtain ⟨v, hv, rfl⟩ := List.mem_map.mp y
      have := k4.wd v hv
      rw [List.length_cons]
      by_cases ya : a = i
      · have l0 := hl0 ya
        subst ya l0
        have hm := wys_mem.mp hq0
        have := CT.only T' (i := a) (w := j - a) (by omega) (by omega) q0 hm.1 (by rw [show a + (j - a) = j by omega]; exact hm.2)
        omega
      · omega
  · rw [List.append_assoc]
    exact kac _ (.cons l a j q0 cde rr hq0 k4.k hrr)
  · exact Ws.upd g25 (Paired.appendP (Ws.same s5 w24) w5)
end
end K98
set_option Elab.async false
set_option linter.all false
set_option maxRecDepth 100000
namespace K98
open PySem L2
section
variable {P' : Program} {w : World} {K : PySem.W.Frag} {mg : Str → Option Value} {base : Heap} {f : Addr} {fd : FuncData}
structure LamC (K : PySem.W.Frag) (mg : Str → Option Value) (base : Heap) (c0 T bm : Addr) : Prop where
  hd : PySem.W.codeHdIn K c0 T = true
  hbm : mg "__builtins__" = some (.ref bm)
  bo : ∃ o, base.get? bm = some o ∧ o.cls = .type "module" ∧ o.dict = some builtinsNs ∧ o.data = .plain
  b1 : bm ≠ builtinsNs
  b2 : bm ≠ mainGlobals
  b3 : bm ≠ T
  b4 : mainGlobals ≠ T
theorem scKw : FnScope NKw NKw (defScope sKw) := ⟨rfl, rfl, rfl, by decide +kernel, rfl, by decide +kernel, by decide +kernel⟩
set_option maxHeartbeats 16000000 in
theorem ok_kw {C T c0 bm : Addr} {f2 : Addr} {fd2 : FuncData} (FK : Fun K "kept_words" "kept_words" sKw f fd) (hcd : fd.code = .ref c0) (LC : LamC K mg base c0 T bm) (mk : mg "kept_words" = some (.ref f)) (kk : PySem.W.keepIn K (.ref f) = true) (bk : Binds K fd NKw []) (FP : Fun K "parted_words" "parted_words" sPw f2 fd2) (mp : mg "parted_words" = some (.ref f2)) (kp : PySem.W.keepIn K (.ref f2) = true) (bp : Binds K fd2 PPw []) (MW : Mt P' w K mg base C "ways" ["self", "letter", "first", "end"] (spWays C) 3) (rcP : PC K C) : ∀ d, FnOk P' w K mg base CX0 (3 * d + 4) f fd NKw (spKw C T d) := by
  intro d
  induction d with
  | zero =>
    refine FK.okC (k := 3) scKw (fun vs H Q E h => ?_) (fun A outer s H vs Q E hr h => ?_)
    all_goals exfalso
    all_goals (obtain ⟨r, p, ps, ws, X, h, t, F, i, j, rfl, _, _, _, _, _, h1, _, h2, _⟩ := h; omega)
  | succ d ih =>
    have LO := lam_ok ih mk kk bk
    have OP := ok_pw (by omega) FP LO MW rcP
    refine FK.okC (k := 3 * d + 6) scKw (fun vs H Q E h => ?_) (fun A outer s H vs Q E hr h => ?_)
    · obtain ⟨r, p, ps, ws, X, h, t, F, i, j, rfl, _⟩ := h
      rfl
    obtain ⟨r, p, ps, ws, X, h, t, F, i, j, rfl, pa, T', p2, p10, w20, hij, hj, hd, tab, q⟩ := h
    have hcl : CellsOf (cxOf CX0 P' w K mg base NKw "kept_words" (defScope sKw) f fd.code A outer s H E).nox [("parted", s.heap.objs.size + 1)] := ⟨fun q hq => by rw [List.mem_singleton.mp hq]; rfl, fun q hq => rfl, fun q hq => by rw [List.mem_singleton.mp hq]; rfl⟩
    have LM : LamMk (cxOf CX0 P' w K mg base NKw "kept_words" (defScope sKw) f fd.code A outer s H E).nox c0 T bm := ⟨hcd, LC.hd, LC.hbm, LC.bo, LC.b1, LC.b2, LC.b3, LC.b4⟩
    refine ⟨_, pss_cons (ps_if (pt_cmpR op_eq (pe_op op_sub (pv 2) (pv 1)) pe_int (nomark _)) (pss_one (ps_ret (pe_lst (pa_cons (pe_tup pa_nil) pa_nil)))) pss_nil)
      (pss_one (ps_ret (pe_callT OP hr (by rfl) mp kp bp hcl (pa_cons (pv 0) (pa_cons (pv 1) (pa_cons (pv 2) (pa_cons (pe_lam LM (clos := [("parted", s.heap.objs.size + 1)]) rfl) pa_nil))))))), ?_⟩
    refine ⟨_, rfl, _, rfl, _, _, rfl, rfl, rfl, _, rfl, ?_⟩
    refine ite2 (fun z => ?_) (fun z => ?_)
    · have z1 : j = i + 1 := by
        have y : V.int ((j : Int) - (i : Int)) = V.int 1 := of_decide_eq_true z
        have := V.int.inj y
        omega
      subst z1
      refine ⟨(by show 0 ≤ sizeLine; decide), fun t0 ht0 => ?_⟩
      have s1 := same_newO ht0 (.tup [])
      have h1 : upd H t0 (.tup []) t0 = some (.tup []) := upd_same
      generalize upd H t0 (.tup []) = H1 at s1 h1 ⊢
      refine ⟨(by show 1 ≤ sizeLine; decide), fun l1 hl1 => ?_⟩
      have s2 := same_newO hl1 (.lst [.ref t0])
      have s12 := s1.trans s2
      exact q l1 [.ref t0] [[]] _ (SameT.of s12) ⟨TabAt.same s12 tab, fun c' e => s12 _ _ e⟩ upd_same (.cons (Wd.of (w := []) (s2 _ _ h1)) .nil) ⟨.one i, by simp, fun u hu => by
        have : u = [] := by simpa using hu
        subst this
        simp⟩
    have z1 : ¬ j - i = 1 := fun y => z (decide_eq_true (by show V.int ((j : Int) - (i : Int)) = V.int 1; congr 1; omega))
    refine ⟨_, rfl, _, rfl, _, rfl, tab, fun c' pm ctv g H2 L => ?_⟩
    intro os hos hnn
    have hn : H2 (s.heap.objs.size + 1) = none := hnn _ (by simp)
    obtain ⟨u, hu1, hu2⟩ := hos 0 0 "parted" (s.heap.objs.size + 1) (.ref r) rfl rfl rfl
    generalize s.heap.objs.size + 1 = c at hn hu1 L ⊢
    have st : Same H2 (trk' [c] os H2) := fun b o e => by
      rw [trk_out (fun y => by rw [List.mem_singleton.mp y, hn] at e; cases e)]
      exact e
    have sT : SameT T H H2 := fun b o n e => L.ot b o n e
    obtain ⟨qs, etb⟩ := TabAt.tb tab
    have tab2 : trk' [c] os H2 T = some (.tbl (tabOf lamO c')) := st _ _ L.tb
    have ec : trk' [c] os H2 c = some (exA c (os c)) := trk_in (by simp)
    have ecd := st _ _ L.cd
    refine ⟨r, p, g, c, c', ps, ws, X, h, t, F, i, j, rfl, (pa.sameT etb sT).same st, T', p2, p10, w20, by omega, hj, by omega, tab2, ⟨⟨pm, ctv, os c, u, st _ _ L.ob, ecd, ec, hu1, hu2⟩, fun y => by
      have := L.cd
      rw [y, hn] at this
      cases this⟩, fun a xs cde H3 s3 tab3 g3 w3 k3 l3 wd3 => ?_⟩
    have e3 : H3 c = some (exA c (os c)) := s3 _ _ (ne_of ec tab2 (by intro y; cases y)) ec
    have out : ∀ {b : Addr} {o : HO}, H3 b = some o → b ≠ c → unt [c] H3 b = some o := fun {b o} e n => by
      rw [unt_out (fun y => n (List.mem_singleton.mp y))]
      exact e
    have nec : ∀ {b : Addr} {o : HO}, H2 b = some o → b ≠ c := fun {b o} e y => by rw [y, hn] at e; cases e
    refine ⟨fun c2 hc2 => by rw [List.mem_singleton.mp hc2]; exact e3, q a xs cde _ (fun b o n e => ?_) ⟨.inr ⟨c', out tab3 (nec L.tb), out (s3 _ _ (ne_of ecd tab2 (by intro y; cases y)) ecd) (nec L.cd)⟩, fun c2 e => ?_⟩ ?_ ?_ ⟨.more i j cde (by omega) k3, l3, wd3⟩⟩
    · have e2 := L.ot b o n e
      exact out (s3 _ _ n (st _ _ e2)) (nec e2)
    · rw [L.sm c2 e]; exact out tab3 (nec L.tb)
    · exact out g3 (ne_of g3 e3 (by intro y; cases y))
    · exact Paired.mapP w3 fun x y hx => by
        obtain ⟨b, zs, rfl, e, pp⟩ := hx
        exact ⟨b, zs, rfl, out e (ne_of e e3 (by intro y; cases y)), pp⟩
end
end K98
set_option Elab.async false
set_option linter.all false
set_option maxRecDepth 100000
namespace K98
open PySem L2
section
variable {P' : Program} {w : World} {K : PySem.W.Frag} {mg : Str → Option Value} {base : Heap} {f : Addr} {fd : FuncData}
abbrev NCk : List Str := ["prices", "weights", "parted", "floors", "code"]
structure Fnd (H : Hp) (a ca d : Addr) (ra : Nat → Addr) (ps ws : List Int) (h t : Nat → Nat → Nat → OI) (F : Nat → Nat → OI) (cde : CT.Code) : Prop where
  o : H a = some (.tup [oV (F 0 ws.length), .ref ca, .ref d])
  fl : FlO H d ra ws.length F
  own : ∀ i j, i < j → j ≤ ws.length → F i j = bdO ps ws F i j
  cd : ∃ xs, H ca = some (.tup xs) ∧ Ws H xs cde
  ok : Cok ps.length h t 0 ws.length cde
  T : CT.Tb ps.length ws.length h t F (pl ps) (Wt ws)
def spCk (T : Addr) : Sp := fun vs H Q _ => ∃ (p q : Addr) (ps ws : List Int), vs = [.ref p, .ref q] ∧ TW H p ps ∧ TW H q ws ∧ Num ps ws ∧ Po ps ∧ Po ws ∧ TabAt H T lamO lamQ ∧
  ∀ (a ca d : Addr) ra h t F cde H', SameT T H H' → TabTo T H H' → Fnd H' a ca d ra ps ws h t F cde → Q (.ref a) H'
theorem scCk : FnScope NCk ["prices", "weights"] (defScope sCk) := ⟨rfl, rfl, rfl, by decide +kernel, rfl, by decide +kernel, by decide +kernel⟩
theorem ok_ck {C T : Addr} {k : Nat} (hk : 7 ≤ k) (F : Fun K "cheapest_kept" "cheapest_kept" sCk f fd) (G : Fns P' w K mg base ["prices", "weights"] "parted_least" (spPl C) 5) (M : Mt P' w K mg base C "bounds" ["self"] (spBounds C) 5) (GK : Fns P' w K mg base NKw "kept_words" (spKw C T 20) k) (rc : PC K C) (ml : mg "len" = none) (mt : mg "tuple" = none) : FnOk P' w K mg base CX0 (k + 1) f fd ["prices", "weights"] (spCk T) := by
  refine F.ok (k := k) scCk (fun vs H Q E h => ?_) (fun cdv A outer s H vs Q E hr h => ?_)
  · obtain ⟨p, q, ps, ws, rfl, _⟩ := h
    rfl
  obtain ⟨p, q, ps, ws, rfl, hp, hq, nu, pp, pw, tab, qq⟩ := h
  have G := G.up (show 5 ≤ k by omega)
  have M := M.up (show 5 ≤ k by omega)
  have w1 := nu.w1
  refine ⟨_, pss_cons (ps_set (i := 2) scCk.nd rfl (Or.inl rfl) (pe_call G.ok hr (by rfl) G.m G.kp G.b .nil pass0 (pa_cons (pv 0) (pa_cons (pv 1) pa_nil))))
    (pss_cons (ps_set (i := 3) scCk.nd rfl (Or.inl rfl) (pe_meth0 (pv 2) rc.c M.m M.ok hr M.b .nil pass0))
    (pss_cons (ps_set (i := 4) scCk.nd rfl (Or.inl rfl) (pe_callTy call_tuple_of (by rfl) mt b_tuple (pa_cons (pe_call GK.ok hr (by rfl) GK.m GK.kp GK.b .nil pass0 (pa_cons (pv 2) (pa_cons pe_int (pa_cons (pe_callB call_len_seq (by rfl) ml PySem.boot_len (pa_cons (pv 1) pa_nil)) pa_nil)))) pa_nil)))
    (pss_one (ps_ret (pe_tup (pa_cons (pe_ix ix_list (pe_ix ix_list (pv 3) pe_int (fun _ _ => rfl)) (pe_un un_neg pe_int) (fun _ _ => rfl)) (pa_cons (pv 4) (pa_cons (pv 3) pa_nil)))))))), ?_⟩
  refine ⟨_, rfl, _, rfl, p, q, ps, ws, rfl, hp, hq, nu, fun r X h t Fl H1 s1 pa fn => ?_⟩
  have T' := fn.tb nu.p2 pp pw
  obtain ⟨dx, ho⟩ := pa.ob
  refine ⟨_, rfl, r, dx, _, rfl, ho, rfl, r, p, ps, ws, X, h, t, rfl, pa, nu.w20, nu.p10, fun d ra H2 s2 hd h1 h2 h3 h4 h5 => ?_⟩
  have fl2 : FlO H2 d ra ws.length Fl := ⟨h4, fun i hi => by
    rw [h5 i hi, List.map_map]
    refine congrArg (fun z => some (HO.lst z)) (List.map_congr_left fun b hb => ?_)
    have := List.mem_range.mp hb
    show oV (bnd ps.length h t i (i + b + 1)) = oV (Fl i (i + b + 1))
    rw [fn.bd i (i + b + 1) (by omega) (by omega) trivial]⟩
  have s12 := s1.trans s2
  have pa2 := pa.same s2
  have tab2 := TabAt.same s12 tab
  refine ⟨_, rfl, _, rfl, q, _, rfl, .inr (SqT.of (s12 _ _ hq)), ?_⟩
  rw [List.length_map]
  refine ⟨r, p, ps, ws, X, h, t, Fl, 0, ws.length, rfl, pa2, T', nu.p2, nu.p10, nu.w20, by omega, Nat.le_refl _, by have := nu.w20; omega, tab2, fun al xs cde H3 s3 tb3 g3 w3 k3 => ?_⟩
  refine ⟨al, _, rfl, .inl ⟨SqL.of g3, fun ca hca => ?_⟩⟩
  have s4 := same_newO hca (.tup xs)
  have g4 : upd H3 ca (.tup xs) ca = some (.tup xs) := upd_same
  generalize upd H3 ca (.tup xs) = H4 at s4 g4 ⊢
  obtain ⟨qs, etb⟩ := TabAt.tb tab2
  have k34 : ∀ {b : Addr} {zs : List V}, H2 b = some (.lst zs) → H4 b = some (.lst zs) := fun {b zs} e => s4 _ _ (s3 _ _ (ne_of e etb (by intro z; cases z)) e)
  have fl4 : FlO H4 d ra ws.length Fl := ⟨k34 fl2.o, fun i hi => k34 (fl2.r i hi)⟩
  have e0 : atI ((rowO Fl ws.length 0).map oV) (-1) = some (oV (Fl 0 ws.length)) := by
    have hr0 : rowO Fl ws.length 0 = (List.range (ws.length - 1)).map (fun b => Fl 0 (0 + b + 1)) ++ [Fl 0 ws.length] := by
      show (List.range (ws.length - 0)).map _ = _
      rw [show ws.length - 0 = (ws.length - 1) + 1 by omega, List.range_succ, List.map_append]
      show _ ++ [Fl 0 (0 + (ws.length - 1) + 1)] = _
      rw [show 0 + (ws.length - 1) + 1 = ws.length by omega]
    rw [hr0, List.map_append]
    exact atI_last _ _
  refine ⟨_, rfl, d, _, _, _, rfl, rfl, SqL.of fl4.o, at_rng (k := 0) (by omega), _, rfl, ra 0, _, _, _, rfl, rfl, SqL.of (fl4.r 0 (by omega)), e0, _, rfl, _, rfl, (by show 3 ≤ sizeLine; decide), fun a ha => ?_⟩
  have s5 := same_newO ha (.tup [oV (Fl 0 ws.length), .ref ca, .ref d])
  have s45 := s4.trans s5
  refine qq a ca d ra h t Fl cde _ ?_ ?_ ⟨upd_same, fl4.same s5, fn.own, ⟨xs, s5 _ _ g4, Ws.same s45 w3⟩, k3, T'⟩
  · exact ((SameT.of s12).trans s3).trans (SameT.of s45)
  · exact ⟨TabAt.same s45 tb3.1, fun c' e => s45 _ _ (tb3.2 c' (s12 _ _ e))⟩
end
end K98
set_option Elab.async false
set_option linter.all false
set_option maxRecDepth 100000
namespace K98
namespace CT
def tabs (L : Nat) : Nat → (Nat → List Code) × (Nat → Nat → List Code)
  | 0 => (fun _ => [], fun _ _ => [])
  | m + 1 => (fun k => if k = m + 1 then (if m = 0 then [[[]]] else rw' L (tabs L m).1 (tabs L m).2 (m + 1) 0 m) else (tabs L m).1 k,
      fun k l => if k = m + 1 then (if l < L then rw' L (fun k => if k = m + 1 then (if m = 0 then [[[]]] else rw' L (tabs L m).1 (tabs L m).2 (m + 1) 0 m) else (tabs L m).1 k) (tabs L m).2 (m + 1) l (m + 1) else []) else (tabs L m).2 k l)
def Cs (L m : Nat) : List Code := (tabs L m).1 m
def Rs (L m l : Nat) : List Code := (tabs L m).2 m l
theorem flat_congr' {α β : Type} {f g : α → List β} : ∀ {xs : List α}, (∀ x ∈ xs, f x = g x) → xs.flatMap f = xs.flatMap g
  | [], _ => rfl
  | x :: xs, h => by rw [List.flatMap_cons, List.flatMap_cons, h x (.head _), flat_congr' fun y hy => h y (.tail _ hy)]
theorem rw_congr {L many low most : Nat} {C C' : Nat → List Code} {R R' : Nat → Nat → List Code} (hC : ∀ k, 1 ≤ k → k ≤ most → C k = C' k) (hR : ∀ k l, 1 ≤ k → k < many → R k l = R' k l) : rw' L C R many low most = rw' L C' R' many low most := by
  unfold rw'
  refine flat_congr' fun q hq => ?_
  obtain ⟨_, _, h3⟩ := Bk_mem.mp hq
  rw [hC (q.2 + 1) (by omega) (by omega)]
  have : bhd R many q = bhd R' many q := by
    unfold bhd
    split
    · exact hR _ _ (by omega) (by omega)
    · rfl
  rw [this]
theorem tabs_C {L k : Nat} : ∀ {m : Nat}, k ≤ m → (tabs L m).1 k = Cs L k
  | 0, h => by
    have : k = 0 := by omega
    subst this; rfl
  | m + 1, h => by
    by_cases e : k = m + 1
    · subst e; rfl
    · show (if k = m + 1 then _ else (tabs L m).1 k) = _
      rw [if_neg e]
      exact tabs_C (by omega)
theorem tabs_R {L k l : Nat} : ∀ {m : Nat}, k ≤ m → (tabs L m).2 k l = Rs L k l
  | 0, h => by
    have : k = 0 := by omega
    subst this; rfl
  | m + 1, h => by
    by_cases e : k = m + 1
    · subst e; rfl
    · show (if k = m + 1 then _ else (tabs L m).2 k l) = _
      rw [if_neg e]
      exact tabs_R (by omega)
theorem Cs_one {L : Nat} : Cs L 1 = [[[]]] := rfl
theorem Cs_eq {L m : Nat} (h : 1 < m) : Cs L m = rw' L (Cs L) (Rs L) m 0 (m - 1) := by
  obtain ⟨k, rfl⟩ : ∃ k, m = k + 1 := ⟨m - 1, by omega⟩
  show (if k + 1 = k + 1 then (if k = 0 then [[[]]] else rw' L (tabs L k).1 (tabs L k).2 (k + 1) 0 k) else _) = _
  rw [if_pos rfl, if_neg (by omega)]
  exact rw_congr (fun j _ hj => tabs_C hj) fun j l _ hj => tabs_R (by omega)
theorem Rs_eq {L m l : Nat} (h : 1 ≤ m) (hl : l < L) : Rs L m l = rw' L (Cs L) (Rs L) m l m := by
  obtain ⟨k, rfl⟩ : ∃ k, m = k + 1 := ⟨m - 1, by omega⟩
  show (if k + 1 = k + 1 then (if l < L then rw' L (tabs L (k + 1)).1 (tabs L k).2 (k + 1) l (k + 1) else []) else _) = _
  rw [if_pos rfl, if_pos hl]
  exact rw_congr (fun j _ hj => tabs_C hj) fun j l _ hj => tabs_R (by omega)
theorem Rs_end {L m l : Nat} (hl : ¬ l < L) : Rs L m l = [] := by
  cases m with
  | zero => rfl
  | succ k =>
    show (if k + 1 = k + 1 then (if l < L then _ else []) else _) = _
    rw [if_pos rfl, if_neg hl]
structure Gd (L m B : Nat) (c : Code) : Prop where
  ln : c.length = m
  wd : ∀ u ∈ c, u.length ≤ B ∧ ∀ x ∈ u, (0 : Int) ≤ x ∧ x < (L : Int)
theorem rw_gd {L many low most : Nat} {C : Nat → List Code} {R : Nat → Nat → List Code} {B : Nat} (hm : most ≤ many) (hB : most ≤ B) (hB2 : many ≤ B + 1) (hC : ∀ k, 1 ≤ k → k ≤ most → ∀ c ∈ C k, Gd L k (k - 1) c) (hR : ∀ k l, 1 ≤ k → k < many → ∀ r ∈ R k l, Gd L k k r) : ∀ c ∈ rw' L C R many low most, Gd L many B c := by
  intro c hc
  unfold rw' at hc
  obtain ⟨q, hq, hc⟩ := List.mem_flatMap.mp hc
  obtain ⟨b, hb, hc⟩ := List.mem_flatMap.mp hc
  obtain ⟨r, hr, rfl⟩ := List.mem_map.mp hc
  obtain ⟨_, h2, h3⟩ := Bk_mem.mp hq
  have g1 := hC (q.2 + 1) (by omega) (by omega) b hb
  have g2 : Gd L (many - (q.2 + 1)) B r := by
    unfold bhd at hr
    split at hr
    · have := hR _ _ (by omega) (by omega) r hr
      exact ⟨this.ln, fun u hu => ⟨by have := (this.wd u hu).1; omega, (this.wd u hu).2⟩⟩
    · have e : r = [] := by simpa using hr
      subst e
      exact ⟨by simp; omega, fun u hu => by cases hu⟩
  refine ⟨?_, fun u hu => ?_⟩
  · rw [List.length_append, g2.ln]
    unfold ahd
    rw [List.length_map, g1.ln]
    omega
  · rcases List.mem_append.mp hu with z | z
    · unfold ahd at z
      obtain ⟨v, hv, rfl⟩ := List.mem_map.mp z
      have := g1.wd v hv
      refine ⟨by rw [List.length_cons]; omega, fun x hx => ?_⟩
      rcases List.mem_cons.mp hx with z | z
      · rw [z]; exact ⟨by omega, by omega⟩
      · exact this.2 x z
    · exact g2.wd u z
theorem all_gd {L : Nat} : ∀ d m, m ≤ d → 1 ≤ m → (∀ c ∈ Cs L m, Gd L m (m - 1) c) ∧ ∀ l, ∀ r ∈ Rs L m l, Gd L m m r
  | 0, m, h, h1 => by omega
  | d + 1, m, h, h1 => by
    have ihC : ∀ k, 1 ≤ k → k < m → ∀ c ∈ Cs L k, Gd L k (k - 1) c := fun k a b => (all_gd d k (by omega) a).1
    have ihR : ∀ k l, 1 ≤ k → k < m → ∀ r ∈ Rs L k l, Gd L k k r := fun k l a b => (all_gd d k (by omega) a).2 l
    have hC : ∀ c ∈ Cs L m, Gd L m (m - 1) c := by
      by_cases e : m = 1
      · subst e
        rw [Cs_one]
        intro c hc
        have : c = [[]] := by simpa using hc
        subst this
        refine ⟨rfl, fun u hu => ?_⟩
        have : u = [] := by simpa using hu
        subst this
        exact ⟨by simp, fun x hx => by cases hx⟩
      · rw [Cs_eq (by omega)]
        exact rw_gd (by omega) (by omega) (by omega) (fun k a b => ihC k a (by omega)) ihR
    refine ⟨hC, fun l => ?_⟩
    by_cases hl : l < L
    · rw [Rs_eq h1 hl]
      refine rw_gd (by omega) (by omega) (by omega) (fun k a b => ?_) ihR
      by_cases e : k = m
      · subst e; exact hC
      · exact ihC k a (by omega)
    · rw [Rs_end hl]
      intro r hr
      cases hr
theorem Cs_gd {L m : Nat} (h : 1 ≤ m) : ∀ c ∈ Cs L m, Gd L m (m - 1) c := (all_gd m m (Nat.le_refl _) h).1
def pc (ps : List Int) (u : List Int) : Int := (u.map fun x => ps.getD x.toNat 0).sum
def co (ps ws : List Int) (i : Nat) (c : Code) : Int := (List.zipWith (fun w u => w * pc ps u) (ws.drop i) c).sum
theorem co_nil {ps ws : List Int} {i : Nat} : co ps ws i [] = 0 := by unfold co; rw [List.zipWith_nil_right]; rfl
theorem drop_cases (ws : List Int) (i : Nat) : (ws.length ≤ i ∧ ws.drop i = []) ∨ ∃ w, i < ws.length ∧ ws.drop i = w :: ws.drop (i + 1) ∧ (ws.take (i + 1)).sum = (ws.take i).sum + w := by
  by_cases h : i < ws.length
  · refine .inr ⟨ws[i], h, List.drop_eq_getElem_cons h, ?_⟩
    rw [List.take_succ_eq_append_getElem h, List.sum_append]
    simp
  · exact .inl ⟨by omega, List.drop_eq_nil_of_le (by omega)⟩
theorem co_one {ps ws : List Int} {i : Nat} : co ps ws i [[]] = 0 := by
  unfold co
  rcases drop_cases ws i with ⟨_, e⟩ | ⟨w, _, e, _⟩
  · rw [e]; rfl
  · rw [e]
    show (w * pc ps [] :: List.zipWith _ _ []).sum = 0
    rw [List.zipWith_nil_right]
    show w * 0 + 0 = 0
    omega
theorem co_app {ps ws : List Int} {l : Nat} {r : Code} : ∀ (c : Code) (i : Nat), co ps ws i (ahd l c ++ r) = pl ps l * Wt ws i (i + c.length) + co ps ws i c + co ps ws (i + c.length) r
  | [], i => by
    rw [co_nil]
    show co ps ws i r = pl ps l * Wt ws i (i + 0) + 0 + co ps ws (i + 0) r
    unfold Wt
    rw [Nat.add_zero, Int.sub_self, Int.mul_zero]
    omega
  | u :: c, i => by
    have ih := co_app (ps := ps) (ws := ws) (l := l) (r := r) c (i + 1)
    rw [show i + 1 + c.length = i + (u :: c).length by rw [List.length_cons]; omega] at ih
    rcases drop_cases ws i with ⟨hn, e⟩ | ⟨w, hn, e, es⟩
    · have e2 : ws.drop (i + (u :: c).length) = [] := List.drop_eq_nil_of_le (by omega)
      unfold co
      rw [e, e2, List.zipWith_nil_left, List.zipWith_nil_left, List.zipWith_nil_left]
      unfold Wt
      rw [List.take_of_length_le (by omega), List.take_of_length_le (by omega), Int.sub_self, Int.mul_zero]
      rfl
    · have e1 : co ps ws i (ahd l (u :: c) ++ r) = w * pc ps ((l : Int) :: u) + co ps ws (i + 1) (ahd l c ++ r) := by
        unfold co
        rw [e]
        exact List.sum_cons
      have e2 : co ps ws i (u :: c) = w * pc ps u + co ps ws (i + 1) c := by
        unfold co
        rw [e]
        exact List.sum_cons
      have e3 : pc ps ((l : Int) :: u) = pl ps l + pc ps u := by
        unfold pc
        rw [List.map_cons, List.sum_cons]
        rfl
      have e4 : Wt ws i (i + (u :: c).length) = w + Wt ws (i + 1) (i + (u :: c).length) := by
        unfold Wt
        omega
      rw [e1, e2, e3, e4, ih, Int.mul_add, Int.mul_add, Int.mul_comm w (pl ps l)]
      omega
theorem en {ps ws : List Int} : En ps.length (pl ps) (Wt ws) (Cs ps.length) (Rs ps.length) (co ps ws) where
  c1 := Cs_one
  cs := fun m h => Cs_eq h
  rs := fun m l h hl => Rs_eq h hl
  rL := fun m => Rs_end (by omega)
  nil := fun i => co_nil
  one := fun i => co_one
  app := fun i l m c r hc => by
    have hm : 1 ≤ m := by
      cases m with
      | zero => cases hc
      | succ k => omega
    have := (Cs_gd hm c hc).ln
    have h := co_app (ps := ps) (ws := ws) (l := l) (r := r) c i
    rw [this] at h
    exact h
end CT
end K98
set_option Elab.async false
set_option linter.all false
set_option maxRecDepth 100000
namespace K98
theorem t_is_F' {L n : Nat} {h t : Nat → Nat → Nat → OI} {F : Nat → Nat → OI} {p : Nat → Int} {W : Nat → Nat → Int} (T : CT.Tb L n h t F p W) (hL : 0 < L) {i j : Nat} (hij : i + 2 ≤ j) (hj : j ≤ n) : t 0 i j = F i j := by
  obtain ⟨w, rfl⟩ : ∃ w, j = i + w := ⟨j - i, by omega⟩
  have eF : F i (i + w) = lo ((CT.Bk L 0 (w - 1)).map (CT.vl h t i (i + w))) := by
    rw [T.ff i (i + w) (by omega) hj, if_neg (by omega), show i + w - 1 - i = w - 1 by omega]
  have et := T.tt 0 i (i + w) (Nat.zero_le _) (by omega) hj
  rw [show i + w - i = w by omega] at et
  cases e : t 0 i (i + w) with
  | none => exact absurd e (T.tn 0 i (i + w) hL (by omega) hj)
  | some x =>
    have hx := lo_some.mp (et.symm.trans e)
    obtain ⟨q, hq, ev⟩ := List.mem_map.mp hx.1
    have := CT.only T hj (by omega) q hq (by rw [ev, e])
    obtain ⟨a, b, c⟩ := CT.Bk_mem.mp hq
    rw [eF]
    refine (lo_some.mpr ⟨List.mem_map.mpr ⟨q, CT.Bk_mem.mpr ⟨a, b, this⟩, ev⟩, fun k hk => ?_⟩).symm
    obtain ⟨q', hq', ev'⟩ := List.mem_map.mp hk
    obtain ⟨a', b', c'⟩ := CT.Bk_mem.mp hq'
    exact hx.2 k (List.mem_map.mpr ⟨q', CT.Bk_mem.mpr ⟨a', b', by omega⟩, ev'⟩)
theorem kc_cost {ps ws : List Int} {h t : Nat → Nat → Nat → OI} {F : Nat → Nat → OI} (T : CT.Tb ps.length ws.length h t F (pl ps) (Wt ws)) (hL : 0 < ps.length) {i j : Nat} {c : CT.Code} (k : Kc ps.length h t i j c) : c.length = j - i ∧ i < j ∧ (∀ u ∈ c, ∀ x ∈ u, (0 : Int) ≤ x ∧ x < (ps.length : Int)) ∧ (j ≤ ws.length → some (CT.co ps ws i c) = F i j) := by
  refine Kc.rec (motive_1 := fun i j c _ => c.length = j - i ∧ i < j ∧ (∀ u ∈ c, ∀ x ∈ u, (0 : Int) ≤ x ∧ x < (ps.length : Int)) ∧ (j ≤ ws.length → some (CT.co ps ws i c) = F i j)) (motive_2 := fun l i j r _ => r.length = j - i ∧ i ≤ j ∧ (l ≤ ps.length → (i < j → l < ps.length) → j ≤ ws.length → (∀ u ∈ r, ∀ x ∈ u, (0 : Int) ≤ x ∧ x < (ps.length : Int)) ∧ some (CT.co ps ws i r) = t l i j) ∧ (∀ u ∈ r, ∀ x ∈ u, (0 : Int) ≤ x ∧ x < (ps.length : Int))) ?_ ?_ ?_ ?_ k
  · intro i
    refine ⟨by simp, by omega, fun u hu => ?_, fun hj => ?_⟩
    · have : u = [] := by simpa using hu
      subst this
      intro x hx
      cases hx
    · rw [CT.co_one, T.ff i (i + 1) (by omega) hj, if_pos (by omega)]
  · intro i j c hij kt ih
    refine ⟨ih.1, by omega, ih.2.2.2, fun hj => ?_⟩
    have := (ih.2.2.1 (Nat.zero_le _) (fun _ => hL) hj).2
    rw [this]
    exact t_is_F' T hL hij hj
  · intro l j
    refine ⟨by simp, Nat.le_refl _, fun hl _ hj => ⟨fun u hu => (by cases hu), ?_⟩, fun u hu => (by cases hu)⟩
    rw [CT.co_nil, T.dg l j hl hj]
  · intro l i j q c r hq kc kt ih1 ih2
    have hb := CT.Bk_mem.mp (wys_mem.mp hq).1
    have lt : ∀ u ∈ CT.ahd q.1 c ++ r, ∀ x ∈ u, (0 : Int) ≤ x ∧ x < (ps.length : Int) := fun u hu => by
      rcases List.mem_append.mp hu with y | y
      · unfold CT.ahd at y
        obtain ⟨v, hv, rfl⟩ := List.mem_map.mp y
        intro x hx
        rcases List.mem_cons.mp hx with z | z
        · rw [z]; exact ⟨by omega, by omega⟩
        · exact ih1.2.2.1 v hv x z
      · exact ih2.2.2.2 u y
    refine ⟨?_, by have := ih1.2.1; have := ih2.2.1; omega, fun hl hlt hj => ⟨lt, ?_⟩, lt⟩
    · rw [List.length_append, ih2.1]
      unfold CT.ahd
      rw [List.length_map, ih1.1]
      have := ih1.2.1; have := ih2.2.1
      omega
    · have hij : i < j := by have := ih1.2.1; have := ih2.2.1; omega
      obtain ⟨b1, b2, b3, b4⟩ := wys_lt T (hlt hij) hij hj hq
      have e1 := ih1.2.2.2 (by omega)
      have e2 := (ih2.2.2.1 (by omega) (fun y => b4 (by omega)) hj).2
      have ev := (wys_mem.mp hq).2
      unfold CT.vl at ev
      rw [T.hh q.1 i (i + q.2 + 1) b2 (by omega) (by omega), ← e1, ← e2] at ev
      rw [CT.co_app, ih1.1, show i + (i + q.2 + 1 - i) = i + q.2 + 1 by omega, ← ev]
      rfl
namespace CT
section
variable {L n : Nat} {h t : Nat → Nat → Nat → OI} {F : Nat → Nat → OI} {p : Nat → Int} {W : Nat → Nat → Int} {Cs : Nat → List Code} {Rs : Nat → Nat → List Code} {co : Nat → Code → Int}
theorem row_mi (T : Tb L n h t F p W) (E : En L p W Cs Rs co) {i w low most : Nat} (hw : i + w ≤ n) (hm : most ≤ w) (hl : low ≤ L)
    (ihC : ∀ m, 1 ≤ m → m ≤ most → mi ((Cs m).map (co i)) = F i (i + m))
    (ihR : ∀ m l k, 1 ≤ m → m < w → l < L → k + m ≤ n → mi ((Rs m l).map (co k)) = t l k (k + m)) :
    ∀ q ∈ Bk L low most, mi (((Cs (q.2 + 1)).flatMap fun c => (bhd Rs w q).map fun r => ahd q.1 c ++ r).map (co i)) = vl h t i (i + w) q := by
  intro q hq
  obtain ⟨q1, q2, q3⟩ := Bk_mem.mp hq
  have e : ((Cs (q.2 + 1)).flatMap fun c => (bhd Rs w q).map fun r => ahd q.1 c ++ r).map (co i) = sums (p q.1 * W i (i + q.2 + 1)) ((Cs (q.2 + 1)).map (co i)) ((bhd Rs w q).map (co (i + q.2 + 1))) := by
    unfold sums
    rw [List.map_flatMap, List.flatMap_map]
    have : ∀ c ∈ Cs (q.2 + 1), ((bhd Rs w q).map fun r => ahd q.1 c ++ r).map (co i) = ((bhd Rs w q).map (co (i + q.2 + 1))).map fun b => p q.1 * W i (i + q.2 + 1) + co i c + b := fun c hc => by
      rw [List.map_map, List.map_map]
      refine List.map_congr_left fun r _ => ?_
      show co i (ahd q.1 c ++ r) = _
      rw [E.app i q.1 (q.2 + 1) c r hc]
      rfl
    clear hq
    generalize Cs (q.2 + 1) = xs at this
    induction xs with
    | nil => rfl
    | cons x xs ih =>
      rw [List.flatMap_cons, List.flatMap_cons, this x (.head _), ih fun c hc => this c (.tail _ hc)]
  have c1 := ihC (q.2 + 1) (by omega) (by omega)
  have hB : mi ((bhd Rs w q).map (co (i + q.2 + 1))) = t (q.1 + 1) (i + q.2 + 1) (i + w) := by
    by_cases z : q.2 + 1 < w
    · unfold bhd
      rw [if_pos z]
      by_cases hL : q.1 + 1 < L
      · have r1 := ihR (w - (q.2 + 1)) (q.1 + 1) (i + q.2 + 1) (by omega) (by omega) hL (by omega)
        rw [show i + q.2 + 1 + (w - (q.2 + 1)) = i + w by omega] at r1
        exact r1
      · have eL : q.1 + 1 = L := by omega
        have en : t (q.1 + 1) (i + q.2 + 1) (i + w) = none := by
          rw [T.tt (q.1 + 1) (i + q.2 + 1) (i + w) (by omega) (by omega) hw, eL]
          unfold Bk
          rw [Nat.sub_self]
          exact lo_nil
        rw [en, eL, E.rL]
        exact mi_none.mpr rfl
    · unfold bhd
      rw [if_neg z]
      have ee : i + q.2 + 1 = i + w := by omega
      rw [ee, T.dg (q.1 + 1) (i + w) (by omega) hw]
      have e1 : [([] : Code)].map (co (i + w)) = [0] := by rw [List.map_singleton, E.nil]
      rw [e1]
      exact mi_some.mpr ⟨.head _, fun k hk => by simp at hk; omega⟩
  rw [e, mi_sums, hB, c1]
  show oadd (oadd (some (p q.1 * W i (i + q.2 + 1))) (F i (i + (q.2 + 1)))) _ = vl h t i (i + w) q
  unfold vl
  rw [T.hh q.1 i (i + q.2 + 1) q2 (by omega) (by omega)]
  rfl
theorem least (T : Tb L n h t F p W) (E : En L p W Cs Rs co) : ∀ d w i, w ≤ d → 1 ≤ w → i + w ≤ n →
    mi ((Cs w).map (co i)) = F i (i + w) ∧ ∀ l, l < L → mi ((Rs w l).map (co i)) = t l i (i + w)
  | 0, w, i, hd, h1, hw => by omega
  | d + 1, w, i, hd, h1, hw => by
    have ih := least T E d
    have hC' : ∀ m, 1 ≤ m → m < w → mi ((Cs m).map (co i)) = F i (i + m) := fun m a b => (ih m i (by omega) a (by omega)).1
    have hR' : ∀ m l k, 1 ≤ m → m < w → l < L → k + m ≤ n → mi ((Rs m l).map (co k)) = t l k (k + m) := fun m l k a b c e => (ih m k (by omega) a e).2 l c
    have blk : ∀ low most, most ≤ w → low ≤ L → (∀ m, 1 ≤ m → m ≤ most → mi ((Cs m).map (co i)) = F i (i + m)) → mi ((rw' L Cs Rs w low most).map (co i)) = lo ((Bk L low most).map (vl h t i (i + w))) := by
      intro low most hm hl hC
      have R := row_mi T E hw hm hl hC hR'
      unfold rw'
      rw [List.map_flatMap, mi_flat]
      congr 1
      exact List.map_congr_left fun q hq => R q hq
    have hCw : mi ((Cs w).map (co i)) = F i (i + w) := by
      by_cases e : w = 1
      · subst e
        rw [E.c1, T.ff i (i + 1) (by omega) hw, if_pos (by omega)]
        have e1 : [([[]] : Code)].map (co i) = [0] := by rw [List.map_singleton, E.one]
        rw [e1]
        exact mi_some.mpr ⟨.head _, fun k hk => by simp at hk; omega⟩
      · rw [E.cs w (by omega), blk 0 (w - 1) (by omega) (Nat.zero_le _) fun m a b => hC' m a (by omega), T.ff i (i + w) (by omega) hw, if_neg (by omega), show i + w - 1 - i = w - 1 by omega]
    refine ⟨hCw, fun l hl => ?_⟩
    rw [E.rs w l h1 hl, blk l w (Nat.le_refl _) (by omega) fun m a b => ?_, T.tt l i (i + w) (by omega) (by omega) hw, show i + w - i = w by omega]
    by_cases e : m = w
    · subst e; exact hCw
    · exact hC' m a (by omega)
end
end CT
theorem kc_in {ps ws : List Int} {h t : Nat → Nat → Nat → OI} {F : Nat → Nat → OI} (T : CT.Tb ps.length ws.length h t F (pl ps) (Wt ws)) (hL : 0 < ps.length) {i j : Nat} {c : CT.Code} (k : Kc ps.length h t i j c) : i < j ∧ (j ≤ ws.length → c ∈ CT.Cs ps.length (j - i)) := by
  refine Kc.rec (motive_1 := fun i j c _ => i < j ∧ (j ≤ ws.length → c ∈ CT.Cs ps.length (j - i))) (motive_2 := fun l i j r _ => i ≤ j ∧ (j ≤ ws.length → (i = j → r = []) ∧ (i < j → l < ps.length → ∃ q c' r', q ∈ wys ps.length h t l i j ∧ r = CT.ahd q.1 c' ++ r' ∧ c' ∈ CT.Cs ps.length (q.2 + 1) ∧ r' ∈ CT.bhd (CT.Rs ps.length) (j - i) q))) ?_ ?_ ?_ ?_ k
  · intro i
    refine ⟨by omega, fun _ => ?_⟩
    rw [show i + 1 - i = 1 by omega, CT.Cs_one]
    exact .head _
  · intro i j c hij kt ih
    refine ⟨by omega, fun hj => ?_⟩
    obtain ⟨q, c', r', hq, rfl, hc, hr⟩ := (ih.2 hj).2 (by omega) hL
    obtain ⟨w, rfl⟩ : ∃ w, j = i + w := ⟨j - i, by omega⟩
    rw [show i + w - i = w by omega] at hr ⊢
    obtain ⟨hb, ev⟩ := wys_mem.mp hq
    rw [show i + w - i = w by omega] at hb
    have lt := CT.only T hj (by omega) q hb ev
    obtain ⟨b1, b2, b3⟩ := CT.Bk_mem.mp hb
    rw [CT.Cs_eq (by omega)]
    unfold CT.rw'
    exact List.mem_flatMap.mpr ⟨q, CT.Bk_mem.mpr ⟨b1, b2, lt⟩, List.mem_flatMap.mpr ⟨c', hc, List.mem_map.mpr ⟨r', hr, rfl⟩⟩⟩
  · intro l j
    exact ⟨Nat.le_refl _, fun _ => ⟨fun _ => rfl, fun z => absurd z (Nat.lt_irrefl _)⟩⟩
  · intro l i j q c r hq kc kt ih1 ih2
    have i1 := ih1.1
    have i2 := ih2.1
    refine ⟨by omega, fun hj => ⟨fun z => by omega, fun hij hl => ⟨q, c, r, hq, rfl, ?_, ?_⟩⟩⟩
    · have := ih1.2 (by omega)
      rw [show i + q.2 + 1 - i = q.2 + 1 by omega] at this
      exact this
    · obtain ⟨b1, b2, b3, b4⟩ := wys_lt T hl hij hj hq
      unfold CT.bhd
      by_cases z : q.2 + 1 < j - i
      · rw [if_pos z]
        obtain ⟨q2, c2, r2, hq2, rfl, hc2, hr2⟩ := (ih2.2 hj).2 (by omega) (b4 z)
        rw [show j - i - (q.2 + 1) = j - (i + q.2 + 1) by omega, CT.Rs_eq (by omega) (b4 z)]
        unfold CT.rw'
        exact List.mem_flatMap.mpr ⟨q2, (wys_mem.mp hq2).1, List.mem_flatMap.mpr ⟨c2, hc2, List.mem_map.mpr ⟨r2, hr2, rfl⟩⟩⟩
      · rw [if_neg z, (ih2.2 hj).1 (by omega)]
        exact .head _
def pm (ps : List Int) (l : Nat) (x : Int) : List Int := ps.take l ++ [x] ++ ps.drop (l + 1)
theorem pm_len {ps : List Int} {l : Nat} {x : Int} (h : l < ps.length) : (pm ps l x).length = ps.length := by
  unfold pm
  rw [List.length_append, List.length_append, List.length_take, List.length_drop]
  show min l ps.length + 1 + (ps.length - (l + 1)) = ps.length
  omega
theorem pm_get {ps : List Int} {l k : Nat} {x : Int} (h : l < ps.length) : (pm ps l x).getD k 0 = if k = l then x else ps.getD k 0 := by
  unfold pm
  rw [List.getD_eq_getElem?_getD, List.getD_eq_getElem?_getD, List.append_assoc]
  by_cases z : k < l
  · rw [List.getElem?_append_left (by rw [List.length_take]; omega), List.getElem?_take_of_lt z, if_neg (by omega)]
  · rw [List.getElem?_append_right (by rw [List.length_take]; omega), List.length_take, Nat.min_eq_left (by omega)]
    by_cases e : k = l
    · subst e
      rw [if_pos rfl, Nat.sub_self]
      rfl
    · rw [if_neg e]
      obtain ⟨m, hm⟩ : ∃ m, k - l = m + 1 := ⟨k - l - 1, by omega⟩
      rw [hm]
      show ((ps.drop (l + 1))[m]?).getD 0 = _
      rw [List.getElem?_drop, show l + 1 + m = k by omega]
def sh (ws : List Int) (l : Int) (c : CT.Code) : Int := (List.zipWith (fun w u => w * ((u.count l : Nat) : Int)) ws c).sum
theorem pc_moved {ps : List Int} {l : Nat} {x : Int} (h : l < ps.length) : ∀ u : List Int, (∀ z ∈ u, (0 : Int) ≤ z ∧ z < (ps.length : Int)) → CT.pc (pm ps l x) u = CT.pc ps u + ((u.count (l : Int) : Nat) : Int) * (x - ps.getD l 0)
  | [], _ => by simp [CT.pc]
  | z :: u, hu => by
    have ih := pc_moved (x := x) h u fun y hy => hu y (.tail _ hy)
    obtain ⟨z0, z1⟩ := hu z (.head _)
    obtain ⟨k, rfl⟩ : ∃ k : Nat, z = k := ⟨z.toNat, by omega⟩
    have e1 : ∀ qs : List Int, CT.pc qs ((k : Int) :: u) = qs.getD k 0 + CT.pc qs u := fun qs => by
      unfold CT.pc
      rw [List.map_cons, List.sum_cons]
      rfl
    rw [e1, e1, ih, pm_get h, List.count_cons]
    by_cases e : k = l
    · subst e
      rw [if_pos rfl, beq_self_eq_true, if_pos rfl]
      push_cast
      rw [Int.add_mul]
      omega
    · have : ((k : Int) == (l : Int)) = false := by simpa using (show (k : Int) ≠ (l : Int) by omega)
      rw [if_neg e, this, if_neg (by decide), Nat.add_zero]
      omega
theorem co_moved {ps : List Int} {l : Nat} {x : Int} (h : l < ps.length) : ∀ (ws : List Int) (c : CT.Code), (∀ u ∈ c, ∀ z ∈ u, (0 : Int) ≤ z ∧ z < (ps.length : Int)) → CT.co (pm ps l x) ws 0 c = CT.co ps ws 0 c + sh ws (l : Int) c * (x - ps.getD l 0)
  | [], c, _ => by
    unfold CT.co sh
    simp
  | w :: ws, [], _ => by
    unfold CT.co sh
    simp
  | w :: ws, u :: c, hu => by
    have ih := co_moved (x := x) h ws c fun v hv => hu v (.tail _ hv)
    have e1 : ∀ qs : List Int, CT.co qs (w :: ws) 0 (u :: c) = w * CT.pc qs u + CT.co qs ws 0 c := fun qs => by
      unfold CT.co
      rfl
    have e2 : sh (w :: ws) (l : Int) (u :: c) = w * ((u.count (l : Int) : Nat) : Int) + sh ws (l : Int) c := rfl
    rw [e1, e1, e2, ih, pc_moved h u (hu u (.head _)), Int.mul_add, Int.add_mul, Int.mul_assoc]
    omega
def sW (ps : List Int) (l : Nat) (c : CT.Code) : Int := CT.pc ps (c.getD l [])
theorem co_movedW {ps : List Int} : ∀ (ws : List Int) (c : CT.Code) (l : Nat) (x : Int), l < ws.length → c.length = ws.length → CT.co ps (pm ws l x) 0 c = CT.co ps ws 0 c + sW ps l c * (x - ws.getD l 0)
  | [], _, l, x, h, _ => by cases h
  | w :: ws, [], l, x, _, h => by cases h
  | w :: ws, u :: c, l, x, h, e => by
    have e1 : ∀ (v : Int) (vs : List Int), CT.co ps (v :: vs) 0 (u :: c) = v * CT.pc ps u + CT.co ps vs 0 c := fun v vs => rfl
    cases l with
    | zero =>
      have ep : pm (w :: ws) 0 x = x :: ws := rfl
      have es : sW ps 0 (u :: c) = CT.pc ps u := rfl
      have eg : (w :: ws).getD 0 0 = w := rfl
      rw [ep, e1, e1, es, eg, Int.mul_sub, Int.mul_comm x, Int.mul_comm w]
      omega
    | succ l =>
      have ih := co_movedW (ps := ps) ws c l x (by simpa using h) (by simpa using e)
      have ep : pm (w :: ws) (l + 1) x = w :: pm ws l x := rfl
      have es : sW ps (l + 1) (u :: c) = sW ps l c := rfl
      have eg : (w :: ws).getD (l + 1) 0 = ws.getD l 0 := rfl
      rw [ep, e1, e1, es, eg, ih]
      omega
end K98
set_option Elab.async false
set_option linter.all false
set_option maxRecDepth 100000
set_option maxHeartbeats 1000000
namespace L2
open PySem PySem.Spec PyProof.Rows
theorem op_fdivB {X : Cx} : OpR X (binaryOp .FloorDiv) (rI (fun _ j => 0 < j ∧ j.natAbs.log2 < 9000) fun i j => .int (i / j)) := opI fun i j _ _ _ _ _ hc q => by
  have h1 : (0 : Int) < j := hc.1
  exact floordiv_int (by omega) (by rw [Int.fdiv_eq_ediv_of_nonneg i (by omega)]; exact q) (.inl (PyProof.noPylong_of_log2 hc.2))
section
variable {prog : Program} {w : World} {A : Around} {E : Value → Shared → Prop} {s : Shared}
end
abbrev B90 : Int := 1000000000000000000000000000000000000000000000000000000000000000000000000000000000000000000
end L2
set_option Elab.async false
set_option linter.all false
set_option maxRecDepth 100000
namespace K98
namespace Q
open PySem L2
theorem hu0 {A : Around} {k : Nat} (hr : Room k A) : A.units < cLine := by have := hu4 hr; omega
theorem pc_bd {ps : List Int} (hp : Bw ps) : ∀ ns : List Int, 0 ≤ CT.pc ps ns ∧ CT.pc ps ns ≤ (ns.length : Int) * B30
  | [] => ⟨by show (0 : Int) ≤ 0; decide, by show (0 : Int) ≤ 0 * B30; decide⟩
  | n :: ns => by
    obtain ⟨h1, h2⟩ := pc_bd hp ns
    have e : CT.pc ps (n :: ns) = ps.getD n.toNat 0 + CT.pc ps ns := by unfold CT.pc; simp
    have b : 0 ≤ ps.getD n.toNat 0 ∧ ps.getD n.toNat 0 ≤ B30 := by
      rw [List.getD_eq_getElem?_getD]
      cases hz : ps[n.toNat]? with
      | none => exact ⟨by decide, by decide⟩
      | some z => exact hp z (List.mem_of_getElem? hz)
    rw [e]
    have e2 : ((n :: ns).length : Int) * B30 = (ns.length : Int) * B30 + B30 := by
      rw [List.length_cons]
      push_cast
      rw [Int.add_mul]
      simp
    omega
def Lt (L : Nat) (ns : List Int) : Prop := ∀ z ∈ ns, (0 : Int) ≤ z ∧ z < (L : Int)
theorem ps_nv {X : Cx} {st : Stmt} : PS X st (fun _ _ _ => False) := fun _ _ _ _ _ _ h => h.elim
abbrev PCo : List Str := ["prices", "weights", "code"]
theorem zip_at {ps ws : List Int} {nss : List (List Int)} {i : Nat} {x : Int} {ns : List Int} (h1 : ws[i]? = some x) (h2 : nss[i]? = some ns) : (List.zipWith (fun x ns => x * CT.pc ps ns) ws nss)[i]? = some (x * CT.pc ps ns) := by
  rw [List.getElem?_zipWith, h1, h2]
theorem op_ltK {X : Cx} (K : PySem.W.Frag) (hu : X.A.units < cLine) (h : X.K = K := by rfl) : OpR X (compareOp .Lt) (rLtT K) := by subst h; exact op_ltT hu
section
variable {P' : Program} {w : World} {K : PySem.W.Frag} {mg : Str → Option Value} {base : Heap} {f : Addr} {fd : FuncData}
def al (m x : Int) : Bool := decide (0 ≤ x) && decide (x < m)
def alone (m : Int) (ns : List Int) : Bool := (ns.map (al m)).all id
def spAlone : Sp := fun vs H Q _ => ∃ (x : V) (ns : List Int) (m : Int), vs = [x, .int m] ∧ Wd H x ns ∧ ns.length ≤ 1000 ∧ ∀ H', Same H H' → Q (.bl (alone m ns)) H'
theorem scAlone : FnScope ["word", "letters"] ["word", "letters"] (defScope sAlone) := ⟨rfl, rfl, rfl, by decide +kernel, rfl, by decide +kernel, by decide +kernel⟩
theorem ndA : (("letter" : Str) :: ["word", "letters"]).Nodup := by decide +kernel
theorem ok_alone (F : Fun K "has_letters_alone" "has_letters_alone" sAlone f fd) (ma : mg "all" = none) : FnOk P' w K mg base CX0 1 f fd ["word", "letters"] spAlone := by
  refine F.ok (k := 0) scAlone (fun vs H Q E h => ?_) (fun cdv A outer s H vs Q E hr h => ?_)
  · obtain ⟨x, ns, m, rfl, _⟩ := h
    rfl
  obtain ⟨x, ns, m, rfl, hx, hl, q⟩ := h
  obtain ⟨a, rfl, ha⟩ := hx.ti
  refine ⟨_, pss_one (ps_ret (pe_callB (call_all rfl) (by rfl) ma b_all (pa_cons (pe_compT (M := ["word", "letters"]) rfl (CompScope.of (defScope sAlone) ["word", "letters"] rfl rfl rfl (by decide +kernel) (by decide +kernel) (by decide +kernel) rfl (by decide +kernel)) ndA rfl (pv 0) mo_var
    (fun cl C s0 H0 fp => ⟨pts_nil, pe_chain op_le op_lt pe_int (pv 0) (pv 2)⟩)) pa_nil))), ?_⟩
  refine ⟨_, rfl, a, _, rfl, SqT.of ha, fun d hd => ?_⟩
  refine ⟨fun k H' => Same H H' ∧ H' d = some (.lst (((ns.take k).map (al m)).map V.bl)), ⟨same_newO hd _, upd_same⟩, fun k H' _ hP => SqT.of (hP.1 _ _ ha), fun k x H' hx hP => ?_, fun H' hP => ?_⟩
  · obtain ⟨sm, hd'⟩ := hP
    rw [List.getElem?_map] at hx
    cases hz : ns[k]? with
    | none => rw [hz] at hx; cases hx
    | some z =>
      rw [hz] at hx; cases hx
      have hk := (List.getElem?_eq_some_iff.mp hz).1
      have fin : ∀ b, b = al m z → ∃ ys, H' d = some (.lst ys) ∧ ys.length < sizeLine ∧ (Same H (upd H' d (.lst (ys ++ [.bl b]))) ∧ upd H' d (.lst (ys ++ [.bl b])) d = some (.lst (((ns.take (k + 1)).map (al m)).map V.bl))) := fun b eb => by
        refine ⟨_, hd', ?_, same_upd hd sm, ?_⟩
        · rw [List.length_map, List.length_map, List.length_take]; exact small1000 (by omega)
        · rw [upd_same, List.take_add_one, hz, List.map_append, List.map_append, eb]; rfl
      refine turn_all ⟨_, rfl, _, _, rfl, rfl, _, rfl, ?_⟩
      refine ite2 (fun c => ?_) (fun c => ?_)
      · refine ⟨_, rfl, _, _, rfl, rfl, ?_⟩
        exact fin _ (by unfold al; rw [c]; rfl)
      · exact fin _ (by unfold al; rw [Bool.eq_false_iff.mpr c]; rfl)
  · obtain ⟨sm, hd'⟩ := hP
    rw [List.length_map, List.take_length] at hd'
    exact ⟨d, _, rfl, hd', q H' sm⟩
theorem alone_of {m : Int} {ns : List Int} (h : alone m ns = true) : ∀ x ∈ ns, 0 ≤ x ∧ x < m := fun x hx => by
  have q := List.all_eq_true.mp h (al m x) (List.mem_map_of_mem hx)
  unfold al at q
  simp only [id, Bool.and_eq_true, decide_eq_true_eq] at q
  exact q
theorem alone_iff {m : Int} {ns : List Int} : alone m ns = true ↔ ∀ x ∈ ns, 0 ≤ x ∧ x < m := by
  refine ⟨alone_of, fun h => ?_⟩
  unfold alone
  rw [List.all_eq_true]
  intro b hb
  obtain ⟨x, hx, rfl⟩ := List.mem_map.mp hb
  obtain ⟨h1, h2⟩ := h x hx
  unfold al
  simp [h1, h2]
def spPrice : Sp := fun vs H Q _ => ∃ (x y : V) (ps ns : List Int), vs = [x, y] ∧ Wd H x ps ∧ Wd H y ns ∧ ns.length ≤ 1000 ∧ Lt ps.length ns ∧ ∀ H', Same H H' → Q (.int (CT.pc ps ns)) H'
theorem scPrice : FnScope ["prices", "word"] ["prices", "word"] (defScope sPPrice) := ⟨rfl, rfl, rfl, by decide +kernel, rfl, by decide +kernel, by decide +kernel⟩
theorem ndP : (("letter" : Str) :: ["prices", "word"]).Nodup := by decide +kernel
theorem ok_price (F : Fun K "word_price" "word_price" sPPrice f fd) (G : Fns P' w K mg base ["word", "letters"] "has_letters_alone" spAlone 1) (ml : mg "len" = none) (ms : mg "sum" = none) : FnOk P' w K mg base CX0 2 f fd ["prices", "word"] spPrice := by
  refine F.ok (k := 1) scPrice (fun vs H Q E h => ?_) (fun cdv A outer s H vs Q E hr h => ?_)
  · obtain ⟨x, y, ps, ns, rfl, _⟩ := h
    rfl
  obtain ⟨x, y, ps, ns, rfl, hx, hy, hl, lt, q1⟩ := h
  obtain ⟨p, rfl, hp⟩ := hx.ti
  obtain ⟨a, rfl, ha⟩ := hy.ti
  refine ⟨_, pss_cons (ps_if (pt_not (pt_val (pe_call G.ok hr (by rfl) G.m G.kp G.b .nil pass0 (pa_cons (pv 1) (pa_cons (pe_callB call_len_seq (by rfl) ml PySem.boot_len (pa_cons (pv 0) pa_nil)) pa_nil))))) (pss_one ps_nv) pss_nil)
    (pss_one (ps_ret (pe_callB (call_sum rfl) (by rfl) ms b_sum (pa_cons (pe_compT (M := ["prices", "word"]) rfl (CompScope.of (defScope sPPrice) ["prices", "word"] rfl rfl rfl (by decide +kernel) (by decide +kernel) (by decide +kernel) rfl (by decide +kernel)) ndP rfl (pv 1) mo_var
      (fun cl C s0 H0 fp => ⟨pts_nil, pe_ix (ixT K) (pv 1) (pv 0) (fun _ _ => rfl)⟩)) pa_nil)))), ?_⟩
  refine ⟨_, rfl, _, rfl, p, _, rfl, .inr (SqT.of hp), .ref a, ns, _, rfl, Wd.of ha, hl, fun H1 s1 => ?_⟩
  rw [List.length_map]
  refine ⟨_, rfl, ?_⟩
  have c1 : alone (ps.length : Int) ns = true := alone_iff.mpr lt
  rw [c1]
  refine iteF ?_
  have hn := alone_of c1
  refine ⟨_, rfl, a, _, rfl, SqT.of (s1 _ _ ha), fun d hd => ?_⟩
  refine ⟨fun k H' => Same H1 H' ∧ H' d = some (.lst (((ns.take k).map fun x => ps.getD x.toNat 0).map V.int)), ⟨same_newO hd _, upd_same⟩, fun k H' _ hP => SqT.of (hP.1 _ _ (s1 _ _ ha)), fun k x H' hx hP => ?_, fun H' hP => ?_⟩
  · obtain ⟨sm, hd'⟩ := hP
    rw [List.getElem?_map] at hx
    cases hz : ns[k]? with
    | none => rw [hz] at hx; cases hx
    | some z =>
      rw [hz] at hx; cases hx
      have hk := (List.getElem?_eq_some_iff.mp hz).1
      obtain ⟨z0, z1⟩ := hn z (List.mem_of_getElem? hz)
      obtain ⟨n, rfl⟩ : ∃ n : Nat, z = n := ⟨z.toNat, by omega⟩
      have hn' : n < ps.length := by omega
      refine turn_all ⟨_, rfl, _, rfl, p, _, _, _, rfl, rfl, SqT.of (sm _ _ (s1 _ _ hp)), at_int (List.getElem?_eq_getElem hn'), _, hd', ?_, same_upd hd sm, ?_⟩
      · rw [List.length_map, List.length_map, List.length_take]; exact small1000 (by omega)
      · rw [upd_same, List.take_add_one, hz, List.map_append, List.map_append]
        simp [List.getD_eq_getElem?_getD, List.getElem?_eq_getElem hn']
  · obtain ⟨sm, hd'⟩ := hP
    rw [List.length_map, List.take_length] at hd'
    exact ⟨d, _, rfl, hd', q1 H' (s1.trans sm)⟩
def spPCost : Sp := fun vs H Q _ => ∃ (p wa c : Addr) (ps ws : List Int) (xs : List V) (nss : CT.Code), vs = [.ref p, .ref wa, .ref c] ∧ TW H p ps ∧ TW H wa ws ∧ H c = some (.tup xs) ∧ Ws H xs nss ∧ nss.length = ws.length ∧ nss.length ≤ 100 ∧ (∀ ns ∈ nss, Lt ps.length ns ∧ ns.length ≤ 1000) ∧ Bw ps ∧ Bw ws ∧ ∀ H', Same H H' → Q (.int (CT.co ps ws 0 nss)) H'
theorem scPCst : FnScope PCo PCo (defScope sPCost) := ⟨rfl, rfl, rfl, by decide +kernel, rfl, by decide +kernel, by decide +kernel⟩
theorem ndPC : (("weight" : Str) :: "word" :: PCo).Nodup := by decide +kernel
set_option maxHeartbeats 2000000 in
theorem ok_pcost (F : Fun K "cost" "cost" sPCost f fd) (G : Fns P' w K mg base ["prices", "word"] "word_price" spPrice 2) (ml : mg "len" = none) (ms : mg "sum" = none) (mz : mg "zip" = none) : FnOk P' w K mg base CX0 3 f fd PCo spPCost := by
  refine F.ok (k := 2) scPCst (fun vs H Q E h => ?_) (fun cdv A outer s H vs Q E hr h => ?_)
  · obtain ⟨p, wa, c, ps, ws, xs, nss, rfl, _⟩ := h
    rfl
  obtain ⟨p, wa, c, ps, ws, xs, nss, rfl, hp, hw, hc, hx, el, l1, l2, bp, bw, q2⟩ := h
  have lx : xs.length = nss.length := hx.length
  refine ⟨_, pss_cons (ps_if (pt_cmpR op_ne (pe_callB call_len_seq (by rfl) ml PySem.boot_len (pa_cons (pv 2) pa_nil)) (pe_callB call_len_seq (by rfl) ml PySem.boot_len (pa_cons (pv 1) pa_nil)) (nomark _)) (pss_one ps_nv) pss_nil)
    (pss_one (ps_ret (pe_callB (call_sum rfl) (by rfl) ms b_sum (pa_cons (pe_compZ K true true (M := PCo) rfl (CompScope.of (defScope sPCost) PCo rfl rfl rfl (by decide +kernel) (by decide +kernel) (by decide +kernel) rfl (by decide +kernel)) ndPC rfl rfl (by rfl) mz (pa_cons (pv 1) (pa_cons (pv 2) pa_nil)) (mo_cons mo_var (mo_cons mo_var mo_nil))
      (fun cl C s0 H0 fp pins σ bk => ⟨pts_nil, pe_op op_mulB (pv 0) (pe_call G.ok hr (by rfl) G.m G.kp G.b .nil pass0 (pa_cons (pv 2) (pa_cons (pv 1) pa_nil)))⟩)) pa_nil)))), ?_⟩
  refine ⟨_, rfl, c, _, rfl, .inr (SqT.of hc), _, rfl, wa, _, rfl, .inr (SqT.of hw), rfl, _, rfl, ?_⟩
  rw [List.length_map, lx]
  rw [el, decide_eq_true rfl]
  refine iteF ?_
  refine ⟨_, rfl, _, rfl, wa, c, _, _, rfl, SqT.of hw, SqT.of hc, by rw [List.length_map]; omega, fun d hd => ?_⟩
  refine ⟨fun i H' => Same H H' ∧ H' d = some (.lst (((List.zipWith (fun x ns => x * CT.pc ps ns) ws nss).take i).map V.int)), ⟨same_newO hd _, upd_same⟩,
    fun i H' _ hP => ⟨SqT.of (hP.1 _ _ hw), SqT.of (hP.1 _ _ hc)⟩, fun i x y pp H' hx' hy' hP hpp => ?_, fun H' hP => ?_⟩
  · obtain ⟨sm, hd'⟩ := hP
    rw [List.getElem?_map] at hx'
    cases hz : ws[i]? with
    | none => rw [hz] at hx'; cases hx'
    | some wt =>
    rw [hz] at hx'; cases hx'
    obtain ⟨ns, hn, ry⟩ := Paired.right_of hx i y hy'
    have iw := (List.getElem?_eq_some_iff.mp hz).1
    have s2 := same_newO hpp (.tup [.int wt, y])
    have dn : d ≠ pp := ne_of_none hd' hpp
    refine turnZ_all ⟨_, rfl, _, rfl, _, rfl, .ref p, y, ps, ns, rfl, Wd.of (s2 _ _ (sm _ _ hp)), Wd.same (sm.trans s2) ry, (l2 ns (List.mem_of_getElem? hn)).2, (l2 ns (List.mem_of_getElem? hn)).1, fun H3 s3 => ?_⟩
    · obtain ⟨b1, b2⟩ := pc_bd bp ns
      obtain ⟨b3, b4⟩ := bw wt (List.mem_of_getElem? hz)
      have b5 : (ns.length : Int) ≤ 1000 := by have := (l2 ns (List.mem_of_getElem? hn)).2; omega
      have b6 : (ns.length : Int) * B30 ≤ 1000 * B30 := Int.mul_le_mul_of_nonneg_right b5 (by decide)
      refine ⟨_, _, rfl, rfl, ⟨⟨b3, by unfold B30 at *; omega⟩, ⟨b1, by unfold B30 at *; omega⟩⟩, _, s3 _ _ (s2 _ _ hd'), ?_, same_upd hd ((sm.trans s2).trans s3), ?_⟩
      · rw [List.length_map, List.length_take, List.length_zipWith]; exact small1000 (by omega)
      · rw [upd_same, List.take_add_one, zip_at hz hn, List.map_append]; rfl
  · obtain ⟨sm, hd'⟩ := hP
    rw [List.length_map] at hd'
    rw [List.take_of_length_le (by rw [List.length_zipWith]; omega)] at hd'
    exact ⟨d, _, rfl, hd', q2 H' sm⟩
def risL (ws : List (List Int)) : List Bool := (List.range (ws.length - 1)).map fun i => HT.lexLt (ws.getD i []) (ws.getD (i + 1) [])
def rises (ws : List (List Int)) : Bool := (risL ws).all id
def spRises : Sp := fun vs H Q _ => ∃ c xs ws, vs = [.ref c] ∧ H c = some (.tup xs) ∧ Ws H xs ws ∧ ws.length ≤ 100 ∧ ∀ H', Same H H' → Q (.bl (rises ws)) H'
theorem scRises : FnScope ["code"] ["code"] (defScope sRises) := ⟨rfl, rfl, rfl, by decide +kernel, rfl, by decide +kernel, by decide +kernel⟩
theorem ndT : (("thing" : Str) :: ["code"]).Nodup := by decide +kernel
theorem ok_rises (F : Fun K "rises" "rises" sRises f fd) (ml : mg "len" = none) (mr : mg "range" = none) (ma : mg "all" = none) : FnOk P' w K mg base CX0 1 f fd ["code"] spRises := by
  refine F.ok (k := 0) scRises (fun vs H Q E h => ?_) (fun cdv A outer s H vs Q E hr h => ?_)
  · obtain ⟨c, xs, ws, rfl, _⟩ := h
    rfl
  obtain ⟨c, xs, ws, rfl, hc, hw, l1, q⟩ := h
  have lx : xs.length = ws.length := hw.length
  refine ⟨_, pss_one (ps_ret (pe_callB (call_all rfl) (by rfl) ma b_all (pa_cons (pe_compR1 (M := ["code"]) rfl (CompScope.of (defScope sRises) ["code"] rfl rfl rfl (by decide +kernel) (by decide +kernel) (by decide +kernel) rfl (by decide +kernel)) ndT rfl (by rfl) mr
    (pa_cons (pe_op op_sub (pe_callB call_len_seq (by rfl) ml PySem.boot_len (pa_cons (pv 0) pa_nil)) pe_int) pa_nil) (mo_cons (mo_op mo_rI0 (mo_len (mo_cons mo_var mo_nil)) mo_c) mo_nil)
    (fun cl C s0 H0 fp => ⟨pts_nil, pe_cmpR (op_ltK K (hu0 hr)) (pe_ix (ixT K) (pv 1) (pv 0) (fun _ _ => rfl)) (pe_ix (ixT K) (pv 1) (pe_op op_add (pv 0) pe_int) (fun _ _ => rfl)) (nomark _)⟩)) pa_nil))), ?_⟩
  refine ⟨_, rfl, c, _, rfl, .inr (SqT.of hc), _, _, rfl, rfl, _, rfl, by omega, by omega, fun d hd => ?_⟩
  have en : ((xs.length : Int) - 1).toNat = ws.length - 1 := by omega
  dsimp only
  rw [en]
  refine ⟨fun i H' => Same H H' ∧ H' d = some (.lst (((risL ws).take i).map V.bl)), ⟨same_newO hd _, upd_same⟩, fun i H' hi hP => ?_, fun H' hP => ?_⟩
  · obtain ⟨sm, hd'⟩ := hP
    have e0 : (0 : Int) + (i : Int) = ((i : Nat) : Int) := by omega
    have e1 : ((i : Nat) : Int) + 1 = ((i + 1 : Nat) : Int) := by omega
    have u1 : ws[i]? = some ws[i] := List.getElem?_eq_getElem (by omega)
    have u2 : ws[i + 1]? = some ws[i + 1] := List.getElem?_eq_getElem (by omega)
    obtain ⟨y1, hy1, r1⟩ := L2.Paired.left_of hw _ _ u1
    obtain ⟨y2, hy2, r2⟩ := L2.Paired.left_of hw _ _ u2
    obtain ⟨a1, rfl, t1⟩ := Wd.ti r1
    obtain ⟨a2, rfl, t2⟩ := Wd.ti r2
    rw [e0]
    refine turn_all ⟨_, rfl, _, rfl, c, _, _, _, rfl, rfl, SqT.of (sm _ _ hc), at_nat hy1, _, rfl, _, rfl, _, _, rfl, rfl, c, _, _, _, rfl, rfl, SqT.of (sm _ _ hc), (by rw [e1]; exact at_nat hy2), a1, a2, _, _, rfl, rfl, SqT.of (sm _ _ t1), SqT.of (sm _ _ t2), _, hd', ?_, same_upd hd sm, ?_⟩
    · rw [List.length_map, List.length_take]; exact small1000 (by omega)
    · have ri : (risL ws)[i]? = some (HT.lexLt ws[i] ws[i + 1]) := by
        unfold risL
        rw [List.getElem?_map, List.getElem?_range hi]
        simp [List.getD_eq_getElem?_getD, u1, u2]
      rw [upd_same, List.take_add_one, ri, List.map_append]
      rfl
  · obtain ⟨sm, hd'⟩ := hP
    rw [List.take_of_length_le (by unfold risL; simp)] at hd'
    exact ⟨d, _, rfl, hd', q H' sm⟩
end
section
variable {P' : Program} {w : World} {K : PySem.W.Frag} {mg : Str → Option Value} {base : Heap} {f : Addr} {fd : FuncData}
def spBegins : Sp := fun vs H Q _ => ∃ (a b : Addr) (u v' : List Int), vs = [.ref a, .ref b] ∧ TW H a u ∧ TW H b v' ∧ ∀ H', Same H H' → Q (.bl (decide (v'.take u.length = u))) H'
theorem scBegins : FnScope ["one", "other"] ["one", "other"] (defScope sBegins) := ⟨rfl, rfl, rfl, by decide +kernel, rfl, by decide +kernel, by decide +kernel⟩
theorem ok_begins (F : Fun K "begins" "begins" sBegins f fd) (ml : mg "len" = none) : FnOk P' w K mg base CX0 1 f fd ["one", "other"] spBegins := by
  refine F.ok (k := 0) scBegins (fun vs H Q E h => ?_) (fun cdv A outer s H vs Q E hr h => ?_)
  · obtain ⟨a, b, u, v', rfl, _⟩ := h
    rfl
  obtain ⟨a, b, u, v', rfl, ha, hb, q⟩ := h
  refine ⟨_, pss_one (ps_ret (pe_cmpR (op_eqTI (hu4 hr)) (pe_slice sl_tupG (pv 1) po_none (po_some (pe_callB call_len_seq (by rfl) ml PySem.boot_len (pa_cons (pv 0) (pa_nil))))) (pv 0) (nomark _))), ?_⟩
  refine ⟨_, rfl, _, rfl, a, _, rfl, .inr (SqT.of ha), _, rfl, b, _, rfl, hb, fun p1 H1 s1 h1 => ?_⟩
  rw [List.length_map, cut_to, ← List.map_take] at h1
  exact ⟨_, rfl, _, _, rtup_ints h1, rtup_ints (s1 _ _ ha), q _ s1⟩
def Apt (c : CT.Code) : Prop := ∀ (i j : Nat) u v', i < j → c[i]? = some u → c[j]? = some v' → v'.take u.length ≠ u ∧ u.take v'.length ≠ v'
abbrev NCc : List Str := ["code", "one", "other"]
def spClash : Sp := fun vs H Q _ => ∃ (a : Addr) (xs : List V) (c : CT.Code), vs = [.ref a] ∧ H a = some (.tup xs) ∧ Ws H xs c ∧ c.length ≤ 100 ∧ ∀ H' y, Same H H' → (Apt c → y = .non) → (¬ Apt c → ∃ t, y = .ref t) → Q y H'
theorem scClash : FnScope NCc ["code"] (defScope sClash) := ⟨rfl, rfl, rfl, by decide +kernel, rfl, by decide +kernel, by decide +kernel⟩
set_option maxHeartbeats 4000000 in
theorem ok_clash (F : Fun K "clash" "clash" sClash f fd) (GB : Fns P' w K mg base ["one", "other"] "begins" spBegins 1) (ml : mg "len" = none) (mr : mg "range" = none) : FnOk P' w K mg base CX0 2 f fd ["code"] spClash := by
  refine F.ok (k := 1) scClash (fun vs H Q E h => ?_) (fun cdv A outer s H vs Q E hr h => ?_)
  · obtain ⟨a, xs, c, rfl, _⟩ := h
    rfl
  obtain ⟨a, xs, c, rfl, ha, hx, lc, q⟩ := h
  have lx : xs.length = c.length := hx.length
  refine ⟨_, pss_cons (ps_for PassesOwn.never rfl (pi_range1 (by rfl) mr (pa_cons (pe_callB call_len_seq (by rfl) ml PySem.boot_len (pa_cons (pv 0) (pa_nil))) (pa_nil))) (pg_name (i := 1) scClash.nd rfl (Or.inl rfl)) (pss_one (ps_for PassesOwn.never rfl (pi_range2 (by rfl) mr (pa_cons (pe_op op_add (pv 1) (pe_int)) (pa_cons (pe_callB call_len_seq (by rfl) ml PySem.boot_len (pa_cons (pv 0) (pa_nil))) (pa_nil)))) (pg_name (i := 2) scClash.nd rfl (Or.inl rfl)) (pss_one (ps_if (PW.pt (pw_or (pt_val (pe_call GB.ok hr (by rfl) GB.m GB.kp GB.b .nil pass0 (pa_cons (pe_ix ix_tup (pv 0) (pv 1) (fun _ _ => rfl)) (pa_cons (pe_ix ix_tup (pv 0) (pv 2) (fun _ _ => rfl)) (pa_nil))))) (pw_or1 (pt_val (pe_call GB.ok hr (by rfl) GB.m GB.kp GB.b .nil pass0 (pa_cons (pe_ix ix_tup (pv 0) (pv 2) (fun _ _ => rfl)) (pa_cons (pe_ix ix_tup (pv 0) (pv 1) (fun _ _ => rfl)) (pa_nil)))))))) (pss_one (ps_ret (pe_tup (pa_cons (pv 1) (pa_cons (pv 2) pa_nil))))) (pss_nil))))))
      (pss_one (ps_ret (pe_non))), ?_⟩
  refine ⟨_, rfl, a, _, rfl, .inr (SqT.of ha), _, rfl, by omega, by omega, ?_⟩
  rw [Int.toNat_natCast]
  refine for_range (fun i σ H' => Same H H' ∧ (∀ (i' j' : Nat) u v', i' < i → i' < j' → c[i']? = some u → c[j']? = some v' → v'.take u.length ≠ u ∧ u.take v'.length ≠ v') ∧ ∃ x1 x2 : Option V, σ = [some (.ref a), x1, x2]) ⟨Same.refl _, fun i' j' u v' h => absurd h (Nat.not_lt_zero _), _, _, rfl⟩ (fun i σ H1 hi hP => ?_) (fun σ H1 hP => ?_)
  rotate_left
  · obtain ⟨s1, al, x1, x2, rfl⟩ := hP
    exact q _ _ s1 (fun _ => rfl) fun z => absurd (fun i j u v' hij hu hv => al i j u v' (by have := (List.getElem?_eq_some_iff.mp hu).1; omega) hij hu hv) z
  obtain ⟨s1, al, x1, x2, rfl⟩ := hP
  rw [show (0 : Int) + (i : Int) = (i : Int) from Int.zero_add _]
  refine ⟨_, rfl, _, _, rfl, rfl, _, rfl, a, _, rfl, .inr (SqT.of (s1 _ _ ha)), _, _, rfl, ⟨by omega, by omega, by omega, by omega⟩, ?_⟩
  refine for_range (fun k σ H' => Same H H' ∧ (∀ (j' : Nat) u v', i < j' → j' < i + 1 + k → c[i]? = some u → c[j']? = some v' → v'.take u.length ≠ u ∧ u.take v'.length ≠ v') ∧ ∃ x2 : Option V, σ = [some (.ref a), some (.int (i : Int)), x2]) ⟨s1, fun j' u v' h1 h2 => by omega, _, rfl⟩ (fun k σ H2 hk hP => ?_) (fun σ H2 hP => ?_)
  rotate_left
  · obtain ⟨s2, al2, x2, rfl⟩ := hP
    refine ⟨s2, fun i' j' u v' h1 h2 hu hv => ?_, _, _, rfl⟩
    by_cases z : i' = i
    · subst z
      exact al2 j' u v' h2 (by have := (List.getElem?_eq_some_iff.mp hv).1; omega) hu hv
    · exact al i' j' u v' (by omega) h2 hu hv
  obtain ⟨s2, al2, x2, rfl⟩ := hP
  obtain ⟨j, ej⟩ : ∃ j, j = i + 1 + k := ⟨_, rfl⟩
  have ek : (i : Int) + 1 + (k : Int) = (j : Int) := by omega
  rw [ek]
  have hj : j < xs.length := by omega
  have hi' : i < xs.length := by omega
  have xi : xs[i]? = some xs[i] := List.getElem?_eq_getElem hi'
  have xj : xs[j]? = some xs[j] := List.getElem?_eq_getElem hj
  obtain ⟨u, hu, ru⟩ := Paired.right_of hx i _ xi
  obtain ⟨v', hv, rv⟩ := Paired.right_of hx j _ xj
  obtain ⟨ua, eu, hua⟩ := Wd.ti ru
  obtain ⟨va, ev, hva⟩ := Wd.ti rv
  rw [eu] at xi
  rw [ev] at xj
  have ha2 := s2 _ _ ha
  refine ⟨_, rfl, _, rfl, a, _, _, _, rfl, rfl, SqT.of ha2, atI_nat xi, _, rfl, _, rfl, a, _, _, _, rfl, rfl, SqT.of ha2, atI_nat xj, ua, va, u, v', rfl, s2 _ _ hua, s2 _ _ hva, fun H3 s3 => ?_⟩
  have no : ∀ H5, Same H H5 → (v'.take u.length = u ∨ u.take v'.length = v') → 2 ≤ sizeLine ∧ ∀ t, H5 t = none → Q (.ref t) (upd H5 t (.tup [.int (i : Int), .int (j : Int)])) := fun H5 s5 bad => ⟨by decide, fun t ht => q _ _ (s5.trans (same_newO ht _)) (fun z => by
    obtain ⟨z1, z2⟩ := z i j u v' (by omega) hu hv
    rcases bad with w | w
    · exact absurd w z1
    · exact absurd w z2) fun _ => ⟨t, rfl⟩⟩
  refine ⟨_, rfl, ?_⟩
  refine ite2 (fun y => ?_) (fun y => ?_)
  · exact iteT ⟨_, rfl, _, rfl, no H3 (s2.trans s3) (.inl (of_decide_eq_true y))⟩
  have p1 : v'.take u.length ≠ u := fun z => y (decide_eq_true z)
  have ha3 := s3 _ _ ha2
  have s23 := s2.trans s3
  refine ⟨_, rfl, _, rfl, a, _, _, _, rfl, rfl, SqT.of ha3, atI_nat xj, _, rfl, _, rfl, a, _, _, _, rfl, rfl, SqT.of ha3, atI_nat xi, va, ua, v', u, rfl, s23 _ _ hva, s23 _ _ hua, fun H4 s4 => ?_⟩
  refine ⟨_, rfl, ?_⟩
  refine ite2 (fun y => ?_) (fun y => ?_)
  · exact ⟨_, rfl, _, rfl, no H4 (s23.trans s4) (.inr (of_decide_eq_true y))⟩
  have p2 : u.take v'.length ≠ v' := fun z => y (decide_eq_true z)
  refine ⟨s23.trans s4, fun j' u' v2 h1 h2 hu' hv' => ?_, _, rfl⟩
  by_cases z : j' = j
  · subst z
    rw [hu] at hu'
    rw [hv] at hv'
    cases hu'
    cases hv'
    exact ⟨p1, p2⟩
  · exact al2 j' u' v2 h1 (by omega) hu' hv'
end
theorem lexLt_tr : ∀ u v w : List Int, HT.lexLt u v = true → HT.lexLt v w = true → HT.lexLt u w = true
  | [], [], w, h, _ => by cases h
  | [], _ :: _, [], _, h => by cases h
  | [], _ :: _, _ :: _, _, _ => rfl
  | _ :: _, [], w, h, _ => by cases h
  | _ :: _, _ :: _, [], _, h => by cases h
  | x :: u, y :: v, z :: w, h1, h2 => by
    rw [HT.lexLt_cons] at h1 h2 ⊢
    by_cases e1 : x = y
    · subst e1
      rw [if_pos rfl] at h1
      by_cases e2 : x = z
      · subst e2
        rw [if_pos rfl] at h2 ⊢
        exact lexLt_tr u v w h1 h2
      · rw [if_neg e2] at h2 ⊢; exact h2
    · rw [if_neg e1] at h1
      have l1 := of_decide_eq_true h1
      by_cases e2 : y = z
      · subst e2
        rw [if_neg e1]; exact h1
      · rw [if_neg e2] at h2
        have l2 := of_decide_eq_true h2
        rw [if_neg (by omega)]
        exact decide_eq_true (by omega)
theorem lexLt_pre : ∀ u w : List Int, u.take w.length = w → HT.lexLt u w = false
  | [], [], _ => rfl
  | [], _ :: _, h => by cases h
  | _ :: _, [], _ => rfl
  | x :: u, y :: w, h => by
    rw [List.length_cons, List.take_succ_cons] at h
    injection h with h1 h2
    rw [HT.lexLt_cons, if_pos h1]
    exact lexLt_pre u w h2
theorem lexLt_btw : ∀ u v w : List Int, HT.lexLt u v = true → HT.lexLt v w = true → w.take u.length = u → v.take u.length = u
  | [], v, w, _, _, _ => by rw [List.length_nil, List.take_zero]
  | _ :: _, [], w, h, _, _ => by cases h
  | _ :: _, _ :: _, [], _, h, _ => by cases h
  | x :: u, y :: v, z :: w, h1, h2, h => by
    rw [List.length_cons, List.take_succ_cons] at h
    injection h with e h
    subst e
    rw [HT.lexLt_cons] at h1 h2
    by_cases e1 : z = y
    · subst e1
      rw [if_pos rfl] at h1 h2
      rw [List.length_cons, List.take_succ_cons, lexLt_btw u v w h1 h2 h]
    · rw [if_neg e1] at h1
      rw [if_neg (Ne.symm e1)] at h2
      have := of_decide_eq_true h1
      have := of_decide_eq_true h2
      omega
def Kadj (c : CT.Code) : Prop := ∀ (k : Nat) u v', c[k]? = some u → c[k + 1]? = some v' → HT.lexLt u v' = true ∧ v'.take u.length ≠ u
theorem rises_iff {c : CT.Code} : rises c = true ↔ ∀ (k : Nat) u v', c[k]? = some u → c[k + 1]? = some v' → HT.lexLt u v' = true := by
  unfold rises risL
  rw [List.all_eq_true]
  constructor
  · intro h k u v' hu hv
    have l := (List.getElem?_eq_some_iff.mp hv).1
    have := h _ (List.mem_map.mpr ⟨k, List.mem_range.mpr (by omega), rfl⟩)
    rw [List.getD_eq_getElem?_getD, List.getD_eq_getElem?_getD, hu, hv] at this
    exact this
  · intro h b hb
    obtain ⟨k, hk, rfl⟩ := List.mem_map.mp hb
    have hk := List.mem_range.mp hk
    have h1 : c[k]? = some (c[k]'(by omega)) := List.getElem?_eq_getElem _
    have h2 : c[k + 1]? = some (c[k + 1]'(by omega)) := List.getElem?_eq_getElem _
    show HT.lexLt (c.getD k []) (c.getD (k + 1) []) = true
    rw [List.getD_eq_getElem?_getD, List.getD_eq_getElem?_getD, h1, h2]
    exact h k _ _ h1 h2
theorem adj_lt {c : CT.Code} (h : Kadj c) : ∀ (d i : Nat) u v', c[i]? = some u → c[i + d + 1]? = some v' → HT.lexLt u v' = true ∧ v'.take u.length ≠ u
  | 0, i, u, v', hu, hv => h i u v' hu hv
  | d + 1, i, u, v', hu, hv => by
    have l := (List.getElem?_eq_some_iff.mp hv).1
    have hm : c[i + d + 1]? = some (c[i + d + 1]'(by omega)) := List.getElem?_eq_getElem _
    obtain ⟨a1, a2⟩ := adj_lt h d i u _ hu hm
    obtain ⟨b1, b2⟩ := h (i + d + 1) _ v' hm hv
    exact ⟨lexLt_tr _ _ _ a1 b1, fun z => a2 (lexLt_btw _ _ _ a1 b1 z)⟩
theorem kadj_iff {c : CT.Code} : Kadj c ↔ rises c = true ∧ Apt c := by
  constructor
  · intro h
    refine ⟨rises_iff.mpr fun k u v' hu hv => (h k u v' hu hv).1, fun i j u v' hij hu hv => ?_⟩
    obtain ⟨h1, h2⟩ := adj_lt h (j - i - 1) i u v' hu (by rw [show i + (j - i - 1) + 1 = j by omega]; exact hv)
    refine ⟨h2, fun z => ?_⟩
    rw [lexLt_pre u v' z] at h1
    cases h1
  · rintro ⟨h1, h2⟩ k u v' hu hv
    exact ⟨rises_iff.mp h1 k u v' hu hv, (h2 k (k + 1) u v' (by omega) hu hv).1⟩
theorem last_O {F : Nat → Nat → OI} {n : Nat} (hn : 1 ≤ n) : atI ((rowO F n 0).map oV) (-1) = some (oV (F 0 n)) := by
  have hr0 : rowO F n 0 = (List.range (n - 1)).map (fun b => F 0 (0 + b + 1)) ++ [F 0 n] := by
    show (List.range (n - 0)).map _ = _
    rw [show n - 0 = (n - 1) + 1 by omega, List.range_succ, List.map_append]
    show _ ++ [F 0 (0 + (n - 1) + 1)] = _
    rw [show 0 + (n - 1) + 1 = n by omega]
  rw [hr0, List.map_append]
  exact atI_last _ _
section
variable {P' : Program} {w : World} {K : PySem.W.Frag} {mg : Str → Option Value} {base : Heap} {f : Addr} {fd : FuncData}
def spKept : Sp := fun vs H Q _ => ∃ (a : Addr) (xs : List V) (c : CT.Code), vs = [.ref a] ∧ H a = some (.tup xs) ∧ Ws H xs c ∧ c.length ≤ 100 ∧ ∀ H' b, Same H H' → (b = true ↔ Kadj c) → Q (.bl b) H'
theorem scKept : FnScope ["code"] ["code"] (defScope sIsKept) := ⟨rfl, rfl, rfl, by decide +kernel, rfl, by decide +kernel, by decide +kernel⟩
theorem ok_kept (F : Fun K "is_kept" "is_kept" sIsKept f fd) (GI : Fns P' w K mg base ["code"] "rises" spRises 2) (GC : Fns P' w K mg base ["code"] "clash" spClash 2) : FnOk P' w K mg base CX0 3 f fd ["code"] spKept := by
  refine F.ok (k := 2) scKept (fun vs H Q E h => ?_) (fun cdv A outer s H vs Q E hr h => ?_)
  · obtain ⟨c, xs, ws, rfl, _⟩ := h
    rfl
  obtain ⟨c, xs, ws, rfl, hc, hw, l1, q⟩ := h
  refine ⟨_, pss_one (ps_ret (pe_and (pe_call GI.ok hr (by rfl) GI.m GI.kp GI.b .nil pass0 (pa_cons (pv 0) pa_nil)) (pe_one (pe_cmp (pc_isN (pe_call GC.ok hr (by rfl) GC.m GC.kp GC.b .nil pass0 (pa_cons (pv 0) pa_nil))))))), ?_⟩
  refine ⟨_, rfl, c, xs, ws, rfl, hc, hw, l1, fun H1 s1 => ⟨_, rfl, ?_⟩⟩
  refine ite2 (fun y => ?_) (fun y => ?_)
  · refine ⟨_, rfl, c, xs, ws, rfl, s1 _ _ hc, Ws.same s1 hw, l1, fun H2 v s2 h1 h2 => ?_⟩
    by_cases ap : Apt ws
    · rw [h1 ap]
      exact q H2 true (s1.trans s2) ⟨fun _ => kadj_iff.mpr ⟨y, ap⟩, fun _ => rfl⟩
    · obtain ⟨t, rfl⟩ := h2 ap
      exact q H2 false (s1.trans s2) ⟨(fun z => by cases z), fun z => absurd (kadj_iff.mp z).2 ap⟩
  · refine q H1 _ s1 ⟨(fun z => by first | cases z | exact absurd z y), fun z => absurd (kadj_iff.mp z).1 y⟩
end
end Q
end K98
set_option Elab.async false
set_option linter.all false
set_option maxRecDepth 100000
namespace K98
open PySem L2
namespace Q
theorem kadj_ahd {l : Nat} {c : CT.Code} (h : Kadj c) : Kadj (CT.ahd l c) := fun k u v hu hv => by
  unfold CT.ahd at hu hv
  rw [List.getElem?_map] at hu hv
  obtain ⟨u', hu', rfl⟩ := Option.map_eq_some_iff.mp hu
  obtain ⟨v', hv', rfl⟩ := Option.map_eq_some_iff.mp hv
  obtain ⟨h1, h2⟩ := h k u' v' hu' hv'
  refine ⟨by rw [HT.lexLt_cons, if_pos rfl]; exact h1, fun z => h2 ?_⟩
  rw [List.length_cons, List.take_succ_cons] at z
  exact (List.cons.inj z).2
theorem kadj_append {a b : CT.Code} (ha : Kadj a) (hb : Kadj b) (hx : ∀ u ∈ a, ∀ v ∈ b, HT.lexLt u v = true ∧ v.take u.length ≠ u) : Kadj (a ++ b) := fun k u v hu hv => by
  by_cases z1 : k + 1 < a.length
  · rw [List.getElem?_append_left (by omega)] at hu
    rw [List.getElem?_append_left z1] at hv
    exact ha k u v hu hv
  · rw [List.getElem?_append_right (by omega)] at hv
    by_cases z2 : k < a.length
    · rw [List.getElem?_append_left z2] at hu
      exact hx u (List.mem_of_getElem? hu) v (List.mem_of_getElem? hv)
    · rw [List.getElem?_append_right (by omega)] at hu
      rw [show k + 1 - a.length = (k - a.length) + 1 by omega] at hv
      exact hb _ u v hu hv
def Hd (l : Nat) (r : CT.Code) : Prop := ∀ u ∈ r, ∃ (x : Nat) (v : List Int), u = (x : Int) :: v ∧ l ≤ x
theorem hd_cross {l : Nat} {c r : CT.Code} (h : Hd (l + 1) r) : ∀ u ∈ CT.ahd l c, ∀ v ∈ r, HT.lexLt u v = true ∧ v.take u.length ≠ u := fun u hu v hv => by
  unfold CT.ahd at hu
  obtain ⟨u', _, rfl⟩ := List.mem_map.mp hu
  obtain ⟨x, v', rfl, hx⟩ := h v hv
  refine ⟨by rw [HT.lexLt_cons, if_neg (by omega)]; exact decide_eq_true (by omega), fun z => ?_⟩
  rw [List.length_cons, List.take_succ_cons] at z
  have := (List.cons.inj z).1
  omega
theorem hd_ahd {l low : Nat} {c : CT.Code} (h : low ≤ l) : Hd low (CT.ahd l c) := fun u hu => by
  unfold CT.ahd at hu
  obtain ⟨u', _, rfl⟩ := List.mem_map.mp hu
  exact ⟨l, u', rfl, h⟩
theorem rw_kadj {L many low most : Nat} (h1 : 1 ≤ many) (hm : most ≤ many) (hC : ∀ k, 1 ≤ k → k ≤ most → ∀ c ∈ CT.Cs L k, Kadj c) (hR : ∀ k l, 1 ≤ k → k < many → ∀ r ∈ CT.Rs L k l, Kadj r ∧ Hd l r) : ∀ x ∈ CT.rw' L (CT.Cs L) (CT.Rs L) many low most, Kadj x ∧ Hd low x := fun x hx => by
  unfold CT.rw' at hx
  obtain ⟨q, hq, hx⟩ := List.mem_flatMap.mp hx
  obtain ⟨c, hc, hx⟩ := List.mem_flatMap.mp hx
  obtain ⟨r, hr, rfl⟩ := List.mem_map.mp hx
  obtain ⟨b1, b2, b3⟩ := CT.Bk_mem.mp hq
  have kc := hC (q.2 + 1) (by omega) (by omega) c hc
  have kr : Kadj r ∧ Hd (q.1 + 1) r := by
    unfold CT.bhd at hr
    by_cases z : q.2 + 1 < many
    · rw [if_pos z] at hr
      exact hR _ _ (by omega) (by omega) r hr
    · rw [if_neg z] at hr
      rw [List.mem_singleton.mp hr]
      exact ⟨fun k u v hu => by simp at hu, fun u hu => by cases hu⟩
  refine ⟨kadj_append (kadj_ahd kc) kr.1 (hd_cross kr.2), fun u hu => ?_⟩
  rcases List.mem_append.mp hu with z | z
  · exact hd_ahd b1 u z
  · obtain ⟨y, v, e, hy⟩ := kr.2 u z
    exact ⟨y, v, e, by omega⟩
theorem all_kadj {L : Nat} : ∀ d m, m ≤ d → 1 ≤ m → (∀ c ∈ CT.Cs L m, Kadj c) ∧ ∀ l, ∀ r ∈ CT.Rs L m l, Kadj r ∧ Hd l r
  | 0, m, h, h1 => by omega
  | d + 1, m, h, h1 => by
    have ihC : ∀ k, 1 ≤ k → k < m → ∀ c ∈ CT.Cs L k, Kadj c := fun k a b => (all_kadj d k (by omega) a).1
    have ihR : ∀ k l, 1 ≤ k → k < m → ∀ r ∈ CT.Rs L k l, Kadj r ∧ Hd l r := fun k l a b => (all_kadj d k (by omega) a).2 l
    have hC : ∀ c ∈ CT.Cs L m, Kadj c := by
      by_cases e : m = 1
      · subst e
        rw [CT.Cs_one]
        intro c hc
        rw [List.mem_singleton.mp hc]
        intro k u v _ hv
        simp at hv
      · rw [CT.Cs_eq (by omega)]
        exact fun c hc => (rw_kadj (by omega) (by omega) (fun k a b => ihC k a (by omega)) ihR c hc).1
    refine ⟨hC, fun l => ?_⟩
    by_cases hl : l < L
    · rw [CT.Rs_eq h1 hl]
      refine rw_kadj (by omega) (by omega) (fun k a b => ?_) ihR
      by_cases e : k = m
      · subst e; exact hC
      · exact ihC k a (by omega)
    · rw [CT.Rs_end hl]
      intro r hr
      cases hr
theorem cs_kadj {L m : Nat} (h : 1 ≤ m) : ∀ c ∈ CT.Cs L m, Kadj c := (all_kadj m m (Nat.le_refl _) h).1
section
variable {P' : Program} {w : World} {K : PySem.W.Frag} {mg : Str → Option Value} {base : Heap} {f : Addr} {fd : FuncData}
def spIs : Sp := fun vs H Q _ => ∃ n : Int, vs = [.int n] ∧ 1 ≤ n ∧ n ≤ B30 ∧ Q (.bl true) H
theorem scIs : FnScope ["number"] ["number"] (defScope sIs) := ⟨rfl, rfl, rfl, by decide +kernel, rfl, by decide +kernel, by decide +kernel⟩
theorem ok_is (F : Fun K "is_amount" "is_amount" sIs f fd) : FnOk P' w K mg base CX0 1 f fd ["number"] spIs := by
  refine F.ok (k := 0) scIs (fun vs H Q E h => ?_) (fun cdv A outer s H vs Q E hr h => ?_)
  · obtain ⟨n, rfl, _⟩ := h
    rfl
  obtain ⟨n, rfl, n1, n2, q⟩ := h
  refine ⟨_, pss_one (ps_ret (pe_chain op_le op_le pe_int (pv 0) (pe_op op_pow pe_int pe_int))), ?_⟩
  refine ⟨_, rfl, _, _, rfl, rfl, _, rfl, ?_⟩
  rw [decide_eq_true n1]
  refine iteT ⟨_, _, rfl, rfl, ⟨by decide, by decide, by decide⟩, _, _, rfl, rfl, ?_⟩
  have e : decide (n ≤ (10 : Int) ^ (30 : Int).toNat) = true := decide_eq_true (by rw [e30]; exact n2)
  show Q (.bl (decide (n ≤ (10 : Int) ^ (30 : Int).toNat))) H
  rw [e]
  exact q
def spRL : Sp := fun vs H Q _ => ∃ (p : Addr) (ns : List Int) (l : Nat), vs = [.ref p, .int (l : Int)] ∧ TW H p ns ∧ l < ns.length ∧ Q .non H
theorem scRL : FnScope ["prices", "letter"] ["prices", "letter"] (defScope sRL) := ⟨rfl, rfl, rfl, by decide +kernel, rfl, by decide +kernel, by decide +kernel⟩
theorem ok_RL (F : Fun K "refuse_letter" "refuse_letter" sRL f fd) (ml : mg "len" = none) : FnOk P' w K mg base CX0 1 f fd ["prices", "letter"] spRL := by
  refine F.ok (k := 0) scRL (fun vs H Q E h => ?_) (fun cdv A outer s H vs Q E hr h => ?_)
  · obtain ⟨p, ns, l, rfl, _⟩ := h
    rfl
  obtain ⟨p, ns, l, rfl, hp, hl, q⟩ := h
  refine ⟨_, pss_one (ps_if (pt_not (pt_chain op_le op_lt pe_int (pv 1) (pe_callB call_len_seq (by rfl) ml PySem.boot_len (pa_cons (pv 0) pa_nil)))) (pss_one ps_nv) pss_nil), ?_⟩
  refine ⟨_, rfl, _, _, rfl, rfl, _, rfl, ?_⟩
  rw [decide_eq_true (show (0 : Int) ≤ (l : Int) by omega)]
  refine iteT ⟨_, rfl, p, _, rfl, .inr (SqT.of hp), _, _, rfl, rfl, _, rfl, ?_⟩
  rw [List.length_map, decide_eq_true (show (l : Int) < (ns.length : Int) by omega)]
  exact q
theorem scRT : FnScope ["weights", "thing"] ["weights", "thing"] (defScope sRT) := ⟨rfl, rfl, rfl, by decide +kernel, rfl, by decide +kernel, by decide +kernel⟩
theorem ok_RT (F : Fun K "refuse_thing" "refuse_thing" sRT f fd) (ml : mg "len" = none) : FnOk P' w K mg base CX0 1 f fd ["weights", "thing"] spRL := by
  refine F.ok (k := 0) scRT (fun vs H Q E h => ?_) (fun cdv A outer s H vs Q E hr h => ?_)
  · obtain ⟨p, ns, l, rfl, _⟩ := h
    rfl
  obtain ⟨p, ns, l, rfl, hp, hl, q⟩ := h
  refine ⟨_, pss_one (ps_if (pt_not (pt_chain op_le op_lt pe_int (pv 1) (pe_callB call_len_seq (by rfl) ml PySem.boot_len (pa_cons (pv 0) pa_nil)))) (pss_one ps_nv) pss_nil), ?_⟩
  refine ⟨_, rfl, _, _, rfl, rfl, _, rfl, ?_⟩
  rw [decide_eq_true (show (0 : Int) ≤ (l : Int) by omega)]
  refine iteT ⟨_, rfl, p, _, rfl, .inr (SqT.of hp), _, _, rfl, rfl, _, rfl, ?_⟩
  rw [List.length_map, decide_eq_true (show (l : Int) < (ns.length : Int) by omega)]
  exact q
def spWN : Sp := fun vs H Q _ => ∃ (p : Addr) (ns : List Int) (l : Nat) (n : Int), vs = [.ref p, .int (l : Int), .int n] ∧ TW H p ns ∧ ns.length ≤ 900 ∧ l < ns.length ∧ 1 ≤ n ∧ n ≤ B30 ∧ ∀ p' H', Same H H' → TW H' p' (pm ns l n) → Q (.ref p') H'
theorem scWN : FnScope ["numbers", "at", "number"] ["numbers", "at", "number"] (defScope sWN) := ⟨rfl, rfl, rfl, by decide +kernel, rfl, by decide +kernel, by decide +kernel⟩
theorem ok_WN (F : Fun K "with_number" "with_number" sWN f fd) (G : Fns P' w K mg base ["number"] "is_amount" spIs 1) : FnOk P' w K mg base CX0 2 f fd ["numbers", "at", "number"] spWN := by
  refine F.ok (k := 1) scWN (fun vs H Q E h => ?_) (fun cdv A outer s H vs Q E hr h => ?_)
  · obtain ⟨p, ns, l, n, rfl, _⟩ := h
    rfl
  obtain ⟨p, ns, l, n, rfl, hp, l9, hl, n1, n2, q⟩ := h
  refine ⟨_, pss_cons (ps_if (pt_not (pt_val (pe_call G.ok hr (by rfl) G.m G.kp G.b .nil pass0 (pa_cons (pv 2) pa_nil)))) (pss_one ps_nv) pss_nil)
    (pss_one (ps_ret (pe_op op_catG (pe_op op_catG (pe_slice sl_tupG (pv 0) po_none (po_some (pv 1))) (pe_tup (pa_cons (pv 2) pa_nil))) (pe_slice sl_tupG (pv 0) (po_some (pe_op op_add (pv 1) pe_int)) po_none)))), ?_⟩
  refine ⟨_, rfl, n, rfl, n1, n2, _, rfl, iteF ?_⟩
  refine ⟨_, rfl, _, rfl, _, rfl, p, _, rfl, hp, fun p1 H1 s1 hp1 => ?_⟩
  rw [cut_to, ← List.map_take] at hp1
  refine ⟨_, rfl, (by show 1 ≤ sizeLine; decide), fun p2 hp2 => ?_⟩
  have s2 := same_newO hp2 (.tup [.int n])
  refine ⟨p1, p2, _, _, rfl, rfl, s2 _ _ hp1, upd_same, ?_, fun p3 H3 s3 hp3 => ?_⟩
  · rw [List.length_map, List.length_take]; exact Nat.le_of_lt (small1000 (by show min _ _ + 1 ≤ 1000; omega))
  refine ⟨_, rfl, _, rfl, _, _, rfl, rfl, _, rfl, p, _, rfl, s3 _ _ (s2 _ _ (s1 _ _ hp)), fun p4 H4 s4 hp4 => ?_⟩
  rw [show ((l : Int) + 1) = ((l + 1 : Nat) : Int) by push_cast; rfl, cut_from, ← List.map_drop] at hp4
  refine ⟨p3, p4, _, _, rfl, rfl, s4 _ _ hp3, hp4, ?_, fun p5 H5 s5 hp5 => ?_⟩
  · rw [List.length_append, List.length_map, List.length_map, List.length_take, List.length_drop]; exact Nat.le_of_lt (small1000 (by show min _ _ + 1 + _ ≤ 1000; omega))
  refine q p5 H5 ((((s1.trans s2).trans s3).trans s4).trans s5) ?_
  show H5 p5 = _
  rw [hp5]
  unfold pm
  rw [List.map_append, List.map_append]
  rfl
theorem scPM : FnScope ["prices", "letter", "number"] ["prices", "letter", "number"] (defScope sPM) := ⟨rfl, rfl, rfl, by decide +kernel, rfl, by decide +kernel, by decide +kernel⟩
theorem ok_PM (F : Fun K "price_moved" "price_moved" sPM f fd) (GR : Fns P' w K mg base ["prices", "letter"] "refuse_letter" spRL 2) (GW : Fns P' w K mg base ["numbers", "at", "number"] "with_number" spWN 2) : FnOk P' w K mg base CX0 3 f fd ["prices", "letter", "number"] spWN := by
  refine F.ok (k := 2) scPM (fun vs H Q E h => ?_) (fun cdv A outer s H vs Q E hr h => ?_)
  · obtain ⟨p, ns, l, n, rfl, _⟩ := h
    rfl
  obtain ⟨p, ns, l, n, rfl, hp, l9, hl, n1, n2, q⟩ := h
  refine ⟨_, pss_cons (ps_expr (pe_call GR.ok hr (by rfl) GR.m GR.kp GR.b .nil pass0 (pa_cons (pv 0) (pa_cons (pv 1) pa_nil))))
    (pss_one (ps_ret (pe_call GW.ok hr (by rfl) GW.m GW.kp GW.b .nil pass0 (pa_cons (pv 0) (pa_cons (pv 1) (pa_cons (pv 2) pa_nil)))))), ?_⟩
  exact ⟨_, rfl, _, rfl, p, ns, l, rfl, hp, hl, _, rfl, _, rfl, _, rfl, p, ns, l, n, rfl, hp, l9, hl, n1, n2, q⟩
theorem scWM : FnScope ["weights", "thing", "number"] ["weights", "thing", "number"] (defScope sWM) := ⟨rfl, rfl, rfl, by decide +kernel, rfl, by decide +kernel, by decide +kernel⟩
theorem ok_WM (F : Fun K "weight_moved" "weight_moved" sWM f fd) (GR : Fns P' w K mg base ["weights", "thing"] "refuse_thing" spRL 2) (GW : Fns P' w K mg base ["numbers", "at", "number"] "with_number" spWN 2) : FnOk P' w K mg base CX0 3 f fd ["weights", "thing", "number"] spWN := by
  refine F.ok (k := 2) scWM (fun vs H Q E h => ?_) (fun cdv A outer s H vs Q E hr h => ?_)
  · obtain ⟨p, ns, l, n, rfl, _⟩ := h
    rfl
  obtain ⟨p, ns, l, n, rfl, hp, l9, hl, n1, n2, q⟩ := h
  refine ⟨_, pss_cons (ps_expr (pe_call GR.ok hr (by rfl) GR.m GR.kp GR.b .nil pass0 (pa_cons (pv 0) (pa_cons (pv 1) pa_nil))))
    (pss_one (ps_ret (pe_call GW.ok hr (by rfl) GW.m GW.kp GW.b .nil pass0 (pa_cons (pv 0) (pa_cons (pv 1) (pa_cons (pv 2) pa_nil)))))), ?_⟩
  exact ⟨_, rfl, _, rfl, p, ns, l, rfl, hp, hl, _, rfl, _, rfl, _, rfl, p, ns, l, n, rfl, hp, l9, hl, n1, n2, q⟩
structure Cd (H : Hp) (p wa c : Addr) (ps ws : List Int) (nss : CT.Code) : Prop where
  hp : TW H p ps
  hw : TW H wa ws
  hc : ∃ xs, H c = some (.tup xs) ∧ Ws H xs nss
  ln : nss.length = ws.length
  l1 : nss.length ≤ 100
  l2 : ∀ ns ∈ nss, Lt ps.length ns ∧ ns.length ≤ 1000
  bp : Bw ps
  bw : Bw ws
theorem Cd.same {H H' : Hp} {p wa c : Addr} {ps ws : List Int} {nss : CT.Code} (x : Cd H p wa c ps ws nss) (s : Same H H') : Cd H' p wa c ps ws nss := by
  obtain ⟨xs, h1, h2⟩ := x.hc
  exact ⟨s _ _ x.hp, s _ _ x.hw, ⟨xs, s _ _ h1, Ws.same s h2⟩, x.ln, x.l1, x.l2, x.bp, x.bw⟩
abbrev NPS : List Str := ["prices", "weights", "code", "letter"]
def spPS : Sp := fun vs H Q _ => ∃ (p wa c : Addr) (ps ws : List Int) (nss : CT.Code) (l : Nat), vs = [.ref p, .ref wa, .ref c, .int (l : Int)] ∧ Cd H p wa c ps ws nss ∧ l < ps.length ∧ ∀ H', Same H H' → Q (.int (sh ws (l : Int) nss)) H'
theorem scPS : FnScope NPS NPS (defScope sPS) := ⟨rfl, rfl, rfl, by decide +kernel, rfl, by decide +kernel, by decide +kernel⟩
theorem ndPS : (("weight" : Str) :: "word" :: NPS).Nodup := by decide +kernel
theorem zip_at2 {ws : List Int} {nss : List (List Int)} {i : Nat} {x j : Int} {ns : List Int} (h1 : ws[i]? = some x) (h2 : nss[i]? = some ns) : (List.zipWith (fun x ns => x * ((List.count j ns : Nat) : Int)) ws nss)[i]? = some (x * ((List.count j ns : Nat) : Int)) := by
  rw [List.getElem?_zipWith, h1, h2]
set_option maxHeartbeats 4000000 in
theorem ok_ps (F : Fun K "price_share" "price_share" sPS f fd) (GC : Fns P' w K mg base PCo "cost" spPCost 3) (GR : Fns P' w K mg base ["prices", "letter"] "refuse_letter" spRL 3) (ms : mg "sum" = none) (mz : mg "zip" = none) : FnOk P' w K mg base CX0 4 f fd NPS spPS := by
  refine F.ok (k := 3) scPS (fun vs H Q E h => ?_) (fun cdv A outer s H vs Q E hr h => ?_)
  · obtain ⟨p, wa, c, ps, ws, nss, l, rfl, _⟩ := h
    rfl
  obtain ⟨p, wa, c, ps, ws, nss, l, rfl, cd, hl, q⟩ := h
  obtain ⟨hp, hw, ⟨xs, hc, hx⟩, el, l1, l2, bp, bw⟩ := cd
  have lx : xs.length = nss.length := hx.length
  refine ⟨_, pss_cons (ps_expr (pe_call GC.ok hr (by rfl) GC.m GC.kp GC.b .nil pass0 (pa_cons (pv 0) (pa_cons (pv 1) (pa_cons (pv 2) pa_nil)))))
    (pss_cons (ps_expr (pe_call GR.ok hr (by rfl) GR.m GR.kp GR.b .nil pass0 (pa_cons (pv 0) (pa_cons (pv 3) pa_nil))))
    (pss_one (ps_ret (pe_callB (call_sum rfl) (by rfl) ms b_sum (pa_cons (pe_compZ K true true (M := NPS) rfl (CompScope.of (defScope sPS) NPS rfl rfl rfl (by decide +kernel) (by decide +kernel) (by decide +kernel) rfl (by decide +kernel)) ndPS rfl rfl (by rfl) mz (pa_cons (pv 1) (pa_cons (pv 2) pa_nil)) (mo_cons mo_var (mo_cons mo_var mo_nil))
      (fun cl C s0 H0 fp pins σ bk => ⟨pts_nil, pe_op op_mulB (pv 0) (pe_bmT PySem.F.slot_tuple_count PySem.F.type_tuple_count mt_countT (pv 1) (pa_cons (pv 5) pa_nil))⟩)) pa_nil))))), ?_⟩
  refine ⟨_, rfl, _, rfl, _, rfl, p, wa, c, ps, ws, xs, nss, rfl, hp, hw, hc, hx, el, l1, l2, bp, bw, fun H1 s1 => ?_⟩
  refine ⟨_, rfl, _, rfl, p, ps, l, rfl, s1 _ _ hp, hl, ?_⟩
  have hw1 : TW H1 wa ws := s1 _ _ hw
  have hc1 := s1 _ _ hc
  have hx1 := Ws.same s1 hx
  refine ⟨_, rfl, _, rfl, wa, c, _, _, rfl, SqT.of hw1, SqT.of hc1, by rw [List.length_map]; omega, fun d hd => ?_⟩
  refine ⟨fun k H' => Same H1 H' ∧ H' d = some (.lst (((List.zipWith (fun x ns => x * ((List.count (l : Int) ns : Nat) : Int)) ws nss).take k).map V.int)), ⟨same_newO hd _, upd_same⟩,
    fun k H' _ hP => ⟨SqT.of (hP.1 _ _ hw1), SqT.of (hP.1 _ _ hc1)⟩, fun k x y pp H' hx' hy' hP hpp => ?_, fun H' hP => ?_⟩
  · obtain ⟨sm, hd'⟩ := hP
    rw [List.getElem?_map] at hx'
    obtain ⟨wt, hz, rfl⟩ := Option.map_eq_some_iff.mp hx'
    obtain ⟨ns, hn, ry⟩ := Paired.right_of hx1 k y hy'
    obtain ⟨ya, rfl, hya⟩ := Wd.ti ry
    have iw := (List.getElem?_eq_some_iff.mp hz).1
    have s2 := same_newO hpp (.tup [.int wt, .ref ya])
    have hya2 := s2 _ _ (sm _ _ hya)
    obtain ⟨b3, b4⟩ := bw wt (List.mem_of_getElem? hz)
    have b5 := (l2 ns (List.mem_of_getElem? hn)).2
    have b6 : List.count (l : Int) ns ≤ ns.length := List.count_le_length
    refine turnZ_all ⟨_, rfl, _, rfl, ⟨ya, _, rfl, hya2⟩, _, rfl, ya, ns, (l : Int), rfl, rfl, hya2, _, _, rfl, rfl, ⟨⟨b3, by unfold B30 at *; omega⟩, ⟨by omega, by unfold B30 at *; omega⟩⟩, _, s2 _ _ hd', ?_, same_upd hd (sm.trans s2), ?_⟩
    · rw [List.length_map, List.length_take, List.length_zipWith]; exact small1000 (by omega)
    · rw [upd_same, List.take_add_one, zip_at2 hz hn, List.map_append]; rfl
  · obtain ⟨sm, hd'⟩ := hP
    rw [List.length_map] at hd'
    rw [List.take_of_length_le (by rw [List.length_zipWith]; omega)] at hd'
    exact ⟨d, _, rfl, hd', q H' (s1.trans sm)⟩
abbrev NWS : List Str := ["prices", "weights", "code", "thing"]
def spWS : Sp := fun vs H Q _ => ∃ (p wa c : Addr) (ps ws : List Int) (nss : CT.Code) (l : Nat), vs = [.ref p, .ref wa, .ref c, .int (l : Int)] ∧ Cd H p wa c ps ws nss ∧ l < ws.length ∧ ∀ H', Same H H' → Q (.int (sW ps l nss)) H'
theorem scWS : FnScope NWS NWS (defScope sWS) := ⟨rfl, rfl, rfl, by decide +kernel, rfl, by decide +kernel, by decide +kernel⟩
theorem ok_ws (F : Fun K "weight_share" "weight_share" sWS f fd) (GC : Fns P' w K mg base PCo "cost" spPCost 3) (GR : Fns P' w K mg base ["weights", "thing"] "refuse_thing" spRL 3) (GP : Fns P' w K mg base ["prices", "word"] "word_price" spPrice 3) : FnOk P' w K mg base CX0 4 f fd NWS spWS := by
  refine F.ok (k := 3) scWS (fun vs H Q E h => ?_) (fun cdv A outer s H vs Q E hr h => ?_)
  · obtain ⟨p, wa, c, ps, ws, nss, l, rfl, _⟩ := h
    rfl
  obtain ⟨p, wa, c, ps, ws, nss, l, rfl, cd, hl, q⟩ := h
  obtain ⟨hp, hw, ⟨xs, hc, hx⟩, el, l1, l2, bp, bw⟩ := cd
  have lx : xs.length = nss.length := hx.length
  have xl : xs[l]? = some (xs[l]'(by omega)) := List.getElem?_eq_getElem _
  obtain ⟨u, hu, ru⟩ := Paired.right_of hx l _ xl
  have eu : nss.getD l [] = u := by rw [List.getD_eq_getElem?_getD, hu]; rfl
  have um := List.mem_of_getElem? hu
  refine ⟨_, pss_cons (ps_expr (pe_call GC.ok hr (by rfl) GC.m GC.kp GC.b .nil pass0 (pa_cons (pv 0) (pa_cons (pv 1) (pa_cons (pv 2) pa_nil)))))
    (pss_cons (ps_expr (pe_call GR.ok hr (by rfl) GR.m GR.kp GR.b .nil pass0 (pa_cons (pv 1) (pa_cons (pv 3) pa_nil))))
    (pss_one (ps_ret (pe_call GP.ok hr (by rfl) GP.m GP.kp GP.b .nil pass0 (pa_cons (pv 0) (pa_cons (pe_ix ix_tup (pv 2) (pv 3) (fun _ _ => rfl)) pa_nil)))))), ?_⟩
  refine ⟨_, rfl, _, rfl, _, rfl, p, wa, c, ps, ws, xs, nss, rfl, hp, hw, hc, hx, el, l1, l2, bp, bw, fun H1 s1 => ?_⟩
  refine ⟨_, rfl, _, rfl, wa, ws, l, rfl, s1 _ _ hw, hl, ?_⟩
  refine ⟨_, rfl, _, rfl, _, rfl, c, _, _, _, rfl, rfl, SqT.of (s1 _ _ hc), at_nat xl, .ref p, _, ps, u, rfl, Wd.of (s1 _ _ hp), Wd.same s1 ru, (l2 u um).2, (l2 u um).1, fun H2 s2 => ?_⟩
  have := q H2 (s1.trans s2)
  unfold sW at this
  rw [eu] at this
  exact this
end
end Q
end K98
set_option Elab.async false
set_option linter.all false
set_option maxRecDepth 100000
namespace K98
open PySem L2
namespace Q
def Mn (ps ws : List Int) (c : CT.Code) : Prop := c ∈ CT.Cs ps.length ws.length ∧ ∀ d ∈ CT.Cs ps.length ws.length, CT.co ps ws 0 c ≤ CT.co ps ws 0 d
theorem mi_F {ps ws : List Int} {h t : Nat → Nat → Nat → OI} {F : Nat → Nat → OI} (T : CT.Tb ps.length ws.length h t F (pl ps) (Wt ws)) (hn : 1 ≤ ws.length) : CT.mi ((CT.Cs ps.length ws.length).map (CT.co ps ws 0)) = F 0 ws.length := by
  have := (CT.least T CT.en ws.length ws.length 0 (Nat.le_refl _) hn (by omega)).1
  rw [Nat.zero_add] at this
  exact this
theorem mn_F {ps ws : List Int} {h t : Nat → Nat → Nat → OI} {F : Nat → Nat → OI} (T : CT.Tb ps.length ws.length h t F (pl ps) (Wt ws)) (hn : 1 ≤ ws.length) {c : CT.Code} (m : Mn ps ws c) : F 0 ws.length = some (CT.co ps ws 0 c) := by
  rw [← mi_F T hn]
  refine CT.mi_some.mpr ⟨List.mem_map_of_mem m.1, fun k hk => ?_⟩
  obtain ⟨d, hd, rfl⟩ := List.mem_map.mp hk
  exact m.2 d hd
theorem mn_fnd {H : Hp} {a ca d : Addr} {ra : Nat → Addr} {ps ws : List Int} {h t : Nat → Nat → Nat → OI} {F : Nat → Nat → OI} {c : CT.Code} (f : Fnd H a ca d ra ps ws h t F c) (hL : 0 < ps.length) (hn : 1 ≤ ws.length) : Mn ps ws c := by
  have i1 := (kc_in f.T hL f.ok.k).2 (Nat.le_refl _)
  rw [Nat.sub_zero] at i1
  have e := (kc_cost f.T hL f.ok.k).2.2.2 (Nat.le_refl _)
  refine ⟨i1, fun d hd => ?_⟩
  rw [← mi_F f.T hn] at e
  exact (CT.mi_some.mp e.symm).2 _ (List.mem_map_of_mem hd)
section
variable {P' : Program} {w : World} {K : PySem.W.Frag} {mg : Str → Option Value} {base : Heap} {f : Addr} {fd : FuncData}
def spLf2 : Sp := fun vs H Q _ => ∃ (p q : Addr) (ps ws : List Int), vs = [.ref p, .ref q] ∧ TW H p ps ∧ TW H q ws ∧ Num ps ws ∧ Po ps ∧ Po ws ∧
  ∀ (d : Addr) (ra : Nat → Addr) h t F H', Same H H' → FlO H' d ra ws.length F → CT.Tb ps.length ws.length h t F (pl ps) (Wt ws) → Q (.ref d) H'
theorem ok_lf2 {C : Addr} (F : Fun K "least_floors" "least_floors" sLf f fd) (G : Fns P' w K mg base ["prices", "weights"] "parted_least" (spPl C) 5) (M : Mt P' w K mg base C "bounds" ["self"] (spBounds C) 5) (rc : PC K C) : FnOk P' w K mg base CX0 6 f fd ["prices", "weights"] spLf2 := by
  refine F.ok (k := 5) scLf (fun vs H Q E h => ?_) (fun cdv A outer s H vs Q E hr h => ?_)
  · obtain ⟨p, q, ps, ws, rfl, _⟩ := h
    rfl
  obtain ⟨p, q, ps, ws, rfl, hp, hq, nu, pp, pw, qq⟩ := h
  refine ⟨_, pss_one (ps_ret (pe_meth0 (pe_call G.ok hr (by rfl) G.m G.kp G.b .nil pass0 (pa_cons (pv 0) (pa_cons (pv 1) pa_nil))) rc.c M.m M.ok hr M.b .nil pass0)), ?_⟩
  refine ⟨_, rfl, _, rfl, p, q, ps, ws, rfl, hp, hq, nu, fun r X h t F H1 s1 pa fn => ?_⟩
  obtain ⟨dx, ho⟩ := pa.ob
  refine ⟨r, dx, _, rfl, ho, rfl, r, p, ps, ws, X, h, t, rfl, pa, nu.w20, nu.p10, fun d ra H2 s2 hd h1 h2 h3 h4 h5 => ?_⟩
  refine qq d ra h t F H2 (s1.trans s2) ⟨h4, fun i hi => ?_⟩ (fn.tb nu.p2 pp pw)
  rw [h5 i hi, List.map_map]
  refine congrArg (fun z => some (HO.lst z)) (List.map_congr_left fun b hb => ?_)
  have := List.mem_range.mp hb
  show oV (bnd ps.length h t i (i + b + 1)) = oV (F i (i + b + 1))
  rw [fn.bd i (i + b + 1) (by omega) (by omega) trivial]
def spIck : Sp := fun vs H Q _ => ∃ (p wa c : Addr) (ps ws : List Int) (nss : CT.Code), vs = [.ref p, .ref wa, .ref c] ∧ Cd H p wa c ps ws nss ∧ Num ps ws ∧ Po ps ∧ Po ws ∧ Mn ps ws nss ∧ ∀ H', Same H H' → Q (.bl true) H'
theorem scIck : FnScope PCo PCo (defScope sIck) := ⟨rfl, rfl, rfl, by decide +kernel, rfl, by decide +kernel, by decide +kernel⟩
set_option maxHeartbeats 4000000 in
theorem ok_ick (F : Fun K "is_cheapest_kept" "is_cheapest_kept" sIck f fd) (GC : Fns P' w K mg base PCo "cost" spPCost 6) (GL : Fns P' w K mg base ["prices", "weights"] "least_floors" spLf2 6) (GK : Fns P' w K mg base ["code"] "is_kept" spKept 6) : FnOk P' w K mg base CX0 7 f fd PCo spIck := by
  refine F.ok (k := 6) scIck (fun vs H Q E h => ?_) (fun cdv A outer s H vs Q E hr h => ?_)
  · obtain ⟨p, wa, c, ps, ws, nss, rfl, _⟩ := h
    rfl
  obtain ⟨p, wa, c, ps, ws, nss, rfl, cd, nu, pp, pw, mn, q⟩ := h
  obtain ⟨hp, hw, ⟨xs, hc, hx⟩, el, l1, l2, bp, bw⟩ := cd
  refine ⟨_, pss_one (ps_ret (pe_and (pe_cmpR op_eq (pe_call GC.ok hr (by rfl) GC.m GC.kp GC.b .nil pass0 (pa_cons (pv 0) (pa_cons (pv 1) (pa_cons (pv 2) pa_nil)))) (pe_ix ix_list (pe_ix ix_list (pe_call GL.ok hr (by rfl) GL.m GL.kp GL.b .nil pass0 (pa_cons (pv 0) (pa_cons (pv 1) pa_nil))) pe_int (fun _ _ => rfl)) (pe_un un_neg pe_int) (fun _ _ => rfl)) (nomark _)) (pe_one (pe_call GK.ok hr (by rfl) GK.m GK.kp GK.b .nil pass0 (pa_cons (pv 2) pa_nil))))), ?_⟩
  refine ⟨_, rfl, _, rfl, _, rfl, p, wa, c, ps, ws, xs, nss, rfl, hp, hw, hc, hx, el, l1, l2, bp, bw, fun H1 s1 => ?_⟩
  refine ⟨_, rfl, _, rfl, p, wa, ps, ws, rfl, s1 _ _ hp, s1 _ _ hw, nu, pp, pw, fun d ra h t F H2 s2 fl tb => ?_⟩
  have n1 := nu.w1
  refine ⟨d, _, _, _, rfl, rfl, SqL.of fl.o, at_rng (k := 0) (by omega), _, rfl, ra 0, _, _, _, rfl, rfl, SqL.of (fl.r 0 (by omega)), last_O n1, ?_⟩
  rw [mn_F tb n1 mn]
  refine ⟨rfl, _, rfl, ?_⟩
  have e1 : decide (V.int (CT.co ps ws 0 nss) = oV (some (CT.co ps ws 0 nss))) = true := decide_eq_true rfl
  rw [e1]
  refine iteT ⟨_, rfl, c, xs, nss, rfl, (s1.trans s2) _ _ hc, Ws.same (s1.trans s2) hx, l1, fun H3 b s3 hb => ?_⟩
  rw [hb.mpr (cs_kadj n1 nss mn.1)]
  exact q H3 ((s1.trans s2).trans s3)
def fN : Bool → Str
  | true => "letter"
  | false => "thing"
def cN : Bool → Str
  | true => "PriceMove"
  | false => "WeightMove"
def nw : Bool → List Int → List Int → Nat → Int
  | true, ps, _, l => ps.getD l 0
  | false, _, ws, l => ws.getD l 0
def sR : Bool → List Int → List Int → Nat → CT.Code → Int
  | true, _, ws, l, c => sh ws (l : Int) c
  | false, ps, _, l, c => sW ps l c
def nL : Bool → List Int → List Int → Nat
  | true, ps, _ => ps.length
  | false, _, ws => ws.length
def mP : Bool → List Int → Nat → Int → List Int
  | true, ps, l, x => pm ps l x
  | false, ps, _, _ => ps
def mW : Bool → List Int → Nat → Int → List Int
  | true, ws, _, _ => ws
  | false, ws, l, x => pm ws l x
structure MC (b : Bool) (K : PySem.W.Frag) (M : Addr) : Prop where
  c : Cls K M
  np : NoAttr K M "prices"
  nw : NoAttr K M "weights"
  nl : NoAttr K M (fN b)
abbrev mf1 (p : Addr) : List (Str × V) := [("prices", .ref p)]
abbrev mf2 (p wa : Addr) : List (Str × V) := [("prices", .ref p), ("weights", .ref wa)]
abbrev mf (b : Bool) (p wa : Addr) (l : Nat) : List (Str × V) := [("prices", .ref p), ("weights", .ref wa), (fN b, .int (l : Int))]
abbrev PMi (b : Bool) : List Str := ["self", "prices", "weights", fN b]
def spMInit (b : Bool) (M : Addr) : Sp := fun vs H Q _ => ∃ (r dx p wa : Addr) (l : Nat), vs = [.ref r, .ref p, .ref wa, .int (l : Int)] ∧ H r = some (.ins M dx []) ∧ ∀ H', (∀ a o, a ≠ r → H a = some o → H' a = some o) → H' r = some (.ins M dx (mf b p wa l)) → Q .non H'
theorem scMiP : FnScope (PMi true) (PMi true) (defScope iPm) := ⟨rfl, rfl, rfl, by decide +kernel, rfl, by decide +kernel, by decide +kernel⟩
theorem ok_minitP {M : Addr} (F : Fun K "__init__" "PriceMove.__init__" iPm f fd) (rc : MC true K M) : FnOk P' w K mg base CX0 1 f fd (PMi true) (spMInit true M) := by
  refine F.ok (k := 0) scMiP (fun vs H Q E h => ?_) (fun cdv A outer s H vs Q E' hr h => ?_)
  · obtain ⟨r, dx, p, wa, l, rfl, _⟩ := h
    rfl
  obtain ⟨r, dx, p, wa, l, rfl, h0, q⟩ := h
  refine ⟨_, pss_cons (ps_fld (pv 0) (pv 1) rfl) (pss_cons (ps_fld (pv 0) (pv 2) rfl) (pss_one (ps_fld (pv 0) (pv 3) rfl))), ?_⟩
  refine ⟨_, rfl, _, rfl, r, M, dx, _, rfl, h0, rc.c, rc.np, (by show 0 < 1000; decide), ?_⟩
  rw [show putF "prices" (V.ref p) [] = mf1 p from rfl]
  have g1 : upd H r (.ins M dx (mf1 p)) r = some (.ins M dx (mf1 p)) := upd_same
  have k1 : ∀ a o, a ≠ r → H a = some o → upd H r (.ins M dx (mf1 p)) a = some o := fun a o ha e => by rw [upd_ne ha]; exact e
  generalize upd H r (.ins M dx (mf1 p)) = H1 at g1 k1 ⊢
  refine ⟨_, rfl, _, rfl, r, M, dx, _, rfl, g1, rc.c, rc.nw, (by show 1 < 1000; decide), ?_⟩
  rw [show putF "weights" (V.ref wa) (mf1 p) = mf2 p wa from rfl]
  have g2 : upd H1 r (.ins M dx (mf2 p wa)) r = some (.ins M dx (mf2 p wa)) := upd_same
  have k2 : ∀ a o, a ≠ r → H a = some o → upd H1 r (.ins M dx (mf2 p wa)) a = some o := fun a o ha e => by rw [upd_ne ha]; exact k1 a o ha e
  generalize upd H1 r (.ins M dx (mf2 p wa)) = H2 at g2 k2 ⊢
  refine ⟨_, rfl, _, rfl, r, M, dx, _, rfl, g2, rc.c, rc.nl, (by show 2 < 1000; decide), ?_⟩
  rw [show putF "letter" (V.int (l : Int)) (mf2 p wa) = mf true p wa l from rfl]
  exact q _ (fun a o ha e => by rw [upd_ne ha]; exact k2 a o ha e) upd_same
theorem scMiW : FnScope (PMi false) (PMi false) (defScope iWm) := ⟨rfl, rfl, rfl, by decide +kernel, rfl, by decide +kernel, by decide +kernel⟩
theorem ok_minitW {M : Addr} (F : Fun K "__init__" "WeightMove.__init__" iWm f fd) (rc : MC false K M) : FnOk P' w K mg base CX0 1 f fd (PMi false) (spMInit false M) := by
  refine F.ok (k := 0) scMiW (fun vs H Q E h => ?_) (fun cdv A outer s H vs Q E' hr h => ?_)
  · obtain ⟨r, dx, p, wa, l, rfl, _⟩ := h
    rfl
  obtain ⟨r, dx, p, wa, l, rfl, h0, q⟩ := h
  refine ⟨_, pss_cons (ps_fld (pv 0) (pv 1) rfl) (pss_cons (ps_fld (pv 0) (pv 2) rfl) (pss_one (ps_fld (pv 0) (pv 3) rfl))), ?_⟩
  refine ⟨_, rfl, _, rfl, r, M, dx, _, rfl, h0, rc.c, rc.np, (by show 0 < 1000; decide), ?_⟩
  rw [show putF "prices" (V.ref p) [] = mf1 p from rfl]
  have g1 : upd H r (.ins M dx (mf1 p)) r = some (.ins M dx (mf1 p)) := upd_same
  have k1 : ∀ a o, a ≠ r → H a = some o → upd H r (.ins M dx (mf1 p)) a = some o := fun a o ha e => by rw [upd_ne ha]; exact e
  generalize upd H r (.ins M dx (mf1 p)) = H1 at g1 k1 ⊢
  refine ⟨_, rfl, _, rfl, r, M, dx, _, rfl, g1, rc.c, rc.nw, (by show 1 < 1000; decide), ?_⟩
  rw [show putF "weights" (V.ref wa) (mf1 p) = mf2 p wa from rfl]
  have g2 : upd H1 r (.ins M dx (mf2 p wa)) r = some (.ins M dx (mf2 p wa)) := upd_same
  have k2 : ∀ a o, a ≠ r → H a = some o → upd H1 r (.ins M dx (mf2 p wa)) a = some o := fun a o ha e => by rw [upd_ne ha]; exact k1 a o ha e
  generalize upd H1 r (.ins M dx (mf2 p wa)) = H2 at g2 k2 ⊢
  refine ⟨_, rfl, _, rfl, r, M, dx, _, rfl, g2, rc.c, rc.nl, (by show 2 < 1000; decide), ?_⟩
  rw [show putF "thing" (V.int (l : Int)) (mf2 p wa) = mf false p wa l from rfl]
  exact q _ (fun a o ha e => by rw [upd_ne ha]; exact k2 a o ha e) upd_same
structure ClM (b : Bool) (P : Program) (w : World) (K : PySem.W.Frag) (mg : Str → Option Value) (base : Heap) (M : Addr) where
  rc : MC b K M
  g : mg (cN b) = some (.ref M)
  fi : Addr
  di : FuncData
  mkk : Mk K M fi
  oki : FnOk P w K mg base CX0 1 fi di (PMi b) (spMInit b M)
  bi : Binds K di (PMi b) []
def SameU (H H' : Hp) : Prop := ∀ a o, (∀ ps, o ≠ .tbl ps) → H a = some o → H' a = some o
structure Kq (T : Addr) (H H' : Hp) : Prop where
  sm : SameU H H'
  tb : TabAt H' T lamO lamQ
theorem Kq.of {T : Addr} {H H' : Hp} (t : TabAt H T lamO lamQ) (s : Same H H') : Kq T H H' := ⟨fun a o _ e => s a o e, TabAt.same s t⟩
theorem Kq.trans {T : Addr} {H H1 H2 : Hp} (a : Kq T H H1) (b : Kq T H1 H2) : Kq T H H2 := ⟨fun x o n e => b.sm x o n (a.sm x o n e), b.tb⟩
theorem Kq.then {T : Addr} {H H1 H2 : Hp} (a : Kq T H H1) (b : Same H1 H2) : Kq T H H2 := a.trans (.of a.tb b)
theorem Kq.tup {T : Addr} {H H' : Hp} {a : Addr} {xs : List V} (k : Kq T H H') (e : H a = some (.tup xs)) : H' a = some (.tup xs) := k.sm _ _ (by intro _ z; cases z) e
theorem Kq.lst {T : Addr} {H H' : Hp} {a : Addr} {xs : List V} (k : Kq T H H') (e : H a = some (.lst xs)) : H' a = some (.lst xs) := k.sm _ _ (by intro _ z; cases z) e
theorem Kq.ws {T : Addr} {H H' : Hp} {xs : List V} {us : List (List Int)} (k : Kq T H H') (h : Ws H xs us) : Ws H' xs us := Paired.mapP h fun x y z => by
  obtain ⟨a, rfl, ha⟩ := Wd.ti z
  exact Wd.of (k.tup ha)
theorem Kq.found {T : Addr} {H H' : Hp} (t : TabAt H T lamO lamQ) (s : SameT T H H') (b : TabTo T H H') : Kq T H H' := ⟨fun a o n e => by
  obtain ⟨qs, hT⟩ := TabAt.tb t
  exact s a o (ne_of e hT (n qs)) e, b.1⟩
theorem Cd.kq {T : Addr} {H H' : Hp} {p wa c : Addr} {ps ws : List Int} {nss : CT.Code} (x : Cd H p wa c ps ws nss) (k : Kq T H H') : Cd H' p wa c ps ws nss := by
  obtain ⟨xs, h1, h2⟩ := x.hc
  exact ⟨k.tup x.hp, k.tup x.hw, ⟨xs, k.tup h1, k.ws h2⟩, x.ln, x.l1, x.l2, x.bp, x.bw⟩
structure Mv (b : Bool) (M : Addr) (H : Hp) (r p wa : Addr) (ps ws : List Int) (l : Nat) : Prop where
  ob : ∃ dx, H r = some (.ins M dx (mf b p wa l))
  hp : TW H p ps
  hw : TW H wa ws
  nu : Num ps ws
  pp : Po ps
  pw : Po ws
  hl : l < nL b ps ws
theorem Mv.kq {b : Bool} {M T : Addr} {H H' : Hp} {r p wa : Addr} {ps ws : List Int} {l : Nat} (x : Mv b M H r p wa ps ws l) (k : Kq T H H') : Mv b M H' r p wa ps ws l := by
  obtain ⟨dx, h⟩ := x.ob
  exact ⟨⟨dx, k.sm _ _ (by intro _ z; cases z) h⟩, k.tup x.hp, k.tup x.hw, x.nu, x.pp, x.pw, x.hl⟩
theorem at_getD {ps : List Int} {l : Nat} (h : l < ps.length) : ps[l]? = some (ps.getD l 0) := by rw [List.getD_eq_getElem?_getD, List.getElem?_eq_getElem h]; rfl
theorem nw_bd {b : Bool} {ps ws : List Int} {l : Nat} (nu : Num ps ws) (pp : Po ps) (pw : Po ws) (hl : l < nL b ps ws) : 1 ≤ nw b ps ws l ∧ nw b ps ws l ≤ B30 := by
  cases b with
  | true =>
    have hm : ps.getD l 0 ∈ ps := List.mem_of_getElem? (at_getD hl)
    exact ⟨by have := pp _ hm; show 1 ≤ ps.getD l 0; omega, (nu.bp _ hm).2⟩
  | false =>
    have hm : ws.getD l 0 ∈ ws := List.mem_of_getElem? (at_getD hl)
    exact ⟨by have := pw _ hm; show 1 ≤ ws.getD l 0; omega, (nu.bw _ hm).2⟩
def spNow (b : Bool) (M : Addr) : Sp := fun vs H Q _ => ∃ (r p wa : Addr) (ps ws : List Int) (l : Nat), vs = [.ref r] ∧ Mv b M H r p wa ps ws l ∧ Q (.int (nw b ps ws l)) H
theorem scNowP : FnScope ["self"] ["self"] (defScope sNow) := ⟨rfl, rfl, rfl, by decide +kernel, rfl, by decide +kernel, by decide +kernel⟩
theorem ok_nowP {M : Addr} (F : Fun K "now" "PriceMove.now" sNow f fd) (rc : MC true K M) : FnOk P' w K mg base CX0 1 f fd ["self"] (spNow true M) := by
  refine F.ok (k := 0) scNowP (fun vs H Q E h => ?_) (fun cdv A outer s H vs Q E hr h => ?_)
  · obtain ⟨r, p, wa, ps, ws, l, rfl, _⟩ := h
    rfl
  obtain ⟨r, p, wa, ps, ws, l, rfl, mv, q⟩ := h
  obtain ⟨dx, ho⟩ := mv.ob
  refine ⟨_, pss_one (ps_ret (pe_ix ix_tup (pe_fld (pv 0) rfl) (pe_fld (pv 0) rfl) (fun _ _ => rfl))), ?_⟩
  exact ⟨_, rfl, r, M, dx, _, _, rfl, ho, rc.c, rc.np, rfl, _, rfl, r, M, dx, _, _, rfl, ho, rc.c, rc.nl, rfl, p, _, _, _, rfl, rfl, SqT.of mv.hp, at_int (at_getD mv.hl), q⟩
theorem scNowW : FnScope ["self"] ["self"] (defScope sNowW) := ⟨rfl, rfl, rfl, by decide +kernel, rfl, by decide +kernel, by decide +kernel⟩
theorem ok_nowW {M : Addr} (F : Fun K "now" "WeightMove.now" sNowW f fd) (rc : MC false K M) : FnOk P' w K mg base CX0 1 f fd ["self"] (spNow false M) := by
  refine F.ok (k := 0) scNowW (fun vs H Q E h => ?_) (fun cdv A outer s H vs Q E hr h => ?_)
  · obtain ⟨r, p, wa, ps, ws, l, rfl, _⟩ := h
    rfl
  obtain ⟨r, p, wa, ps, ws, l, rfl, mv, q⟩ := h
  obtain ⟨dx, ho⟩ := mv.ob
  refine ⟨_, pss_one (ps_ret (pe_ix ix_tup (pe_fld (pv 0) rfl) (pe_fld (pv 0) rfl) (fun _ _ => rfl))), ?_⟩
  exact ⟨_, rfl, r, M, dx, _, _, rfl, ho, rc.c, rc.nw, rfl, _, rfl, r, M, dx, _, _, rfl, ho, rc.c, rc.nl, rfl, wa, _, _, _, rfl, rfl, SqT.of mv.hw, at_int (at_getD mv.hl), q⟩
def spShr (b : Bool) (M : Addr) : Sp := fun vs H Q _ => ∃ (r c p wa : Addr) (ps ws : List Int) (l : Nat) (nss : CT.Code), vs = [.ref r, .ref c] ∧ Mv b M H r p wa ps ws l ∧ Cd H p wa c ps ws nss ∧ ∀ H', Same H H' → Q (.int (sR b ps ws l nss)) H'
theorem scShrP : FnScope ["self", "code"] ["self", "code"] (defScope sShare) := ⟨rfl, rfl, rfl, by decide +kernel, rfl, by decide +kernel, by decide +kernel⟩
theorem ok_shrP {M : Addr} (F : Fun K "share" "PriceMove.share" sShare f fd) (rc : MC true K M) (G : Fns P' w K mg base NPS "price_share" spPS 4) : FnOk P' w K mg base CX0 5 f fd ["self", "code"] (spShr true M) := by
  refine F.ok (k := 4) scShrP (fun vs H Q E h => ?_) (fun cdv A outer s H vs Q E hr h => ?_)
  · obtain ⟨r, c, p, wa, ps, ws, l, nss, rfl, _⟩ := h
    rfl
  obtain ⟨r, c, p, wa, ps, ws, l, nss, rfl, mv, cd, q⟩ := h
  obtain ⟨dx, ho⟩ := mv.ob
  refine ⟨_, pss_one (ps_ret (pe_call G.ok hr (by rfl) G.m G.kp G.b .nil pass0 (pa_cons (pe_fld (pv 0) rfl) (pa_cons (pe_fld (pv 0) rfl) (pa_cons (pv 1) (pa_cons (pe_fld (pv 0) rfl) pa_nil)))))), ?_⟩
  exact ⟨_, rfl, r, M, dx, _, _, rfl, ho, rc.c, rc.np, rfl, _, rfl, r, M, dx, _, _, rfl, ho, rc.c, rc.nw, rfl, _, rfl, _, rfl, r, M, dx, _, _, rfl, ho, rc.c, rc.nl, rfl, p, wa, c, ps, ws, nss, l, rfl, cd, mv.hl, q⟩
theorem scShrW : FnScope ["self", "code"] ["self", "code"] (defScope sShareW) := ⟨rfl, rfl, rfl, by decide +kernel, rfl, by decide +kernel, by decide +kernel⟩
theorem ok_shrW {M : Addr} (F : Fun K "share" "WeightMove.share" sShareW f fd) (rc : MC false K M) (G : Fns P' w K mg base NWS "weight_share" spWS 4) : FnOk P' w K mg base CX0 5 f fd ["self", "code"] (spShr false M) := by
  refine F.ok (k := 4) scShrW (fun vs H Q E h => ?_) (fun cdv A outer s H vs Q E hr h => ?_)
  · obtain ⟨r, c, p, wa, ps, ws, l, nss, rfl, _⟩ := h
    rfl
  obtain ⟨r, c, p, wa, ps, ws, l, nss, rfl, mv, cd, q⟩ := h
  obtain ⟨dx, ho⟩ := mv.ob
  refine ⟨_, pss_one (ps_ret (pe_call G.ok hr (by rfl) G.m G.kp G.b .nil pass0 (pa_cons (pe_fld (pv 0) rfl) (pa_cons (pe_fld (pv 0) rfl) (pa_cons (pv 1) (pa_cons (pe_fld (pv 0) rfl) pa_nil)))))), ?_⟩
  exact ⟨_, rfl, r, M, dx, _, _, rfl, ho, rc.c, rc.np, rfl, _, rfl, r, M, dx, _, _, rfl, ho, rc.c, rc.nw, rfl, _, rfl, _, rfl, r, M, dx, _, _, rfl, ho, rc.c, rc.nl, rfl, p, wa, c, ps, ws, nss, l, rfl, cd, mv.hl, q⟩
theorem pm_bw {ps : List Int} {l : Nat} {x : Int} (h : Bw ps) (h1 : 1 ≤ x) (h2 : x ≤ B30) : Bw (pm ps l x) := fun z hz => by
  unfold pm at hz
  rcases List.mem_append.mp hz with hz | hz
  · rcases List.mem_append.mp hz with hz | hz
    · exact h z (List.mem_of_mem_take hz)
    · rw [List.mem_singleton.mp hz]; exact ⟨by omega, h2⟩
  · exact h z (List.mem_of_mem_drop hz)
theorem pm_po {ps : List Int} {l : Nat} {x : Int} (h : Po ps) (h1 : 1 ≤ x) : Po (pm ps l x) := fun z hz => by
  unfold pm at hz
  rcases List.mem_append.mp hz with hz | hz
  · rcases List.mem_append.mp hz with hz | hz
    · exact h z (List.mem_of_mem_take hz)
    · rw [List.mem_singleton.mp hz]; omega
  · exact h z (List.mem_of_mem_drop hz)
def spAt (b : Bool) (M T : Addr) : Sp := fun vs H Q _ => ∃ (r p wa : Addr) (ps ws : List Int) (l : Nat) (x : Int), vs = [.ref r, .int x] ∧ Mv b M H r p wa ps ws l ∧ 1 ≤ x ∧ x ≤ B30 ∧ TabAt H T lamO lamQ ∧
  ∀ (ca : Addr) (o : CT.Code) H', Kq T H H' → (∃ xs, H' ca = some (.tup xs) ∧ Ws H' xs o) → Mn (mP b ps l x) (mW b ws l x) o → Q (.ref ca) H'
theorem scAtP : FnScope ["self", "number"] ["self", "number"] (defScope sAt) := ⟨rfl, rfl, rfl, by decide +kernel, rfl, by decide +kernel, by decide +kernel⟩
theorem ok_atP {M T : Addr} {k : Nat} (hk : 3 ≤ k) (F : Fun K "cheapest_at" "PriceMove.cheapest_at" sAt f fd) (rc : MC true K M) (GP : Fns P' w K mg base ["prices", "letter", "number"] "price_moved" spWN 3) (GK : Fns P' w K mg base ["prices", "weights"] "cheapest_kept" (spCk T) k) : FnOk P' w K mg base CX0 (k + 1) f fd ["self", "number"] (spAt true M T) := by
  refine F.ok (k := k) scAtP (fun vs H Q E h => ?_) (fun cdv A outer s H vs Q E hr h => ?_)
  · obtain ⟨r, p, wa, ps, ws, l, x, rfl, _⟩ := h
    rfl
  obtain ⟨r, p, wa, ps, ws, l, x, rfl, mv, x1, x2, tab, q⟩ := h
  have GP := GP.up hk
  obtain ⟨dx, ho⟩ := mv.ob
  have p6 := mv.nu.p10
  refine ⟨_, pss_one (ps_ret (pe_ix ix_tup (pe_call GK.ok hr (by rfl) GK.m GK.kp GK.b .nil pass0 (pa_cons (pe_call GP.ok hr (by rfl) GP.m GP.kp GP.b .nil pass0 (pa_cons (pe_fld (pv 0) rfl) (pa_cons (pe_fld (pv 0) rfl) (pa_cons (pv 1) pa_nil)))) (pa_cons (pe_fld (pv 0) rfl) pa_nil))) pe_int (fun _ _ => rfl))), ?_⟩
  refine ⟨_, rfl, r, M, dx, _, _, rfl, ho, rc.c, rc.np, rfl, _, rfl, r, M, dx, _, _, rfl, ho, rc.c, rc.nl, rfl, _, rfl, p, ps, l, x, rfl, mv.hp, by omega, mv.hl, x1, x2, fun p' H1 s1 hp' => ?_⟩
  have el : (pm ps l x).length = ps.length := pm_len mv.hl
  have nu' : Num (pm ps l x) ws := ⟨by rw [el]; exact mv.nu.p2, by rw [el]; exact mv.nu.p10, mv.nu.w1, mv.nu.w20, pm_bw mv.nu.bp x1 x2, mv.nu.bw⟩
  refine ⟨_, rfl, r, M, dx, _, _, rfl, s1 _ _ ho, rc.c, rc.nw, rfl, p', wa, pm ps l x, ws, rfl, hp', s1 _ _ mv.hw, nu', pm_po mv.pp x1, mv.pw, TabAt.same s1 tab, fun a ca d ra h t F cde H2 s2 tb2 fnd => ?_⟩
  have k2 : Kq T H H2 := (Kq.of tab s1).trans (Kq.found (TabAt.same s1 tab) s2 tb2)
  refine ⟨a, _, _, _, rfl, rfl, SqT.of fnd.o, rfl, q ca cde H2 k2 fnd.cd (mn_fnd fnd (by show 0 < (pm ps l x).length; rw [el]; have := mv.nu.p2; omega) mv.nu.w1)⟩
theorem scAtW : FnScope ["self", "number"] ["self", "number"] (defScope sAtW) := ⟨rfl, rfl, rfl, by decide +kernel, rfl, by decide +kernel, by decide +kernel⟩
theorem ok_atW {M T : Addr} {k : Nat} (hk : 3 ≤ k) (F : Fun K "cheapest_at" "WeightMove.cheapest_at" sAtW f fd) (rc : MC false K M) (GP : Fns P' w K mg base ["weights", "thing", "number"] "weight_moved" spWN 3) (GK : Fns P' w K mg base ["prices", "weights"] "cheapest_kept" (spCk T) k) : FnOk P' w K mg base CX0 (k + 1) f fd ["self", "number"] (spAt false M T) := by
  refine F.ok (k := k) scAtW (fun vs H Q E h => ?_) (fun cdv A outer s H vs Q E hr h => ?_)
  · obtain ⟨r, p, wa, ps, ws, l, x, rfl, _⟩ := h
    rfl
  obtain ⟨r, p, wa, ps, ws, l, x, rfl, mv, x1, x2, tab, q⟩ := h
  have GP := GP.up hk
  obtain ⟨dx, ho⟩ := mv.ob
  have n6 := mv.nu.w20
  refine ⟨_, pss_one (ps_ret (pe_ix ix_tup (pe_call GK.ok hr (by rfl) GK.m GK.kp GK.b .nil pass0 (pa_cons (pe_fld (pv 0) rfl) (pa_cons (pe_call GP.ok hr (by rfl) GP.m GP.kp GP.b .nil pass0 (pa_cons (pe_fld (pv 0) rfl) (pa_cons (pe_fld (pv 0) rfl) (pa_cons (pv 1) pa_nil)))) pa_nil))) pe_int (fun _ _ => rfl))), ?_⟩
  refine ⟨_, rfl, r, M, dx, _, _, rfl, ho, rc.c, rc.np, rfl, _, rfl, r, M, dx, _, _, rfl, ho, rc.c, rc.nw, rfl, _, rfl, r, M, dx, _, _, rfl, ho, rc.c, rc.nl, rfl, _, rfl, wa, ws, l, x, rfl, mv.hw, by omega, mv.hl, x1, x2, fun p' H1 s1 hp' => ?_⟩
  have el : (pm ws l x).length = ws.length := pm_len mv.hl
  have nu' : Num ps (pm ws l x) := ⟨mv.nu.p2, mv.nu.p10, by rw [el]; exact mv.nu.w1, by rw [el]; exact mv.nu.w20, mv.nu.bp, pm_bw mv.nu.bw x1 x2⟩
  refine ⟨p, p', ps, pm ws l x, rfl, s1 _ _ mv.hp, hp', nu', mv.pp, pm_po mv.pw x1, TabAt.same s1 tab, fun a ca d ra h t F cde H2 s2 tb2 fnd => ?_⟩
  have k2 : Kq T H H2 := (Kq.of tab s1).trans (Kq.found (TabAt.same s1 tab) s2 tb2)
  exact ⟨a, _, _, _, rfl, rfl, SqT.of fnd.o, rfl, q ca cde H2 k2 fnd.cd (mn_fnd fnd (by show 0 < ps.length; have := mv.nu.p2; omega) (by show 1 ≤ (pm ws l x).length; rw [el]; exact mv.nu.w1))⟩
end
end Q
end K98
set_option Elab.async false
set_option linter.all false
set_option maxRecDepth 100000
namespace K98
open PySem L2
namespace Q
theorem b_abs : bootBuiltins "abs" = some (.builtin "abs") := by decide +kernel
def okAt (b : Bool) (ps ws : List Int) (l : Nat) (c : CT.Code) (y : Int) : Prop := ∀ d ∈ CT.Cs ps.length ws.length, CT.co ps ws 0 c + sR b ps ws l c * (y - nw b ps ws l) ≤ CT.co ps ws 0 d + sR b ps ws l d * (y - nw b ps ws l)
theorem loss_mul (a p q k : Int) : a * (p - q) * k = p * (a * k) - q * (a * k) := by
  rw [Int.mul_sub, Int.sub_mul, Int.mul_comm a p, Int.mul_comm a q, Int.mul_assoc, Int.mul_assoc]
theorem mn_movedP {ps ws : List Int} {l : Nat} {x : Int} {o : CT.Code} (hl : l < ps.length) (hn : 1 ≤ ws.length) (m : Mn (pm ps l x) ws o) : o ∈ CT.Cs ps.length ws.length ∧ ∀ d ∈ CT.Cs ps.length ws.length, CT.co ps ws 0 o + sh ws (l : Int) o * (x - ps.getD l 0) ≤ CT.co ps ws 0 d + sh ws (l : Int) d * (x - ps.getD l 0) := by
  unfold Mn at m
  rw [pm_len hl] at m
  have lt : ∀ d ∈ CT.Cs ps.length ws.length, ∀ u ∈ d, ∀ z ∈ u, (0 : Int) ≤ z ∧ z < (ps.length : Int) := fun d hd u hu => ((CT.Cs_gd hn d hd).wd u hu).2
  refine ⟨m.1, fun d hd => ?_⟩
  rw [← co_moved hl ws o (lt o m.1), ← co_moved hl ws d (lt d hd)]
  exact m.2 d hd
theorem mn_movedW {ps ws : List Int} {l : Nat} {x : Int} {o : CT.Code} (hl : l < ws.length) (hn : 1 ≤ ws.length) (m : Mn ps (pm ws l x) o) : o ∈ CT.Cs ps.length ws.length ∧ ∀ d ∈ CT.Cs ps.length ws.length, CT.co ps ws 0 o + sW ps l o * (x - ws.getD l 0) ≤ CT.co ps ws 0 d + sW ps l d * (x - ws.getD l 0) := by
  unfold Mn at m
  rw [pm_len hl] at m
  refine ⟨m.1, fun d hd => ?_⟩
  rw [← co_movedW ws o l x hl (CT.Cs_gd hn o m.1).ln, ← co_movedW ws d l x hl (CT.Cs_gd hn d hd).ln]
  exact m.2 d hd
theorem sh_bd {l : Int} : ∀ {ws : List Int} {c : CT.Code}, Bw ws → (∀ u ∈ c, u.length ≤ 1000) → 0 ≤ sh ws l c ∧ sh ws l c ≤ (ws.length : Int) * (1000 * B30)
  | [], c, _, _ => ⟨by unfold sh; simp, by unfold sh; simp⟩
  | w :: ws, [], _, _ => ⟨by unfold sh; simp, by
      have : (0 : Int) ≤ ((w :: ws).length : Int) * (1000 * B30) := Int.mul_nonneg (by omega) (by decide)
      unfold sh
      simpa using this⟩
  | w :: ws, u :: c, hw, hu => by
    obtain ⟨i1, i2⟩ := sh_bd (l := l) (fun x hx => hw x (.tail _ hx)) fun v hv => hu v (.tail _ hv)
    have e : sh (w :: ws) l (u :: c) = w * ((u.count l : Nat) : Int) + sh ws l c := rfl
    obtain ⟨w0, w1⟩ := hw w (.head _)
    have hc : u.count l ≤ 1000 := Nat.le_trans List.count_le_length (hu u (.head _))
    have b1 : 0 ≤ w * ((u.count l : Nat) : Int) := Int.mul_nonneg w0 (by omega)
    have b2 : w * ((u.count l : Nat) : Int) ≤ B30 * 1000 := Int.mul_le_mul w1 (by omega) (by omega) (by decide)
    have e2 : ((w :: ws).length : Int) * (1000 * B30) = (ws.length : Int) * (1000 * B30) + 1000 * B30 := by
      rw [List.length_cons]
      push_cast
      rw [Int.add_mul]
      omega
    rw [e, e2]
    have : B30 * 1000 = 1000 * B30 := Int.mul_comm _ _
    omega
theorem sW_bd {ps ws : List Int} {l : Nat} {c : CT.Code} (hp : Bw ps) (hn : 1 ≤ ws.length) (hu : ∀ u ∈ c, u.length ≤ 1000) : 0 ≤ sW ps l c ∧ sW ps l c ≤ (ws.length : Int) * (1000 * B30) := by
  have hb : (c.getD l []).length ≤ 1000 := by
    rw [List.getD_eq_getElem?_getD]
    cases e : c[l]? with
    | none => exact Nat.zero_le _
    | some u => exact hu u (List.mem_of_getElem? e)
  obtain ⟨b1, b2⟩ := pc_bd hp (c.getD l [])
  have b3 : ((c.getD l []).length : Int) * B30 ≤ 1000 * B30 := Int.mul_le_mul_of_nonneg_right (by omega) (by decide)
  have b4 : 1 * (1000 * B30) ≤ (ws.length : Int) * (1000 * B30) := Int.mul_le_mul_of_nonneg_right (by omega) (by decide)
  unfold sW
  exact ⟨b1, by omega⟩
theorem mn_moved {b : Bool} {ps ws : List Int} {l : Nat} {x : Int} {o : CT.Code} (hl : l < nL b ps ws) (hn : 1 ≤ ws.length) (m : Mn (mP b ps l x) (mW b ws l x) o) : o ∈ CT.Cs ps.length ws.length ∧ ∀ d ∈ CT.Cs ps.length ws.length, CT.co ps ws 0 o + sR b ps ws l o * (x - nw b ps ws l) ≤ CT.co ps ws 0 d + sR b ps ws l d * (x - nw b ps ws l) := by
  cases b with
  | true => exact mn_movedP hl hn m
  | false => exact mn_movedW hl hn m
theorem sR_bd {b : Bool} {ps ws : List Int} {l : Nat} {c : CT.Code} (hp : Bw ps) (hw : Bw ws) (hn : 1 ≤ ws.length) (hu : ∀ u ∈ c, u.length ≤ 1000) : 0 ≤ sR b ps ws l c ∧ sR b ps ws l c ≤ (ws.length : Int) * (1000 * B30) := by
  cases b with
  | true => exact sh_bd hw hu
  | false => exact sW_bd hp hn hu
structure EndAt (b : Bool) (ps ws : List Int) (l : Nat) (c : CT.Code) (far x : Int) : Prop where
  up : nw b ps ws l < far → nw b ps ws l ≤ x ∧ x ≤ far ∧ ∀ y, x < y → y ≤ far → ¬ okAt b ps ws l c y
  dn : ¬ nw b ps ws l < far → far ≤ x ∧ x ≤ nw b ps ws l ∧ ∀ y, far ≤ y → y < x → ¬ okAt b ps ws l c y
  ok : okAt b ps ws l c x
def Bey (b : Bool) (H : Hp) (ps ws : List Int) (l : Nat) (c : CT.Code) (far x : Int) (v : V) : Prop := (x = far ∧ v = .non) ∨ (x ≠ far ∧ ∃ (ca : Addr) (o : CT.Code), v = .ref ca ∧ (∃ xs, H ca = some (.tup xs) ∧ Ws H xs o) ∧ o ∈ CT.Cs ps.length ws.length ∧ ∀ y, ((y = x + 1 ∧ nw b ps ws l < far) ∨ (y = x - 1 ∧ ¬ nw b ps ws l < far)) → CT.co ps ws 0 o + sR b ps ws l o * (y - nw b ps ws l) < CT.co ps ws 0 c + sR b ps ws l c * (y - nw b ps ws l))
theorem Bey.kq {b : Bool} {T : Addr} {H H' : Hp} {ps ws : List Int} {l : Nat} {c : CT.Code} {far x : Int} {v : V} (h : Bey b H ps ws l c far x v) (k : Kq T H H') : Bey b H' ps ws l c far x v := by
  rcases h with h | ⟨h1, ca, o, h2, ⟨xs, h3, h4⟩, h5⟩
  · exact .inl h
  · exact .inr ⟨h1, ca, o, h2, ⟨xs, k.tup h3, k.ws h4⟩, h5⟩
theorem lkN (b : Bool) {p wa : Addr} {l : Nat} : List.lookup ("now" : Str) (mf b p wa l) = none := by cases b <;> rfl
theorem lkS (b : Bool) {p wa : Addr} {l : Nat} : List.lookup ("share" : Str) (mf b p wa l) = none := by cases b <;> rfl
theorem lkA (b : Bool) {p wa : Addr} {l : Nat} : List.lookup ("cheapest_at" : Str) (mf b p wa l) = none := by cases b <;> rfl
section
variable {P' : Program} {w : World} {K : PySem.W.Frag} {mg : Str → Option Value} {base : Heap} {f : Addr} {fd : FuncData}
abbrev NEt : List Str := ["move", "code", "far", "ahead", "number", "cheaper", "other", "lead", "loss"]
abbrev PEt : List Str := ["move", "code", "far"]
def spEt (b : Bool) (M T : Addr) : Sp := fun vs H Q _ => ∃ (r c p wa : Addr) (ps ws : List Int) (l : Nat) (cde : CT.Code) (far : Int), vs = [.ref r, .ref c, .int far] ∧ Mv b M H r p wa ps ws l ∧ Cd H p wa c ps ws cde ∧ Mn ps ws cde ∧ 1 ≤ far ∧ far ≤ B30 ∧ TabAt H T lamO lamQ ∧
  ∀ (t : Addr) (v : V) (x : Int) H', Kq T H H' → H' t = some (.tup [.int x, v]) → EndAt b ps ws l cde far x → Bey b H' ps ws l cde far x v → Q (.ref t) H'
theorem scEt : FnScope NEt PEt (defScope sEt) := ⟨rfl, rfl, rfl, by decide +kernel, rfl, by decide +kernel, by decide +kernel⟩
set_option maxHeartbeats 16000000 in
theorem ok_et {b : Bool} {M T : Addr} {k : Nat} (hk : 5 ≤ k) (F : Fun K "end_towards" "end_towards" sEt f fd) (rc : MC b K M) (MN : Mt P' w K mg base M "now" ["self"] (spNow b M) 1) (MS : Mt P' w K mg base M "share" ["self", "code"] (spShr b M) 5) (MA : Mt P' w K mg base M "cheapest_at" ["self", "number"] (spAt b M T) k) (GC : Fns P' w K mg base PCo "cost" spPCost 3) (mb : mg "abs" = none) : FnOk P' w K mg base CX0 (k + 1) f fd PEt (spEt b M T) := by
  refine F.ok (k := k) scEt (fun vs H Q E h => ?_) (fun cdv A outer s H vs Q E hr h => ?_)
  · obtain ⟨r, c, p, wa, ps, ws, l, cde, far, rfl, _⟩ := h
    rfl
  obtain ⟨r, c, p, wa, ps, ws, l, cde, far, rfl, mv, cd, mn, f1, f2, tab, q⟩ := h
  have MN := MN.up (show 1 ≤ k by omega)
  have MS := MS.up hk
  have GC := GC.up (show 3 ≤ k by omega)
  refine ⟨_, pss_cons (ps_set (i := 3) scEt.nd rfl (Or.inl rfl) (pe_ifExp (pt_cmpR op_gt (pv 2) (pe_meth0 (pv 0) rc.c MN.m MN.ok hr MN.b .nil pass0) (nomark _)) pe_int (pe_un un_neg pe_int)))
      (pss_cons (ps_set (i := 4) scEt.nd rfl (Or.inl rfl) (pv 2))
      (pss_cons (ps_set (i := 5) scEt.nd rfl (Or.inl rfl) pe_non)
      (pss_one (ps_while PassesOwn.never (pt_val pe_bl)
        (pss_cons (ps_set (i := 6) scEt.nd rfl (Or.inl rfl) (pe_meth (pv 0) rc.c MA.m MA.ok hr MA.b .nil pass0 (pa_cons (pv 4) pa_nil)))
        (pss_cons (ps_set (i := 7) scEt.nd rfl (Or.inl rfl) (pe_op op_sub (pe_call GC.ok hr (by rfl) GC.m GC.kp GC.b .nil pass0 (pa_cons (pe_fld (pv 0) rfl) (pa_cons (pe_fld (pv 0) rfl) (pa_cons (pv 6) pa_nil)))) (pe_call GC.ok hr (by rfl) GC.m GC.kp GC.b .nil pass0 (pa_cons (pe_fld (pv 0) rfl) (pa_cons (pe_fld (pv 0) rfl) (pa_cons (pv 1) pa_nil))))))
        (pss_cons (ps_set (i := 8) scEt.nd rfl (Or.inl rfl) (pe_op op_mul (pv 3) (pe_op op_sub (pe_meth (pv 0) rc.c MS.m MS.ok hr MS.b .nil pass0 (pa_cons (pv 1) pa_nil)) (pe_meth (pv 0) rc.c MS.m MS.ok hr MS.b .nil pass0 (pa_cons (pv 6) pa_nil)))))
        (pss_cons (ps_if (pt_cmpR op_le (pe_op op_mulS (pv 8) (pe_callB call_abs (by rfl) mb b_abs (pa_cons (pe_op op_sub (pv 4) (pe_meth0 (pv 0) rc.c MN.m MN.ok hr MN.b .nil pass0)) pa_nil))) (pv 7) (nomark _)) (pss_one (ps_ret (pe_tup (pa_cons (pv 4) (pa_cons (pv 5) pa_nil))))) pss_nil)
        (pss_cons (ps_set (i := 4) scEt.nd rfl (Or.inl rfl) (pe_op op_add (pe_meth0 (pv 0) rc.c MN.m MN.ok hr MN.b .nil pass0) (pe_op op_mul (pv 3) (pe_op op_fdivC (pv 7) (pv 8)))))
        (pss_one (ps_set (i := 5) scEt.nd rfl (Or.inl rfl) (pv 6)))))))))))), ?_⟩
  obtain ⟨dx, ho⟩ := mv.ob
  obtain ⟨sB, sC⟩ := nw_bd mv.nu mv.pp mv.pw mv.hl
  have hn := mv.nu.w1
  have n6 := mv.nu.w20
  obtain ⟨m, hm0⟩ : ∃ m : Nat, (nw b ps ws l < far → far = nw b ps ws l + 1 * (m : Int)) ∧ (¬ nw b ps ws l < far → far = nw b ps ws l + (-1) * (m : Int)) := by
    by_cases z : nw b ps ws l < far
    · exact ⟨(far - nw b ps ws l).toNat, fun _ => by omega, fun y => absurd z y⟩
    · exact ⟨(nw b ps ws l - far).toNat, fun y => absurd y z, fun _ => by omega⟩
  have dirm : ∀ a : Int, ((nw b ps ws l < far ∧ a = 1) ∨ (¬ nw b ps ws l < far ∧ a = -1)) → far = nw b ps ws l + a * (m : Int) ∧ (a = 1 ∨ a = -1) := fun a h => by
    rcases h with ⟨h, rfl⟩ | ⟨h, rfl⟩
    · exact ⟨hm0.1 h, .inl rfl⟩
    · exact ⟨hm0.2 h, .inr rfl⟩
  have sb1 := sR_bd (b := b) (l := l) mv.nu.bp mv.nu.bw hn fun u hu => (cd.l2 u hu).2
  refine ⟨_, rfl, _, rfl, r, dx, _, rfl, ho, (by first | exact lkN b | exact lkS b | exact lkA b), r, p, wa, ps, ws, l, rfl, mv, _, _, rfl, rfl, _, rfl, ?_⟩
  refine ite2 (fun y => ?_) (fun y => ⟨_, rfl, ?_⟩)
  all_goals
    refine ⟨_, rfl, ⟨fun n σ H' => Kq T H H' ∧ ∃ (a : Int) (k' : Nat) (v : V) (x6 x7 x8 : Option V), ((nw b ps ws l < far ∧ a = 1) ∨ (¬ nw b ps ws l < far ∧ a = -1)) ∧ n = k' ∧ k' ≤ m ∧ ((k' = m ∧ v = .non) ∨ (k' < m ∧ ∃ (ca : Addr) (o : CT.Code), v = .ref ca ∧ (∃ xs, H' ca = some (.tup xs) ∧ Ws H' xs o) ∧ o ∈ CT.Cs ps.length ws.length ∧ CT.co ps ws 0 o + sR b ps ws l o * (a * ((k' + 1 : Nat) : Int)) < CT.co ps ws 0 cde + sR b ps ws l cde * (a * ((k' + 1 : Nat) : Int)))) ∧ (∀ j : Nat, k' < j → j ≤ m → ¬ okAt b ps ws l cde (nw b ps ws l + a * (j : Int))) ∧ σ = [some (.ref r), some (.ref c), some (.int far), some (.int a), some (.int (nw b ps ws l + a * (k' : Int))), some v, x6, x7, x8], ?_, ?_⟩⟩
  · have y1 : nw b ps ws l < far := of_decide_eq_true y
    refine ⟨m, .of tab (Same.refl _), 1, m, .non, none, none, none, .inl ⟨y1, rfl⟩, rfl, Nat.le_refl _, .inl ⟨rfl, rfl⟩, fun j h1 h2 => by omega, ?_⟩
    rw [← hm0.1 y1]
    rfl
  rotate_left
  · have y1 : ¬ nw b ps ws l < far := fun z => y (decide_eq_true z)
    refine ⟨m, .of tab (Same.refl _), -1, m, .non, none, none, none, .inr ⟨y1, rfl⟩, rfl, Nat.le_refl _, .inl ⟨rfl, rfl⟩, fun j h1 h2 => by omega, ?_⟩
    rw [← hm0.2 y1]
    rfl
  all_goals
    rintro n σ H2 ⟨k2, a, k', v, x6, x7, x8, dir, rfl, km, hv, no, rfl⟩
    obtain ⟨em, ha⟩ := dirm a dir
    have hmB : (m : Int) ≤ B30 := by rcases ha with rfl | rfl <;> omega
    have hx : 1 ≤ nw b ps ws l + a * (n : Int) ∧ nw b ps ws l + a * (n : Int) ≤ B30 := by rcases ha with rfl | rfl <;> omega
    have mv2 := mv.kq k2
    obtain ⟨dx2, ho2⟩ := mv2.ob
    refine ⟨_, rfl, iteT ⟨_, fun σ' H' n' => n', ?_⟩⟩
    refine ⟨_, rfl, r, dx2, _, rfl, ho2, (by first | exact lkN b | exact lkS b | exact lkA b), _, rfl, r, p, wa, ps, ws, l, _, rfl, mv2, hx.1, hx.2, k2.tb, fun ca o H3 k3 hco mno => ?_⟩
    have k03 := k2.trans k3
    have mv3 := mv.kq k03
    have cd3 := cd.kq k03
    obtain ⟨dx3, ho3⟩ := mv3.ob
    obtain ⟨oin, omin⟩ := mn_moved mv.hl hn mno
    have god := CT.Cs_gd hn o oin
    have cdo : Cd H3 p wa ca ps ws o := ⟨mv3.hp, mv3.hw, hco, god.ln, by rw [god.ln]; omega, fun u hu => ⟨(god.wd u hu).2, by have := (god.wd u hu).1; omega⟩, cd.bp, cd.bw⟩
    have sb2 := sR_bd (b := b) (l := l) mv.nu.bp mv.nu.bw hn fun u hu => (cdo.l2 u hu).2
    obtain ⟨xo, ho1, wo1⟩ := cdo.hc
    refine ⟨_, rfl, r, M, dx3, _, _, rfl, ho3, rc.c, rc.np, rfl, _, rfl, r, M, dx3, _, _, rfl, ho3, rc.c, rc.nw, rfl, _, rfl, p, wa, ca, ps, ws, xo, o, rfl, cdo.hp, cdo.hw, ho1, wo1, cdo.ln, cdo.l1, cdo.l2, cd.bp, cd.bw, fun H4 s4 => ?_⟩
    have cd4 := cd3.same s4
    obtain ⟨xc, hc1, wc1⟩ := cd4.hc
    refine ⟨_, rfl, r, M, dx3, _, _, rfl, s4 _ _ ho3, rc.c, rc.np, rfl, _, rfl, r, M, dx3, _, _, rfl, s4 _ _ ho3, rc.c, rc.nw, rfl, _, rfl, p, wa, c, ps, ws, xc, cde, rfl, cd4.hp, cd4.hw, hc1, wc1, cd.ln, cd.l1, cd.l2, cd.bp, cd.bw, fun H5 s5 => ?_⟩
    refine ⟨_, _, rfl, rfl, ?_⟩
    have k5 := (k03.then s4).then s5
    have mv5 := mv.kq k5
    obtain ⟨dx5, ho5⟩ := mv5.ob
    refine ⟨_, rfl, _, rfl, r, dx5, _, rfl, ho5, (by first | exact lkN b | exact lkS b | exact lkA b), _, rfl, r, c, p, wa, ps, ws, l, cde, rfl, mv5, cd.kq k5, fun H6 s6 => ?_⟩
    have k6 := k5.then s6
    have mv6 := mv.kq k6
    obtain ⟨dx6, ho6⟩ := mv6.ob
    refine ⟨_, rfl, r, dx6, _, rfl, ho6, (by first | exact lkN b | exact lkS b | exact lkA b), _, rfl, r, ca, p, wa, ps, ws, l, o, rfl, mv6, ((cdo.same s4).same s5).same s6, fun H7 s7 => ?_⟩
    have k7 := k6.then s7
    have mv7 := mv.kq k7
    obtain ⟨dx7, ho7⟩ := mv7.ob
    have k37 : Kq T H3 H7 := (((Kq.of k03.tb s4).then s5).then s6).then s7
    have k27 := k3.trans k37
    refine ⟨_, _, rfl, rfl, _, _, rfl, rfl, .inl ?_, ?_⟩
    · rcases ha with rfl | rfl <;> exact ⟨by decide, by decide⟩
    have lead0 : 0 ≤ CT.co ps ws 0 o - CT.co ps ws 0 cde := by have := mn.2 o oin; omega
    have eabs : (if nw b ps ws l + a * (n : Int) - nw b ps ws l < 0 then -(nw b ps ws l + a * (n : Int) - nw b ps ws l) else nw b ps ws l + a * (n : Int) - nw b ps ws l) = (n : Int) := by
      rcases ha with rfl | rfl <;> split <;> omega
    have sbd : sR b ps ws l cde ≤ 20 * (1000 * B30) ∧ sR b ps ws l o ≤ 20 * (1000 * B30) := by
      have e6 : (ws.length : Int) * (1000 * B30) ≤ 20 * (1000 * B30) := Int.mul_le_mul_of_nonneg_right (by omega) (by decide)
      omega
    have lbd : -(100000000 * B30) ≤ a * (sR b ps ws l cde - sR b ps ws l o) ∧ a * (sR b ps ws l cde - sR b ps ws l o) ≤ 100000000 * B30 := by
      rcases ha with rfl | rfl <;> (unfold B30 at *; omega)
    refine ⟨_, rfl, _, rfl, _, rfl, r, dx7, _, rfl, ho7, (by first | exact lkN b | exact lkS b | exact lkA b), r, p, wa, ps, ws, l, rfl, mv7, _, _, rfl, rfl, _, rfl, ?_⟩
    dsimp only
    rw [eabs]
    refine ⟨_, _, rfl, rfl, ⟨lbd, ⟨by omega, by unfold B30 at *; omega⟩⟩, _, rfl, _, _, rfl, rfl, _, rfl, ?_⟩
    have lm := loss_mul a (sR b ps ws l cde) (sR b ps ws l o) (n : Int)
    refine ite2 (fun z => ?_) (fun z => ?_)
    · have z1 : a * (sR b ps ws l cde - sR b ps ws l o) * (n : Int) ≤ CT.co ps ws 0 o - CT.co ps ws 0 cde := of_decide_eq_true z
      have okx : okAt b ps ws l cde (nw b ps ws l + a * (n : Int)) := fun d hd => by
        have := omin d hd
        rw [show nw b ps ws l + a * (n : Int) - nw b ps ws l = a * (n : Int) by omega] at this ⊢
        omega
      refine ⟨_, rfl, _, rfl, (by show 2 ≤ sizeLine; decide), fun t ht => ?_⟩
      refine q t v (nw b ps ws l + a * (n : Int)) _ (k7.then (same_newO ht _)) upd_same ⟨fun up => ?_, fun dn => ?_, okx⟩ ?_
      · have ea : a = 1 := by
          rcases dir with ⟨_, h⟩ | ⟨h, _⟩
          · exact h
          · exact absurd up h
        subst ea
        refine ⟨by omega, by omega, fun y h1 h2 => ?_⟩
        have := no (y - nw b ps ws l).toNat (by omega) (by omega)
        rw [show nw b ps ws l + 1 * (((y - nw b ps ws l).toNat : Nat) : Int) = y by omega] at this
        exact this
      · have ea : a = -1 := by
          rcases dir with ⟨h, _⟩ | ⟨_, h⟩
          · exact absurd h dn
          · exact h
        subst ea
        refine ⟨by omega, by omega, fun y h1 h2 => ?_⟩
        have := no (nw b ps ws l - y).toNat (by omega) (by omega)
        rw [show nw b ps ws l + -1 * (((nw b ps ws l - y).toNat : Nat) : Int) = y by omega] at this
        exact this
      · have s9 := same_newO ht (.tup [.int (nw b ps ws l + a * (n : Int)), v])
        rcases hv with ⟨rfl, rfl⟩ | ⟨hlt, ca', o', rfl, ⟨xs', g1, g2⟩, oi, och⟩
        · exact .inl ⟨em.symm, rfl⟩
        · refine .inr ⟨by rcases ha with rfl | rfl <;> omega, ca', o', rfl, ⟨xs', s9 _ _ (k27.tup g1), Ws.same s9 (k27.ws g2)⟩, oi, fun y hy => ?_⟩
          have ey : y - nw b ps ws l = a * ((n + 1 : Nat) : Int) := by
            push_cast
            rcases dir with ⟨h, rfl⟩ | ⟨h, rfl⟩ <;> rcases hy with ⟨h1, h2⟩ | ⟨h1, h2⟩ <;> first | omega | exact absurd h2 h | exact absurd h h2
          rw [ey]
          exact och
    · have z1 : CT.co ps ws 0 o - CT.co ps ws 0 cde < a * (sR b ps ws l cde - sR b ps ws l o) * (n : Int) := by
        have : ¬ a * (sR b ps ws l cde - sR b ps ws l o) * (n : Int) ≤ CT.co ps ws 0 o - CT.co ps ws 0 cde := fun y => z (decide_eq_true y)
        omega
      have no2 : ∀ j : Nat, (CT.co ps ws 0 o - CT.co ps ws 0 cde < a * (sR b ps ws l cde - sR b ps ws l o) * (j : Int)) → ¬ okAt b ps ws l cde (nw b ps ws l + a * (j : Int)) := fun j hj hok => by
        have := hok o oin
        rw [show nw b ps ws l + a * (j : Int) - nw b ps ws l = a * (j : Int) by omega] at this
        have := loss_mul a (sR b ps ws l cde) (sR b ps ws l o) (j : Int)
        omega
      have chq : ∀ j : Nat, (CT.co ps ws 0 o - CT.co ps ws 0 cde < a * (sR b ps ws l cde - sR b ps ws l o) * (j : Int)) → CT.co ps ws 0 o + sR b ps ws l o * (a * (j : Int)) < CT.co ps ws 0 cde + sR b ps ws l cde * (a * (j : Int)) := fun j hj => by
        have := loss_mul a (sR b ps ws l cde) (sR b ps ws l o) (j : Int)
        omega
      generalize CT.co ps ws 0 o - CT.co ps ws 0 cde = lead at lead0 z1 no2 chq ⊢
      generalize a * (sR b ps ws l cde - sR b ps ws l o) = loss at lbd z1 no2 chq ⊢
      have lpos : 0 < loss := by
        by_cases y : 0 < loss
        · exact y
        · have : loss * (n : Int) ≤ 0 := Int.mul_nonpos_of_nonpos_of_nonneg (by omega) (by omega)
          omega
      have d0 : 0 ≤ lead / loss := Int.ediv_nonneg lead0 (by omega)
      have d1 : lead / loss < (n : Int) := Int.ediv_lt_of_lt_mul lpos (by rw [Int.mul_comm]; exact z1)
      have d2 : lead < loss * (lead / loss) + loss := Int.lt_mul_ediv_self_add lpos
      refine ⟨_, rfl, r, dx7, _, rfl, ho7, (by first | exact lkN b | exact lkS b | exact lkA b), r, p, wa, ps, ws, l, rfl, mv7, _, rfl, _, rfl, _, rfl, _, _, rfl, rfl, ⟨lpos, by unfold B30 at *; omega⟩, _, _, rfl, rfl, .inl ?_, _, _, rfl, rfl, ?_⟩
      · rcases ha with rfl | rfl <;> exact ⟨by decide, by decide⟩
      obtain ⟨k1, hk1⟩ : ∃ k1 : Nat, lead / loss = (k1 : Int) := ⟨(lead / loss).toNat, by omega⟩
      dsimp only
      rw [hk1] at d1 d2 ⊢
      refine ⟨_, rfl, k1, by omega, k7, a, k1, .ref ca, _, _, _, dir, rfl, by omega, .inr ⟨by omega, ca, o, rfl, ?_, oin, chq _ ?_⟩, fun j h1 h2 => no2 j ?_, rfl⟩
      · obtain ⟨xo', g1, g2⟩ := hco
        exact ⟨xo', k37.tup g1, k37.ws g2⟩
      · push_cast
        rw [Int.mul_add, Int.mul_one]
        exact d2
      · have : loss * ((k1 : Int) + 1) ≤ loss * (j : Int) := Int.mul_le_mul_of_nonneg_left (by omega) (by omega)
        rw [Int.mul_add, Int.mul_one] at this
        omega
end
end Q
end K98
set_option Elab.async false
set_option linter.all false
set_option maxRecDepth 100000
namespace K98
open PySem L2
namespace Q
structure Stc (b : Bool) (ps ws : List Int) (l : Nat) (c : CT.Code) (lo hi : Int) : Prop where
  l1 : 1 ≤ lo
  ls : lo ≤ nw b ps ws l
  sh : nw b ps ws l ≤ hi
  hb : hi ≤ B30
  ok : ∀ y, 1 ≤ y → y ≤ B30 → (okAt b ps ws l c y ↔ lo ≤ y ∧ y ≤ hi)
theorem okAt_btw {b : Bool} {ps ws : List Int} {l : Nat} {c : CT.Code} {x y z : Int} (hx : okAt b ps ws l c x) (hz : okAt b ps ws l c z) (h1 : x ≤ y) (h2 : y ≤ z) : okAt b ps ws l c y := fun d hd => by
  have a := hx d hd
  have b2 := hz d hd
  generalize nw b ps ws l = s at a b2 ⊢
  generalize CT.co ps ws 0 c = kc at a b2 ⊢
  generalize CT.co ps ws 0 d = kd at a b2 ⊢
  generalize sR b ps ws l c = p at a b2 ⊢
  generalize sR b ps ws l d = q at a b2 ⊢
  have e : ∀ t : Int, p * (t - s) - q * (t - s) = (p - q) * (t - s) := fun t => (Int.sub_mul p q (t - s)).symm
  have e1 := e x
  have e2 := e y
  have e3 := e z
  by_cases h : 0 ≤ p - q
  · have : (p - q) * (y - s) ≤ (p - q) * (z - s) := Int.mul_le_mul_of_nonneg_left (by omega) h
    omega
  · have : (p - q) * (y - s) ≤ (p - q) * (x - s) := Int.mul_le_mul_of_nonpos_left (by omega) (by omega)
    omega
theorem str_of {b : Bool} {ps ws : List Int} {l : Nat} {c : CT.Code} {lo hi : Int} (s1 : 1 ≤ nw b ps ws l) (s2 : nw b ps ws l ≤ B30) (a : EndAt b ps ws l c 1 lo) (bE : EndAt b ps ws l c B30 hi) : Stc b ps ws l c lo hi := by
  obtain ⟨a1, a2, a3⟩ := a.dn (by omega)
  have hb : nw b ps ws l ≤ hi ∧ hi ≤ B30 ∧ ∀ y, hi < y → y ≤ B30 → ¬ okAt b ps ws l c y := by
    by_cases z : nw b ps ws l < B30
    · exact bE.up z
    · obtain ⟨b1, b2, b3⟩ := bE.dn z
      exact ⟨by omega, by omega, fun y h1 h2 => by omega⟩
  obtain ⟨b1, b2, b3⟩ := hb
  refine ⟨a1, a2, b1, b2, fun y y1 y2 => ⟨fun h => ?_, fun h => okAt_btw a.ok bE.ok h.1 h.2⟩⟩
  refine ⟨?_, ?_⟩
  · by_cases z : lo ≤ y
    · exact z
    · exact absurd h (a3 y y1 (by omega))
  · by_cases z : y ≤ hi
    · exact z
    · exact absurd h (b3 y (by omega) y2)
section
variable {P' : Program} {w : World} {K : PySem.W.Frag} {mg : Str → Option Value} {base : Heap} {f : Addr} {fd : FuncData}
abbrev NBe : List Str := ["move", "code"]
def spBe (b : Bool) (M T : Addr) : Sp := fun vs H Q _ => ∃ (r c p wa : Addr) (ps ws : List Int) (l : Nat) (cde : CT.Code), vs = [.ref r, .ref c] ∧ Mv b M H r p wa ps ws l ∧ Cd H p wa c ps ws cde ∧ Mn ps ws cde ∧ TabAt H T lamO lamQ ∧
  ∀ (t t1 t2 : Addr) (v1 v2 : V) (x1 x2 : Int) H', Kq T H H' → H' t = some (.tup [.ref t1, .ref t2]) → H' t1 = some (.tup [.int x1, v1]) → H' t2 = some (.tup [.int x2, v2]) → EndAt b ps ws l cde 1 x1 → EndAt b ps ws l cde B30 x2 → Bey b H' ps ws l cde 1 x1 v1 → Bey b H' ps ws l cde B30 x2 v2 → Q (.ref t) H'
theorem scBe : FnScope NBe NBe (defScope sBe) := ⟨rfl, rfl, rfl, by decide +kernel, rfl, by decide +kernel, by decide +kernel⟩
set_option maxHeartbeats 4000000 in
theorem ok_be {b : Bool} {M T : Addr} {k : Nat} (hk : 7 ≤ k) (F : Fun K "both_ends" "both_ends" sBe f fd) (rc : MC b K M) (MS : Mt P' w K mg base M "share" ["self", "code"] (spShr b M) 5) (GI : Fns P' w K mg base PCo "is_cheapest_kept" spIck 7) (GE : Fns P' w K mg base PEt "end_towards" (spEt b M T) k) : FnOk P' w K mg base CX0 (k + 1) f fd NBe (spBe b M T) := by
  refine F.ok (k := k) scBe (fun vs H Q E h => ?_) (fun cdv A outer s H vs Q E hr h => ?_)
  · obtain ⟨r, c, p, wa, ps, ws, l, cde, rfl, _⟩ := h
    rfl
  obtain ⟨r, c, p, wa, ps, ws, l, cde, rfl, mv, cd, mn, tab, q⟩ := h
  have MS := MS.up (show 5 ≤ k by omega)
  have GI := GI.up hk
  refine ⟨_, pss_cons (ps_expr (pe_meth (pv 0) rc.c MS.m MS.ok hr MS.b .nil pass0 (pa_cons (pv 1) pa_nil)))
      (pss_cons (ps_if (pt_not (pt_val (pe_call GI.ok hr (by rfl) GI.m GI.kp GI.b .nil pass0 (pa_cons (pe_fld (pv 0) rfl) (pa_cons (pe_fld (pv 0) rfl) (pa_cons (pv 1) pa_nil)))))) (pss_one ps_nv) pss_nil)
      (pss_one (ps_ret (pe_tup (pa_cons (pe_call GE.ok hr (by rfl) GE.m GE.kp GE.b .nil pass0 (pa_cons (pv 0) (pa_cons (pv 1) (pa_cons pe_int pa_nil)))) (pa_cons (pe_call GE.ok hr (by rfl) GE.m GE.kp GE.b .nil pass0 (pa_cons (pv 0) (pa_cons (pv 1) (pa_cons (pe_op op_pow pe_int pe_int) pa_nil)))) pa_nil)))))), ?_⟩
  obtain ⟨dx, ho⟩ := mv.ob
  refine ⟨_, rfl, r, dx, _, rfl, ho, (by first | exact lkN b | exact lkS b | exact lkA b), _, rfl, r, c, p, wa, ps, ws, l, cde, rfl, mv, cd, fun H1 s1 => ?_⟩
  have k1 : Kq T H H1 := .of tab s1
  refine ⟨_, rfl, r, M, dx, _, _, rfl, s1 _ _ ho, rc.c, rc.np, rfl, _, rfl, r, M, dx, _, _, rfl, s1 _ _ ho, rc.c, rc.nw, rfl, _, rfl, p, wa, c, ps, ws, cde, rfl, cd.same s1, mv.nu, mv.pp, mv.pw, mn, fun H2 s2 => ⟨_, rfl, iteF ?_⟩⟩
  have k2 := k1.then s2
  refine ⟨_, rfl, _, rfl, r, c, p, wa, ps, ws, l, cde, 1, rfl, mv.kq k2, cd.kq k2, mn, by omega, by unfold B30; omega, k2.tb, fun t1 v1 x1 H3 k3 g3 e3 y3 => ?_⟩
  have k03 := k2.trans k3
  refine ⟨_, rfl, _, rfl, _, _, rfl, rfl, ⟨by decide, by decide, by decide⟩, ?_⟩
  dsimp only
  rw [e30]
  refine ⟨r, c, p, wa, ps, ws, l, cde, B30, rfl, mv.kq k03, cd.kq k03, mn, by unfold B30; omega, Int.le_refl _, k03.tb, fun t2 v2 x2 H4 k4 g4 e4 y4 => ?_⟩
  refine ⟨(by show 2 ≤ sizeLine; decide), fun t ht => ?_⟩
  have s5 := same_newO ht (.tup [.ref t1, .ref t2])
  exact q t t1 t2 v1 v2 x1 x2 _ ((k03.trans k4).then s5) upd_same (s5 _ _ (k4.tup g3)) (s5 _ _ g4) e3 e4 (y3.kq (k4.then s5)) (y4.kq (Kq.of k4.tb s5))
abbrev NSo : List Str := ["move", "code", "ends"]
def spSo (b : Bool) (M T : Addr) : Sp := fun vs H Q _ => ∃ (r c p wa : Addr) (ps ws : List Int) (l : Nat) (cde : CT.Code), vs = [.ref r, .ref c] ∧ Mv b M H r p wa ps ws l ∧ Cd H p wa c ps ws cde ∧ Mn ps ws cde ∧ TabAt H T lamO lamQ ∧
  ∀ (t : Addr) (lo hi : Int) H', Kq T H H' → TW H' t [lo, hi] → Stc b ps ws l cde lo hi → Q (.ref t) H'
theorem scSo : FnScope NSo NBe (defScope sSo) := ⟨rfl, rfl, rfl, by decide +kernel, rfl, by decide +kernel, by decide +kernel⟩
theorem ok_so {b : Bool} {M T : Addr} {k : Nat} (F : Fun K "stretch_of" "stretch_of" sSo f fd) (GB : Fns P' w K mg base NBe "both_ends" (spBe b M T) k) : FnOk P' w K mg base CX0 (k + 1) f fd NBe (spSo b M T) := by
  refine F.ok (k := k) scSo (fun vs H Q E h => ?_) (fun cdv A outer s H vs Q E hr h => ?_)
  · obtain ⟨r, c, p, wa, ps, ws, l, cde, rfl, _⟩ := h
    rfl
  obtain ⟨r, c, p, wa, ps, ws, l, cde, rfl, mv, cd, mn, tab, q⟩ := h
  refine ⟨_, pss_cons (ps_set (i := 2) scSo.nd rfl (Or.inl rfl) (pe_call GB.ok hr (by rfl) GB.m GB.kp GB.b .nil pass0 (pa_cons (pv 0) (pa_cons (pv 1) pa_nil))))
      (pss_one (ps_ret (pe_tup (pa_cons (pe_ix ix_tup (pe_ix ix_tup (pv 2) pe_int (fun _ _ => rfl)) pe_int (fun _ _ => rfl)) (pa_cons (pe_ix ix_tup (pe_ix ix_tup (pv 2) pe_int (fun _ _ => rfl)) pe_int (fun _ _ => rfl)) pa_nil))))), ?_⟩
  obtain ⟨sB, sC⟩ := nw_bd mv.nu mv.pp mv.pw mv.hl
  refine ⟨_, rfl, _, rfl, r, c, p, wa, ps, ws, l, cde, rfl, mv, cd, mn, tab, fun t t1 t2 v1 v2 x1 x2 H1 k1 g g1 g2 e1 e2 _ _ => ?_⟩
  refine ⟨_, rfl, t, _, _, _, rfl, rfl, SqT.of g, rfl, t1, _, _, _, rfl, rfl, SqT.of g1, rfl, _, rfl, t, _, _, _, rfl, rfl, SqT.of g, rfl, t2, _, _, _, rfl, rfl, SqT.of g2, rfl, (by show 2 ≤ sizeLine; decide), fun t3 ht3 => ?_⟩
  exact q t3 x1 x2 _ (k1.then (same_newO ht3 _)) upd_same (str_of sB sC e1 e2)
def spPst (b : Bool) (T : Addr) : Sp := fun vs H Q _ => ∃ (p wa c : Addr) (ps ws : List Int) (cde : CT.Code) (l : Nat), vs = [.ref p, .ref wa, .ref c, .int (l : Int)] ∧ Cd H p wa c ps ws cde ∧ Num ps ws ∧ Po ps ∧ Po ws ∧ l < nL b ps ws ∧ Mn ps ws cde ∧ TabAt H T lamO lamQ ∧
  ∀ (t : Addr) (lo hi : Int) H', Kq T H H' → TW H' t [lo, hi] → Stc b ps ws l cde lo hi → Q (.ref t) H'
theorem scpst : FnScope NPS NPS (defScope sPst) := ⟨rfl, rfl, rfl, by decide +kernel, rfl, by decide +kernel, by decide +kernel⟩
theorem ok_pst {M T : Addr} {k : Nat} (hk : 2 ≤ k) (F : Fun K "price_stretch" "price_stretch" sPst f fd) (cl : ClM true P' w K mg base M) (GS : Fns P' w K mg base NBe "stretch_of" (spSo true M T) k) : FnOk P' w K mg base CX0 (k + 1) f fd NPS (spPst true T) := by
  refine F.ok (k := k) scpst (fun vs H Q E h => ?_) (fun cdv A outer s H vs Q E hr h => ?_)
  · obtain ⟨p, wa, c, ps, ws, cde, l, rfl, _⟩ := h
    rfl
  obtain ⟨p, wa, c, ps, ws, cde, l, rfl, cd, nu, pp, pw, hl, mn, tab, q⟩ := h
  have oki := cl.oki.mono (show 1 ≤ k - 1 by omega)
  refine ⟨_, pss_one (ps_ret (pe_call GS.ok hr (by rfl) GS.m GS.kp GS.b .nil pass0 (pa_cons (pe_make cl.mkk oki (hr.mono (by omega)) (by rfl) cl.g cl.bi .nil pass0 (pa_cons (pv 0) (pa_cons (pv 1) (pa_cons (pv 3) pa_nil)))) (pa_cons (pv 2) pa_nil)))), ?_⟩
  refine ⟨_, rfl, _, rfl, _, rfl, fun r dx rn hdx _ => ?_⟩
  have sm : Same H (upd (upd H dx (.own r)) r (.ins M dx [])) := same_upd rn (same_newO hdx _)
  refine ⟨r, dx, p, wa, l, rfl, upd_same, fun H1 k1 ho1 => ⟨rfl, ?_⟩⟩
  have s1 : Same H H1 := fun a o e => k1 a o (fun z => by rw [z, rn] at e; cases e) (sm a o e)
  exact ⟨_, rfl, r, c, p, wa, ps, ws, l, cde, rfl, ⟨⟨dx, ho1⟩, s1 _ _ cd.hp, s1 _ _ cd.hw, nu, pp, pw, hl⟩, cd.same s1, mn, TabAt.same s1 tab, fun t lo hi H2 k2 g2 st => q t lo hi H2 ((Kq.of tab s1).trans k2) g2 st⟩
theorem scwst : FnScope NWS NWS (defScope sWst) := ⟨rfl, rfl, rfl, by decide +kernel, rfl, by decide +kernel, by decide +kernel⟩
theorem ok_wst {M T : Addr} {k : Nat} (hk : 2 ≤ k) (F : Fun K "weight_stretch" "weight_stretch" sWst f fd) (cl : ClM false P' w K mg base M) (GS : Fns P' w K mg base NBe "stretch_of" (spSo false M T) k) : FnOk P' w K mg base CX0 (k + 1) f fd NWS (spPst false T) := by
  refine F.ok (k := k) scwst (fun vs H Q E h => ?_) (fun cdv A outer s H vs Q E hr h => ?_)
  · obtain ⟨p, wa, c, ps, ws, cde, l, rfl, _⟩ := h
    rfl
  obtain ⟨p, wa, c, ps, ws, cde, l, rfl, cd, nu, pp, pw, hl, mn, tab, q⟩ := h
  have oki := cl.oki.mono (show 1 ≤ k - 1 by omega)
  refine ⟨_, pss_one (ps_ret (pe_call GS.ok hr (by rfl) GS.m GS.kp GS.b .nil pass0 (pa_cons (pe_make cl.mkk oki (hr.mono (by omega)) (by rfl) cl.g cl.bi .nil pass0 (pa_cons (pv 0) (pa_cons (pv 1) (pa_cons (pv 3) pa_nil)))) (pa_cons (pv 2) pa_nil)))), ?_⟩
  refine ⟨_, rfl, _, rfl, _, rfl, fun r dx rn hdx _ => ?_⟩
  have sm : Same H (upd (upd H dx (.own r)) r (.ins M dx [])) := same_upd rn (same_newO hdx _)
  refine ⟨r, dx, p, wa, l, rfl, upd_same, fun H1 k1 ho1 => ⟨rfl, ?_⟩⟩
  have s1 : Same H H1 := fun a o e => k1 a o (fun z => by rw [z, rn] at e; cases e) (sm a o e)
  exact ⟨_, rfl, r, c, p, wa, ps, ws, l, cde, rfl, ⟨⟨dx, ho1⟩, s1 _ _ cd.hp, s1 _ _ cd.hw, nu, pp, pw, hl⟩, cd.same s1, mn, TabAt.same s1 tab, fun t lo hi H2 k2 g2 st => q t lo hi H2 ((Kq.of tab s1).trans k2) g2 st⟩
end
end Q
end K98
set_option Elab.async false
set_option linter.all false
set_option maxRecDepth 100000
namespace K98
open PySem L2
namespace Q
theorem mP_len {b : Bool} {ps ws : List Int} {l : Nat} {x : Int} (h : l < nL b ps ws) : (mP b ps l x).length = ps.length := by
  cases b with
  | true => exact pm_len h
  | false => rfl
theorem mW_len {b : Bool} {ps ws : List Int} {l : Nat} {x : Int} (h : l < nL b ps ws) : (mW b ws l x).length = ws.length := by
  cases b with
  | true => rfl
  | false => exact pm_len h
theorem co_mv {b : Bool} {ps ws : List Int} {l : Nat} {x : Int} {c : CT.Code} (h : l < nL b ps ws) (hn : 1 ≤ ws.length) (hc : c ∈ CT.Cs ps.length ws.length) : CT.co (mP b ps l x) (mW b ws l x) 0 c = CT.co ps ws 0 c + sR b ps ws l c * (x - nw b ps ws l) := by
  cases b with
  | true => exact co_moved h ws c fun u hu => ((CT.Cs_gd hn c hc).wd u hu).2
  | false => exact co_movedW ws c l x h (CT.Cs_gd hn c hc).ln
theorem nu_mv {b : Bool} {ps ws : List Int} {l : Nat} {x : Int} (h : l < nL b ps ws) (nu : Num ps ws) (x1 : 1 ≤ x) (x2 : x ≤ B30) : Num (mP b ps l x) (mW b ws l x) := by
  refine ⟨by rw [mP_len h]; exact nu.p2, by rw [mP_len h]; exact nu.p10, by rw [mW_len h]; exact nu.w1, by rw [mW_len h]; exact nu.w20, ?_, ?_⟩
  · cases b with
    | true => exact pm_bw nu.bp x1 x2
    | false => exact nu.bp
  · cases b with
    | true => exact nu.bw
    | false => exact pm_bw nu.bw x1 x2
theorem pp_mv {b : Bool} {ps : List Int} {l : Nat} {x : Int} (pp : Po ps) (x1 : 1 ≤ x) : Po (mP b ps l x) := by
  cases b with
  | true => exact pm_po pp x1
  | false => exact pp
theorem pw_mv {b : Bool} {ws : List Int} {l : Nat} {x : Int} (pw : Po ws) (x1 : 1 ≤ x) : Po (mW b ws l x) := by
  cases b with
  | true => exact pw
  | false => exact pm_po pw x1
theorem cd_of {H : Hp} {p q a : Addr} {ps ws : List Int} {xs : List V} {c : CT.Code} (hp : TW H p ps) (hq : TW H q ws) (nu : Num ps ws) (hc : c ∈ CT.Cs ps.length ws.length) (ha : H a = some (.tup xs)) (hw : Ws H xs c) : Cd H p q a ps ws c := by
  have g := CT.Cs_gd nu.w1 c hc
  have := nu.w20
  exact ⟨hp, hq, ⟨xs, ha, hw⟩, g.ln, by rw [g.ln]; omega, fun u hu => ⟨(g.wd u hu).2, by have := (g.wd u hu).1; omega⟩, nu.bp, nu.bw⟩
structure At (b : Bool) (T : Addr) (H : Hp) (p wa c : Addr) (ps ws : List Int) (cde : CT.Code) (l : Nat) : Prop where
  cd : Cd H p wa c ps ws cde
  nu : Num ps ws
  pp : Po ps
  pw : Po ws
  hl : l < nL b ps ws
  mn : Mn ps ws cde
  tab : TabAt H T lamO lamQ
def wI : Bool → Int
  | true => 0
  | false => 1
section
variable {P' : Program} {w : World} {K : PySem.W.Frag} {mg : Str → Option Value} {base : Heap} {f : Addr} {fd : FuncData}
def spCkM (T : Addr) : Sp := fun vs H Q _ => ∃ (p q : Addr) (ps ws : List Int), vs = [.ref p, .ref q] ∧ TW H p ps ∧ TW H q ws ∧ Num ps ws ∧ Po ps ∧ Po ws ∧ TabAt H T lamO lamQ ∧
  ∀ (a ca d : Addr) (o : CT.Code) H', Kq T H H' → H' a = some (.tup [.int (CT.co ps ws 0 o), .ref ca, .ref d]) → (∃ xs, H' ca = some (.tup xs) ∧ Ws H' xs o) → Mn ps ws o → Q (.ref a) H'
theorem ck_m {T : Addr} {k : Nat} (F : FnOk P' w K mg base CX0 k f fd ["prices", "weights"] (spCk T)) : FnOk P' w K mg base CX0 k f fd ["prices", "weights"] (spCkM T) := F.imp fun vs H Q E h => by
  obtain ⟨p, q, ps, ws, rfl, hp, hq, nu, pp, pw, tab, qq⟩ := h
  refine ⟨p, q, ps, ws, rfl, hp, hq, nu, pp, pw, tab, fun a ca d ra h t F cde H' s2 tb2 fnd => ?_⟩
  have mn := mn_fnd fnd (by have := nu.p2; omega) nu.w1
  have e := mn_F fnd.T nu.w1 mn
  have o := fnd.o
  rw [e] at o
  exact qq a ca d cde H' (Kq.found tab s2 tb2) o fnd.cd mn
end
end Q
end K98
set_option Elab.async false
set_option linter.all false
set_option maxRecDepth 100000
namespace K98
open PySem L2
structure Ctd (L n : Nat) (h t : Nat → Nat → Nat → OI) (Tc : Nat → Nat → OI) (Tt : Nat → Nat → Nat → OI) (c : Nat → Nat → Nat) (u : Nat → Nat → Nat → Nat) (pr : Nat → Nat → Prop) : Prop where
  dg : ∀ l j, l ≤ L → j ≤ n → Tt l j j = some 1
  vc : ∀ i j, i < j → j ≤ n → pr i j → Tc i j = some (c i j : Int)
  vt : ∀ l i j, l < L → i < j → j ≤ n → pr i j → Tt l i j = some (u l i j : Int)
  ec : ∀ i j, i < j → j ≤ n → pr i j → c i j = if j - i = 1 then 1 else CT.ovr L h t c u 0 i j
  et : ∀ l i j, l < L → i < j → j ≤ n → pr i j → u l i j = CT.ovr L h t c u l i j
  td : ∀ l j, l ≤ L → j ≤ n → u l j j = 1
  bc : ∀ i j, i < j → j ≤ n → pr i j → c i j ≤ 32 * 1024 ^ (2 * (j - i) - 2)
  bt : ∀ l i j, l < L → i < j → j ≤ n → pr i j → u l i j ≤ 1024 ^ (2 * (j - i) - 1)
theorem Ctd.weak {L n : Nat} {h t : Nat → Nat → Nat → OI} {Tc : Nat → Nat → OI} {Tt : Nat → Nat → Nat → OI} {c : Nat → Nat → Nat} {u : Nat → Nat → Nat → Nat} {pr pr' : Nat → Nat → Prop} (a : Ctd L n h t Tc Tt c u pr) (w : ∀ i j, i < j → j ≤ n → pr' i j → pr i j) : Ctd L n h t Tc Tt c u pr' :=
  ⟨a.dg, fun i j hij hj hp => a.vc i j hij hj (w i j hij hj hp), fun l i j hl hij hj hp => a.vt l i j hl hij hj (w i j hij hj hp), fun i j hij hj hp => a.ec i j hij hj (w i j hij hj hp), fun l i j hl hij hj hp => a.et l i j hl hij hj (w i j hij hj hp), a.td, fun i j hij hj hp => a.bc i j hij hj (w i j hij hj hp), fun l i j hl hij hj hp => a.bt l i j hl hij hj (w i j hij hj hp)⟩
theorem sum_le {α : Type} {f : α → Nat} {B : Nat} : ∀ xs : List α, (∀ x ∈ xs, f x ≤ B) → (xs.map f).sum ≤ xs.length * B
  | [], _ => by simp
  | x :: xs, h => by
    rw [List.map_cons, List.sum_cons, List.length_cons, Nat.succ_mul]
    have := sum_le xs fun y hy => h y (.tail _ hy)
    have := h x (.head _)
    omega
theorem Bk_len (L l m : Nat) : (CT.Bk L l m).length = (L - l) * m := by
  unfold CT.Bk
  rw [List.length_flatMap]
  have : ((List.range (L - l)).map fun a => ((List.range m).map fun b => (l + a, b)).length) = List.replicate (L - l) m := by
    rw [List.eq_replicate_iff]
    refine ⟨by rw [List.length_map, List.length_range], fun x hx => ?_⟩
    obtain ⟨a, _, rfl⟩ := List.mem_map.mp hx
    rw [List.length_map, List.length_range]
  rw [this, List.sum_replicate_nat]
theorem wys_len {L l i j : Nat} {h t : Nat → Nat → Nat → OI} (hL : L ≤ 4) (hw : j - i ≤ 6) : (wys L h t l i j).length ≤ 24 := by
  have h1 : (wys L h t l i j).length ≤ (CT.Bk L l (j - i)).length := List.length_filter_le _ _
  rw [Bk_len] at h1
  have h2 : (L - l) * (j - i) ≤ 4 * 6 := Nat.mul_le_mul (by omega) hw
  omega
structure Sm1 (L n : Nat) (Tc : Nat → Nat → OI) (Tt : Nat → Nat → Nat → OI) (c : Nat → Nat → Nat) (u : Nat → Nat → Nat → Nat) (i j : Nat) (ws : List (Nat × Nat)) (B : Nat) : Prop where
  a : ∀ q ∈ ws, Tc i (i + q.2 + 1) = some (c i (i + q.2 + 1) : Int)
  b : ∀ q ∈ ws, Tt (q.1 + 1) (i + q.2 + 1) j = some (u (q.1 + 1) (i + q.2 + 1) j : Int)
  c1 : ∀ q ∈ ws, c i (i + q.2 + 1) ≤ 2 ^ 126
  u1 : ∀ q ∈ ws, u (q.1 + 1) (i + q.2 + 1) j ≤ 2 ^ 126
  d : ∀ q ∈ ws, c i (i + q.2 + 1) * u (q.1 + 1) (i + q.2 + 1) j ≤ B
  g : ∀ q ∈ ws, q.1 < L ∧ i + q.2 + 1 ≤ j
theorem pw1024 {a b : Nat} (h : a ≤ b) : 1024 ^ a ≤ 1024 ^ b := Nat.pow_le_pow_right (by decide) h
theorem pw126 {a : Nat} (h : a ≤ 11) : 32 * 1024 ^ a ≤ 2 ^ 126 := by
  have h1 := pw1024 h
  have h2 : 32 * 1024 ^ 11 ≤ 2 ^ 126 := by decide
  omega
theorem part_le {s w x y : Nat} (hs : 1 ≤ s) (hw : s < w) (hx : x ≤ 32 * 1024 ^ (2 * s - 2)) (hy : y ≤ 1024 ^ (2 * (w - s) - 1)) : x * y ≤ 1024 ^ (2 * w - 2) := by
  have h1 := Nat.mul_le_mul hx hy
  have e : 32 * 1024 ^ (2 * s - 2) * 1024 ^ (2 * (w - s) - 1) = 32 * 1024 ^ (2 * w - 3) := by
    rw [Nat.mul_assoc, ← Nat.pow_add]
    congr 2
    omega
  have e2 : 1024 ^ (2 * w - 2) = 1024 * 1024 ^ (2 * w - 3) := by
    rw [show 2 * w - 2 = (2 * w - 3) + 1 by omega, Nat.pow_succ, Nat.mul_comm]
  rw [e] at h1
  rw [e2]
  omega
theorem Ctd.sm {L n : Nat} {h t : Nat → Nat → Nat → OI} {Tc : Nat → Nat → OI} {Tt : Nat → Nat → Nat → OI} {c : Nat → Nat → Nat} {u : Nat → Nat → Nat → Nat} {f e : Nat} (a : Ctd L n h t Tc Tt c u (Dn f e)) (hfe : f < e) (he : e ≤ n) (n6 : n ≤ 6) {ws : List (Nat × Nat)} (hws : ∀ q ∈ ws, q.1 + 1 < L + 1 ∧ q.2 + 1 < e - f ∧ (Tt (q.1 + 1) (f + q.2 + 1) e ≠ none → True) ∧ q.1 + 1 < L) : Sm1 L n Tc Tt c u f e ws (1024 ^ (2 * (e - f) - 2)) := by
  refine ⟨fun q hq => ?_, fun q hq => ?_, fun q hq => ?_, fun q hq => ?_, fun q hq => ?_, fun q hq => ?_⟩
  all_goals obtain ⟨h1, h2, _, h4⟩ := hws q hq
  · exact a.vc f (f + q.2 + 1) (by omega) (by omega) (.inr ⟨rfl, by omega⟩)
  · exact a.vt (q.1 + 1) (f + q.2 + 1) e h4 (by omega) he (.inl (by omega))
  · have := a.bc f (f + q.2 + 1) (by omega) (by omega) (.inr ⟨rfl, by omega⟩)
    exact Nat.le_trans this (pw126 (by omega))
  · have := a.bt (q.1 + 1) (f + q.2 + 1) e h4 (by omega) he (.inl (by omega))
    have h5 := pw1024 (show 2 * (e - (f + q.2 + 1)) - 1 ≤ 11 by omega)
    have h6 : 1024 ^ 11 ≤ 2 ^ 126 := by decide
    omega
  · have x := a.bc f (f + q.2 + 1) (by omega) (by omega) (.inr ⟨rfl, by omega⟩)
    have y := a.bt (q.1 + 1) (f + q.2 + 1) e h4 (by omega) he (.inl (by omega))
    rw [show f + q.2 + 1 - f = q.2 + 1 by omega] at x
    rw [show e - (f + q.2 + 1) = e - f - (q.2 + 1) by omega] at y
    exact part_le (by omega) h2 x y
  · exact ⟨by omega, by omega⟩
end K98
set_option Elab.async false
set_option linter.all false
set_option maxRecDepth 100000
namespace K98
open PySem L2
theorem ovr_wys {L l i j : Nat} {h t : Nat → Nat → Nat → OI} {c : Nat → Nat → Nat} {u : Nat → Nat → Nat → Nat} : CT.ovr L h t c u l i j = ((wys L h t l i j).map fun q => c i (i + q.2 + 1) * u (q.1 + 1) (i + q.2 + 1) j).sum := rfl
section
variable {L n : Nat} {h t : Nat → Nat → Nat → OI} {F : Nat → Nat → OI} {p : Nat → Int} {W : Nat → Nat → Int}
theorem wys0 (T : CT.Tb L n h t F p W) (hL : 0 < L) {i j : Nat} (hij : i + 2 ≤ j) (hj : j ≤ n) {q : Nat × Nat} (hq : q ∈ wys L h t 0 i j) : q.2 + 1 < j - i ∧ q.1 + 1 < L := by
  have h1 := wys_lt T hL (by omega) hj hq
  obtain ⟨h2, h3⟩ := wys_mem.mp hq
  have := CT.only T (i := i) (w := j - i) (by omega) (by omega) q h2 (by rw [show i + (j - i) = j by omega]; exact h3)
  exact ⟨by omega, h1.2.2.2 (by omega)⟩
def upc (c : Nat → Nat → Nat) (f e v : Nat) : Nat → Nat → Nat := fun a b => if a = f ∧ b = e then v else c a b
theorem upc_at {c : Nat → Nat → Nat} {f e v : Nat} : upc c f e v f e = v := if_pos ⟨rfl, rfl⟩
theorem upc_ne {c : Nat → Nat → Nat} {f e v a b : Nat} (h : ¬ (a = f ∧ b = e)) : upc c f e v a b = c a b := if_neg h
def upu (u : Nat → Nat → Nat → Nat) (f e : Nat) (g : Nat → Nat) : Nat → Nat → Nat → Nat := fun l a b => if a = f ∧ b = e then g l else u l a b
theorem upu_at {u : Nat → Nat → Nat → Nat} {f e : Nat} {g : Nat → Nat} {l : Nat} : upu u f e g l f e = g l := if_pos ⟨rfl, rfl⟩
theorem upu_ne {u : Nat → Nat → Nat → Nat} {f e : Nat} {g : Nat → Nat} {l a b : Nat} (h : ¬ (a = f ∧ b = e)) : upu u f e g l a b = u l a b := if_neg h
variable {Tc : Nat → Nat → OI} {Tt : Nat → Nat → Nat → OI} {c : Nat → Nat → Nat} {u : Nat → Nat → Nat → Nat} {f e : Nat}
def v0 (L : Nat) (h t : Nat → Nat → Nat → OI) (c : Nat → Nat → Nat) (u : Nat → Nat → Nat → Nat) (f e : Nat) : Nat := if e - f = 1 then 1 else CT.ovr L h t c u 0 f e
theorem Ctd.s0 (T : CT.Tb L n h t F p W) (hL : 0 < L) (a : Ctd L n h t Tc Tt c u (Dn f e)) (hfe : f + 2 ≤ e) (he : e ≤ n) (n6 : n ≤ 6) : Sm1 L n Tc Tt c u f e (wys L h t 0 f e) (1024 ^ (2 * (e - f) - 2)) :=
  a.sm (by omega) he n6 fun q hq => by
    have := wys0 T hL hfe he hq
    exact ⟨by omega, this.1, fun _ => trivial, this.2⟩
theorem Ctd.v0_le (T : CT.Tb L n h t F p W) (hL : 0 < L) (L4 : L ≤ 4) (a : Ctd L n h t Tc Tt c u (Dn f e)) (hfe : f < e) (he : e ≤ n) (n6 : n ≤ 6) : v0 L h t c u f e ≤ 32 * 1024 ^ (2 * (e - f) - 2) := by
  unfold v0
  split
  · rename_i z
    rw [z]
    decide
  · have s := a.s0 T hL (by omega) he n6
    rw [ovr_wys]
    have h1 := sum_le (f := fun q : Nat × Nat => c f (f + q.2 + 1) * u (q.1 + 1) (f + q.2 + 1) e) (wys L h t 0 f e) s.d
    have h2 := wys_len (L := L) (l := 0) (i := f) (j := e) (h := h) (t := t) L4 (by omega)
    have h3 := Nat.mul_le_mul_right (1024 ^ (2 * (e - f) - 2)) h2
    omega
theorem Ctd.sl (T : CT.Tb L n h t F p W) (hL : 0 < L) (L4 : L ≤ 4) (a : Ctd L n h t Tc Tt c u (Dn f e)) (hfe : f < e) (he : e ≤ n) (n6 : n ≤ 6) {l : Nat} (hl : l < L) : Sm1 L n (up2 Tc f e (some (v0 L h t c u f e : Int))) Tt (upc c f e (v0 L h t c u f e)) u f e (wys L h t l f e) (32 * 1024 ^ (2 * (e - f) - 2)) := by
  have hv := a.v0_le T hL L4 hfe he n6
  have key : ∀ q ∈ wys L h t l f e, (f + q.2 + 1 = e ∧ q.1 < L) ∨ (f + q.2 + 1 < e ∧ q.1 + 1 < L) := fun q hq => by
    obtain ⟨h1, h2, h3, h4⟩ := wys_lt T hl hfe he hq
    by_cases z : q.2 + 1 < e - f
    · exact .inr ⟨by omega, h4 z⟩
    · exact .inl ⟨by omega, h2⟩
  have tc : ∀ q ∈ wys L h t l f e, f + q.2 + 1 < e → up2 Tc f e (some (v0 L h t c u f e : Int)) f (f + q.2 + 1) = Tc f (f + q.2 + 1) ∧ upc c f e (v0 L h t c u f e) f (f + q.2 + 1) = c f (f + q.2 + 1) := fun q _ hlt => by
    refine ⟨?_, upc_ne (by omega)⟩
    unfold up2
    rw [if_neg (by omega)]
  have te : up2 Tc f e (some (v0 L h t c u f e : Int)) f e = some (v0 L h t c u f e : Int) := by unfold up2; rw [if_pos ⟨rfl, rfl⟩]
  refine ⟨fun q hq => ?_, fun q hq => ?_, fun q hq => ?_, fun q hq => ?_, fun q hq => ?_, fun q hq => ?_⟩
  all_goals rcases key q hq with ⟨k1, k2⟩ | ⟨k1, k2⟩
  · rw [k1, te, upc_at]
  · rw [(tc q hq k1).1, (tc q hq k1).2]
    exact a.vc f (f + q.2 + 1) (by omega) (by omega) (.inr ⟨rfl, by omega⟩)
  · rw [k1, a.dg (q.1 + 1) e (by omega) he, a.td (q.1 + 1) e (by omega) he]; rfl
  · exact a.vt (q.1 + 1) (f + q.2 + 1) e k2 (by omega) he (.inl (by omega))
  · rw [k1, upc_at]
    exact Nat.le_trans hv (pw126 (by omega))
  · rw [(tc q hq k1).2]
    have := a.bc f (f + q.2 + 1) (by omega) (by omega) (.inr ⟨rfl, by omega⟩)
    exact Nat.le_trans this (pw126 (by omega))
  · rw [k1, a.td (q.1 + 1) e (by omega) he]; decide
  · have := a.bt (q.1 + 1) (f + q.2 + 1) e k2 (by omega) he (.inl (by omega))
    have h5 := pw1024 (show 2 * (e - (f + q.2 + 1)) - 1 ≤ 11 by omega)
    have h6 : 1024 ^ 11 ≤ 2 ^ 126 := by decide
    omega
  · rw [k1, upc_at, a.td (q.1 + 1) e (by omega) he, Nat.mul_one]
    exact hv
  · rw [(tc q hq k1).2]
    have x := a.bc f (f + q.2 + 1) (by omega) (by omega) (.inr ⟨rfl, by omega⟩)
    have y := a.bt (q.1 + 1) (f + q.2 + 1) e k2 (by omega) he (.inl (by omega))
    rw [show f + q.2 + 1 - f = q.2 + 1 by omega] at x
    rw [show e - (f + q.2 + 1) = e - f - (q.2 + 1) by omega] at y
    have := part_le (by omega) (by omega) x y
    omega
  · exact ⟨k2, by omega⟩
  · exact ⟨by omega, by omega⟩
theorem Ctd.step (T : CT.Tb L n h t F p W) (hL : 0 < L) (L4 : L ≤ 4) (a : Ctd L n h t Tc Tt c u (Dn f e)) (hfe : f < e) (he : e ≤ n) (n6 : n ≤ 6) {Tt' : Nat → Nat → Nat → OI} (h1 : ∀ l a b, ¬ (a = f ∧ b = e) → Tt' l a b = Tt l a b) (h2 : ∀ l, l < L → Tt' l f e = some (CT.ovr L h t (upc c f e (v0 L h t c u f e)) u l f e : Int)) :
    ∃ c' u', Ctd L n h t (up2 Tc f e (some (v0 L h t c u f e : Int))) Tt' c' u' (Dn f (e + 1)) := by
  have hv := a.v0_le T hL L4 hfe he n6
  refine ⟨upc c f e (v0 L h t c u f e), upu u f e fun l => CT.ovr L h t (upc c f e (v0 L h t c u f e)) u l f e, ?_⟩
  have dn : ∀ {i j}, Dn f (e + 1) i j → ¬ (i = f ∧ j = e) → Dn f e i j := fun hp z => by
    rcases hp with y | y
    · exact .inl y
    · exact .inr ⟨y.1, by omega⟩
  have oth : ∀ l i j, i < j → Dn f e i j → CT.ovr L h t (upc c f e (v0 L h t c u f e)) (upu u f e fun l => CT.ovr L h t (upc c f e (v0 L h t c u f e)) u l f e) l i j = CT.ovr L h t c u l i j := fun l i j hij hp => by
    rw [ovr_wys, ovr_wys]
    congr 1
    refine List.map_congr_left fun q hq => ?_
    have hb := (CT.Bk_mem.mp (wys_mem.mp hq).1).2.2
    rw [upc_ne (by rcases hp with y | y <;> omega), upu_ne (by rcases hp with y | y <;> omega)]
  have own : ∀ l, CT.ovr L h t (upc c f e (v0 L h t c u f e)) (upu u f e fun l => CT.ovr L h t (upc c f e (v0 L h t c u f e)) u l f e) l f e = CT.ovr L h t (upc c f e (v0 L h t c u f e)) u l f e := fun l => by
    rw [ovr_wys, ovr_wys]
    congr 1
    refine List.map_congr_left fun q hq => ?_
    rw [upu_ne (by omega)]
  refine ⟨fun l j hl hj => ?_, fun i j hij hj hp => ?_, fun l i j hl hij hj hp => ?_, fun i j hij hj hp => ?_, fun l i j hl hij hj hp => ?_, fun l j hl hj => ?_, fun i j hij hj hp => ?_, fun l i j hl hij hj hp => ?_⟩
  · rw [h1 l j j (by omega)]; exact a.dg l j hl hj
  · by_cases z : i = f ∧ j = e
    · obtain ⟨rfl, rfl⟩ := z
      rw [upc_at]
      unfold up2
      rw [if_pos ⟨rfl, rfl⟩]
    · rw [upc_ne z]
      unfold up2
      rw [if_neg z]
      exact a.vc i j hij hj (dn hp z)
  · by_cases z : i = f ∧ j = e
    · obtain ⟨rfl, rfl⟩ := z
      rw [h2 l hl, upu_at]
    · rw [h1 l i j z, upu_ne z]
      exact a.vt l i j hl hij hj (dn hp z)
  · by_cases z : i = f ∧ j = e
    · obtain ⟨rfl, rfl⟩ := z
      rw [upc_at]
      by_cases z1 : j - i = 1
      · unfold v0
        rw [if_pos z1, if_pos z1]
      · rw [if_neg z1, own 0]
        have e0 : v0 L h t c u i j = CT.ovr L h t c u 0 i j := by unfold v0; rw [if_neg z1]
        rw [e0, ovr_wys, ovr_wys]
        congr 1
        refine List.map_congr_left fun q hq => ?_
        have := wys0 T hL (by omega) hj hq
        rw [upc_ne (by omega)]
    · rw [upc_ne z, oth 0 i j hij (dn hp z)]
      exact a.ec i j hij hj (dn hp z)
  · by_cases z : i = f ∧ j = e
    · obtain ⟨rfl, rfl⟩ := z
      rw [upu_at, own l]
    · rw [upu_ne z, oth l i j hij (dn hp z)]
      exact a.et l i j hl hij hj (dn hp z)
  · rw [upu_ne (by omega)]; exact a.td l j hl hj
  · by_cases z : i = f ∧ j = e
    · obtain ⟨rfl, rfl⟩ := z
      rw [upc_at]; exact hv
    · rw [upc_ne z]; exact a.bc i j hij hj (dn hp z)
  · by_cases z : i = f ∧ j = e
    · obtain ⟨rfl, rfl⟩ := z
      rw [upu_at, ovr_wys]
      have s := a.sl T hL L4 hij hj n6 hl
      have h3 := sum_le (f := fun q : Nat × Nat => upc c i j (v0 L h t c u i j) i (i + q.2 + 1) * u (q.1 + 1) (i + q.2 + 1) j) (wys L h t l i j) s.d
      have h4 := wys_len (L := L) (l := l) (i := i) (j := j) (h := h) (t := t) L4 (by omega)
      have h5 := Nat.mul_le_mul_right (32 * 1024 ^ (2 * (j - i) - 2)) h4
      have h6 : 1024 ^ (2 * (j - i) - 1) = 1024 * 1024 ^ (2 * (j - i) - 2) := by
        rw [show 2 * (j - i) - 1 = (2 * (j - i) - 2) + 1 by omega, Nat.pow_succ, Nat.mul_comm]
      rw [h6]
      omega
    · rw [upu_ne z]; exact a.bt l i j hl hij hj (dn hp z)
end
end K98
set_option Elab.async false
set_option linter.all false
set_option maxRecDepth 100000
namespace K98
open PySem L2
structure CY where
  cc : Addr
  ca : Nat → Addr
  tt : Addr
  bt : Nat → Addr
  ct : Nat → Nat → Addr
abbrev cf (pr : Addr) (L : Int) (Y : CY) : List (Str × V) := [("parted", .ref pr), ("letters", .int L), ("codes", .ref Y.cc), ("tails", .ref Y.tt)]
structure CAt (D : Addr) (H : Hp) (r pr : Addr) (L s : Nat) (Y : CY) (Tc : Nat → Nat → OI) (Tt : Nat → Nat → Nat → OI) : Prop where
  ob : ∃ dx, H r = some (.ins D dx (cf pr (L : Int) Y))
  co : H Y.cc = some (.lst ((List.range s).map fun i => .ref (Y.ca i)))
  cr : ∀ i, i < s → H (Y.ca i) = some (.lst ((List.range s).map fun j => oV (Tc i j)))
  tl : Tb H Y.tt Y.bt Y.ct (L + 1) s Tt
  ic : ∀ i j, i < s → j < s → Y.ca i = Y.ca j → i = j
  it : ∀ l i l' i', l < L + 1 → l' < L + 1 → i < s → i' < s → Y.ct l i = Y.ct l' i' → l = l' ∧ i = i'
  ix : ∀ i l k, i < s → l < L + 1 → k < s → Y.ca i ≠ Y.ct l k
theorem CAt.same {D : Addr} {H H' : Hp} {r pr : Addr} {L s : Nat} {Y : CY} {Tc : Nat → Nat → OI} {Tt : Nat → Nat → Nat → OI} (a : CAt D H r pr L s Y Tc Tt) (k : Same H H') : CAt D H' r pr L s Y Tc Tt := by
  obtain ⟨dx, ho⟩ := a.ob
  exact ⟨⟨dx, k _ _ ho⟩, k _ _ a.co, fun i hi => k _ _ (a.cr i hi), a.tl.same k, a.ic, a.it, a.ix⟩
theorem row_set2 {T : Nat → Nat → OI} {i j s : Nat} {v : OI} (hj : j < s) : ((List.range s).map fun k => oV (T i k)).set j (oV v) = (List.range s).map fun k => oV (up2 T i j v i k) := by
  have := row_set (T := fun _ => T) (l := 0) (i := i) (j := j) (s := s) (v := v) hj
  rw [this]
  refine List.map_congr_left fun k _ => ?_
  unfold up2 up3
  by_cases e : k = j
  · rw [if_pos ⟨rfl, rfl, e⟩, if_pos ⟨rfl, e⟩]
  · rw [if_neg (fun z => e z.2.2), if_neg (fun z => e z.2)]
theorem CAt.putc {D : Addr} {H : Hp} {r pr : Addr} {L s : Nat} {Y : CY} {Tc : Nat → Nat → OI} {Tt : Nat → Nat → Nat → OI} {i j : Nat} {v : OI} (a : CAt D H r pr L s Y Tc Tt) (hi : i < s) (hj : j < s) : CAt D (upd H (Y.ca i) (.lst (((List.range s).map fun k => oV (Tc i k)).set j (oV v)))) r pr L s Y (up2 Tc i j v) Tt := by
  obtain ⟨dx, ho⟩ := a.ob
  have hc := a.cr i hi
  refine ⟨⟨dx, ?_⟩, ?_, fun k hk => ?_, a.tl.keep (by omega) (by omega) (by omega) hc fun l k hl hk => Ne.symm (a.ix i l k hi hl hk), a.ic, a.it, a.ix⟩
  · rw [upd_ne (ne_of ho hc (by intro z; cases z))]; exact ho
  · rw [upd_ne (ne_of a.co hc (fun z => ne_refs (m := s) (n := s) (by omega) (by omega) (HO.lst.inj z)))]; exact a.co
  · by_cases e : k = i
    · subst e
      rw [upd_same, row_set2 hj]
    · rw [upd_ne (fun z => e (a.ic k i hk hi z)), a.cr k hk]
      refine congrArg (fun z => some (HO.lst z)) (List.map_congr_left fun m _ => ?_)
      unfold up2
      rw [if_neg (fun z => e z.1)]
theorem CAt.putt {D : Addr} {H : Hp} {r pr : Addr} {L s : Nat} {Y : CY} {Tc : Nat → Nat → OI} {Tt : Nat → Nat → Nat → OI} {l i j : Nat} {v : OI} (a : CAt D H r pr L s Y Tc Tt) (hl : l < L + 1) (hi : i < s) (hj : j < s) : CAt D (upd H (Y.ct l i) (.lst (((List.range s).map fun k => oV (Tt l i k)).set j (oV v)))) r pr L s Y Tc (up3 Tt l i j v) := by
  obtain ⟨dx, ho⟩ := a.ob
  have hc := a.tl.c l i hl hi
  refine ⟨⟨dx, ?_⟩, ?_, fun k hk => ?_, a.tl.put a.it hl hi hj, a.ic, a.it, a.ix⟩
  · rw [upd_ne (ne_of ho hc (by intro z; cases z))]; exact ho
  · rw [upd_ne (ne_of a.co hc (fun z => ne_refs (m := s) (n := s) (by omega) (by omega) (HO.lst.inj z)))]; exact a.co
  · rw [upd_ne (a.ix k l i hk hl hi)]; exact a.cr k hk
def ZC (Y : CY) (L s : Nat) (a : Addr) : Prop := (∃ i, i < s ∧ a = Y.ca i) ∨ ∃ l i, l < L + 1 ∧ i < s ∧ a = Y.ct l i
structure DC (K : PySem.W.Frag) (D : Addr) : Prop where
  c : Cls K D
  np : NoAttr K D "parted"
  nl : NoAttr K D "letters"
  nc : NoAttr K D "codes"
  nt : NoAttr K D "tails"
section
variable {P' : Program} {w : World} {K : PySem.W.Frag} {mg : Str → Option Value} {base : Heap} {f : Addr} {fd : FuncData}
abbrev NBy : List Str := ["self", "way", "first", "end"]
def spBy (D : Addr) : Sp := fun vs H Q _ => ∃ (r pr : Addr) (L s : Nat) (Y : CY) (Tc : Nat → Nat → OI) (Tt : Nat → Nat → Nat → OI) (wt : Addr) (i wy cut j x y : Nat), vs = [.ref r, .ref wt, .int (i : Int), .int (j : Int)] ∧ CAt D H r pr L s Y Tc Tt ∧ H wt = some (.tup [.int (wy : Int), .int (cut : Int)]) ∧ i < s ∧ cut < s ∧ j < s ∧ wy < L ∧ Tc i cut = some (x : Int) ∧ Tt (wy + 1) cut j = some (y : Int) ∧ x ≤ 2 ^ 126 ∧ y ≤ 2 ^ 126 ∧ Q (.int ((x * y : Nat) : Int)) H
theorem scBy : FnScope NBy NBy (defScope sBy) := ⟨rfl, rfl, rfl, by decide +kernel, rfl, by decide +kernel, by decide +kernel⟩
def CMulN (i j : Int) : Prop := (0 ≤ i ∧ i ≤ 2 ^ 126) ∧ (0 ≤ j ∧ j ≤ 2 ^ 126)
theorem CMulN.ok {i j : Int} (h : CMulN i j) : IntMulOk i j := by
  have q : ∀ k : Int, 0 ≤ k ∧ k ≤ 2 ^ 126 → PySem.Builtin.Int.intBits k ≤ 140 := fun k hk => intBits_le_iff.mpr (by
    have e : (2 : Nat) ^ 140 = 1393796574908163946345982392040522594123776 := by decide
    rw [e]
    omega)
  exact IntMulOk.of_le (q i h.1) (q j h.2) (by decide)
theorem op_mulN {X : Cx} : OpR X (binaryOp .Mult) (rI CMulN fun i j => .int (i * j)) := opI fun _ _ _ _ _ _ _ hc q => PyProof.Rows.mul_int q hc.ok
set_option maxHeartbeats 4000000 in
theorem ok_by {D : Addr} (F : Fun K "by_way" "Counts.by_way" sBy f fd) (rc : DC K D) : FnOk P' w K mg base CX0 1 f fd NBy (spBy D) := by
  refine F.ok (k := 0) scBy (fun vs H Q E h => ?_) (fun cdv A outer s H vs Q E hr h => ?_)
  · obtain ⟨r, pr, L, s', Y, Tc, Tt, wt, i, wy, cut, j, x, y, rfl, _⟩ := h
    rfl
  obtain ⟨r, pr, L, s', Y, Tc, Tt, wt, i, wy, cut, j, x, y, rfl, ca, hwt, hi, hcut, hj, hwy, ex, ey, bx, bY, q⟩ := h
  refine ⟨_, pss_one (ps_ret (pe_op op_mulN (pe_ix ix_list (pe_ix ix_list (pe_fld (pv 0) rfl) (pv 2) (fun _ _ => rfl)) (pe_ix ix_tup (pv 1) pe_int (fun _ _ => rfl)) (fun _ _ => rfl)) (pe_ix ix_list (pe_ix ix_list (pe_ix ix_list (pe_fld (pv 0) rfl) (pe_op op_add (pe_ix ix_tup (pv 1) pe_int (fun _ _ => rfl)) pe_int) (fun _ _ => rfl)) (pe_ix ix_tup (pv 1) pe_int (fun _ _ => rfl)) (fun _ _ => rfl)) (pv 3) (fun _ _ => rfl)))), ?_⟩
  obtain ⟨dx, ho⟩ := ca.ob
  refine ⟨_, rfl, r, D, dx, _, _, rfl, ho, rc.c, rc.nc, rfl, _, rfl, Y.cc, _, _, _, rfl, rfl, SqL.of ca.co, at_rng hi, _, rfl, wt, _, _, _, rfl, rfl, SqT.of hwt, rfl, Y.ca i, _, _, _, rfl, rfl, SqL.of (ca.cr i hi), at_rng hcut, ?_⟩
  refine ⟨_, rfl, r, D, dx, _, _, rfl, ho, rc.c, rc.nt, rfl, _, rfl, wt, _, _, _, rfl, rfl, SqT.of hwt, rfl, _, _, rfl, rfl, Y.tt, _, _, _, rfl, rfl, SqL.of ca.tl.o, at_rng (k := wy + 1) (by omega), _, rfl, wt, _, _, _, rfl, rfl, SqT.of hwt, rfl, Y.bt (wy + 1), _, _, _, rfl, rfl, SqL.of (ca.tl.b (wy + 1) (by omega)), at_rng hcut, _, rfl, Y.ct (wy + 1) cut, _, _, _, rfl, rfl, SqL.of (ca.tl.c (wy + 1) cut (by omega) hcut), at_rng hj, ?_⟩
  rw [ex, ey]
  have eh1 : ((2 ^ 126 : Nat) : Int) = 2 ^ 126 := by decide
  have h1 : (x : Int) ≤ 2 ^ 126 := by omega
  have eh2 : ((2 ^ 126 : Nat) : Int) = 2 ^ 126 := by decide
  have h2 : (y : Int) ≤ 2 ^ 126 := by omega
  refine ⟨_, _, rfl, rfl, ⟨⟨by omega, h1⟩, ⟨by omega, h2⟩⟩, ?_⟩
  have e : ((x * y : Nat) : Int) = (x : Int) * (y : Int) := Int.natCast_mul x y
  rw [e] at q
  exact q
abbrev NOv : List Str := ["self", "letter", "first", "end"]
def spOver (C D : Addr) : Sp := fun vs H Q _ => ∃ (r pr p : Addr) (ps ws : List Int) (X : Ad) (h t : Nat → Nat → Nat → OI) (Y : CY) (Tc : Nat → Nat → OI) (Tt : Nat → Nat → Nat → OI) (c : Nat → Nat → Nat) (u : Nat → Nat → Nat → Nat) (l i j B : Nat), vs = [.ref r, .int (l : Int), .int (i : Int), .int (j : Int)] ∧ PAt C H pr p ps ws X h t ∧ CAt D H r pr ps.length (ws.length + 1) Y Tc Tt ∧ ws.length ≤ 6 ∧ ps.length ≤ 4 ∧ l < ps.length ∧ i < j ∧ j ≤ ws.length ∧ Sm1 ps.length ws.length Tc Tt c u i j (wys ps.length h t l i j) B ∧ ∀ H', Same H H' → Q (.int (CT.ovr ps.length h t c u l i j : Int)) H'
theorem scOver : FnScope NOv NOv (defScope sOver) := ⟨rfl, rfl, rfl, by decide +kernel, rfl, by decide +kernel, by decide +kernel⟩
theorem ndOv : (("way" : Str) :: NOv).Nodup := by decide +kernel
theorem sum_nat (xs : List Nat) : (xs.map fun x : Nat => (x : Int)).sum = ((xs.sum : Nat) : Int) := by
  induction xs with
  | nil => rfl
  | cons x xs ih => rw [List.map_cons, List.sum_cons, List.sum_cons, ih]; push_cast; rfl
set_option maxHeartbeats 8000000 in
theorem ok_over {C D : Addr} (F : Fun K "over_ways" "Counts.over_ways" sOver f fd) (MW : Mt P' w K mg base C "ways" ["self", "letter", "first", "end"] (spWays C) 3) (MY : Mt P' w K mg base D "by_way" NBy (spBy D) 3) (rcP : PC K C) (rc : DC K D) (ms : mg "sum" = none) : FnOk P' w K mg base CX0 4 f fd NOv (spOver C D) := by
  refine F.ok (k := 3) scOver (fun vs H Q E h => ?_) (fun cdv A outer s H vs Q E hr h => ?_)
  · obtain ⟨r, pr, p, ps, ws, X, h, t, Y, Tc, Tt, c, u, l, i, j, B, rfl, _⟩ := h
    rfl
  obtain ⟨r, pr, p, ps, ws, X, h, t, Y, Tc, Tt, c, u, l, i, j, B, rfl, pa, ca, w6, p4, hl, hij, hj, sm, q⟩ := h
  refine ⟨_, pss_one (ps_ret (pe_callB (call_sum rfl) (by rfl) ms b_sum (pa_cons (pe_compL (M := NOv) rfl (CompScope.of (defScope sOver) NOv rfl rfl rfl (by decide +kernel) (by decide +kernel) (by decide +kernel) rfl (by decide +kernel)) ndOv rfl (pe_mid (pe_meth (pe_fld (pv 0) rfl) rcP.c MW.m MW.ok hr MW.b .nil pass0 (pa_cons (pv 1) (pa_cons (pv 2) (pa_cons (pv 3) pa_nil))))) mo_mid
      (fun cl C s0 H0 fp => ⟨pts_nil, pe_meth (pv 1) rc.c MY.m MY.ok hr MY.b .nil pass0 (pa_cons (pv 0) (pa_cons (pv 3) (pa_cons (pv 4) pa_nil)))⟩)) pa_nil))), ?_⟩
  obtain ⟨dx, ho⟩ := ca.ob
  obtain ⟨dp, hop⟩ := pa.ob
  refine ⟨fun v H1 => ∃ d xs, v = .ref d ∧ Same H H1 ∧ H1 d = some (.lst xs) ∧ Paired (Way H1 i) xs (wys ps.length h t l i j), ?_, fun v H1 hv => ?_⟩
  · exact ⟨_, rfl, r, D, dx, _, _, rfl, ho, rc.c, rc.np, rfl, pr, dp, _, rfl, hop, rfl, _, rfl, _, rfl, _, rfl, pr, p, ps, ws, X, h, t, l, i, j, rfl, pa, by omega, by omega, hl, hij, hj, fun d xs H' s' g' w' => ⟨d, xs, rfl, s', g', w'⟩⟩
  obtain ⟨d, xs, rfl, s1, g1, w1⟩ := hv
  have lx : xs.length = (wys ps.length h t l i j).length := w1.length
  have l24 := wys_len (L := ps.length) (l := l) (i := i) (j := j) (h := h) (t := t) p4 (by omega)
  refine ⟨d, _, rfl, SqL.of g1, fun e2 he2 => ?_⟩
  refine ⟨fun k H' => Same H1 H' ∧ H' e2 = some (.lst ((((wys ps.length h t l i j).take k).map fun q => ((c i (i + q.2 + 1) * u (q.1 + 1) (i + q.2 + 1) j : Nat) : Int)).map V.int)), ⟨same_newO he2 _, upd_same⟩, fun k H' _ hP => SqL.of (hP.1 _ _ g1), fun k x H' hx hP => ?_, fun H' hP => ?_⟩
  · obtain ⟨s2, g2⟩ := hP
    obtain ⟨q', hq, wt, rfl, hwt⟩ := Paired.right_of w1 k x hx
    have hm := List.mem_of_getElem? hq
    have kl := (List.getElem?_eq_some_iff.mp hq).1
    have s12 := s1.trans s2
    have hg := sm.g q' hm
    refine turn_all ⟨_, rfl, r, dx, _, rfl, s12 _ _ ho, rfl, _, rfl, _, rfl, _, rfl, r, pr, ps.length, ws.length + 1, Y, Tc, Tt, wt, i, q'.1, i + q'.2 + 1, j, c i (i + q'.2 + 1), u (q'.1 + 1) (i + q'.2 + 1) j, rfl, ca.same s12, s2 _ _ hwt, by omega, by omega, by omega, hg.1, sm.a q' hm, sm.b q' hm, sm.c1 q' hm, sm.u1 q' hm, _, g2, ?_, same_upd he2 s2, ?_⟩
    · rw [List.length_map, List.length_map, List.length_take]; exact small1000 (by omega)
    · rw [upd_same, List.take_add_one, hq, List.map_append, List.map_append]; rfl
  · obtain ⟨s2, g2⟩ := hP
    rw [lx, List.take_length] at g2
    refine ⟨e2, _, rfl, g2, ?_⟩
    have e : ((wys ps.length h t l i j).map fun q => ((c i (i + q.2 + 1) * u (q.1 + 1) (i + q.2 + 1) j : Nat) : Int)).sum = (CT.ovr ps.length h t c u l i j : Int) := by
      rw [ovr_wys, ← sum_nat, List.map_map]
      rfl
    rw [e]
    exact q _ (s1.trans s2)
end
end K98
set_option Elab.async false
set_option linter.all false
set_option maxRecDepth 100000
namespace K98
open PySem L2
section
variable {P' : Program} {w : World} {K : PySem.W.Frag} {mg : Str → Option Value} {base : Heap} {f : Addr} {fd : FuncData}
abbrev NPc : List Str := ["self", "first", "end", "letter"]
def spPutC (C D : Addr) : Sp := fun vs H Q _ => ∃ (H0 : Hp) (r pr p : Addr) (ps ws : List Int) (X : Ad) (h t : Nat → Nat → Nat → OI) (Fl : Nat → Nat → OI) (Y : CY) (Tc : Nat → Nat → OI) (Tt : Nat → Nat → Nat → OI) (c : Nat → Nat → Nat) (u : Nat → Nat → Nat → Nat) (i j : Nat), vs = [.ref r, .int (i : Int), .int (j : Int)] ∧ Same H0 H ∧ PAt C H0 pr p ps ws X h t ∧ (∀ a, ZC Y ps.length (ws.length + 1) a → H0 a = none) ∧ CAt D H r pr ps.length (ws.length + 1) Y Tc Tt ∧ CT.Tb ps.length ws.length h t Fl (pl ps) (Wt ws) ∧ ws.length ≤ 6 ∧ ps.length ≤ 4 ∧ 0 < ps.length ∧ i < j ∧ j ≤ ws.length ∧ Ctd ps.length ws.length h t Tc Tt c u (Dn i j) ∧
  ∀ H' Tc' Tt' c' u', Same H0 H' → CAt D H' r pr ps.length (ws.length + 1) Y Tc' Tt' → Ctd ps.length ws.length h t Tc' Tt' c' u' (Dn i (j + 1)) → Q .non H'
theorem scPutC : FnScope NPc ["self", "first", "end"] (defScope sPutC) := ⟨rfl, rfl, rfl, by decide +kernel, rfl, by decide +kernel, by decide +kernel⟩
set_option maxHeartbeats 8000000 in
theorem ok_putc {C D : Addr} (F : Fun K "put_counts" "Counts.put_counts" sPutC f fd) (MO : Mt P' w K mg base D "over_ways" NOv (spOver C D) 4) (rc : DC K D) (mr : mg "range" = none) : FnOk P' w K mg base CX0 5 f fd ["self", "first", "end"] (spPutC C D) := by
  refine F.ok (k := 4) scPutC (fun vs H Q E h => ?_) (fun cdv A outer s H vs Q E hr h => ?_)
  · obtain ⟨H0, r, pr, p, ps, ws, X, h, t, Fl, Y, Tc, Tt, c, u, i, j, rfl, _⟩ := h
    rfl
  obtain ⟨H0, r, pr, p, ps, ws, X, h, t, Fl, Y, Tc, Tt, c, u, i, j, rfl, s0, pa, fz, ca, T, w6, p4, p0, hij, hj, ctd, q⟩ := h
  refine ⟨_, pss_cons (ps_asg (pe_mid (pe_ifExp (pt_cmpR op_eq (pe_op op_sub (pv 2) (pv 1)) pe_int (nomark _)) pe_int (pe_meth (pv 0) rc.c MO.m MO.ok hr MO.b .nil pass0 (pa_cons pe_int (pa_cons (pv 1) (pa_cons (pv 2) pa_nil)))))) (pg_sub (pe_ix ix_list (pe_fld (pv 0) rfl) (pv 1) (fun _ _ => rfl)) (pv 2) set_list))
    (pss_one (ps_for PassesOwn.never rfl (pi_range1 (by rfl) mr (pa_cons (pe_fld (pv 0) rfl) pa_nil)) (pg_name (i := 3) scPutC.nd rfl (Or.inl rfl))
      (pss_one (ps_asg (pe_meth (pv 0) rc.c MO.m MO.ok hr MO.b .nil pass0 (pa_cons (pv 3) (pa_cons (pv 1) (pa_cons (pv 2) pa_nil)))) (pg_sub (pe_ix ix_list (pe_ix ix_list (pe_fld (pv 0) rfl) (pv 3) (fun _ _ => rfl)) (pv 1) (fun _ _ => rfl)) (pv 2) set_list))))), ?_⟩
  have i1 : i < ws.length + 1 := by omega
  have j1 : j < ws.length + 1 := by omega
  obtain ⟨dx, ho⟩ := ca.ob
  refine ⟨fun v H1 => v = .int (v0 ps.length h t c u i j : Int) ∧ Same H H1, ?_, fun v H1 hv => ?_⟩
  · refine ⟨_, rfl, _, rfl, _, _, rfl, rfl, rfl, _, rfl, ?_⟩
    refine ite2 (fun z => ?_) (fun z => ?_)
    · have z1 : j - i = 1 := by
        have y : V.int ((j : Int) - (i : Int)) = V.int 1 := of_decide_eq_true z
        have := V.int.inj y
        omega
      refine ⟨?_, Same.refl _⟩
      unfold v0
      rw [if_pos z1]
      rfl
    · have z1 : ¬ j - i = 1 := fun y => z (decide_eq_true (by show V.int ((j : Int) - (i : Int)) = V.int 1; congr 1; omega))
      refine ⟨_, rfl, r, dx, _, rfl, ho, rfl, _, rfl, _, rfl, r, pr, p, ps, ws, X, h, t, Y, Tc, Tt, c, u, 0, i, j, _, rfl, pa.same s0, ca, w6, p4, p0, hij, hj, ctd.s0 T p0 (by omega) hj w6, fun H' s' => ⟨?_, s'⟩⟩
      unfold v0
      rw [if_neg z1]
  obtain ⟨rfl, s1⟩ := hv
  have ca1 := ca.same s1
  have s01 := s0.trans s1
  obtain ⟨dx1, ho1⟩ := ca1.ob
  refine ⟨_, rfl, r, D, dx1, _, _, rfl, ho1, rc.c, rc.nc, rfl, _, rfl, Y.cc, _, _, _, rfl, rfl, SqL.of ca1.co, at_rng i1, _, rfl, Y.ca i, _, _, j, rfl, rfl, ca1.cr i i1, (by rw [List.length_map, List.length_range]; exact ixN_nat j1), ?_⟩
  have ca2 : CAt D (upd H1 (Y.ca i) (.lst (((List.range (ws.length + 1)).map fun k => oV (Tc i k)).set j (.int (v0 ps.length h t c u i j : Int))))) r pr ps.length (ws.length + 1) Y (up2 Tc i j (some (v0 ps.length h t c u i j : Int))) Tt := ca1.putc (v := some (v0 ps.length h t c u i j : Int)) i1 j1
  have s02 : Same H0 (upd H1 (Y.ca i) (.lst (((List.range (ws.length + 1)).map fun k => oV (Tc i k)).set j (.int (v0 ps.length h t c u i j : Int))))) := same_upd (fz _ (.inl ⟨i, i1, rfl⟩)) s01
  generalize upd H1 (Y.ca i) (.lst (((List.range (ws.length + 1)).map fun k => oV (Tc i k)).set j (.int (v0 ps.length h t c u i j : Int)))) = H2 at ca2 s02 ⊢
  obtain ⟨dx2, ho2⟩ := ca2.ob
  refine ⟨_, rfl, r, D, dx2, _, _, rfl, ho2, rc.c, rc.nl, rfl, _, rfl, by omega, by omega, ?_⟩
  rw [Int.toNat_natCast]
  refine for_range (fun l σ H' => Same H0 H' ∧ (∃ Tt', CAt D H' r pr ps.length (ws.length + 1) Y (up2 Tc i j (some (v0 ps.length h t c u i j : Int))) Tt' ∧ (∀ l' a b, ¬ (a = i ∧ b = j) → Tt' l' a b = Tt l' a b) ∧ ∀ l', l' < l → Tt' l' i j = some (CT.ovr ps.length h t (upc c i j (v0 ps.length h t c u i j)) u l' i j : Int)) ∧ ∃ x3 : Option V, σ = [some (.ref r), some (.int (i : Int)), some (.int (j : Int)), x3])
    ⟨s02, ⟨Tt, ca2, fun _ _ _ _ => rfl, fun l' hl' => absurd hl' (Nat.not_lt_zero _)⟩, _, rfl⟩ (fun l σ H3 hl hP => ?_) (fun σ H3 hP => ?_)
  · obtain ⟨s03, ⟨Tt', ca3, t1, t2⟩, x3, rfl⟩ := hP
    rw [show (0 : Int) + (l : Int) = (l : Int) from Int.zero_add _]
    obtain ⟨dx3, ho3⟩ := ca3.ob
    have sm := ctd.sl T p0 p4 hij hj w6 hl
    have sm' : Sm1 ps.length ws.length (up2 Tc i j (some (v0 ps.length h t c u i j : Int))) Tt' (upc c i j (v0 ps.length h t c u i j)) u i j (wys ps.length h t l i j) (32 * 1024 ^ (2 * (j - i) - 2)) := ⟨sm.a, fun q hq => by rw [t1 _ _ _ (by omega)]; exact sm.b q hq, sm.c1, sm.u1, sm.d, sm.g⟩
    refine ⟨_, rfl, r, dx3, _, rfl, ho3, rfl, _, rfl, _, rfl, _, rfl, r, pr, p, ps, ws, X, h, t, Y, _, Tt', _, u, l, i, j, _, rfl, pa.same s03, ca3, w6, p4, hl, hij, hj, sm', fun H4 s4 => ?_⟩
    have ca4 := ca3.same s4
    have s04 := s03.trans s4
    obtain ⟨dx4, ho4⟩ := ca4.ob
    have l2 : l < ps.length + 1 := by omega
    refine ⟨_, rfl, r, D, dx4, _, _, rfl, ho4, rc.c, rc.nt, rfl, _, rfl, Y.tt, _, _, _, rfl, rfl, SqL.of ca4.tl.o, at_rng l2, _, rfl, Y.bt l, _, _, _, rfl, rfl, SqL.of (ca4.tl.b l l2), at_rng i1, _, rfl, Y.ct l i, _, _, j, rfl, rfl, ca4.tl.c l i l2 i1, (by rw [List.length_map, List.length_range]; exact ixN_nat j1), ?_⟩
    refine ⟨same_upd (fz _ (.inr ⟨l, i, l2, i1, rfl⟩)) s04, ⟨_, ca4.putt (v := some (CT.ovr ps.length h t (upc c i j (v0 ps.length h t c u i j)) u l i j : Int)) l2 i1 j1, fun l' a b z => ?_, fun l' hl' => ?_⟩, _, rfl⟩
    · rw [up3_ne fun y => z ⟨y.2.1, y.2.2⟩]; exact t1 l' a b z
    · by_cases z : l' = l
      · subst z; rw [up3_at]
      · rw [up3_ne fun y => z y.1]; exact t2 l' (by omega)
  · obtain ⟨s03, ⟨Tt', ca3, t1, t2⟩, x3, rfl⟩ := hP
    obtain ⟨c', u', k⟩ := ctd.step T p0 p4 hij hj w6 t1 t2
    exact q H3 _ Tt' c' u' s03 ca3 k
end
def drp (r : Addr) (H : Hp) : Hp := fun a => if a = r then none else H a
theorem drp_ne {r a : Addr} {H : Hp} (h : a ≠ r) : drp r H a = H a := if_neg h
theorem drp_same {r : Addr} {H H' : Hp} (k : KeepR r H H') : Same (drp r H) H' := fun a o e => by
  by_cases z : a = r
  · unfold drp at e; rw [if_pos z] at e; cases e
  · rw [drp_ne z] at e; exact k a o z e
theorem drp_keep {r : Addr} {H H' : Hp} (s : Same (drp r H) H') : KeepR r H H' := fun a o ha e => s a o (by rw [drp_ne ha]; exact e)
theorem PAt.drp {C D : Addr} {H : Hp} {pr p r dx : Addr} {ps ws : List Int} {X : Ad} {h t : Nat → Nat → Nat → OI} (a : PAt C H pr p ps ws X h t) (hr : H r = some (.ins D dx [])) : PAt C (K98.drp r H) pr p ps ws X h t := by
  obtain ⟨dy, ho⟩ := a.ob
  refine ⟨⟨dy, ?_⟩, ?_, ?_, ⟨?_, fun l hl => ?_, fun l i hl hi => ?_⟩, ⟨?_, fun l hl => ?_, fun l i hl hi => ?_⟩, a.ih, a.it, a.ix, a.ns⟩
  · rw [drp_ne (ne_of ho hr (by intro z; cases z))]; exact ho
  · show K98.drp r H p = _
    rw [drp_ne (ne_of a.hp hr (by intro z; cases z))]; exact a.hp
  · rw [drp_ne (ne_of a.su hr (by intro z; cases z))]; exact a.su
  · rw [drp_ne (ne_of a.hd.o hr (by intro z; cases z))]; exact a.hd.o
  · rw [drp_ne (ne_of (a.hd.b l hl) hr (by intro z; cases z))]; exact a.hd.b l hl
  · rw [drp_ne (ne_of (a.hd.c l i hl hi) hr (by intro z; cases z))]; exact a.hd.c l i hl hi
  · rw [drp_ne (ne_of a.tl.o hr (by intro z; cases z))]; exact a.tl.o
  · rw [drp_ne (ne_of (a.tl.b l hl) hr (by intro z; cases z))]; exact a.tl.b l hl
  · rw [drp_ne (ne_of (a.tl.c l i hl hi) hr (by intro z; cases z))]; exact a.tl.c l i hl hi
end K98
set_option Elab.async false
set_option linter.all false
set_option maxRecDepth 100000
namespace K98
open PySem L2
section
variable {P' : Program} {w : World} {K : PySem.W.Frag} {mg : Str → Option Value} {base : Heap} {f : Addr} {fd : FuncData}
abbrev NCi : List Str := ["self", "prices", "weights", "side", "first", "end"]
abbrev cf1 (pr : Addr) : List (Str × V) := [("parted", .ref pr)]
abbrev cf2 (pr : Addr) (L : Int) : List (Str × V) := [("parted", .ref pr), ("letters", .int L)]
abbrev cf3 (pr : Addr) (L : Int) (cc : Addr) : List (Str × V) := [("parted", .ref pr), ("letters", .int L), ("codes", .ref cc)]
abbrev tc0 : Nat → Nat → OI := fun a b => if b = a then none else none
abbrev tt0 : Nat → Nat → Nat → OI := fun _ a b => if b = a then some 1 else none
def spCInit (C D : Addr) : Sp := fun vs H Q _ => ∃ (r dx p q : Addr) (ps ws : List Int), vs = [.ref r, .ref p, .ref q] ∧ H r = some (.ins D dx []) ∧ TW H p ps ∧ TW H q ws ∧ Num ps ws ∧ Po ps ∧ Po ws ∧ ps.length ≤ 4 ∧ ws.length ≤ 6 ∧
  ∀ H' (pr : Addr) X h t Fl Y Tc Tt c u, KeepR r H H' → PAt C H' pr p ps ws X h t → CAt D H' r pr ps.length (ws.length + 1) Y Tc Tt → CT.Tb ps.length ws.length h t Fl (pl ps) (Wt ws) → Ctd ps.length ws.length h t Tc Tt c u (fun _ _ => True) → Q .non H'
theorem scCInit : FnScope NCi ["self", "prices", "weights"] (defScope iCounts) := ⟨rfl, rfl, rfl, by decide +kernel, rfl, by decide +kernel, by decide +kernel⟩
theorem ndCi : (("letter" : Str) :: NCi).Nodup := by decide +kernel
set_option maxHeartbeats 8000000 in
theorem ok_cinit {C D : Addr} (F : Fun K "__init__" "Counts.__init__" iCounts f fd) (GP : Fns P' w K mg base ["prices", "weights"] "parted_least" (spPl C) 5) (GQ : Fns P' w K mg base ["side", "diagonal"] "square" spSquare 5) (MC : Mt P' w K mg base D "put_counts" ["self", "first", "end"] (spPutC C D) 5) (rc : DC K D) (ml : mg "len" = none) (mr : mg "range" = none) : FnOk P' w K mg base CX0 6 f fd ["self", "prices", "weights"] (spCInit C D) := by
  refine F.ok (k := 5) scCInit (fun vs H Q E h => ?_) (fun cdv A outer s H vs Q E hr h => ?_)
  · obtain ⟨r, dx, p, q, ps, ws, rfl, _⟩ := h
    rfl
  obtain ⟨r, dx, p, q, ps, ws, rfl, hr0, hp, hq, nu, pp, pw, p4, w6, qq⟩ := h
  have p2 := nu.p2
  have w1 := nu.w1
  refine ⟨_, pss_cons (ps_fld (pv 0) (pe_call GP.ok hr (by rfl) GP.m GP.kp GP.b .nil pass0 (pa_cons (pv 1) (pa_cons (pv 2) pa_nil))) rfl)
    (pss_cons (ps_fld (pv 0) (pe_callB call_len_seq (by rfl) ml PySem.boot_len (pa_cons (pv 1) pa_nil)) rfl)
    (pss_cons (ps_set (i := 3) scCInit.nd rfl (Or.inr rfl) (pe_op op_add (pe_callB call_len_seq (by rfl) ml PySem.boot_len (pa_cons (pv 2) pa_nil)) pe_int))
    (pss_cons (ps_fld (pv 0) (pe_call GQ.ok hr (by rfl) GQ.m GQ.kp GQ.b .nil pass0 (pa_cons (pv 3) (pa_cons pe_non pa_nil))) rfl)
    (pss_cons (ps_fld (pv 0) (pe_compR1 (M := NCi) rfl (CompScope.of (defScope iCounts) NCi rfl rfl rfl (by decide +kernel) (by decide +kernel) (by decide +kernel) rfl (by decide +kernel)) ndCi rfl (by rfl) mr (pa_cons (pe_op op_add (pe_fld (pv 0) rfl) pe_int) pa_nil) (mo_cons (mo_op mo_rI0 (mo_fld mo_var) mo_c) mo_nil)
      (fun cl C s0 H0 fp => ⟨pts_nil, pe_call GQ.ok hr (by rfl) GQ.m GQ.kp GQ.b .nil pass0 (pa_cons (pv 4) (pa_cons pe_int pa_nil))⟩)) rfl)
    (pss_one (ps_for PassesOwn.never rfl (pi_rangeD (by rfl) mr (pa_cons (pe_op op_sub (pe_callB call_len_seq (by rfl) ml PySem.boot_len (pa_cons (pv 2) pa_nil)) pe_int) (pa_cons (pe_un un_neg pe_int) (pa_cons (pe_un un_neg pe_int) pa_nil)))) (pg_name (i := 4) scCInit.nd rfl (Or.inl rfl))
      (pss_one (ps_for PassesOwn.never rfl (pi_range2 (by rfl) mr (pa_cons (pe_op op_add (pv 4) pe_int) (pa_cons (pv 3) pa_nil))) (pg_name (i := 5) scCInit.nd rfl (Or.inl rfl))
        (pss_one (ps_expr (pe_meth (pv 0) rc.c MC.m MC.ok hr MC.b .nil pass0 (pa_cons (pv 4) (pa_cons (pv 5) pa_nil))))))))))))), ?_⟩
  have pr' : p ≠ r := ne_of hp hr0 (by intro z; cases z)
  have qr' : q ≠ r := ne_of hq hr0 (by intro z; cases z)
  refine ⟨_, rfl, _, rfl, p, q, ps, ws, rfl, hp, hq, nu, fun pr X h t Fl H1 s1 pa fl => ?_⟩
  have T := fl.tb p2 pp pw
  have g1 := s1 _ _ hr0
  have paD := pa.drp g1
  have pr1 : pr ≠ r := by
    obtain ⟨dy, ho⟩ := pa.ob
    exact ne_of ho g1 (by intro z; cases z)
  refine ⟨_, rfl, r, D, dx, _, rfl, g1, rc.c, rc.np, (by show 0 < 1000; decide), ?_⟩
  rw [show putF "parted" (V.ref pr) [] = cf1 pr from rfl]
  have g2 : upd H1 r (.ins D dx (cf1 pr)) r = some (.ins D dx (cf1 pr)) := upd_same
  have k2 : Same (drp r H1) (upd H1 r (.ins D dx (cf1 pr))) := drp_same fun a o ha e => by rw [upd_ne ha]; exact e
  have dn : ∀ {a o}, H a = some o → a ≠ r → drp r H1 a = some o := fun e ha => by rw [drp_ne ha]; exact s1 _ _ e
  have hpD : TW (drp r H1) p ps := dn hp pr'
  have hqD : TW (drp r H1) q ws := dn hq qr'
  have fr : ∀ {H' : Hp} {a : Addr} {o : HO}, Same (drp r H1) H' → H' r = some o → H' a = none → drp r H1 a = none := fun s g e => s.free e
  generalize upd H1 r (.ins D dx (cf1 pr)) = H2 at g2 k2 ⊢
  refine ⟨_, rfl, p, _, rfl, .inr (SqT.of (k2 _ _ hpD)), _, rfl, r, D, dx, _, rfl, g2, rc.c, rc.nl, (by show 1 < 1000; decide), ?_⟩
  rw [List.length_map, show putF "letters" (V.int (ps.length : Int)) (cf1 pr) = cf2 pr (ps.length : Int) from rfl]
  have g3 : upd H2 r (.ins D dx (cf2 pr (ps.length : Int))) r = some (.ins D dx (cf2 pr (ps.length : Int))) := upd_same
  have k3 : Same (drp r H1) (upd H2 r (.ins D dx (cf2 pr (ps.length : Int)))) := drp_same fun a o ha e => by rw [upd_ne ha]; exact drp_keep k2 a o ha e
  generalize upd H2 r (.ins D dx (cf2 pr (ps.length : Int))) = H3 at g3 k3 ⊢
  refine ⟨_, rfl, q, _, rfl, .inr (SqT.of (k3 _ _ hqD)), _, _, rfl, rfl, ?_⟩
  rw [List.length_map]
  refine ⟨_, rfl, ws.length + 1, none, rfl, by omega, fun cc cA H4 s4 fcc fcA ij cb hb hc => ?_⟩
  have g4 := s4 _ _ g3
  refine ⟨_, rfl, r, D, dx, _, rfl, g4, rc.c, rc.nc, (by show 2 < 1000; decide), ?_⟩
  rw [show putF "codes" (V.ref cc) (cf2 pr (ps.length : Int)) = cf3 pr (ps.length : Int) cc from rfl]
  have cr : cc ≠ r := ne_of hb g4 (by intro z; cases z)
  have ar : ∀ i, i < ws.length + 1 → cA i ≠ r := fun i hi => ne_of (hc i hi) g4 (by intro z; cases z)
  have g5 : upd H4 r (.ins D dx (cf3 pr (ps.length : Int) cc)) r = some (.ins D dx (cf3 pr (ps.length : Int) cc)) := upd_same
  have k5 : Same (drp r H1) (upd H4 r (.ins D dx (cf3 pr (ps.length : Int) cc))) := drp_same fun a o ha e => by rw [upd_ne ha]; exact s4 _ _ (drp_keep k3 a o ha e)
  have b5 : upd H4 r (.ins D dx (cf3 pr (ps.length : Int) cc)) cc = some (.lst ((List.range (ws.length + 1)).map fun i => .ref (cA i))) := by rw [upd_ne cr]; exact hb
  have c5 : ∀ i, i < ws.length + 1 → upd H4 r (.ins D dx (cf3 pr (ps.length : Int) cc)) (cA i) = some (.lst (rowW (ws.length + 1) i none)) := fun i hi => by rw [upd_ne (ar i hi)]; exact hc i hi
  generalize upd H4 r (.ins D dx (cf3 pr (ps.length : Int) cc)) = H5 at g5 k5 b5 c5 ⊢
  refine ⟨_, rfl, r, D, dx, _, _, rfl, g5, rc.c, rc.nl, rfl, _, _, rfl, rfl, _, rfl, by omega, by omega, fun tt htt => ?_⟩
  have en : ((ps.length : Int) + 1).toNat = ps.length + 1 := by omega
  rw [en]
  refine ⟨fun i H' => ∃ ba ca, Grow H5 H' (ws.length + 1) (some 1) i ba ca tt, ⟨_, _, Grow.start htt⟩, fun i H' hi hP => ?_, fun H6 hP => ?_⟩
  · obtain ⟨ba, ca, g⟩ := hP
    refine turn_all ⟨_, rfl, ws.length + 1, some 1, rfl, by omega, fun b c' H8 s8 fb fc ij cb hb hc => ⟨_, s8 _ _ g.lo_, ?_, _, _, g.step htt s8 fb fc ij hb hc⟩⟩
    rw [List.length_map, List.length_range]; exact small1000 (by omega)
  obtain ⟨bt, ct, gt⟩ := hP
  have g6 := gt.same _ _ g5
  refine ⟨_, rfl, r, D, dx, _, rfl, g6, rc.c, rc.nt, (by show 3 < 1000; decide), ?_⟩
  rw [show putF "tails" (V.ref tt) (cf3 pr (ps.length : Int) cc) = cf pr (ps.length : Int) ⟨cc, cA, tt, bt, ct⟩ from rfl]
  have rt1 : tt ≠ r := ne_of gt.lo_ g6 (by intro z; cases z)
  have rt2 : ∀ l, l < ps.length + 1 → bt l ≠ r := fun l hl => ne_of (gt.lb l hl) g6 (by intro z; cases z)
  have rt3 : ∀ l k, l < ps.length + 1 → k < ws.length + 1 → ct l k ≠ r := fun l k hl hk => ne_of (gt.lc l k hl hk) g6 (by intro z; cases z)
  have ca7 : CAt D (upd H6 r (.ins D dx (cf pr (ps.length : Int) ⟨cc, cA, tt, bt, ct⟩))) r pr ps.length (ws.length + 1) ⟨cc, cA, tt, bt, ct⟩ tc0 tt0 := by
    refine ⟨⟨dx, upd_same⟩, ?_, fun i hi => ?_, ⟨?_, fun l hl => ?_, fun l k hl hk => ?_⟩, ij, fun l i l' i' hl hl' hi hi' e => gt.inj l i l' i' hl hl' hi hi' e, fun i l k hi hl hk e => ?_⟩
    · rw [upd_ne cr]; exact gt.same _ _ b5
    · rw [upd_ne (ar i hi)]; exact gt.same _ _ (c5 i hi)
    · rw [upd_ne rt1]; exact gt.lo_
    · rw [upd_ne (rt2 l hl)]; exact gt.lb l hl
    · rw [upd_ne (rt3 l k hl hk)]; exact gt.lc l k hl hk
    · have e1 := gt.fc l k hl hk
      have e : cA i = ct l k := e
      rw [← e, c5 i hi] at e1
      cases e1
  have k7 : Same (drp r H1) (upd H6 r (.ins D dx (cf pr (ps.length : Int) ⟨cc, cA, tt, bt, ct⟩))) := drp_same fun a o ha e => by rw [upd_ne ha]; exact gt.same _ _ (drp_keep k5 a o ha e)
  have fz : ∀ a, ZC ⟨cc, cA, tt, bt, ct⟩ ps.length (ws.length + 1) a → drp r H1 a = none := fun a hz => by
    rcases hz with ⟨i, hi, e⟩ | ⟨l, i, hl, hi, e⟩
    · have e : a = cA i := e
      rw [e]; exact k3.free (fcA i hi)
    · have e : a = ct l i := e
      rw [e]; exact k5.free (gt.fc l i hl hi)
  generalize upd H6 r (.ins D dx (cf pr (ps.length : Int) ⟨cc, cA, tt, bt, ct⟩)) = H7 at ca7 k7 ⊢
  generalize (⟨cc, cA, tt, bt, ct⟩ : CY) = Y at ca7 fz
  refine ⟨_, rfl, q, _, rfl, .inr (SqT.of (k7 _ _ hqD)), _, _, rfl, rfl, _, rfl, _, rfl, _, rfl, ⟨by rw [List.length_map]; omega, by rw [List.length_map]; omega⟩, ?_⟩
  rw [List.length_map, show ((ws.length : Int) - 1 + 1).toNat = ws.length by omega]
  refine for_range3 (fun m σ H' => Same (drp r H1) H' ∧ (∃ Tc Tt c u, CAt D H' r pr ps.length (ws.length + 1) Y Tc Tt ∧ Ctd ps.length ws.length h t Tc Tt c u (fun i _ => ws.length - m ≤ i)) ∧ ∃ x4 x5 : Option V, σ = [some (.ref r), some (.ref p), some (.ref q), some (.int ((ws.length : Int) + 1)), x4, x5])
    ⟨k7, ⟨tc0, tt0, fun _ _ => 0, fun _ _ _ => 1, ca7, ⟨fun l j _ _ => if_pos rfl, fun i j a b c => absurd c (by show ¬ ws.length ≤ i; omega), fun l i j _ a b c => absurd c (by show ¬ ws.length ≤ i; omega), fun i j a b c => absurd c (by show ¬ ws.length ≤ i; omega), fun l i j _ a b c => absurd c (by show ¬ ws.length ≤ i; omega), fun l j _ _ => rfl, fun i j a b c => absurd c (by show ¬ ws.length ≤ i; omega), fun l i j _ a b c => absurd c (by show ¬ ws.length ≤ i; omega)⟩⟩, _, _, rfl⟩ (fun m σ H8 hm hP => ?_) (fun σ H8 hP => ?_)
  · obtain ⟨s8, ⟨Tc, Tt, c, u, ca8, ct8⟩, x4, x5, rfl⟩ := hP
    obtain ⟨f, ef⟩ : ∃ f, f = ws.length - 1 - m := ⟨_, rfl⟩
    have ev : (ws.length : Int) - 1 + (m : Int) * (-1) = (f : Int) := by omega
    rw [ev]
    have hf : f < ws.length := by omega
    refine ⟨_, rfl, _, _, rfl, rfl, _, rfl, _, _, rfl, ⟨by omega, by omega, by omega, by omega⟩, ?_⟩
    have en2 : (((ws.length : Int) + 1) - ((f : Int) + 1)).toNat = ws.length - f := by omega
    rw [en2]
    refine for_range (fun k σ H' => Same (drp r H1) H' ∧ (∃ Tc Tt c u, CAt D H' r pr ps.length (ws.length + 1) Y Tc Tt ∧ Ctd ps.length ws.length h t Tc Tt c u (Dn f (f + 1 + k))) ∧ ∃ x5 : Option V, σ = [some (.ref r), some (.ref p), some (.ref q), some (.int ((ws.length : Int) + 1)), some (.int (f : Int)), x5])
      ⟨s8, ⟨Tc, Tt, c, u, ca8, ct8.weak fun i j hij hj d => by show ws.length - m ≤ i; rcases d with z | z <;> omega⟩, _, rfl⟩ (fun k σ H9 hk hP => ?_) (fun σ H9 hP => ?_)
    · obtain ⟨s9, ⟨Tc9, Tt9, c9, u9, ca9, ct9⟩, x5, rfl⟩ := hP
      have ee : (f : Int) + 1 + (k : Int) = ((f + 1 + k : Nat) : Int) := by push_cast; omega
      rw [ee]
      obtain ⟨dx9, ho9⟩ := ca9.ob
      refine ⟨_, rfl, r, dx9, _, rfl, ho9, rfl, _, rfl, _, rfl, drp r H1, r, pr, p, ps, ws, X, h, t, Fl, Y, Tc9, Tt9, c9, u9, f, f + 1 + k, rfl, s9, paD, fz, ca9, T, w6, p4, by omega, by omega, by omega, ct9, fun H' Tc' Tt' c' u' s' ca' k' => ?_⟩
      exact ⟨s', ⟨Tc', Tt', c', u', ca', k'⟩, _, rfl⟩
    · obtain ⟨s9, ⟨Tc9, Tt9, c9, u9, ca9, ct9⟩, x5, rfl⟩ := hP
      exact ⟨s9, ⟨Tc9, Tt9, c9, u9, ca9, ct9.weak fun i j hij hj d => by
        have d : ws.length - (m + 1) ≤ i := d
        by_cases z : f < i
        · exact .inl z
        · exact .inr ⟨by omega, by omega⟩⟩, _, _, rfl⟩
  · obtain ⟨s8, ⟨Tc, Tt, c, u, ca8, ct8⟩, x4, x5, rfl⟩ := hP
    exact qq H8 pr X h t Fl Y Tc Tt c u (fun a o ha e => drp_keep s8 a o ha (s1 _ _ e)) (paD.same s8) ca8 T (ct8.weak fun i j _ _ _ => by show ws.length - ws.length ≤ i; omega)
structure ClC (P : Program) (w : World) (K : PySem.W.Frag) (mg : Str → Option Value) (base : Heap) (C D : Addr) where
  rc : DC K D
  g : mg "Counts" = some (.ref D)
  fi : Addr
  di : FuncData
  mkk : Mk K D fi
  oki : FnOk P w K mg base CX0 6 fi di ["self", "prices", "weights"] (spCInit C D)
  bi : Binds K di ["self", "prices", "weights"] []
end
end K98
set_option Elab.async false
set_option linter.all false
set_option maxRecDepth 100000
namespace K98
open PySem L2
section
variable {L n : Nat} {h t : Nat → Nat → Nat → OI} {F : Nat → Nat → OI} {p : Nat → Int} {W : Nat → Nat → Int} {Tc : Nat → Nat → OI} {Tt : Nat → Nat → Nat → OI} {c : Nat → Nat → Nat} {u : Nat → Nat → Nat → Nat}
theorem sum_ge {α : Type} {g : α → Nat} {x : α} : ∀ {xs : List α}, x ∈ xs → g x ≤ (xs.map g).sum
  | _ :: _, .head _ => by rw [List.map_cons, List.sum_cons]; omega
  | _ :: xs, .tail _ h => by rw [List.map_cons, List.sum_cons]; have := sum_ge (g := g) h; omega
theorem Ctd.pos (a : Ctd L n h t Tc Tt c u (fun _ _ => True)) (T : CT.Tb L n h t F p W) (hL : 0 < L) : ∀ w i j, j - i ≤ w → i < j → j ≤ n → 1 ≤ c i j ∧ ∀ l, l < L → 1 ≤ u l i j
  | 0, i, j, hw, hij, hj => by omega
  | w + 1, i, j, hw, hij, hj => by
    have ih := Ctd.pos a T hL w
    have ut : ∀ l k, l ≤ L → (k < j → l < L) → i < k → k ≤ j → 1 ≤ u l k j := fun l k hl h1 h2 h3 => by
      by_cases z : k < j
      · exact (ih k j (by omega) z hj).2 l (h1 z)
      · have e : k = j := by omega
        subst e
        rw [a.td l k hl hj]
        exact Nat.le_refl _
    have hc : 1 ≤ c i j := by
      rw [a.ec i j hij hj trivial]
      split
      · exact Nat.le_refl _
      · rename_i z
        obtain ⟨q, r, eq⟩ := wys_ne T hL hij hj
        have hq : q ∈ wys L h t 0 i j := by rw [eq]; exact .head _
        obtain ⟨w1, w2⟩ := wys0 T hL (by omega) hj hq
        rw [ovr_wys]
        have := sum_ge (g := fun q : Nat × Nat => c i (i + q.2 + 1) * u (q.1 + 1) (i + q.2 + 1) j) hq
        have c1 := (ih i (i + q.2 + 1) (by omega) (by omega) (by omega)).1
        have u1 := ut (q.1 + 1) (i + q.2 + 1) (by omega) (fun _ => w2) (by omega) (by omega)
        have := Nat.mul_le_mul c1 u1
        omega
    refine ⟨hc, fun l hl => ?_⟩
    rw [a.et l i j hl hij hj trivial, ovr_wys]
    obtain ⟨q, r, eq⟩ := wys_ne T hl hij hj
    have hq : q ∈ wys L h t l i j := by rw [eq]; exact .head _
    obtain ⟨w1, w2, w3, w4⟩ := wys_lt T hl hij hj hq
    have := sum_ge (g := fun q : Nat × Nat => c i (i + q.2 + 1) * u (q.1 + 1) (i + q.2 + 1) j) hq
    have c1 : 1 ≤ c i (i + q.2 + 1) := by
      by_cases z : i + q.2 + 1 = j
      · rw [z]; exact hc
      · exact (ih i (i + q.2 + 1) (by omega) (by omega) (by omega)).1
    have u1 := ut (q.1 + 1) (i + q.2 + 1) (by omega) (fun z => w4 (by omega)) (by omega) (by omega)
    have := Nat.mul_le_mul c1 u1
    omega
end
structure Cts (C D : Addr) (H : Hp) (r : Addr) (ps ws : List Int) (h t : Nat → Nat → Nat → OI) (F : Nat → Nat → OI) (c : Nat → Nat → Nat) (u : Nat → Nat → Nat → Nat) : Prop where
  ob : ∃ (pr p : Addr) (X : Ad) (Y : CY) (Tc : Nat → Nat → OI) (Tt : Nat → Nat → Nat → OI), PAt C H pr p ps ws X h t ∧ CAt D H r pr ps.length (ws.length + 1) Y Tc Tt ∧ Ctd ps.length ws.length h t Tc Tt c u (fun _ _ => True)
  T : CT.Tb ps.length ws.length h t F (pl ps) (Wt ws)
  L : 2 ≤ ps.length ∧ ps.length ≤ 4 ∧ ws.length ≤ 6
theorem Cts.same {C D : Addr} {H H' : Hp} {r : Addr} {ps ws : List Int} {h t : Nat → Nat → Nat → OI} {F : Nat → Nat → OI} {c : Nat → Nat → Nat} {u : Nat → Nat → Nat → Nat} (k : Same H H') (a : Cts C D H r ps ws h t F c u) : Cts C D H' r ps ws h t F c u := by
  obtain ⟨pr, p, X, Y, Tc, Tt, pa, ca, ct⟩ := a.ob
  exact ⟨⟨pr, p, X, Y, Tc, Tt, pa.same k, ca.same k, ct⟩, a.T, a.L⟩
theorem pwN {w x : Nat} (hw : w ≤ 6) (h : x ≤ 32 * 1024 ^ (2 * w - 2) ∨ x ≤ 1024 ^ (2 * w - 1)) : x ≤ 2 ^ 126 := by
  rcases h with h | h
  · have := Nat.pow_le_pow_right (n := 1024) (by decide) (show 2 * w - 2 ≤ 10 by omega)
    have : 32 * 1024 ^ 10 ≤ 2 ^ 126 := by decide
    omega
  · have := Nat.pow_le_pow_right (n := 1024) (by decide) (show 2 * w - 1 ≤ 11 by omega)
    have : 1024 ^ 11 ≤ 2 ^ 126 := by decide
    omega
theorem log126 {x : Nat} (h : x ≤ 2 ^ 126) : ((x : Nat) : Int).natAbs.log2 < 9000 := by
  rw [Int.natAbs_natCast]
  by_cases z : x = 0
  · subst z; decide
  · refine (Nat.log2_lt z).mpr (Nat.lt_of_le_of_lt h ?_)
    exact Nat.pow_lt_pow_right (by decide) (by decide)
section
variable {P' : Program} {w : World} {K : PySem.W.Frag} {mg : Str → Option Value} {base : Heap} {f : Addr} {fd : FuncData}
abbrev NWb : List Str := ["counts", "number", "first", "end"]
abbrev NTw : List Str := ["counts", "number", "letter", "first", "end", "ways", "left", "at", "way", "behind", "inside", "rest"]
abbrev PTw : List Str := ["counts", "number", "letter", "first", "end"]
def spWb (C D : Addr) (d : Nat) : Sp := fun vs H Q _ => ∃ (r : Addr) (ps ws : List Int) (h t : Nat → Nat → Nat → OI) (F : Nat → Nat → OI) (c : Nat → Nat → Nat) (u : Nat → Nat → Nat → Nat) (i j : Nat), vs = [.ref r, .int 0, .int (i : Int), .int (j : Int)] ∧ Cts C D H r ps ws h t F c u ∧ i < j ∧ j ≤ ws.length ∧ 3 * (j - i) + 2 ≤ d ∧
  ∀ (a : Addr) xs cde H', Same H H' → H' a = some (.lst xs) → Ws H' xs cde → Cok ps.length h t i j cde → Q (.ref a) H'
def spTw (C D : Addr) (d : Nat) : Sp := fun vs H Q _ => ∃ (r : Addr) (ps ws : List Int) (h t : Nat → Nat → Nat → OI) (F : Nat → Nat → OI) (c : Nat → Nat → Nat) (u : Nat → Nat → Nat → Nat) (l i j : Nat), vs = [.ref r, .int 0, .int (l : Int), .int (i : Int), .int (j : Int)] ∧ Cts C D H r ps ws h t F c u ∧ i ≤ j ∧ (i < j → l < ps.length) ∧ j ≤ ws.length ∧ 3 * (j - i) + 1 ≤ d ∧ (∀ q ∈ wys ps.length h t l i j, 3 * (q.2 + 1) + 3 ≤ d) ∧
  ∀ (a : Addr) xs cde H', Same H H' → H' a = some (.lst xs) → Ws H' xs cde → Kt ps.length h t l i j cde → cde.length = j - i → (∀ v ∈ cde, v.length ≤ j - i ∧ ((∀ q ∈ wys ps.length h t l i j, q.2 + 1 < j - i) → v.length ≤ j - i - 1)) → Q (.ref a) H'
theorem scWb : FnScope NWb NWb (defScope sWb) := ⟨rfl, rfl, rfl, by decide +kernel, rfl, by decide +kernel, by decide +kernel⟩
theorem scTw : FnScope NTw PTw (defScope sTw) := ⟨rfl, rfl, rfl, by decide +kernel, rfl, by decide +kernel, by decide +kernel⟩
theorem ndTw : (("word" : Str) :: NTw).Nodup := by decide +kernel
set_option maxHeartbeats 16000000 in
theorem ok_wt {C D : Addr} {f2 : Addr} {fd2 : FuncData} (FW : Fun K "words_by" "words_by" sWb f fd) (FT : Fun K "tail_words" "tail_words" sTw f2 fd2) (mw : mg "words_by" = some (.ref f)) (kw : PySem.W.keepIn K (.ref f) = true) (bw : Binds K fd NWb []) (mt : mg "tail_words" = some (.ref f2)) (kt : PySem.W.keepIn K (.ref f2) = true) (bt : Binds K fd2 PTw [])
    (MW : Mt P' w K mg base C "ways" ["self", "letter", "first", "end"] (spWays C) 3) (MY : Mt P' w K mg base D "by_way" NBy (spBy D) 3) (rcP : PC K C) (rc : DC K D) : ∀ d, FnOk P' w K mg base CX0 (d + 4) f fd NWb (spWb C D d) ∧ FnOk P' w K mg base CX0 (d + 4) f2 fd2 PTw (spTw C D d) := by
  intro d
  induction d with
  | zero =>
    refine ⟨FW.ok (k := 3) scWb (fun vs H Q E h => ?_) (fun cdv A outer s H vs Q E hr h => ?_), FT.ok (k := 3) scTw (fun vs H Q E h => ?_) (fun cdv A outer s H vs Q E hr h => ?_)⟩
    all_goals exfalso
    · obtain ⟨r, ps, ws, h, t, F, c, u, i, j, rfl, _, _, _, z, _⟩ := h
      omega
    · obtain ⟨r, ps, ws, h, t, F, c, u, i, j, rfl, _, _, _, z, _⟩ := h
      omega
    · obtain ⟨r, ps, ws, h, t, F, c, u, l, i, j, rfl, _, _, _, _, z, _⟩ := h
      omega
    · obtain ⟨r, ps, ws, h, t, F, c, u, l, i, j, rfl, _, _, _, _, z, _⟩ := h
      omega
  | succ d ih =>
    obtain ⟨OW, OT⟩ := ih
    constructor
    · refine FW.ok (k := d + 4) scWb (fun vs H Q E h => ?_) (fun cdv A outer s H vs Q E hr h => ?_)
      · obtain ⟨r, ps, ws, h, t, F, c, u, i, j, rfl, _⟩ := h
        rfl
      obtain ⟨r, ps, ws, h, t, F, c, u, i, j, rfl, ct, hij, hj, hd, q⟩ := h
      refine ⟨_, pss_cons (ps_if (pt_cmpR op_eq (pe_op op_sub (pv 3) (pv 2)) pe_int (nomark _)) (pss_one (ps_ret (pe_lst (pa_cons (pe_tup pa_nil) pa_nil)))) pss_nil)
        (pss_one (ps_ret (pe_call OT hr (by rfl) mt kt bt .nil pass0 (pa_cons (pv 0) (pa_cons (pv 1) (pa_cons pe_int (pa_cons (pv 2) (pa_cons (pv 3) pa_nil)))))))), ?_⟩
      refine ⟨_, rfl, _, rfl, _, _, rfl, rfl, rfl, _, rfl, ?_⟩
      refine ite2 (fun z => ?_) (fun z => ?_)
      · have z1 : j = i + 1 := by
          have y : V.int ((j : Int) - (i : Int)) = V.int 1 := of_decide_eq_true z
          have := V.int.inj y
          omega
        subst z1
        refine ⟨(by show 0 ≤ sizeLine; decide), fun t0 ht0 => ?_⟩
        have s1 := same_newO ht0 (.tup [])
        have h1 : upd H t0 (.tup []) t0 = some (.tup []) := upd_same
        generalize upd H t0 (.tup []) = H1 at s1 h1 ⊢
        refine ⟨(by show 1 ≤ sizeLine; decide), fun l1 hl1 => ?_⟩
        have s2 := same_newO hl1 (.lst [.ref t0])
        refine q l1 [.ref t0] [[]] _ (s1.trans s2) upd_same (.cons (Wd.of (w := []) (s2 _ _ h1)) .nil) ⟨.one i, by show 1 = _; omega, fun v hv => ?_⟩
        rw [List.mem_singleton.mp hv]
        exact Nat.zero_le _
      · have z1 : ¬ j - i = 1 := fun y => z (decide_eq_true (by show V.int ((j : Int) - (i : Int)) = V.int 1; congr 1; omega))
        have L2' := ct.L
        have w0 : ∀ q ∈ wys ps.length h t 0 i j, q.2 + 1 < j - i := fun q hq => (wys0 ct.T (by omega) (by omega) hj hq).1
        refine ⟨_, rfl, _, rfl, _, rfl, _, rfl, r, ps, ws, h, t, F, c, u, 0, i, j, rfl, ct, by omega, fun _ => by omega, hj, by omega, fun q hq => ?_, fun a xs cde H' s' ga wa kt ln wd => ?_⟩
        · have := w0 q hq
          omega
        · exact q a xs cde H' s' ga wa ⟨.more i j cde (by omega) kt, ln, fun v hv => (wd v hv).2 w0⟩
    · refine FT.ok (k := d + 4) scTw (fun vs H Q E h => ?_) (fun cdv A outer s H vs Q E hr h => ?_)
      · obtain ⟨r, ps, ws, h, t, F, c, u, l, i, j, rfl, _⟩ := h
        rfl
      obtain ⟨r, ps, ws, h, t, F, c, u, l, i, j, rfl, ct, hij, hlt, hj, hd, hdq, q⟩ := h
      have MW' := MW.up (show 3 ≤ d + 4 by omega)
      have MY' := MY.up (show 3 ≤ d + 4 by omega)
      refine ⟨_, pss_cons (ps_if (pt_cmpR op_eq (pv 3) (pv 4) (nomark _)) (pss_one (ps_ret (pe_lst pa_nil))) pss_nil)
        (pss_cons (ps_set (i := 5) scTw.nd rfl (Or.inl rfl) (pe_meth (pe_fld (pv 0) rfl) rcP.c MW'.m MW'.ok hr MW'.b .nil pass0 (pa_cons (pv 2) (pa_cons (pv 3) (pa_cons (pv 4) pa_nil)))))
        (pss_cons (ps_set (i := 6) scTw.nd rfl (Or.inl rfl) (pv 1))
        (pss_cons (ps_set (i := 7) scTw.nd rfl (Or.inl rfl) pe_int)
        (pss_cons (ps_while PassesOwn.never (pt_cmpR op_ge (pv 6) (pe_meth (pv 0) rc.c MY'.m MY'.ok hr MY'.b .nil pass0 (pa_cons (pe_ix ix_list (pv 5) (pv 7) (fun _ _ => rfl)) (pa_cons (pv 3) (pa_cons (pv 4) pa_nil)))) (nomark _))
          (pss_cons (ps_set (i := 6) scTw.nd rfl (Or.inl rfl) (pe_op op_sub (pv 6) (pe_meth (pv 0) rc.c MY'.m MY'.ok hr MY'.b .nil pass0 (pa_cons (pe_ix ix_list (pv 5) (pv 7) (fun _ _ => rfl)) (pa_cons (pv 3) (pa_cons (pv 4) pa_nil))))))
          (pss_one (ps_aug (i := 7) scTw.nd rfl (Or.inl rfl) pe_int ip_add))))
        (pss_cons (ps_set (i := 8) scTw.nd rfl (Or.inr rfl) (pe_ix ix_list (pv 5) (pv 7) (fun _ _ => rfl)))
        (pss_cons (ps_set (i := 9) scTw.nd rfl (Or.inl rfl) (pe_ix ix_list (pe_ix ix_list (pe_ix ix_list (pe_fld (pv 0) rfl) (pe_op op_add (pe_ix ix_tup (pv 8) pe_int (fun _ _ => rfl)) pe_int) (fun _ _ => rfl)) (pe_ix ix_tup (pv 8) pe_int (fun _ _ => rfl)) (fun _ _ => rfl)) (pv 4) (fun _ _ => rfl)))
        (pss_cons (ps_set (i := 10) scTw.nd rfl (Or.inl rfl) (pe_call OW hr (by rfl) mw kw bw .nil pass0 (pa_cons (pv 0) (pa_cons (pe_op op_fdivB (pv 6) (pv 9)) (pa_cons (pv 3) (pa_cons (pe_ix ix_tup (pv 8) pe_int (fun _ _ => rfl)) pa_nil))))))
        (pss_cons (ps_set (i := 11) scTw.nd rfl (Or.inl rfl) (pe_call OT hr (by rfl) mt kt bt .nil pass0 (pa_cons (pv 0) (pa_cons (pe_op op_mod (pv 6) (pv 9)) (pa_cons (pe_op op_add (pe_ix ix_tup (pv 8) pe_int (fun _ _ => rfl)) pe_int) (pa_cons (pe_ix ix_tup (pv 8) pe_int (fun _ _ => rfl)) (pa_cons (pv 4) pa_nil)))))))
        (pss_one (ps_ret (pe_op op_cat (pe_compL (M := NTw) rfl (CompScope.of (defScope sTw) NTw rfl rfl rfl (by decide +kernel) (by decide +kernel) (by decide +kernel) rfl (by decide +kernel)) ndTw rfl (pv 10) mo_var
          (fun cl C s0 H0 fp => ⟨pts_nil, pe_op op_catG (pe_tup (pa_cons (pe_ix (ixT K) (pv 9) pe_int (fun _ _ => rfl)) pa_nil)) (pv 0)⟩)) (pv 11)))))))))))), ?_⟩
      refine ⟨_, rfl, _, rfl, rfl, _, rfl, ?_⟩
      refine ite2 (fun z => ?_) (fun z => ?_)
      · have z1 : i = j := by have := V.int.inj (of_decide_eq_true z); omega
        subst z1
        exact ⟨(by show 0 ≤ sizeLine; decide), fun l1 hl1 => q l1 [] [] _ (same_newO hl1 _) upd_same .nil (.nil l i) (by simp) (fun v hv => by cases hv)⟩
      have ne : i ≠ j := fun y => z (decide_eq_true (by rw [y]))
      have hij' : i < j := by omega
      have hl := hlt hij'
      obtain ⟨pr, p, X, Y, Tc, Tt, pa, ca, ctd⟩ := ct.ob
      obtain ⟨dx, ho⟩ := ca.ob
      obtain ⟨dp, hop⟩ := pa.ob
      obtain ⟨L2', L4, n6⟩ := ct.L
      refine ⟨_, rfl, r, D, dx, _, _, rfl, ho, rc.c, rc.np, rfl, pr, dp, _, rfl, hop, rfl, _, rfl, _, rfl, _, rfl, pr, p, ps, ws, X, h, t, l, i, j, rfl, pa, by omega, by omega, hl, hij', hj, fun d1 xs H1 s1 g1 w1 => ?_⟩
      have ca1 := ca.same s1
      have ct1 := ct.same s1
      have ho1 := s1 _ _ ho
      obtain ⟨q', rr, eqs⟩ := wys_ne ct.T hl hij' hj
      have hq : (wys ps.length h t l i j)[0]? = some q' := by rw [eqs]; rfl
      have hqm := List.mem_of_getElem? hq
      obtain ⟨v, hv, wt, rfl, hwt⟩ := Paired.left_of w1 0 q' hq
      obtain ⟨b0, b1, b2', b3'⟩ := wys_lt ct.T hl hij' hj hqm
      have b2 : i + q'.2 + 1 ≤ j := by omega
      have b3 : i + q'.2 + 1 < j → q'.1 + 1 < ps.length := fun z => b3' (by omega)
      have b4 : Tc i (i + q'.2 + 1) = some (c i (i + q'.2 + 1) : Int) := ctd.vc i (i + q'.2 + 1) (by omega) (by omega) trivial
      have b5 : Tt (q'.1 + 1) (i + q'.2 + 1) j = some (u (q'.1 + 1) (i + q'.2 + 1) j : Int) := by
        by_cases y : i + q'.2 + 1 < j
        · exact ctd.vt (q'.1 + 1) (i + q'.2 + 1) j (b3 y) y hj trivial
        · have y1 : i + q'.2 + 1 = j := by omega
          rw [y1, ctd.dg (q'.1 + 1) j (by omega) hj, ctd.td (q'.1 + 1) j (by omega) hj]
          rfl
      have b6 : c i (i + q'.2 + 1) ≤ 2 ^ 126 := pwN (w := i + q'.2 + 1 - i) (by omega) (.inl (ctd.bc i (i + q'.2 + 1) (by omega) (by omega) trivial))
      have b7 : u (q'.1 + 1) (i + q'.2 + 1) j ≤ 2 ^ 126 := by
        by_cases y : i + q'.2 + 1 < j
        · exact pwN (w := j - (i + q'.2 + 1)) (by omega) (.inr (ctd.bt (q'.1 + 1) (i + q'.2 + 1) j (b3 y) y hj trivial))
        · have y1 : i + q'.2 + 1 = j := by omega
          rw [y1, ctd.td (q'.1 + 1) j (by omega) hj]
          decide
      have c1 := (ctd.pos ct.T (by omega) _ i (i + q'.2 + 1) (Nat.le_refl _) (by omega) (by omega)).1
      have u1 : 1 ≤ u (q'.1 + 1) (i + q'.2 + 1) j := by
        by_cases y : i + q'.2 + 1 < j
        · exact (ctd.pos ct.T (by omega) _ (i + q'.2 + 1) j (Nat.le_refl _) y hj).2 _ (b3 y)
        · have y1 : i + q'.2 + 1 = j := by omega
          rw [y1, ctd.td (q'.1 + 1) j (by omega) hj]
          exact Nat.le_refl _
      refine ⟨_, rfl, ?_⟩
      refine ⟨fun m σ H' => H' = H1 ∧ ∃ (x8 x9 x10 x11 : Option V), σ = [some (.ref r), some (.int 0), some (.int (l : Int)), some (.int (i : Int)), some (.int (j : Int)), some (.ref d1), some (.int 0), some (.int 0), x8, x9, x10, x11], ⟨0, rfl, _, _, _, _, rfl⟩, ?_⟩
      rintro m σ H' ⟨rfl, x8, x9, x10, x11, rfl⟩
      refine ⟨_, rfl, _, rfl, r, dx, _, rfl, ho1, rfl, _, rfl, _, rfl, d1, _, _, _, rfl, rfl, SqL.of g1, at_nat hv, _, rfl, _, rfl, r, pr, ps.length, ws.length + 1, Y, Tc, Tt, wt, i, q'.1, i + q'.2 + 1, j, c i (i + q'.2 + 1), u (q'.1 + 1) (i + q'.2 + 1) j, rfl, ca1, hwt, by omega, by omega, by omega, b1, b4, b5, b6, b7, ?_⟩
      refine ⟨_, _, rfl, rfl, _, rfl, ?_⟩
      refine ite2 (fun y => ?_) (fun y => ?_)
      · exfalso
        have y1 : (0 : Int) ≥ ((c i (i + q'.2 + 1) * u (q'.1 + 1) (i + q'.2 + 1) j : Nat) : Int) := of_decide_eq_true y
        have := Nat.mul_le_mul c1 u1
        omega
      refine ⟨_, rfl, _, rfl, d1, _, _, _, rfl, rfl, SqL.of g1, at_nat hv, ?_⟩
      refine ⟨_, rfl, r, D, dx, _, _, rfl, ho1, rc.c, rc.nt, rfl, _, rfl, wt, _, _, _, rfl, rfl, SqT.of hwt, rfl, _, _, rfl, rfl, Y.tt, _, _, _, rfl, rfl, SqL.of ca1.tl.o, at_rng (k := q'.1 + 1) (by omega), _, rfl, wt, _, _, _, rfl, rfl, SqT.of hwt, rfl, Y.bt (q'.1 + 1), _, _, _, rfl, rfl, SqL.of (ca1.tl.b (q'.1 + 1) (by omega)), at_rng (k := i + q'.2 + 1) (by omega), _, rfl, Y.ct (q'.1 + 1) (i + q'.2 + 1), _, _, _, rfl, rfl, SqL.of (ca1.tl.c (q'.1 + 1) (i + q'.2 + 1) (by omega) (by omega)), at_rng (k := j) (by omega), ?_⟩
      rw [b5]
      have e0 : (0 : Int) / ((u (q'.1 + 1) (i + q'.2 + 1) j : Nat) : Int) = 0 := Int.zero_ediv _
      have e1 : (0 : Int) % ((u (q'.1 + 1) (i + q'.2 + 1) j : Nat) : Int) = 0 := Int.zero_emod _
      refine ⟨_, rfl, _, rfl, _, rfl, _, _, rfl, rfl, ⟨(by show (0 : Int) < (u (q'.1 + 1) (i + q'.2 + 1) j : Int); omega), log126 b7⟩, _, rfl, _, rfl, wt, _, _, _, rfl, rfl, SqT.of hwt, rfl, ?_⟩
      refine ⟨r, ps, ws, h, t, F, c, u, i, i + q'.2 + 1, congrArg (fun z => [V.ref r, V.int z, V.int (i : Int), V.int ((i + q'.2 + 1 : Nat) : Int)]) e0, ct1, by omega, by omega, ?_, fun p1 xs1 cA H2 s2 g2 w2 kA => ?_⟩
      · have := hdq q' hqm
        omega
      have hwt2 := s2 _ _ hwt
      refine ⟨_, rfl, _, rfl, _, rfl, _, _, rfl, rfl, (by show (0 : Int) < (u (q'.1 + 1) (i + q'.2 + 1) j : Int); omega), _, rfl, wt, _, _, _, rfl, rfl, SqT.of hwt2, rfl, _, _, rfl, rfl, _, rfl, wt, _, _, _, rfl, rfl, SqT.of hwt2, rfl, _, rfl, ?_⟩
      refine ⟨r, ps, ws, h, t, F, c, u, q'.1 + 1, i + q'.2 + 1, j, congrArg (fun z => [V.ref r, V.int z, V.int ((q'.1 + 1 : Nat) : Int), V.int ((i + q'.2 + 1 : Nat) : Int), V.int (j : Int)]) e1, ct1.same s2, b2, b3, hj, by omega, fun q2 hq2 => ?_, fun p2 xs2 rB H3 s3 g3 w3 kB lnB wdB => ?_⟩
      · have e1 := (CT.Bk_mem.mp (wys_mem.mp hq2).1).2.2
        omega
      have hwt3 := s3 _ _ hwt2
      have g23 := s3 _ _ g2
      have w23 := Ws.same s3 w2
      have l1 : xs1.length = cA.length := w2.length
      have l2 : xs2.length = rB.length := w3.length
      have lnA := kA.ln
      refine ⟨_, rfl, p1, _, rfl, SqL.of g23, fun e3 he3 => ?_⟩
      refine ⟨fun k H' => Same H3 H' ∧ ∃ zs, H' e3 = some (.lst zs) ∧ Ws H' zs ((cA.take k).map fun u => ((q'.1 : Nat) : Int) :: u), ⟨same_newO he3 _, [], upd_same, .nil⟩, fun k H' _ hP => SqL.of (hP.1 _ _ g23), fun k y H' hy hP => ?_, fun H4 hP => ?_⟩
      · obtain ⟨s4, zs, g4, w4⟩ := hP
        obtain ⟨o, ho2, ru⟩ := Paired.right_of w23 k y hy
        obtain ⟨ua, rfl, hua⟩ := Wd.ti ru
        have kl := (List.getElem?_eq_some_iff.mp ho2).1
        have lu := kA.wd o (List.mem_of_getElem? ho2)
        refine turn_all ⟨_, rfl, wt, _, _, _, rfl, rfl, SqT.of (s4 _ _ hwt3), rfl, (by show 1 ≤ sizeLine; decide), fun t1 ht1 => ?_⟩
        have s5 := same_newO ht1 (.tup [.int (q'.1 : Int)])
        have h5 : upd H' t1 (.tup [.int (q'.1 : Int)]) t1 = some (.tup [.int (q'.1 : Int)]) := upd_same
        generalize upd H' t1 (.tup [.int (q'.1 : Int)]) = H5 at s5 h5 ⊢
        refine ⟨_, rfl, t1, ua, _, _, rfl, rfl, h5, s5 _ _ (s4 _ _ hua), small (by rw [List.length_map, List.length_singleton]; omega), fun p5 H6 s6 hp5 => ?_⟩
        refine ⟨zs, s6 _ _ (s5 _ _ g4), small1000 (by rw [w4.length, List.length_map, List.length_take, lnA]; omega), same_upd he3 ((s4.trans s5).trans s6), _, upd_same, ?_⟩
        rw [List.take_add_one, ho2, List.map_append]
        exact Paired.appendP (Ws.upd (s6 _ _ (s5 _ _ g4)) (Ws.same (s5.trans s6) w4)) (.cons (Wd.upd (s6 _ _ (s5 _ _ g4)) (Wd.of hp5)) .nil)
      obtain ⟨s4, zs4, g4, w4⟩ := hP
      rw [l1, List.take_length] at w4
      have lz : zs4.length = cA.length := by rw [w4.length, List.length_map]
      refine ⟨_, rfl, e3, p2, _, _, rfl, rfl, g4, s4 _ _ g3, small (by rw [lz, l2, lnA, lnB]; omega), fun p6 hp6 => ?_⟩
      have s7 := same_newO hp6 (.lst (zs4 ++ xs2))
      refine q p6 _ (CT.ahd q'.1 cA ++ rB) _ ((((s1.trans s2).trans s3).trans s4).trans s7) upd_same (Paired.appendP (Ws.same s7 w4) (Ws.same (s4.trans s7) w3)) (.cons l i j q' cA rB hqm kA.k kB) ?_ (fun v hv => ?_)
      · rw [List.length_append, lnB]
        unfold CT.ahd
        rw [List.length_map, lnA]
        omega
      · have bA : ∀ v ∈ CT.ahd q'.1 cA, v.length ≤ q'.2 + 1 := fun v hv => by
          unfold CT.ahd at hv
          obtain ⟨o, ho3, rfl⟩ := List.mem_map.mp hv
          have := kA.wd o ho3
          rw [List.length_cons]
          omega
        rcases List.mem_append.mp hv with z | z
        · have := bA v z
          exact ⟨by omega, fun hs => by have := hs q' hqm; omega⟩
        · have := (wdB v z).1
          exact ⟨by omega, fun _ => by omega⟩
abbrev NNu : List Str := ["prices", "weights", "number", "counts"]
def spNum : Sp := fun vs H Q _ => ∃ (p q : Addr) (ps ws : List Int), vs = [.ref p, .ref q, .int 0] ∧ TW H p ps ∧ TW H q ws ∧ Num ps ws ∧ Po ps ∧ Po ws ∧ ps.length ≤ 4 ∧ ws.length ≤ 6 ∧
  ∀ (d : Addr) xs cde H', Same H H' → H' d = some (.tup xs) → Ws H' xs cde → K98.Q.Mn ps ws cde → Q (.ref d) H'
theorem scNu : FnScope NNu ["prices", "weights", "number"] (defScope sNbd) := ⟨rfl, rfl, rfl, by decide +kernel, rfl, by decide +kernel, by decide +kernel⟩
set_option maxHeartbeats 8000000 in
theorem ok_nu {C D : Addr} (F : Fun K "numbered" "numbered" sNbd f fd) (cl : ClC P' w K mg base C D) (GW : Fns P' w K mg base NWb "words_by" (spWb C D 20) 24) (ml : mg "len" = none) (mt : mg "tuple" = none) : FnOk P' w K mg base CX0 25 f fd ["prices", "weights", "number"] spNum := by
  refine F.ok (k := 24) scNu (fun vs H Q E h => ?_) (fun cdv A outer s H vs Q E hr h => ?_)
  · obtain ⟨p, q, ps, ws, rfl, _⟩ := h
    rfl
  obtain ⟨p, q, ps, ws, rfl, hp, hq, nu, pp, pw, L4, m6, q1⟩ := h
  have w1 := nu.w1
  have p2 := nu.p2
  have oki := cl.oki.mono (show 6 ≤ 23 by decide)
  refine ⟨_, pss_cons (ps_set (i := 3) scNu.nd rfl (Or.inl rfl) (pe_make cl.mkk oki hr (by rfl) cl.g cl.bi .nil pass0 (pa_cons (pv 0) (pa_cons (pv 1) pa_nil))))
    (pss_cons (ps_if (pt_not (pt_chain op_le op_lt pe_int (pv 2) (pe_ix ix_list (pe_ix ix_list (pe_fld (pv 3) rfl) pe_int (fun _ _ => rfl)) (pe_callB call_len_seq (by rfl) ml PySem.boot_len (pa_cons (pv 1) pa_nil)) (fun _ _ => rfl)))) (pss_one K98.Q.ps_nv) pss_nil)
    (pss_one (ps_ret (pe_callTy call_tuple_of (by rfl) mt b_tuple (pa_cons (pe_call GW.ok hr (by rfl) GW.m GW.kp GW.b .nil pass0 (pa_cons (pv 3) (pa_cons (pv 2) (pa_cons pe_int (pa_cons (pe_callB call_len_seq (by rfl) ml PySem.boot_len (pa_cons (pv 1) pa_nil)) pa_nil))))) pa_nil))))), ?_⟩
  refine ⟨_, rfl, _, rfl, fun r dx rn hdx _ => ?_⟩
  have sm : Same H (upd (upd H dx (.own r)) r (.ins D dx [])) := same_upd rn (same_newO hdx _)
  refine ⟨r, dx, p, q, ps, ws, rfl, upd_same, sm _ _ hp, sm _ _ hq, nu, pp, pw, L4, m6, fun H1 pr X h t Fl Y Tc Tt c u k1 pa ca T ctd => ⟨rfl, ?_⟩⟩
  have s1 : Same H H1 := fun a o e => k1 a o (fun z => by rw [z, rn] at e; cases e) (sm a o e)
  have ct : Cts C D H1 r ps ws h t Fl c u := ⟨⟨pr, p, X, Y, Tc, Tt, pa, ca, ctd⟩, T, p2, L4, m6⟩
  obtain ⟨dx1, ho⟩ := ca.ob
  have hv : Tc 0 ws.length = some (c 0 ws.length : Int) := ctd.vc 0 ws.length (by omega) (Nat.le_refl _) trivial
  have c1 := (ctd.pos T (by omega) _ 0 ws.length (Nat.le_refl _) (by omega) (Nat.le_refl _)).1
  refine ⟨_, rfl, _, _, rfl, rfl, _, rfl, ?_⟩
  rw [decide_eq_true (show (0 : Int) ≤ 0 from Int.le_refl _)]
  refine iteT ⟨_, rfl, r, D, dx1, _, _, rfl, ho, cl.rc.c, cl.rc.nc, rfl, Y.cc, _, _, _, rfl, rfl, SqL.of ca.co, at_rng (k := 0) (by omega), _, rfl, q, _, rfl, .inr (SqT.of (s1 _ _ hq)), ?_⟩
  rw [List.length_map]
  refine ⟨Y.ca 0, _, _, _, rfl, rfl, SqL.of (ca.cr 0 (by omega)), at_rng (k := ws.length) (by omega), ?_⟩
  rw [hv]
  refine ⟨_, _, rfl, rfl, _, rfl, ?_⟩
  rw [decide_eq_true (show (0 : Int) < (c 0 ws.length : Int) by omega)]
  refine iteF ?_
  refine ⟨_, rfl, _, rfl, _, rfl, q, _, rfl, .inr (SqT.of (s1 _ _ hq)), r, ps, ws, h, t, Fl, c, u, 0, ws.length, by rw [List.length_map]; rfl, ct, by omega, Nat.le_refl _, by omega, fun a xs cde H2 s2 g2 w2 ok => ?_⟩
  refine ⟨a, _, rfl, .inl ⟨SqL.of g2, fun d hd => ?_⟩⟩
  have s3 := same_newO hd (.tup xs)
  refine q1 d xs cde _ ((s1.trans s2).trans s3) upd_same (Ws.same s3 w2) ?_
  have i1 := (kc_in T (by omega) ok.k).2 (Nat.le_refl _)
  rw [Nat.sub_zero] at i1
  have e := (kc_cost T (by omega) ok.k).2.2.2 (Nat.le_refl _)
  refine ⟨i1, fun d hd => ?_⟩
  rw [← K98.Q.mi_F T w1] at e
  exact (CT.mi_some.mp e.symm).2 _ (List.mem_map_of_mem hd)
end
end K98
set_option Elab.async false
set_option linter.all false
set_option maxRecDepth 100000
namespace K98
open PySem L2
namespace Q
section
variable {P' : Program} {w : World} {K : PySem.W.Frag} {mg : Str → Option Value} {base : Heap} {f : Addr} {fd : FuncData}
def spFold (K : PySem.W.Frag) : Sp := fun vs H Q _ => ∃ (a : Addr) (ns : List Int), vs = [.ref a, .int 19] ∧ SqL K H a (ns.map V.int) ∧ ns.length ≤ 63 ∧ ∀ l H' ms, Same H H' → H' l = some (.lst (List.map V.int ms)) → ms.length ≤ 19 → Q (.ref l) H'
theorem scFold : FnScope ["script", "size", "told", "k"] ["script", "size"] (defScope sFold) := ⟨rfl, rfl, rfl, by decide +kernel, rfl, by decide +kernel, by decide +kernel⟩
theorem ixN_of {n j : Nat} (h : j < n) : ixN n (j : Int) = some j := by
  unfold ixN
  rw [if_pos (by omega), if_pos (by omega)]
  rfl
set_option maxHeartbeats 4000000 in
theorem ok_fold (F : Fun K "_law_folded" "_law_folded" sFold f fd) (ml : mg "len" = none) (mr : mg "range" = none) (mL : mg "list" = none) : FnOk P' w K mg base CX0 1 f fd ["script", "size"] (spFold K) := by
  refine F.ok (k := 0) scFold (fun vs H Q E h => ?_) (fun cdv A outer s H vs Q E hr h => ?_)
  · obtain ⟨a, ns, rfl, _⟩ := h
    rfl
  obtain ⟨a, ns, rfl, hS, h63, q⟩ := h
  refine ⟨_, pss_cons (ps_set (i := 2) scFold.nd rfl (Or.inl rfl) (pe_callTy call_list_of (by rfl) mL b_list (pa_cons (pe_slice sl_list (pv 0) po_none (po_some (pv 1))) pa_nil)))
    (pss_cons (ps_for PassesOwn.never rfl (pi_range2 (by rfl) mr (pa_cons (pv 1) (pa_cons (pe_callB call_len_seq (by rfl) ml PySem.boot_len (pa_cons (pv 0) pa_nil)) pa_nil))) (pg_name (i := 3) scFold.nd rfl (Or.inl rfl))
      (pss_one (ps_asg (pe_op op_add (pe_op op_mul (pe_ix ix_list (pv 2) (pe_op op_mod (pv 3) (pv 1)) (fun _ _ => rfl)) pe_int) (pe_ix ix_list (pv 0) (pv 3) (fun _ _ => rfl))) (pg_sub (pv 2) (pe_op op_mod (pv 3) (pv 1)) set_list))))
    (pss_one (ps_ret (pv 2)))), ?_⟩
  have ln : (ns.map V.int).length = ns.length := List.length_map _
  refine ⟨_, rfl, _, rfl, _, rfl, a, _, rfl, hS, fun p1 hp1 => ?_⟩
  rw [cutLit _ _ (by decide), ← List.map_take]
  have e6 : (19 : Int).toNat = 19 := rfl
  rw [e6]
  have s1 := same_newO hp1 (.lst ((ns.take 19).map V.int))
  refine ⟨p1, _, rfl, .inl (SqL.of upd_same), fun l hl => ?_⟩
  have s2 := same_newO hl (.lst ((ns.take 19).map V.int))
  have nl : H l = none := s1.free hl
  refine ⟨_, rfl, _, rfl, a, _, rfl, .inl ((s1.trans s2).seq hS), _, _, rfl, ⟨by decide, by decide, by omega, by omega⟩, ?_⟩
  refine for_range (fun i σ H' => Same H H' ∧ ∃ (x3 : Option V) (ms : List Int), σ = [some (.ref a), some (.int 19), some (.ref l), x3] ∧ H' l = some (.lst (ms.map V.int)) ∧ ms.length = min 19 ns.length) ⟨s1.trans s2, _, _, rfl, upd_same, by rw [List.length_take]⟩ (fun i σ H1 hi hP => ?_) (fun σ H1 hP => ?_)
  · obtain ⟨sm, x3, ms, rfl, hl1, lm⟩ := hP
    have hi' : 19 + i < ns.length := by omega
    have e0 : (19 : Int) + (i : Int) = ((19 + i : Nat) : Int) := by omega
    rw [e0]
    have e1 : ((19 + i : Nat) : Int) % 19 = (((19 + i) % 19 : Nat) : Int) := by omega
    have l6 : (19 + i) % 19 < ms.length := by omega
    refine ⟨_, rfl, _, rfl, _, rfl, _, _, rfl, rfl, (by show (0 : Int) < _; decide), l, _, _, _, rfl, rfl, SqL.of hl1, (by rw [e1]; exact at_int (List.getElem?_eq_getElem l6)), _, _, rfl, rfl, .inr (by decide), _, rfl, _, rfl, a, _, _, _, rfl, rfl, sm.seq hS, at_int (List.getElem?_eq_getElem hi'), _, _, rfl, rfl, ?_⟩
    refine ⟨_, rfl, _, rfl, _, rfl, _, _, rfl, rfl, (by show (0 : Int) < _; decide), l, _, _, (19 + i) % 19, rfl, rfl, hl1, (by rw [e1, List.length_map]; exact ixN_of l6), ?_⟩
    refine ⟨same_upd nl sm, _, ms.set ((19 + i) % 19) (ms[(19 + i) % 19] * 7 + ns[19 + i]), rfl, ?_, by rw [List.length_set, lm]⟩
    rw [upd_same, List.map_set]
  · obtain ⟨sm, x3, ms, rfl, hl1, lm⟩ := hP
    exact ⟨_, rfl, q l H1 ms sm hl1 (by omega)⟩
def spCell (K : PySem.W.Frag) : Sp := fun vs H Q _ => ∃ (a : Addr) (ns : List Int) (k : Int), vs = [.ref a, .int k] ∧ SqL K H a (ns.map V.int) ∧ 0 ≤ k ∧ ∀ i, Q (.int i) H
theorem scCellA : FnScope ["script", "k"] ["script", "k"] (defScope sCellA) := ⟨rfl, rfl, rfl, by decide +kernel, rfl, by decide +kernel, by decide +kernel⟩
theorem ok_cell (F : Fun K "_law_cell_at" "_law_cell_at" sCellA f fd) (ml : mg "len" = none) : FnOk P' w K mg base CX0 1 f fd ["script", "k"] (spCell K) := by
  refine F.ok (k := 0) scCellA (fun vs H Q E h => ?_) (fun cdv A outer s H vs Q E hr h => ?_)
  · obtain ⟨a, ns, k, rfl, _⟩ := h
    rfl
  obtain ⟨a, ns, k, rfl, hS, h0, q⟩ := h
  refine ⟨_, pss_cons (ps_if (pt_cmpR op_lt (pv 1) (pe_callB call_len_seq (by rfl) ml PySem.boot_len (pa_cons (pv 0) pa_nil)) (nomark _)) (pss_one (ps_ret (pe_ix ix_list (pv 0) (pv 1) (fun _ _ => rfl)))) pss_nil) (pss_one (ps_ret pe_int)), ?_⟩
  refine ⟨_, rfl, _, rfl, a, _, rfl, .inl hS, _, _, rfl, rfl, _, rfl, ?_⟩
  refine ite2 (fun c => ?_) (fun c => q 0)
  have c1 : k < ((ns.map V.int).length : Int) := of_decide_eq_true c
  obtain ⟨n, rfl⟩ : ∃ n : Nat, k = n := ⟨k.toNat, by omega⟩
  have hn : n < ns.length := by rw [List.length_map] at c1; omega
  exact ⟨_, rfl, _, rfl, a, _, _, _, rfl, rfl, hS, at_int (List.getElem?_eq_getElem hn), q _⟩
def spAmount : Sp := fun vs H Q _ => ∃ c : Int, vs = [.int c] ∧ ∀ i, 1 ≤ i → i ≤ B30 → Q (.int i) H
theorem scAmount : FnScope ["cell", "rest"] ["cell"] (defScope sAmount) := ⟨rfl, rfl, rfl, by decide +kernel, rfl, by decide +kernel, by decide +kernel⟩
theorem ok_amount (F : Fun K "_law_amount" "_law_amount" sAmount f fd) : FnOk P' w K mg base CX0 1 f fd ["cell"] spAmount := by
  refine F.ok (k := 0) scAmount (fun vs H Q E h => ?_) (fun cdv A outer s H vs Q E hr h => ?_)
  · obtain ⟨c, rfl, _⟩ := h
    rfl
  obtain ⟨c, rfl, q⟩ := h
  refine ⟨_, pss_cons (ps_set (i := 1) scAmount.nd rfl (Or.inl rfl) (pe_op op_fdiv (pv 0) pe_int))
    (pss_cons (ps_if (pt_cmpR op_eq (pe_op op_mod (pv 0) pe_int) pe_int (nomark _)) (pss_one (ps_ret (pe_op op_add pe_int (pe_op op_mod (pv 1) (pe_op op_pow pe_int pe_int))))) pss_nil)
    (pss_cons (ps_if (pt_cmpR op_eq (pe_op op_mod (pv 0) pe_int) pe_int (nomark _)) (pss_one (ps_ret (pe_op op_sub (pe_op op_pow pe_int pe_int) (pe_op op_mod (pv 1) pe_int)))) pss_nil)
    (pss_cons (ps_if (pt_cmpR op_eq (pe_op op_mod (pv 0) pe_int) pe_int (nomark _)) (pss_one (ps_ret (pe_op op_add pe_int (pe_op op_mod (pv 1) pe_int)))) pss_nil)
    (pss_one (ps_ret (pe_op op_add pe_int (pe_op op_mod (pv 1) pe_int))))))), ?_⟩
  refine ⟨_, rfl, _, _, rfl, rfl, ⟨by decide, by decide⟩, ?_⟩
  refine ⟨_, rfl, _, _, rfl, rfl, (by show (0 : Int) < _; decide), rfl, _, rfl, ?_⟩
  refine ite2 (fun _ => ⟨_, rfl, _, _, rfl, rfl, ⟨by decide, by decide, by decide⟩, _, _, rfl, rfl, (by show (0 : Int) < _; decide), _, _, rfl, rfl, q _ (by rw [e30]; unfold B30; omega) (by rw [e30]; unfold B30; omega)⟩) (fun _ => ?_)
  refine ⟨_, rfl, _, _, rfl, rfl, (by show (0 : Int) < _; decide), rfl, _, rfl, ?_⟩
  refine ite2 (fun _ => ⟨_, _, rfl, rfl, ⟨by decide, by decide, by decide⟩, _, rfl, _, _, rfl, rfl, (by show (0 : Int) < _; decide), _, _, rfl, rfl, q _ (by rw [e30]; unfold B30; omega) (by rw [e30]; unfold B30; omega)⟩) (fun _ => ?_)
  refine ⟨_, rfl, _, _, rfl, rfl, (by show (0 : Int) < _; decide), rfl, _, rfl, ?_⟩
  refine ite2 (fun _ => ⟨_, rfl, _, _, rfl, rfl, (by show (0 : Int) < _; decide), _, _, rfl, rfl, q _ (by omega) (by unfold B30; omega)⟩) (fun _ => ?_)
  exact ⟨_, rfl, _, _, rfl, rfl, (by show (0 : Int) < _; decide), _, _, rfl, rfl, q _ (by omega) (by unfold B30; omega)⟩
theorem nine {a b c d e f g h i k : Int} (i0 : 0 ≤ k) (i1 : k < 9) : ∃ v, atI ([V.int a, .int b, .int c, .int d, .int e, .int f, .int g, .int h] ++ [.int i]) k = some (.int v) := by
  have q : k = 0 ∨ k = 1 ∨ k = 2 ∨ k = 3 ∨ k = 4 ∨ k = 5 ∨ k = 6 ∨ k = 7 ∨ k = 8 := by omega
  rcases q with h | h | h | h | h | h | h | h | h <;> subst h <;> exact ⟨_, rfl⟩
abbrev NLn : List Str := ["ends", "cell", "low", "high", "some"]
def spLn : Sp := fun vs H Q _ => ∃ (e : Addr) (lo hi cl : Int), vs = [.ref e, .int cl] ∧ TW H e [lo, hi] ∧ lo ≤ hi ∧ ∀ v H', Same H H' → 1 ≤ v → v ≤ B30 → Q (.int v) H'
theorem scLn : FnScope NLn ["ends", "cell"] (defScope sLn) := ⟨rfl, rfl, rfl, by decide +kernel, rfl, by decide +kernel, by decide +kernel⟩
set_option maxHeartbeats 4000000 in
theorem ok_ln (F : Fun K "_law_number" "_law_number" sLn f fd) (GA : Fns P' w K mg base ["cell"] "_law_amount" spAmount 1) (mM : mg "max" = none) (mm : mg "min" = none) : FnOk P' w K mg base CX0 2 f fd ["ends", "cell"] spLn := by
  refine F.ok (k := 1) scLn (fun vs H Q E h => ?_) (fun cdv A outer s H vs Q E hr h => ?_)
  · obtain ⟨e, lo, hi, cl, rfl, _⟩ := h
    rfl
  obtain ⟨e, lo, hi, cl, rfl, he, hlh, q⟩ := h
  refine ⟨_, pss_cons (ps_asg (pv 0) (pg_tup rfl (pgs_cons (pg_name (i := 2) scLn.nd rfl (Or.inl rfl)) (pgs_cons (pg_name (i := 3) scLn.nd rfl (Or.inl rfl)) (pgs_nil)))))
      (pss_cons (ps_set (i := 4) scLn.nd rfl (Or.inl rfl) (pe_lst (pa_cons (pv 2) (pa_cons (pv 3) (pa_cons (pe_op op_sub (pv 2) (pe_int)) (pa_cons (pe_op op_add (pv 3) (pe_int)) (pa_cons (pe_int) (pa_cons (pe_op op_pow pe_int pe_int) (pa_cons (pe_call GA.ok hr (by rfl) GA.m GA.kp GA.b .nil pass0 (pa_cons (pe_op op_fdiv (pv 1) (pe_int)) (pa_nil))) (pa_cons (pe_op op_add (pv 2) (pe_op op_mod (pe_op op_fdiv (pv 1) (pe_int)) (pe_op op_add (pe_op op_sub (pv 3) (pv 2)) (pe_int)))) (pa_nil)))))))))))
      (pss_one (ps_ret (pe_callB (call_max2 rfl) (by rfl) mM b_max (pa_cons (pe_int) (pa_cons (pe_callB (call_min2 rfl) (by rfl) mm b_min' (pa_cons (pe_op op_pow pe_int pe_int) (pa_cons (pe_ix ix_list (pe_op op_cat (pv 4) (pe_lst (pa_cons (pe_op op_add (pv 3) (pe_op op_mod (pe_op op_fdiv (pv 1) (pe_int)) (pe_op op_pow pe_int pe_int))) (pa_nil)))) (pe_op op_mod (pv 1) (pe_int)) (fun _ _ => rfl)) (pa_nil)))) (pa_nil))))))), ?_⟩
  refine ⟨_, rfl, e, _, rfl, SqT.of he, rfl, _, _, rfl, _, _, rfl, rfl, ?_⟩
  refine ⟨_, rfl, _, rfl, _, rfl, _, _, rfl, rfl, _, rfl, _, _, rfl, rfl, _, _, rfl, rfl, ⟨by decide, by decide, by decide⟩, _, rfl, _, _, rfl, rfl, ⟨by decide, by decide⟩, _, rfl, fun am a1 a2 => ?_⟩
  refine ⟨_, rfl, _, rfl, _, _, rfl, rfl, ⟨by decide, by decide⟩, _, rfl, _, rfl, _, _, rfl, rfl, _, _, rfl, rfl, _, _, rfl, rfl, (by show (0 : Int) < hi - lo + 1; omega), _, _, rfl, rfl, (by show 8 ≤ sizeLine; decide), fun l8 hl8 => ?_⟩
  dsimp only
  rw [e30]
  have s8 := same_newO hl8 (.lst [V.int lo, .int hi, .int (lo - 1), .int (hi + 1), .int 1, .int B30, .int am, .int (lo + cl / 9 % (hi - lo + 1))])
  have h8 : upd H l8 (.lst [V.int lo, .int hi, .int (lo - 1), .int (hi + 1), .int 1, .int B30, .int am, .int (lo + cl / 9 % (hi - lo + 1))]) l8 = some (.lst [V.int lo, .int hi, .int (lo - 1), .int (hi + 1), .int 1, .int B30, .int am, .int (lo + cl / 9 % (hi - lo + 1))]) := upd_same
  generalize upd H l8 (.lst [V.int lo, .int hi, .int (lo - 1), .int (hi + 1), .int 1, .int B30, .int am, .int (lo + cl / 9 % (hi - lo + 1))]) = H8 at s8 h8 ⊢
  refine ⟨_, _, rfl, rfl, ⟨by decide, by decide, by decide⟩, ?_⟩
  refine ⟨_, rfl, _, rfl, _, rfl, _, _, rfl, rfl, ⟨by decide, by decide⟩, _, _, rfl, rfl, ⟨by decide, by decide, by decide⟩, _, _, rfl, rfl, (by show (0 : Int) < _; decide), _, _, rfl, rfl, (by show 1 ≤ sizeLine; decide), fun l9 hl9 => ?_⟩
  dsimp only
  have s9 := same_newO hl9 (.lst [V.int (hi + cl / 9 % 10 ^ (9 : Int).toNat)])
  refine ⟨l8, l9, _, _, rfl, rfl, s9 _ _ h8, upd_same, (by show 9 ≤ sizeLine; decide), fun l10 hl10 => ?_⟩
  have s10 := same_newO hl10 (.lst ([V.int lo, .int hi, .int (lo - 1), .int (hi + 1), .int 1, .int B30, .int am, .int (lo + cl / 9 % (hi - lo + 1))] ++ [V.int (hi + cl / 9 % 10 ^ (9 : Int).toNat)]))
  obtain ⟨x, hx⟩ := nine (a := lo) (b := hi) (c := lo - 1) (d := hi + 1) (e := 1) (f := B30) (g := am) (h := lo + cl / 9 % (hi - lo + 1)) (i := hi + cl / 9 % 10 ^ (9 : Int).toNat) (k := cl % 9) (by omega) (by omega)
  refine ⟨_, rfl, _, _, rfl, rfl, (by show (0 : Int) < _; decide), l10, _, _, _, rfl, rfl, SqL.of upd_same, hx, _, _, rfl, _, _, rfl, ?_⟩
  rw [e30]
  refine q _ _ ((s8.trans s9).trans s10) ?_ ?_
  · split <;> omega
  · split
    · split <;> omega
    · decide
abbrev NLm : List Str := ["prices", "weights", "way", "at", "number"]
def spLm : Sp := fun vs H Q _ => ∃ (b : Bool) (p wa : Addr) (ps ws : List Int) (l : Nat) (x : Int), vs = [.ref p, .ref wa, .int (wI b), .int (l : Int), .int x] ∧ TW H p ps ∧ TW H wa ws ∧ ps.length ≤ 900 ∧ ws.length ≤ 900 ∧ l < nL b ps ws ∧ 1 ≤ x ∧ x ≤ B30 ∧ ∀ (r p' wa' : Addr) H', Same H H' → H' r = some (.tup [.ref p', .ref wa']) → TW H' p' (mP b ps l x) → TW H' wa' (mW b ws l x) → Q (.ref r) H'
theorem scLm : FnScope NLm NLm (defScope sMoved) := ⟨rfl, rfl, rfl, by decide +kernel, rfl, by decide +kernel, by decide +kernel⟩
theorem ok_lm (F : Fun K "_law_moved" "_law_moved" sMoved f fd) (GP : Fns P' w K mg base ["prices", "letter", "number"] "price_moved" spWN 3) (GW : Fns P' w K mg base ["weights", "thing", "number"] "weight_moved" spWN 3) : FnOk P' w K mg base CX0 4 f fd NLm spLm := by
  refine F.ok (k := 3) scLm (fun vs H Q E h => ?_) (fun cdv A outer s H vs Q E hr h => ?_)
  · obtain ⟨b, p, wa, ps, ws, l, x, rfl, _⟩ := h
    rfl
  obtain ⟨b, p, wa, ps, ws, l, x, rfl, hp, hw, l9, m9, hl, x1, x2, q⟩ := h
  refine ⟨_, pss_cons (ps_if (pt_cmpR op_eq (pv 2) (pe_int) (nomark _)) (pss_one (ps_ret (pe_tup (pa_cons (pe_call GP.ok hr (by rfl) GP.m GP.kp GP.b .nil pass0 (pa_cons (pv 0) (pa_cons (pv 3) (pa_cons (pv 4) (pa_nil))))) (pa_cons (pv 1) (pa_nil)))))) (pss_nil))
      (pss_one (ps_ret (pe_tup (pa_cons (pv 0) (pa_cons (pe_call GW.ok hr (by rfl) GW.m GW.kp GW.b .nil pass0 (pa_cons (pv 1) (pa_cons (pv 3) (pa_cons (pv 4) (pa_nil))))) (pa_nil)))))), ?_⟩
  cases b with
  | true =>
    refine ⟨_, rfl, rfl, _, rfl, ite2 (fun _ => ?_) (fun z => absurd (decide_eq_true rfl) z)⟩
    refine ⟨_, rfl, _, rfl, _, rfl, p, ps, l, x, rfl, hp, l9, hl, x1, x2, fun p' H1 s1 hp' => ?_⟩
    refine ⟨_, rfl, (by show 2 ≤ sizeLine; decide), fun r hr' => ?_⟩
    have s6 := same_newO hr' (.tup [.ref p', .ref wa])
    exact q r p' wa _ (s1.trans s6) upd_same (s6 _ _ hp') (s6 _ _ (s1 _ _ hw))
  | false =>
    refine ⟨_, rfl, rfl, _, rfl, ite2 (fun z => absurd (V.int.inj (of_decide_eq_true z)) (by decide)) (fun _ => ?_)⟩
    refine ⟨_, rfl, _, rfl, _, rfl, _, rfl, wa, ws, l, x, rfl, hw, m9, hl, x1, x2, fun p' H1 s1 hp' => ?_⟩
    refine ⟨(by show 2 ≤ sizeLine; decide), fun r hr' => ?_⟩
    have s6 := same_newO hr' (.tup [.ref p, .ref p'])
    exact q r p p' _ (s1.trans s6) upd_same (s6 _ _ (s1 _ _ hp)) (s6 _ _ hp')
def Lst (b : Bool) (ps ws : List Int) (l : Nat) (x v : Int) : Prop := ∃ o, Mn (mP b ps l x) (mW b ws l x) o ∧ v = CT.co (mP b ps l x) (mW b ws l x) 0 o
theorem Lst.at {b : Bool} {ps ws : List Int} {l : Nat} {x v : Int} (h : Lst b ps ws l x v) (hl : l < nL b ps ws) (hn : 1 ≤ ws.length) : ∃ o ∈ CT.Cs ps.length ws.length, v = CT.co ps ws 0 o + sR b ps ws l o * (x - nw b ps ws l) ∧ ∀ d ∈ CT.Cs ps.length ws.length, v ≤ CT.co ps ws 0 d + sR b ps ws l d * (x - nw b ps ws l) := by
  obtain ⟨o, m, rfl⟩ := h
  have ho : o ∈ CT.Cs ps.length ws.length := by have := m.1; rw [mP_len hl, mW_len hl] at this; exact this
  refine ⟨o, ho, co_mv hl hn ho, fun d hd => ?_⟩
  rw [← co_mv hl hn hd]
  exact m.2 d (by rw [mP_len hl, mW_len hl]; exact hd)
abbrev NLl : List Str := ["prices", "weights", "way", "at", "number", "pair"]
def spLl (T : Addr) : Sp := fun vs H Q _ => ∃ (b : Bool) (p wa : Addr) (ps ws : List Int) (l : Nat) (x : Int), vs = [.ref p, .ref wa, .int (wI b), .int (l : Int), .int x] ∧ TW H p ps ∧ TW H wa ws ∧ Num ps ws ∧ Po ps ∧ Po ws ∧ l < nL b ps ws ∧ 1 ≤ x ∧ x ≤ B30 ∧ TabAt H T lamO lamQ ∧ ∀ v H', Kq T H H' → Lst b ps ws l x v → Q (.int v) H'
theorem scLl : FnScope NLl NLm (defScope sLl) := ⟨rfl, rfl, rfl, by decide +kernel, rfl, by decide +kernel, by decide +kernel⟩
theorem ok_ll {T : Addr} {k : Nat} (F : Fun K "_law_least" "_law_least" sLl f fd) (GM : Fns P' w K mg base NLm "_law_moved" spLm k) (GK : Fns P' w K mg base ["prices", "weights"] "cheapest_kept" (spCkM T) k) : FnOk P' w K mg base CX0 (k + 1) f fd NLm (spLl T) := by
  refine F.ok (k := k) scLl (fun vs H Q E h => ?_) (fun cdv A outer s H vs Q E hr h => ?_)
  · obtain ⟨b, p, wa, ps, ws, l, x, rfl, _⟩ := h
    rfl
  obtain ⟨b, p, wa, ps, ws, l, x, rfl, hp, hw, nu, pp, pw, hl, x1, x2, tab, q⟩ := h
  have p10 := nu.p10
  have w20 := nu.w20
  refine ⟨_, pss_cons (ps_set (i := 5) scLl.nd rfl (Or.inl rfl) (pe_call GM.ok hr (by rfl) GM.m GM.kp GM.b .nil pass0 (pa_cons (pv 0) (pa_cons (pv 1) (pa_cons (pv 2) (pa_cons (pv 3) (pa_cons (pv 4) (pa_nil))))))))
      (pss_one (ps_ret (pe_ix ix_tup (pe_call GK.ok hr (by rfl) GK.m GK.kp GK.b .nil pass0 (pa_cons (pe_ix ix_tup (pv 5) (pe_int) (fun _ _ => rfl)) (pa_cons (pe_ix ix_tup (pv 5) (pe_int) (fun _ _ => rfl)) (pa_nil)))) (pe_int) (fun _ _ => rfl)))), ?_⟩
  refine ⟨_, rfl, _, rfl, _, rfl, _, rfl, _, rfl, b, p, wa, ps, ws, l, x, rfl, hp, hw, by omega, by omega, hl, x1, x2, fun r p' wa' H1 s1 g1 hp' hw' => ?_⟩
  refine ⟨_, rfl, r, _, _, _, rfl, rfl, SqT.of g1, rfl, _, rfl, r, _, _, _, rfl, rfl, SqT.of g1, rfl, p', wa', _, _, rfl, hp', hw', nu_mv hl nu x1 x2, pp_mv pp x1, pw_mv pw x1, TabAt.same s1 tab, fun a ca d o H2 k2 g2 hco mn => ?_⟩
  exact ⟨a, _, _, _, rfl, rfl, SqT.of g2, rfl, q _ H2 ((Kq.of tab s1).trans k2) ⟨o, mn, rfl⟩⟩
end
end Q
end K98
set_option Elab.async false
set_option linter.all false
set_option maxRecDepth 100000
namespace K98
open PySem L2
namespace Q
def Bo (ns : List Int) : Prop := ∀ x ∈ ns, 1 ≤ x ∧ x ≤ B30
theorem Bo.bw {ns : List Int} (h : Bo ns) : Bw ns := fun x hx => ⟨by have := h x hx; omega, (h x hx).2⟩
theorem Bo.add {ns : List Int} (h : Bo ns) {i : Int} (h1 : 1 ≤ i) (h2 : i ≤ B30) : Bo (ns ++ [i]) := fun x hx => by
  rcases List.mem_append.mp hx with z | z
  · exact h x z
  · rw [List.mem_singleton.mp z]; exact ⟨h1, h2⟩
theorem Kq.put {T : Addr} {H0 H : Hp} {d : Addr} {xs ys : List V} (k : Kq T H0 H) (hd : H0 d = none) (e : H d = some (.lst xs)) : Kq T H0 (upd H d (.lst ys)) := by
  have n : ∀ {a : Addr} {o : HO}, (∀ z, o ≠ .lst z) → H a = some o → upd H d (.lst ys) a = some o := fun {a o} h ea => by rw [upd_ne (ne_of ea e (h _))]; exact ea
  refine ⟨fun a o h ea => ?_, ?_⟩
  · rw [upd_ne (fun z => by rw [z, hd] at ea; cases ea)]
    exact k.sm a o h ea
  · rcases k.tb with z | ⟨c, z1, z2⟩
    · exact .inl (n (by intro z y; cases y) z)
    · exact .inr ⟨c, n (by intro z y; cases y) z1, n (by intro z y; cases y) z2⟩
theorem sub_one (s y n : Int) : s * (y - 1 - n) = s * (y - n) - s ∧ s * (y + 1 - n) = s * (y - n) + s := by
  rw [show y - 1 - n = (y - n) - 1 by omega, show y + 1 - n = (y - n) + 1 by omega, Int.mul_sub, Int.mul_add, Int.mul_one]
  exact ⟨rfl, rfl⟩
theorem at_ln {x y : Int} (b : Bool) : atI [V.int x, V.int y] (wI b) = some (.int (cond b x y)) := by cases b <;> rfl
theorem cut_ints (ns : List Int) (lo hi : Option Int) : ∃ ms : List Int, cutV (ns.map V.int) lo hi = ms.map V.int ∧ ms.length ≤ ns.length := by
  unfold cutV
  rw [← List.map_drop, ← List.map_take]
  refine ⟨_, rfl, ?_⟩
  rw [List.length_take, List.length_drop]
  omega
section
variable {P' : Program} {w : World} {K : PySem.W.Frag} {mg : Str → Option Value} {base : Heap} {f : Addr} {fd : FuncData}
abbrev NL : List Str := ["script", "cells", "first", "prices", "weights", "code", "own", "way", "at", "stands", "share", "ends", "cell", "number", "moved", "due", "least_v", "beside"]
theorem ndK : (("k" : Str) :: NL).Nodup := by decide +kernel
theorem ndS : (("step" : Str) :: NL).Nodup := by decide +kernel
def spLaw (K : PySem.W.Frag) (T : Addr) : Sp := fun vs H Q _ => ∃ (a : Addr) (ns : List Int), vs = [.ref a] ∧ SqL K H a (ns.map V.int) ∧ ns.length ≤ 63 ∧ TabAt H T lamO lamQ ∧ ∀ H', Q (.bl true) H'
theorem scLaw : FnScope NL ["script"] (defScope sLaw) := ⟨rfl, rfl, rfl, by decide +kernel, rfl, by decide +kernel, by decide +kernel⟩
set_option maxHeartbeats 16000000 in
theorem ok_law {T e : Addr} {ed : FuncData} {k : Nat} (F : Fun K "law" "law" sLaw e ed) (GF : Fns P' w K mg base ["script", "size"] "_law_folded" (spFold K) k) (GC : Fns P' w K mg base ["script", "k"] "_law_cell_at" (spCell K) k) (GA : Fns P' w K mg base ["cell"] "_law_amount" spAmount k) (GB : Fns P' w K mg base ["prices", "weights", "number"] "numbered" spNum k) (GO : Fns P' w K mg base PCo "cost" spPCost k) (GPS : Fns P' w K mg base NPS "price_share" spPS k) (GWS : Fns P' w K mg base NWS "weight_share" spWS k) (GPT : Fns P' w K mg base NPS "price_stretch" (spPst true T) k) (GWT : Fns P' w K mg base NWS "weight_stretch" (spPst false T) k) (GN : Fns P' w K mg base ["ends", "cell"] "_law_number" spLn k) (GM : Fns P' w K mg base NLm "_law_moved" spLm k) (GL : Fns P' w K mg base NLm "_law_least" (spLl T) k) (ml : mg "len" = none) (mr : mg "range" = none) (mt : mg "tuple" = none) (mL : mg "list" = none) (ms : mg "sum" = none) : FnOk P' w K mg base CX0 (k + 1) e ed ["script"] (spLaw K T) := by
  refine F.ok (k := k) scLaw (fun vs H Q E h => ?_) (fun cdv A outer s H vs Q E hr h => ?_)
  · obtain ⟨a, ns, rfl, _⟩ := h
    rfl
  obtain ⟨a, ns, rfl, hS, h63, tab, q⟩ := h
  refine ⟨_, pss_cons (ps_set (i := 1) scLaw.nd rfl (Or.inr rfl) (pe_call GF.ok hr (by rfl) GF.m GF.kp GF.b .nil pass0 (pa_cons (pv 0) (pa_cons (pe_int) (pa_nil)))))
      (pss_cons (ps_set (i := 2) scLaw.nd rfl (Or.inl rfl) (pe_call GC.ok hr (by rfl) GC.m GC.kp GC.b .nil pass0 (pa_cons (pv 1) (pa_cons (pe_int) (pa_nil)))))
      (pss_cons (ps_set (i := 3) scLaw.nd rfl (Or.inr rfl) (pe_callTy call_tuple_of (by rfl) mt b_tuple (pa_cons (pe_compR1 (M := NL) rfl (CompScope.of (defScope sLaw) NL rfl rfl rfl (by decide +kernel) (by decide +kernel) (by decide +kernel) rfl (by decide +kernel)) ndK rfl (by rfl) mr (pa_cons (pe_mid (pe_op op_add (pe_int) (pe_op op_mod (pv 2) (pe_int)))) pa_nil) (mo_cons mo_mid mo_nil)
      (fun cl C s0 H0 fp => ⟨pts_nil, pe_call GA.ok hr (by rfl) GA.m GA.kp GA.b .nil pass0 (pa_cons (pe_call GC.ok hr (by rfl) GC.m GC.kp GC.b .nil pass0 (pa_cons (pv 2) (pa_cons (pe_op op_add (pe_int) (pv 0)) (pa_nil)))) (pa_nil))⟩)) (pa_nil))))
      (pss_cons (ps_set (i := 4) scLaw.nd rfl (Or.inr rfl) (pe_callTy call_tuple_of (by rfl) mt b_tuple (pa_cons (pe_compR1 (M := NL) rfl (CompScope.of (defScope sLaw) NL rfl rfl rfl (by decide +kernel) (by decide +kernel) (by decide +kernel) rfl (by decide +kernel)) ndK rfl (by rfl) mr (pa_cons (pe_mid (pe_op op_add (pe_int) (pe_op op_mod (pe_op op_fdiv (pv 2) (pe_int)) (pe_int)))) pa_nil) (mo_cons mo_mid mo_nil)
      (fun cl C s0 H0 fp => ⟨pts_nil, pe_call GA.ok hr (by rfl) GA.m GA.kp GA.b .nil pass0 (pa_cons (pe_call GC.ok hr (by rfl) GC.m GC.kp GC.b .nil pass0 (pa_cons (pv 2) (pa_cons (pe_op op_add (pe_int) (pv 0)) (pa_nil)))) (pa_nil))⟩)) (pa_nil))))
      (pss_cons (ps_set (i := 5) scLaw.nd rfl (Or.inl rfl) (pe_call GB.ok hr (by rfl) GB.m GB.kp GB.b .nil pass0 (pa_cons (pv 3) (pa_cons (pv 4) (pa_cons (pe_int) (pa_nil))))))
      (pss_cons (ps_set (i := 6) scLaw.nd rfl (Or.inl rfl) (pe_call GO.ok hr (by rfl) GO.m GO.kp GO.b .nil pass0 (pa_cons (pv 3) (pa_cons (pv 4) (pa_cons (pv 5) (pa_nil))))))
      (pss_cons (ps_set (i := 7) scLaw.nd rfl (Or.inr rfl) (pe_op op_mod (pe_op op_fdiv (pv 2) (pe_int)) (pe_int)))
      (pss_cons (ps_set (i := 8) scLaw.nd rfl (Or.inr rfl) (pe_op op_mod (pe_call GC.ok hr (by rfl) GC.m GC.kp GC.b .nil pass0 (pa_cons (pv 1) (pa_cons (pe_int) (pa_nil)))) (pe_ix ix_list (pe_lst (pa_cons (pe_callB call_len_seq (by rfl) ml PySem.boot_len (pa_cons (pv 3) (pa_nil))) (pa_cons (pe_callB call_len_seq (by rfl) ml PySem.boot_len (pa_cons (pv 4) (pa_nil))) (pa_nil)))) (pv 7) (fun _ _ => rfl))))
      (pss_cons (ps_mid (ps_if (pt_cmpR op_eq (pv 7) (pe_int) (nomark _)) (pss_cons (ps_set (i := 9) scLaw.nd rfl (Or.inl rfl) (pe_ix ix_tup (pv 3) (pv 8) (fun _ _ => rfl)))
      (pss_cons (ps_set (i := 10) scLaw.nd rfl (Or.inl rfl) (pe_call GPS.ok hr (by rfl) GPS.m GPS.kp GPS.b .nil pass0 (pa_cons (pv 3) (pa_cons (pv 4) (pa_cons (pv 5) (pa_cons (pv 8) (pa_nil)))))))
      (pss_one (ps_set (i := 11) scLaw.nd rfl (Or.inl rfl) (pe_call GPT.ok hr (by rfl) GPT.m GPT.kp GPT.b .nil pass0 (pa_cons (pv 3) (pa_cons (pv 4) (pa_cons (pv 5) (pa_cons (pv 8) (pa_nil)))))))))) (pss_cons (ps_set (i := 9) scLaw.nd rfl (Or.inl rfl) (pe_ix ix_tup (pv 4) (pv 8) (fun _ _ => rfl)))
      (pss_cons (ps_set (i := 10) scLaw.nd rfl (Or.inl rfl) (pe_call GWS.ok hr (by rfl) GWS.m GWS.kp GWS.b .nil pass0 (pa_cons (pv 3) (pa_cons (pv 4) (pa_cons (pv 5) (pa_cons (pv 8) (pa_nil)))))))
      (pss_one (ps_set (i := 11) scLaw.nd rfl (Or.inl rfl) (pe_call GWT.ok hr (by rfl) GWT.m GWT.kp GWT.b .nil pass0 (pa_cons (pv 3) (pa_cons (pv 4) (pa_cons (pv 5) (pa_cons (pv 8) (pa_nil))))))))))))
      (pss_cons (ps_for PassesOwn.never rfl (pi_list (pe_op op_cat (pe_lst (pa_cons (pe_int) (pa_nil))) (pe_callTy call_list_of (by rfl) mL b_list (pa_cons (pe_slice sl_list (pv 1) (po_some (pe_int)) (po_some (pe_int))) (pa_nil))))) (pg_name (i := 12) scLaw.nd rfl (Or.inl rfl)) (pss_cons (ps_set (i := 13) scLaw.nd rfl (Or.inr rfl) (pe_call GN.ok hr (by rfl) GN.m GN.kp GN.b .nil pass0 (pa_cons (pv 11) (pa_cons (pv 12) (pa_nil)))))
      (pss_cons (ps_set (i := 14) scLaw.nd rfl (Or.inl rfl) (pe_call GM.ok hr (by rfl) GM.m GM.kp GM.b .nil pass0 (pa_cons (pv 3) (pa_cons (pv 4) (pa_cons (pv 7) (pa_cons (pv 8) (pa_cons (pv 13) (pa_nil))))))))
      (pss_cons (ps_set (i := 15) scLaw.nd rfl (Or.inl rfl) (pe_op op_add (pv 6) (pe_op op_mulS (pv 10) (pe_op op_sub (pv 13) (pv 9)))))
      (pss_cons (ps_set (i := 16) scLaw.nd rfl (Or.inl rfl) (pe_call GL.ok hr (by rfl) GL.m GL.kp GL.b .nil pass0 (pa_cons (pv 3) (pa_cons (pv 4) (pa_cons (pv 7) (pa_cons (pv 8) (pa_cons (pv 13) (pa_nil))))))))
      (pss_cons (ps_if (pt_mid (PW.pt (pw_or (pt_cmpR op_ne (pe_call GO.ok hr (by rfl) GO.m GO.kp GO.b .nil pass0 (pa_cons (pe_ix ix_tup (pv 14) (pe_int) (fun _ _ => rfl)) (pa_cons (pe_ix ix_tup (pv 14) (pe_int) (fun _ _ => rfl)) (pa_cons (pv 5) (pa_nil))))) (pv 15) (nomark _)) (pw_or (pt_cmpR op_lt (pv 15) (pv 16) (nomark _)) (pw_or1 (pt_cmpR op_ne (pe_cmpR op_eq (pv 15) (pv 16) (nomark _)) (pe_chain op_le op_le (pe_ix ix_tup (pv 11) (pe_int) (fun _ _ => rfl)) (pv 13) (pe_ix ix_tup (pv 11) (pe_int) (fun _ _ => rfl))) (nomark _))))))) (pss_one (ps_ret pe_bl)) (pss_nil))
      (pss_one (ps_if (pt_mid (pt_chain op_lt op_lt pe_int (pv 13) (pe_op op_pow pe_int pe_int))) (pss_cons (ps_compL (i := 17) (M := NL) scLaw.nd rfl rfl rfl (CompScope.of (defScope sLaw) NL rfl rfl rfl (by decide +kernel) (by decide +kernel) (by decide +kernel) rfl (by decide +kernel)) ndS rfl (pe_mid (pe_lst (pa_cons (pe_un un_neg pe_int) (pa_cons (pe_int) (pa_nil))))) mo_mid
      (fun cl C s0 H0 fp => ⟨pts_nil, pe_call GL.ok hr (by rfl) GL.m GL.kp GL.b .nil pass0 (pa_cons (pv 4) (pa_cons (pv 5) (pa_cons (pv 8) (pa_cons (pv 9) (pa_cons (pe_op op_add (pv 14) (pv 0)) (pa_nil))))))⟩))
      (pss_one (ps_if (pt_cmpR op_gt (pe_callB (call_sum rfl) (by rfl) ms b_sum (pa_cons (pv 17) (pa_nil))) (pe_op op_mul (pe_int) (pv 16)) (nomark _)) (pss_one (ps_ret pe_bl)) (pss_nil)))) (pss_nil)))))))))
      (pss_one (ps_ret (pe_bl)))))))))))), ?_⟩
  refine ⟨_, rfl, a, ns, rfl, hS, h63, fun ce H1 cs s1 gc lcs => ?_⟩
  refine ⟨_, rfl, ce, cs, 0, rfl, SqL.of gc, by decide, fun fi => ?_⟩
  refine ⟨fun v H' => H1 = H' ∧ ∃ n : Int, v = .int n ∧ 2 ≤ n ∧ n ≤ 4, ?_, ?_⟩
  · exact ⟨_, rfl, _, _, rfl, rfl, (by show (0 : Int) < _; decide), _, _, rfl, rfl, rfl, _, rfl, by omega, by omega⟩
  rintro _ _ ⟨rfl, n1, rfl, n12, n14⟩
  refine ⟨n1, rfl, by omega, by omega, fun d hd => ?_⟩
  refine ⟨fun i H' => Same H1 H' ∧ ∃ ps, H' d = some (.lst (ps.map V.int)) ∧ ps.length = i ∧ Bo ps, ⟨same_newO hd _, [], upd_same, rfl, fun x hx => by cases hx⟩, fun i H' hi hP => ?_, fun H' hP => ?_⟩
  · obtain ⟨s2, ps, hd', lp, bo⟩ := hP
    refine turn_all ⟨_, rfl, _, rfl, _, _, rfl, rfl, ce, cs, _, rfl, SqL.of (s2 _ _ gc), by omega, fun c => ⟨c, rfl, fun v v1 v2 => ⟨_, hd', ?_, same_upd hd s2, ps ++ [v], ?_, by rw [List.length_append, lp]; rfl, bo.add v1 v2⟩⟩⟩
    · rw [List.length_map]; exact small1000 (by omega)
    · rw [upd_same, List.map_append]; rfl
  obtain ⟨s2, ps, hd', lp, bop⟩ := hP
  refine ⟨d, _, rfl, .inl ⟨SqL.of hd', fun p hp0 => ?_⟩⟩
  have s3 := same_newO hp0 (.tup (ps.map V.int))
  have hp3 : TW (upd H' p (.tup (ps.map V.int))) p ps := upd_same
  generalize upd H' p (.tup (ps.map V.int)) = H3 at s3 hp3 ⊢
  have s13 := s2.trans s3
  refine ⟨fun v H' => H3 = H' ∧ ∃ n : Int, v = .int n ∧ 1 ≤ n ∧ n ≤ 6, ?_, ?_⟩
  · exact ⟨_, rfl, _, _, rfl, rfl, ⟨by decide, by decide⟩, _, _, rfl, rfl, (by show (0 : Int) < _; decide), _, _, rfl, rfl, rfl, _, rfl, by omega, by omega⟩
  rintro _ _ ⟨rfl, n2, rfl, n21, n26⟩
  refine ⟨n2, rfl, by omega, by omega, fun d2 hd2 => ?_⟩
  refine ⟨fun i H' => Same H3 H' ∧ ∃ ps, H' d2 = some (.lst (ps.map V.int)) ∧ ps.length = i ∧ Bo ps, ⟨same_newO hd2 _, [], upd_same, rfl, fun x hx => by cases hx⟩, fun i H' hi hP => ?_, fun H' hP => ?_⟩
  · obtain ⟨s2, ps, hd', lp, bo⟩ := hP
    refine turn_all ⟨_, rfl, _, rfl, _, _, rfl, rfl, ce, cs, _, rfl, SqL.of (s2 _ _ (s13 _ _ gc)), by omega, fun c => ⟨c, rfl, fun v v1 v2 => ⟨_, hd', ?_, same_upd hd2 s2, ps ++ [v], ?_, by rw [List.length_append, lp]; rfl, bo.add v1 v2⟩⟩⟩
    · rw [List.length_map]; exact small1000 (by omega)
    · rw [upd_same, List.map_append]; rfl
  obtain ⟨s4, ws, hd2', lw, bow⟩ := hP
  refine ⟨d2, _, rfl, .inl ⟨SqL.of hd2', fun wa hw0 => ?_⟩⟩
  have s5 := same_newO hw0 (.tup (ws.map V.int))
  have hw5 : TW (upd H' wa (.tup (ws.map V.int))) wa ws := upd_same
  generalize upd H' wa (.tup (ws.map V.int)) = H5 at s5 hw5 ⊢
  have s35 := s4.trans s5
  have hp5 : TW H5 p ps := s35 _ _ hp3
  have gc5 := s35 _ _ (s13 _ _ gc)
  have s05 : Same H H5 := (s1.trans s13).trans s35
  have l1 : 1 ≤ ws.length := by omega
  have nu : Num ps ws := ⟨by omega, by omega, l1, by omega, bop.bw, bow.bw⟩
  have pop : Po ps := fun x hx => (bop x hx).1
  have pow : Po ws := fun x hx => (bow x hx).1
  refine ⟨_, rfl, _, rfl, p, wa, ps, ws, rfl, hp5, hw5, nu, pop, pow, by omega, by omega, fun ca xs cde H6 s6 gca wca mn => ?_⟩
  have hp6 : TW H6 p ps := s6 _ _ hp5
  have hw6 : TW H6 wa ws := s6 _ _ hw5
  have gc6 := s6 _ _ gc5
  have cd6 : Cd H6 p wa ca ps ws cde := cd_of hp6 hw6 nu mn.1 gca wca
  obtain ⟨xs6, hca6, hwc6⟩ := cd6.hc
  refine ⟨_, rfl, _, rfl, _, rfl, p, wa, ca, ps, ws, xs6, cde, rfl, hp6, hw6, hca6, hwc6, cd6.ln, cd6.l1, cd6.l2, cd6.bp, cd6.bw, fun H7 s7 => ?_⟩
  have cd7 := cd6.same s7
  have gc7 := s7 _ _ gc6
  have s07 : Same H H7 := (s05.trans s6).trans s7
  obtain ⟨b, hb⟩ : ∃ b : Bool, fi / 18 % 2 = wI b := by
    have h : fi / 18 % 2 = 0 ∨ fi / 18 % 2 = 1 := by omega
    rcases h with h | h
    · exact ⟨true, h⟩
    · exact ⟨false, h⟩
  refine ⟨_, rfl, _, _, rfl, rfl, ⟨by decide, by decide⟩, _, _, rfl, rfl, (by show (0 : Int) < _; decide), ?_⟩
  rw [show (fun (i j : Int) => V.int (i % j)) (fi / 18) 2 = .int (wI b) from congrArg V.int hb]
  refine ⟨_, rfl, ce, cs, 12, rfl, SqL.of gc7, by decide, fun c12 => ?_⟩
  refine ⟨_, rfl, p, _, rfl, .inr (SqT.of cd7.hp), _, rfl, wa, _, rfl, .inr (SqT.of cd7.hw), (by show 2 ≤ sizeLine; decide), fun l2 hl2 => ?_⟩
  rw [List.length_map, List.length_map] at *
  have s8 := same_newO hl2 (.lst [.int (ps.length : Int), .int (ws.length : Int)])
  have h8 : upd H7 l2 (.lst [.int (ps.length : Int), .int (ws.length : Int)]) l2 = some (.lst [.int (ps.length : Int), .int (ws.length : Int)]) := upd_same
  generalize upd H7 l2 (.lst [.int (ps.length : Int), .int (ws.length : Int)]) = H8 at s8 h8 ⊢
  have cd8 := cd7.same s8
  have gc8 := s8 _ _ gc7
  have k8 : Kq T H H8 := .of tab (s07.trans s8)
  have enl : (cond b (ps.length : Int) (ws.length : Int)) = (nL b ps ws : Int) := by cases b <;> rfl
  have nl1 : 1 ≤ nL b ps ws := by
    cases b with
    | true => show 1 ≤ ps.length; omega
    | false => exact l1
  refine ⟨_, rfl, l2, _, _, _, rfl, rfl, SqL.of h8, at_ln b, _, _, rfl, rfl, (by show (0 : Int) < _; rw [enl]; omega), ?_⟩
  rw [enl]
  obtain ⟨l, hl, hll⟩ : ∃ l : Nat, c12 % (nL b ps ws : Int) = (l : Int) ∧ l < nL b ps ws := by
    have h1 : 0 ≤ c12 % (nL b ps ws : Int) := Int.emod_nonneg _ (by omega)
    have h2 : c12 % (nL b ps ws : Int) < (nL b ps ws : Int) := Int.emod_lt_of_pos _ (by omega)
    exact ⟨(c12 % (nL b ps ws : Int)).toNat, by omega, by omega⟩
  rw [show (fun (i j : Int) => V.int (i % j)) c12 (nL b ps ws : Int) = .int (l : Int) from congrArg V.int hl]
  refine ⟨fun σ H' => Kq T H8 H' ∧ ∃ (t : Addr) (lo hi : Int), TW H' t [lo, hi] ∧ Stc b ps ws l cde lo hi ∧ σ = [some (.ref a), some (.ref ce), some (.int fi), some (.ref p), some (.ref wa), some (.ref ca), some (.int (CT.co ps ws 0 cde)), some (.int (wI b)), some (.int (l : Int)), some (.int (nw b ps ws l)), some (.int (sR b ps ws l cde)), some (.ref t), none, none, none, none, none, none], ?_, ?_⟩
  · cases b with
    | true =>
      refine ⟨_, rfl, rfl, _, rfl, ite2 (fun _ => ?_) (fun z => absurd (decide_eq_true rfl) z)⟩
      refine ⟨_, rfl, _, rfl, p, _, _, _, rfl, rfl, SqT.of cd8.hp, at_int (at_getD hll), ?_⟩
      refine ⟨_, rfl, _, rfl, _, rfl, _, rfl, p, wa, ca, ps, ws, cde, l, rfl, cd8, hll, fun H9 s9 => ?_⟩
      refine ⟨_, rfl, _, rfl, _, rfl, _, rfl, p, wa, ca, ps, ws, cde, l, rfl, cd8.same s9, nu, pop, pow, hll, mn, TabAt.same s9 k8.tb, fun t lo hi H10 k10 g10 stc => ?_⟩
      exact ⟨(Kq.of k8.tb s9).trans k10, t, lo, hi, g10, stc, rfl⟩
    | false =>
      refine ⟨_, rfl, rfl, _, rfl, ite2 (fun z => absurd (V.int.inj (of_decide_eq_true z)) (by decide)) (fun _ => ?_)⟩
      refine ⟨_, rfl, _, rfl, wa, _, _, _, rfl, rfl, SqT.of cd8.hw, at_int (at_getD hll), ?_⟩
      refine ⟨_, rfl, _, rfl, _, rfl, _, rfl, p, wa, ca, ps, ws, cde, l, rfl, cd8, hll, fun H9 s9 => ?_⟩
      refine ⟨_, rfl, _, rfl, _, rfl, _, rfl, p, wa, ca, ps, ws, cde, l, rfl, cd8.same s9, nu, pop, pow, hll, mn, TabAt.same s9 k8.tb, fun t lo hi H10 k10 g10 stc => ?_⟩
      exact ⟨(Kq.of k8.tb s9).trans k10, t, lo, hi, g10, stc, rfl⟩
  rintro σ H9 ⟨k9, t, lo, hi, g9, stc, rfl⟩
  obtain ⟨sB, sC⟩ := nw_bd (l := l) nu pop pow hll
  have lohi : lo ≤ hi := by have := stc.ls; have := stc.sh; omega
  refine ⟨(by show 1 ≤ sizeLine; decide), fun l0 hl0 => ?_⟩
  have s10 := same_newO hl0 (.lst [.int 0])
  have h10 : upd H9 l0 (.lst [.int 0]) l0 = some (.lst [.int 0]) := upd_same
  generalize upd H9 l0 (.lst [.int 0]) = H10 at s10 h10 ⊢
  obtain ⟨cc, ecc, lcc⟩ := cut_ints cs (some 13) (some 19)
  have gc10 := s10 _ _ (k9.lst gc8)
  refine ⟨_, rfl, _, rfl, _, rfl, ce, _, rfl, SqL.of gc10, fun l11 hl11 => ?_⟩
  rw [ecc]
  have s11 := same_newO hl11 (.lst (cc.map V.int))
  have h11 : upd H10 l11 (.lst (cc.map V.int)) l11 = some (.lst (cc.map V.int)) := upd_same
  generalize upd H10 l11 (.lst (cc.map V.int)) = H11 at s11 h11 ⊢
  refine ⟨l11, _, rfl, .inl (SqL.of h11), fun l12 hl12 => ?_⟩
  have s12 := same_newO hl12 (.lst (cc.map V.int))
  have h12 : upd H11 l12 (.lst (cc.map V.int)) l12 = some (.lst (cc.map V.int)) := upd_same
  generalize upd H11 l12 (.lst (cc.map V.int)) = H12 at s12 h12 ⊢
  refine ⟨l0, l12, _, _, rfl, rfl, s12 _ _ (s11 _ _ h10), h12, small (by rw [List.length_map]; show 1 + _ ≤ 1000; omega), fun l13 hl13 => ?_⟩
  have s13' := same_newO hl13 (.lst ([.int 0] ++ cc.map V.int))
  have h13 : upd H12 l13 (.lst ([.int 0] ++ cc.map V.int)) l13 = some (.lst ((0 :: cc).map V.int)) := upd_same
  generalize upd H12 l13 (.lst ([.int 0] ++ cc.map V.int)) = H13 at s13' h13 ⊢
  have k13 : Kq T H8 H13 := k9.then (((s10.trans s11).trans s12).trans s13')
  have g13 : TW H13 t [lo, hi] := (((s10.trans s11).trans s12).trans s13') _ _ g9
  refine ⟨_, rfl, ⟨_, SqL.of h13⟩, ?_⟩
  refine for_list (xs := (0 :: cc).map V.int) (fun m σ H' => Kq T H13 H' ∧ ∃ (x12 x13 x14 x15 x16 x17 : Option V), σ = [some (.ref a), some (.ref ce), some (.int fi), some (.ref p), some (.ref wa), some (.ref ca), some (.int (CT.co ps ws 0 cde)), some (.int (wI b)), some (.int (l : Int)), some (.int (nw b ps ws l)), some (.int (sR b ps ws l cde)), some (.ref t), x12, x13, x14, x15, x16, x17]) ⟨.of k13.tb (Same.refl _), _, _, _, _, _, _, rfl⟩ (fun m σ H' _ hP => SqL.of (hP.1.lst h13)) (fun m x σ H14 hx hP => ?_) (fun σ H14 hP => q H14)
  obtain ⟨k14, x12, x13, x14, x15, x16, x17, rfl⟩ := hP
  rw [List.getElem?_map] at hx
  obtain ⟨cl, hcl, rfl⟩ := Option.map_eq_some_iff.mp hx
  have k8e := k13.trans k14
  have cd14 := cd8.kq k8e
  refine ⟨_, rfl, _, rfl, t, lo, hi, cl, rfl, k14.tup g13, lohi, fun x H15 s15 x1 x2 => ?_⟩
  have k15 := k8e.then s15
  have cd15 := cd8.kq k15
  refine ⟨_, rfl, _, rfl, _, rfl, _, rfl, _, rfl, b, p, wa, ps, ws, l, x, rfl, cd15.hp, cd15.hw, by omega, by omega, hll, x1, x2, fun r p' wa' H16 s16 g16 hp' hw' => ?_⟩
  have k16 := k15.then s16
  have cd16 := cd8.kq k16
  have sb := sR_bd (b := b) (l := l) nu.bp nu.bw l1 fun u hu => (cd8.l2 u hu).2
  have sbd : sR b ps ws l cde ≤ 20 * (1000 * B30) := by
    have e6 : (ws.length : Int) * (1000 * B30) ≤ 20 * (1000 * B30) := Int.mul_le_mul_of_nonneg_right (by omega) (by decide)
    omega
  refine ⟨_, rfl, _, rfl, _, rfl, _, rfl, _, _, rfl, rfl, _, _, rfl, rfl, ⟨⟨by unfold B30 at *; omega, by unfold B30 at *; omega⟩, ⟨by unfold B30 at *; omega, by unfold B30 at *; omega⟩⟩, _, _, rfl, rfl, ?_⟩
  refine ⟨_, rfl, _, rfl, _, rfl, _, rfl, _, rfl, b, p, wa, ps, ws, l, x, rfl, cd16.hp, cd16.hw, nu, pop, pow, hll, x1, x2, k16.tb, fun v H17 k17 lst => ?_⟩
  obtain ⟨o, ho, ev, vmin⟩ := lst.at hll l1
  have k8h := k16.trans k17
  have cdh := cd8.kq k8h
  obtain ⟨xh, hch, hwh⟩ := cdh.hc
  have nu' := nu_mv hll nu x1 x2
  have gdc := CT.Cs_gd l1 cde mn.1
  have vd := vmin cde mn.1
  have iff1 : CT.co ps ws 0 cde + sR b ps ws l cde * (x - nw b ps ws l) = v ↔ lo ≤ x ∧ x ≤ hi := by
    rw [← stc.ok x x1 x2]
    constructor
    · intro e d hd
      have := vmin d hd
      omega
    · intro h
      have := h o ho
      omega
  have g17 : TW H17 t [lo, hi] := k17.tup (s16 _ _ (s15 _ _ (k14.tup g13)))
  refine ⟨fun bb H' => bb = false ∧ Same H17 H', ?_, ?_⟩
  · -- A
    refine ⟨_, rfl, r, _, _, _, rfl, rfl, SqT.of (k17.tup g16), rfl, _, rfl, r, _, _, _, rfl, rfl, SqT.of (k17.tup g16), rfl, _, rfl, p', wa', ca, mP b ps l x, mW b ws l x, xh, cde, rfl, k17.tup hp', k17.tup hw', hch, hwh, by rw [mW_len hll]; exact cdh.ln, cdh.l1, fun u hu => by rw [mP_len hll]; exact cdh.l2 u hu, nu'.bp, nu'.bw, fun H18 s18 => ?_⟩
    rw [co_mv hll l1 mn.1]
    refine ⟨_, rfl, rfl, _, rfl, ?_⟩
    rw [decide_eq_true rfl]
    refine iteF ?_
    refine ⟨_, rfl, _, rfl, _, _, rfl, rfl, _, rfl, ?_⟩
    rw [decide_eq_false (show ¬ (CT.co ps ws 0 cde + sR b ps ws l cde * (x - nw b ps ws l) < v) by omega)]
    refine iteF ?_
    have g18 : TW H18 t [lo, hi] := s18 _ _ g17
    refine ⟨_, rfl, _, rfl, rfl, ?_⟩
    refine ⟨_, rfl, t, _, _, _, rfl, rfl, SqT.of g18, rfl, _, rfl, _, _, rfl, rfl, _, rfl, ?_⟩
    refine ite2 (fun y => ?_) (fun y => ?_)
    · have y1 : lo ≤ x := of_decide_eq_true y
      refine ⟨_, rfl, t, _, _, _, rfl, rfl, SqT.of g18, rfl, _, _, rfl, rfl, rfl, _, rfl, ?_, s18⟩
      have e1 : decide (V.int (CT.co ps ws 0 cde + sR b ps ws l cde * (x - nw b ps ws l)) = V.int v) = decide (x ≤ hi) := decide_eq_decide.mpr ⟨fun z => (iff1.mp (V.int.inj z)).2, fun z => congrArg V.int (iff1.mpr ⟨y1, z⟩)⟩
      rw [e1, decide_eq_true rfl]
      rfl
    · have y1 : ¬ lo ≤ x := fun z => y (decide_eq_true z)
      refine ⟨rfl, _, rfl, ?_, s18⟩
      have e1 : decide (V.int (CT.co ps ws 0 cde + sR b ps ws l cde * (x - nw b ps ws l)) = V.int v) = false := decide_eq_false fun z => y1 (iff1.mp (V.int.inj z)).1
      rw [e1, decide_eq_true rfl]
      rfl
  rintro bb H18 ⟨rfl, s18⟩
  refine iteF ?_
  have k18 := k8h.then s18
  have cd18 := cd8.kq k18
  have kin : Kq T H13 H18 := (((k14.then s15).then s16).trans k17).then s18
  refine ⟨fun bb H' => H18 = H' ∧ (bb = true → 1 < x ∧ x < B30), ?_, ?_⟩
  · refine ⟨_, rfl, _, _, rfl, rfl, _, rfl, ?_⟩
    refine ite2 (fun y => ?_) (fun y => ?_)
    · have y1 : 1 < x := of_decide_eq_true y
      refine ⟨_, _, rfl, rfl, ⟨by decide, by decide, by decide⟩, _, _, rfl, rfl, _, rfl, rfl, fun z => ⟨y1, ?_⟩⟩
      have z1 := of_decide_eq_true z
      rw [e30] at z1
      exact z1
    · exact ⟨_, rfl, rfl, fun z => by first | cases z | exact absurd z y⟩
  rintro bb _ ⟨rfl, hbb⟩
  refine ite2 (fun y => ?_) (fun y => ⟨kin, _, _, _, _, _, _, rfl⟩)
  obtain ⟨y1, y2⟩ := hbb y
  refine ⟨fun v H' => ∃ lb, v = .ref lb ∧ Same H18 H' ∧ H' lb = some (.lst [.int (-1), .int 1]), ?_, ?_⟩
  · exact ⟨_, rfl, (by show 2 ≤ sizeLine; decide), fun lb hlb => ⟨lb, rfl, same_newO hlb _, upd_same⟩⟩
  rintro _ H19 ⟨lb, rfl, s19, glb⟩
  have k19 := k18.then s19
  refine ⟨lb, _, rfl, SqL.of glb, fun db hdb => ?_⟩
  refine ⟨fun i H' => Kq T H19 H' ∧ ((i = 0 ∧ H' db = some (.lst [])) ∨ (i = 1 ∧ ∃ v1, Lst b ps ws l (x + -1) v1 ∧ H' db = some (.lst [.int v1])) ∨ (i = 2 ∧ ∃ v1 v2, Lst b ps ws l (x + -1) v1 ∧ Lst b ps ws l (x + 1) v2 ∧ H' db = some (.lst [.int v1, .int v2]))), ⟨.of k19.tb (same_newO hdb _), .inl ⟨rfl, upd_same⟩⟩, fun i H' _ hP => SqL.of (hP.1.lst glb), fun i y H' hy hP => ?_, fun H' hP => ?_⟩
  · obtain ⟨k20, hP⟩ := hP
    have k820 := k19.trans k20
    have cd20 := cd8.kq k820
    rcases hP with ⟨rfl, e0⟩ | ⟨rfl, v1, lv1, e0⟩ | ⟨rfl, _⟩
    · cases hy
      refine turn_all ⟨_, rfl, _, rfl, _, rfl, _, rfl, _, rfl, _, rfl, _, _, rfl, rfl, b, p, wa, ps, ws, l, x + -1, rfl, cd20.hp, cd20.hw, nu, pop, pow, hll, by omega, by omega, k820.tb, fun v' H21 k21 lst' => ?_⟩
      exact ⟨_, k21.lst e0, (by show 0 < sizeLine; decide), (k20.trans k21).put hdb (k21.lst e0), .inr (.inl ⟨rfl, v', lst', upd_same⟩)⟩
    · cases hy
      refine turn_all ⟨_, rfl, _, rfl, _, rfl, _, rfl, _, rfl, _, rfl, _, _, rfl, rfl, b, p, wa, ps, ws, l, x + 1, rfl, cd20.hp, cd20.hw, nu, pop, pow, hll, by omega, by omega, k820.tb, fun v' H21 k21 lst' => ?_⟩
      exact ⟨_, k21.lst e0, (by show 1 < sizeLine; decide), (k20.trans k21).put hdb (k21.lst e0), .inr (.inr ⟨rfl, v1, v', lv1, lst', upd_same⟩)⟩
    · cases hy
  obtain ⟨k20, hP⟩ := hP
  rcases hP with ⟨z, _⟩ | ⟨z, _⟩ | ⟨_, v1, v2, lv1, lv2, e0⟩
  · cases z
  · cases z
  obtain ⟨_, _, _, m1⟩ := lv1.at hll l1
  obtain ⟨_, _, _, m2⟩ := lv2.at hll l1
  have n1' := m1 o ho
  have n2' := m2 o ho
  obtain ⟨q1, q2⟩ := sub_one (sR b ps ws l o) x (nw b ps ws l)
  rw [show x + -1 - nw b ps ws l = x - 1 - nw b ps ws l by omega, q1] at n1'
  rw [q2] at n2'
  refine ⟨_, rfl, db, [v1, v2], rfl, e0, _, rfl, _, _, rfl, rfl, .inl ⟨by decide, by decide⟩, _, _, rfl, rfl, _, rfl, ?_⟩
  rw [decide_eq_false (show ¬ ([v1, v2].sum > 2 * v) by simp only [List.sum_cons, List.sum_nil]; omega)]
  exact iteF ⟨(kin.then s19).trans k20, _, _, _, _, _, _, rfl⟩
end
end Q
end K98
set_option Elab.async false
set_option linter.all false
set_option maxRecDepth 100000
namespace K98.Q
open PySem L2
theorem al1 {α : Type} {P : List α → Prop} (h : ∀ a0 : α, P [a0]) : ∀ us : List α, us.length = 1 → P us
  | [a0], _ => h a0
theorem al2 {α : Type} {P : List α → Prop} (h : ∀ a0 a1 : α, P [a0, a1]) : ∀ us : List α, us.length = 2 → P us
  | [a0, a1], _ => h a0 a1
theorem al3 {α : Type} {P : List α → Prop} (h : ∀ a0 a1 a2 : α, P [a0, a1, a2]) : ∀ us : List α, us.length = 3 → P us
  | [a0, a1, a2], _ => h a0 a1 a2
theorem al4 {α : Type} {P : List α → Prop} (h : ∀ a0 a1 a2 a3 : α, P [a0, a1, a2, a3]) : ∀ us : List α, us.length = 4 → P us
  | [a0, a1, a2, a3], _ => h a0 a1 a2 a3
theorem al5 {α : Type} {P : List α → Prop} (h : ∀ a0 a1 a2 a3 a4 : α, P [a0, a1, a2, a3, a4]) : ∀ us : List α, us.length = 5 → P us
  | [a0, a1, a2, a3, a4], _ => h a0 a1 a2 a3 a4
set_option maxHeartbeats 0 in
theorem all_mk {T : Addr} {ts : List Addr} (hT : T ∈ ts) {l : PySem.W.OpenLaw} {w : World} {K : PySem.W.Frag} {h : Heap} {mg : Str → Option Value} {fa f1 f2 f3 f4 f5 f6 f7 f8 f9 f10 f11 f12 f13 f14 f15 f16 f17 f18 f19 f20 f21 f22 f23 f24 f25 f26 f27 f28 f29 f30 f31 f32 f33 f34 f35 f36 f37 f38 f39 f40 f41 : Addr} (X : K.In h) (G : h.Ns mainGlobals mg) (hfa : mg "law" = some (.ref fa))
    {od1 an1 od2 an2 od3 an3 od4 an4 od5 an5 od6 an6 od7 an7 od8 an8 od9 an9 od10 an10 od11 an11 od12 an12 od13 an13 od14 an14 od15 an15 od16 an16 od17 an17 od18 an18 od19 an19 od20 an20 od21 an21 od22 an22 od23 an23 od24 an24 od25 an25 od26 an26 od27 an27 od28 an28 od29 an29 od30 an30 od31 an31 od32 an32 od33 an33 od34 an34 od35 an35 od36 an36 od37 an37 od38 an38 od39 an39 od40 an40 od41 an41 : Option Addr} {sl1 sl2 sl3 sl4 sl5 sl6 sl7 sl8 sl9 sl10 sl11 sl12 sl13 sl14 sl15 sl16 sl17 sl18 sl19 sl20 sl21 sl22 sl23 sl24 sl25 sl26 sl27 sl28 sl29 sl30 sl31 sl32 sl33 sl34 sl35 sl36 sl37 sl38 sl39 sl40 sl41 : Array (Option Value)}
    {oc1 kV1 dc1 pm1 cd1 ct1 oc2 kV2 dc2 pm2 cd2 ct2 oc3 kV3 dc3 pm3 cd3 ct3 oc4 kV4 dc4 pm4 cd4 ct4 oc5 kV5 dc5 pm5 cd5 ct5 oc6 kV6 dc6 pm6 cd6 ct6 oc7 kV7 dc7 pm7 cd7 ct7 oc8 kV8 dc8 pm8 cd8 ct8 oc9 kV9 dc9 pm9 cd9 ct9 oc10 kV10 dc10 pm10 cd10 ct10 oc11 kV11 dc11 pm11 cd11 ct11 oc12 kV12 dc12 pm12 cd12 ct12 oc13 kV13 dc13 pm13 cd13 ct13 oc14 kV14 dc14 pm14 cd14 ct14 oc15 kV15 dc15 pm15 cd15 ct15 oc16 kV16 dc16 pm16 cd16 ct16 oc17 kV17 dc17 pm17 cd17 ct17 oc18 kV18 dc18 pm18 cd18 ct18 oc19 kV19 dc19 pm19 cd19 ct19 oc20 kV20 dc20 pm20 cd20 ct20 oc21 kV21 dc21 pm21 cd21 ct21 oc22 kV22 dc22 pm22 cd22 ct22 oc23 kV23 dc23 pm23 cd23 ct23 oc24 kV24 dc24 pm24 cd24 ct24 oc25 kV25 dc25 pm25 cd25 ct25 oc26 kV26 dc26 pm26 cd26 ct26 oc27 kV27 dc27 pm27 cd27 ct27 oc28 kV28 dc28 pm28 cd28 ct28 oc29 kV29 dc29 pm29 cd29 ct29 oc30 kV30 dc30 pm30 cd30 ct30 oc31 kV31 dc31 pm31 cd31 ct31 oc32 kV32 dc32 pm32 cd32 ct32 oc33 kV33 dc33 pm33 cd33 ct33 oc34 kV34 dc34 pm34 cd34 ct34 oc35 kV35 dc35 pm35 cd35 ct35 oc36 kV36 dc36 pm36 cd36 ct36 oc37 kV37 dc37 pm37 cd37 ct37 oc38 kV38 dc38 pm38 cd38 ct38 oc39 kV39 dc39 pm39 cd39 ct39 oc40 kV40 dc40 pm40 cd40 ct40 oc41 kV41 dc41 pm41 cd41 ct41 : Value}
    (a1 : PySem.W.nsIn K mainGlobals "is_amount" = some (some (.ref f1))) (l1 : K.lookup f1 = some ⟨oc1, od1, .func (PySem.W.fnOf "is_amount" "is_amount" (defArgs sIs) (defBody sIs) (defScope sIs) .none kV1 dc1 pm1 an1 cd1 ct1), sl1⟩) (c1 : PySem.W.codeIn K cd1 "is_amount" = true) (k1 : PySem.W.keepIn K (.ref f1) = true)
    (a2 : PySem.W.nsIn K mainGlobals "has_letters_alone" = some (some (.ref f2))) (l2 : K.lookup f2 = some ⟨oc2, od2, .func (PySem.W.fnOf "has_letters_alone" "has_letters_alone" (defArgs sAlone) (defBody sAlone) (defScope sAlone) .none kV2 dc2 pm2 an2 cd2 ct2), sl2⟩) (c2 : PySem.W.codeIn K cd2 "has_letters_alone" = true) (k2 : PySem.W.keepIn K (.ref f2) = true)
    (a3 : PySem.W.nsIn K mainGlobals "word_price" = some (some (.ref f3))) (l3 : K.lookup f3 = some ⟨oc3, od3, .func (PySem.W.fnOf "word_price" "word_price" (defArgs sPPrice) (defBody sPPrice) (defScope sPPrice) .none kV3 dc3 pm3 an3 cd3 ct3), sl3⟩) (c3 : PySem.W.codeIn K cd3 "word_price" = true) (k3 : PySem.W.keepIn K (.ref f3) = true)
    (a4 : PySem.W.nsIn K mainGlobals "begins" = some (some (.ref f4))) (l4 : K.lookup f4 = some ⟨oc4, od4, .func (PySem.W.fnOf "begins" "begins" (defArgs sBegins) (defBody sBegins) (defScope sBegins) .none kV4 dc4 pm4 an4 cd4 ct4), sl4⟩) (c4 : PySem.W.codeIn K cd4 "begins" = true) (k4 : PySem.W.keepIn K (.ref f4) = true)
    (a5 : PySem.W.nsIn K mainGlobals "clash" = some (some (.ref f5))) (l5 : K.lookup f5 = some ⟨oc5, od5, .func (PySem.W.fnOf "clash" "clash" (defArgs sClash) (defBody sClash) (defScope sClash) .none kV5 dc5 pm5 an5 cd5 ct5), sl5⟩) (c5 : PySem.W.codeIn K cd5 "clash" = true) (k5 : PySem.W.keepIn K (.ref f5) = true)
    (a6 : PySem.W.nsIn K mainGlobals "rises" = some (some (.ref f6))) (l6 : K.lookup f6 = some ⟨oc6, od6, .func (PySem.W.fnOf "rises" "rises" (defArgs sRises) (defBody sRises) (defScope sRises) .none kV6 dc6 pm6 an6 cd6 ct6), sl6⟩) (c6 : PySem.W.codeIn K cd6 "rises" = true) (k6 : PySem.W.keepIn K (.ref f6) = true)
    (a7 : PySem.W.nsIn K mainGlobals "is_kept" = some (some (.ref f7))) (l7 : K.lookup f7 = some ⟨oc7, od7, .func (PySem.W.fnOf "is_kept" "is_kept" (defArgs sIsKept) (defBody sIsKept) (defScope sIsKept) .none kV7 dc7 pm7 an7 cd7 ct7), sl7⟩) (c7 : PySem.W.codeIn K cd7 "is_kept" = true) (k7 : PySem.W.keepIn K (.ref f7) = true)
    (a8 : PySem.W.nsIn K mainGlobals "cost" = some (some (.ref f8))) (l8 : K.lookup f8 = some ⟨oc8, od8, .func (PySem.W.fnOf "cost" "cost" (defArgs sPCost) (defBody sPCost) (defScope sPCost) .none kV8 dc8 pm8 an8 cd8 ct8), sl8⟩) (c8 : PySem.W.codeIn K cd8 "cost" = true) (k8 : PySem.W.keepIn K (.ref f8) = true)
    (a9 : PySem.W.nsIn K mainGlobals "weight_sums" = some (some (.ref f9))) (l9 : K.lookup f9 = some ⟨oc9, od9, .func (PySem.W.fnOf "weight_sums" "weight_sums" (defArgs sSums) (defBody sSums) (defScope sSums) .none kV9 dc9 pm9 an9 cd9 ct9), sl9⟩) (c9 : PySem.W.codeIn K cd9 "weight_sums" = true) (k9 : PySem.W.keepIn K (.ref f9) = true)
    (a10 : PySem.W.nsIn K mainGlobals "row_with" = some (some (.ref f10))) (l10 : K.lookup f10 = some ⟨oc10, od10, .func (PySem.W.fnOf "row_with" "row_with" (defArgs sRow) (defBody sRow) (defScope sRow) .none kV10 dc10 pm10 an10 cd10 ct10), sl10⟩) (c10 : PySem.W.codeIn K cd10 "row_with" = true) (k10 : PySem.W.keepIn K (.ref f10) = true)
    (a11 : PySem.W.nsIn K mainGlobals "square" = some (some (.ref f11))) (l11 : K.lookup f11 = some ⟨oc11, od11, .func (PySem.W.fnOf "square" "square" (defArgs sSquare) (defBody sSquare) (defScope sSquare) .none kV11 dc11 pm11 an11 cd11 ct11), sl11⟩) (c11 : PySem.W.codeIn K cd11 "square" = true) (k11 : PySem.W.keepIn K (.ref f11) = true)
    (a12 : PySem.W.nsIn K mainGlobals "least" = some (some (.ref f12))) (l12 : K.lookup f12 = some ⟨oc12, od12, .func (PySem.W.fnOf "least" "least" (defArgs sLeast) (defBody sLeast) (defScope sLeast) .none kV12 dc12 pm12 an12 cd12 ct12), sl12⟩) (c12 : PySem.W.codeIn K cd12 "least" = true) (k12 : PySem.W.keepIn K (.ref f12) = true)
    (a13 : PySem.W.nsIn K mainGlobals "added" = some (some (.ref f13))) (l13 : K.lookup f13 = some ⟨oc13, od13, .func (PySem.W.fnOf "added" "added" (defArgs sAdded) (defBody sAdded) (defScope sAdded) .none kV13 dc13 pm13 an13 cd13 ct13), sl13⟩) (c13 : PySem.W.codeIn K cd13 "added" = true) (k13 : PySem.W.keepIn K (.ref f13) = true)
    (a14 : PySem.W.nsIn K mainGlobals "parted_least" = some (some (.ref f14))) (l14 : K.lookup f14 = some ⟨oc14, od14, .func (PySem.W.fnOf "parted_least" "parted_least" (defArgs sPl) (defBody sPl) (defScope sPl) .none kV14 dc14 pm14 an14 cd14 ct14), sl14⟩) (c14 : PySem.W.codeIn K cd14 "parted_least" = true) (k14 : PySem.W.keepIn K (.ref f14) = true)
    (a15 : PySem.W.nsIn K mainGlobals "parted_words" = some (some (.ref f15))) (l15 : K.lookup f15 = some ⟨oc15, od15, .func (PySem.W.fnOf "parted_words" "parted_words" (defArgs sPw) (defBody sPw) (defScope sPw) .none kV15 dc15 pm15 an15 cd15 ct15), sl15⟩) (c15 : PySem.W.codeIn K cd15 "parted_words" = true) (k15 : PySem.W.keepIn K (.ref f15) = true)
    (a16 : PySem.W.nsIn K mainGlobals "least_floors" = some (some (.ref f16))) (l16 : K.lookup f16 = some ⟨oc16, od16, .func (PySem.W.fnOf "least_floors" "least_floors" (defArgs sLf) (defBody sLf) (defScope sLf) .none kV16 dc16 pm16 an16 cd16 ct16), sl16⟩) (c16 : PySem.W.codeIn K cd16 "least_floors" = true) (k16 : PySem.W.keepIn K (.ref f16) = true)
    (a17 : PySem.W.nsIn K mainGlobals "cheapest_kept" = some (some (.ref f17))) (l17 : K.lookup f17 = some ⟨oc17, od17, .func (PySem.W.fnOf "cheapest_kept" "cheapest_kept" (defArgs sCk) (defBody sCk) (defScope sCk) .none kV17 dc17 pm17 an17 cd17 ct17), sl17⟩) (c17 : PySem.W.codeIn K cd17 "cheapest_kept" = true) (k17 : PySem.W.keepIn K (.ref f17) = true)
    (a18 : PySem.W.nsIn K mainGlobals "kept_words" = some (some (.ref f18))) (l18 : K.lookup f18 = some ⟨oc18, od18, .func (PySem.W.fnOf "kept_words" "kept_words" (defArgs sKw) (defBody sKw) (defScope sKw) .none kV18 dc18 pm18 an18 cd18 ct18), sl18⟩) (c18 : PySem.W.codeIn K cd18 "kept_words" = true) (k18 : PySem.W.keepIn K (.ref f18) = true)
    (a19 : PySem.W.nsIn K mainGlobals "is_cheapest_kept" = some (some (.ref f19))) (l19 : K.lookup f19 = some ⟨oc19, od19, .func (PySem.W.fnOf "is_cheapest_kept" "is_cheapest_kept" (defArgs sIck) (defBody sIck) (defScope sIck) .none kV19 dc19 pm19 an19 cd19 ct19), sl19⟩) (c19 : PySem.W.codeIn K cd19 "is_cheapest_kept" = true) (k19 : PySem.W.keepIn K (.ref f19) = true)
    (a20 : PySem.W.nsIn K mainGlobals "price_moved" = some (some (.ref f20))) (l20 : K.lookup f20 = some ⟨oc20, od20, .func (PySem.W.fnOf "price_moved" "price_moved" (defArgs sPM) (defBody sPM) (defScope sPM) .none kV20 dc20 pm20 an20 cd20 ct20), sl20⟩) (c20 : PySem.W.codeIn K cd20 "price_moved" = true) (k20 : PySem.W.keepIn K (.ref f20) = true)
    (a21 : PySem.W.nsIn K mainGlobals "weight_moved" = some (some (.ref f21))) (l21 : K.lookup f21 = some ⟨oc21, od21, .func (PySem.W.fnOf "weight_moved" "weight_moved" (defArgs sWM) (defBody sWM) (defScope sWM) .none kV21 dc21 pm21 an21 cd21 ct21), sl21⟩) (c21 : PySem.W.codeIn K cd21 "weight_moved" = true) (k21 : PySem.W.keepIn K (.ref f21) = true)
    (a22 : PySem.W.nsIn K mainGlobals "refuse_letter" = some (some (.ref f22))) (l22 : K.lookup f22 = some ⟨oc22, od22, .func (PySem.W.fnOf "refuse_letter" "refuse_letter" (defArgs sRL) (defBody sRL) (defScope sRL) .none kV22 dc22 pm22 an22 cd22 ct22), sl22⟩) (c22 : PySem.W.codeIn K cd22 "refuse_letter" = true) (k22 : PySem.W.keepIn K (.ref f22) = true)
    (a23 : PySem.W.nsIn K mainGlobals "refuse_thing" = some (some (.ref f23))) (l23 : K.lookup f23 = some ⟨oc23, od23, .func (PySem.W.fnOf "refuse_thing" "refuse_thing" (defArgs sRT) (defBody sRT) (defScope sRT) .none kV23 dc23 pm23 an23 cd23 ct23), sl23⟩) (c23 : PySem.W.codeIn K cd23 "refuse_thing" = true) (k23 : PySem.W.keepIn K (.ref f23) = true)
    (a24 : PySem.W.nsIn K mainGlobals "with_number" = some (some (.ref f24))) (l24 : K.lookup f24 = some ⟨oc24, od24, .func (PySem.W.fnOf "with_number" "with_number" (defArgs sWN) (defBody sWN) (defScope sWN) .none kV24 dc24 pm24 an24 cd24 ct24), sl24⟩) (c24 : PySem.W.codeIn K cd24 "with_number" = true) (k24 : PySem.W.keepIn K (.ref f24) = true)
    (a25 : PySem.W.nsIn K mainGlobals "price_share" = some (some (.ref f25))) (l25 : K.lookup f25 = some ⟨oc25, od25, .func (PySem.W.fnOf "price_share" "price_share" (defArgs sPS) (defBody sPS) (defScope sPS) .none kV25 dc25 pm25 an25 cd25 ct25), sl25⟩) (c25 : PySem.W.codeIn K cd25 "price_share" = true) (k25 : PySem.W.keepIn K (.ref f25) = true)
    (a26 : PySem.W.nsIn K mainGlobals "weight_share" = some (some (.ref f26))) (l26 : K.lookup f26 = some ⟨oc26, od26, .func (PySem.W.fnOf "weight_share" "weight_share" (defArgs sWS) (defBody sWS) (defScope sWS) .none kV26 dc26 pm26 an26 cd26 ct26), sl26⟩) (c26 : PySem.W.codeIn K cd26 "weight_share" = true) (k26 : PySem.W.keepIn K (.ref f26) = true)
    (a27 : PySem.W.nsIn K mainGlobals "end_towards" = some (some (.ref f27))) (l27 : K.lookup f27 = some ⟨oc27, od27, .func (PySem.W.fnOf "end_towards" "end_towards" (defArgs sEt) (defBody sEt) (defScope sEt) .none kV27 dc27 pm27 an27 cd27 ct27), sl27⟩) (c27 : PySem.W.codeIn K cd27 "end_towards" = true) (k27 : PySem.W.keepIn K (.ref f27) = true)
    (a28 : PySem.W.nsIn K mainGlobals "both_ends" = some (some (.ref f28))) (l28 : K.lookup f28 = some ⟨oc28, od28, .func (PySem.W.fnOf "both_ends" "both_ends" (defArgs sBe) (defBody sBe) (defScope sBe) .none kV28 dc28 pm28 an28 cd28 ct28), sl28⟩) (c28 : PySem.W.codeIn K cd28 "both_ends" = true) (k28 : PySem.W.keepIn K (.ref f28) = true)
    (a29 : PySem.W.nsIn K mainGlobals "stretch_of" = some (some (.ref f29))) (l29 : K.lookup f29 = some ⟨oc29, od29, .func (PySem.W.fnOf "stretch_of" "stretch_of" (defArgs sSo) (defBody sSo) (defScope sSo) .none kV29 dc29 pm29 an29 cd29 ct29), sl29⟩) (c29 : PySem.W.codeIn K cd29 "stretch_of" = true) (k29 : PySem.W.keepIn K (.ref f29) = true)
    (a30 : PySem.W.nsIn K mainGlobals "price_stretch" = some (some (.ref f30))) (l30 : K.lookup f30 = some ⟨oc30, od30, .func (PySem.W.fnOf "price_stretch" "price_stretch" (defArgs sPst) (defBody sPst) (defScope sPst) .none kV30 dc30 pm30 an30 cd30 ct30), sl30⟩) (c30 : PySem.W.codeIn K cd30 "price_stretch" = true) (k30 : PySem.W.keepIn K (.ref f30) = true)
    (a31 : PySem.W.nsIn K mainGlobals "weight_stretch" = some (some (.ref f31))) (l31 : K.lookup f31 = some ⟨oc31, od31, .func (PySem.W.fnOf "weight_stretch" "weight_stretch" (defArgs sWst) (defBody sWst) (defScope sWst) .none kV31 dc31 pm31 an31 cd31 ct31), sl31⟩) (c31 : PySem.W.codeIn K cd31 "weight_stretch" = true) (k31 : PySem.W.keepIn K (.ref f31) = true)
    (a32 : PySem.W.nsIn K mainGlobals "numbered" = some (some (.ref f32))) (l32 : K.lookup f32 = some ⟨oc32, od32, .func (PySem.W.fnOf "numbered" "numbered" (defArgs sNbd) (defBody sNbd) (defScope sNbd) .none kV32 dc32 pm32 an32 cd32 ct32), sl32⟩) (c32 : PySem.W.codeIn K cd32 "numbered" = true) (k32 : PySem.W.keepIn K (.ref f32) = true)
    (a33 : PySem.W.nsIn K mainGlobals "words_by" = some (some (.ref f33))) (l33 : K.lookup f33 = some ⟨oc33, od33, .func (PySem.W.fnOf "words_by" "words_by" (defArgs sWb) (defBody sWb) (defScope sWb) .none kV33 dc33 pm33 an33 cd33 ct33), sl33⟩) (c33 : PySem.W.codeIn K cd33 "words_by" = true) (k33 : PySem.W.keepIn K (.ref f33) = true)
    (a34 : PySem.W.nsIn K mainGlobals "tail_words" = some (some (.ref f34))) (l34 : K.lookup f34 = some ⟨oc34, od34, .func (PySem.W.fnOf "tail_words" "tail_words" (defArgs sTw) (defBody sTw) (defScope sTw) .none kV34 dc34 pm34 an34 cd34 ct34), sl34⟩) (c34 : PySem.W.codeIn K cd34 "tail_words" = true) (k34 : PySem.W.keepIn K (.ref f34) = true)
    (a35 : PySem.W.nsIn K mainGlobals "_law_folded" = some (some (.ref f35))) (l35 : K.lookup f35 = some ⟨oc35, od35, .func (PySem.W.fnOf "_law_folded" "_law_folded" (defArgs sFold) (defBody sFold) (defScope sFold) .none kV35 dc35 pm35 an35 cd35 ct35), sl35⟩) (c35 : PySem.W.codeIn K cd35 "_law_folded" = true) (k35 : PySem.W.keepIn K (.ref f35) = true)
    (a36 : PySem.W.nsIn K mainGlobals "_law_cell_at" = some (some (.ref f36))) (l36 : K.lookup f36 = some ⟨oc36, od36, .func (PySem.W.fnOf "_law_cell_at" "_law_cell_at" (defArgs sCellA) (defBody sCellA) (defScope sCellA) .none kV36 dc36 pm36 an36 cd36 ct36), sl36⟩) (c36 : PySem.W.codeIn K cd36 "_law_cell_at" = true) (k36 : PySem.W.keepIn K (.ref f36) = true)
    (a37 : PySem.W.nsIn K mainGlobals "_law_amount" = some (some (.ref f37))) (l37 : K.lookup f37 = some ⟨oc37, od37, .func (PySem.W.fnOf "_law_amount" "_law_amount" (defArgs sAmount) (defBody sAmount) (defScope sAmount) .none kV37 dc37 pm37 an37 cd37 ct37), sl37⟩) (c37 : PySem.W.codeIn K cd37 "_law_amount" = true) (k37 : PySem.W.keepIn K (.ref f37) = true)
    (a38 : PySem.W.nsIn K mainGlobals "_law_moved" = some (some (.ref f38))) (l38 : K.lookup f38 = some ⟨oc38, od38, .func (PySem.W.fnOf "_law_moved" "_law_moved" (defArgs sMoved) (defBody sMoved) (defScope sMoved) .none kV38 dc38 pm38 an38 cd38 ct38), sl38⟩) (c38 : PySem.W.codeIn K cd38 "_law_moved" = true) (k38 : PySem.W.keepIn K (.ref f38) = true)
    (a39 : PySem.W.nsIn K mainGlobals "_law_least" = some (some (.ref f39))) (l39 : K.lookup f39 = some ⟨oc39, od39, .func (PySem.W.fnOf "_law_least" "_law_least" (defArgs sLl) (defBody sLl) (defScope sLl) .none kV39 dc39 pm39 an39 cd39 ct39), sl39⟩) (c39 : PySem.W.codeIn K cd39 "_law_least" = true) (k39 : PySem.W.keepIn K (.ref f39) = true)
    (a40 : PySem.W.nsIn K mainGlobals "_law_number" = some (some (.ref f40))) (l40 : K.lookup f40 = some ⟨oc40, od40, .func (PySem.W.fnOf "_law_number" "_law_number" (defArgs sLn) (defBody sLn) (defScope sLn) .none kV40 dc40 pm40 an40 cd40 ct40), sl40⟩) (c40 : PySem.W.codeIn K cd40 "_law_number" = true) (k40 : PySem.W.keepIn K (.ref f40) = true)
    (a41 : PySem.W.nsIn K mainGlobals "law" = some (some (.ref f41))) (l41 : K.lookup f41 = some ⟨oc41, od41, .func (PySem.W.fnOf "law" "law" (defArgs sLaw) (defBody sLaw) (defScope sLaw) .none kV41 dc41 pm41 an41 cd41 ct41), sl41⟩) (c41 : PySem.W.codeIn K cd41 "law" = true) (k41 : PySem.W.keepIn K (.ref f41) = true)
    (z1 : PySem.W.nsIn K mainGlobals "len" = some none)
    (z2 : PySem.W.nsIn K mainGlobals "range" = some none)
    (z3 : PySem.W.nsIn K mainGlobals "sum" = some none)
    (z4 : PySem.W.nsIn K mainGlobals "min" = some none)
    (z5 : PySem.W.nsIn K mainGlobals "tuple" = some none)
    (z6 : PySem.W.nsIn K mainGlobals "list" = some none)
    (z7 : PySem.W.nsIn K mainGlobals "zip" = some none)
    (z8 : PySem.W.nsIn K mainGlobals "all" = some none)
    (z9 : PySem.W.nsIn K mainGlobals "abs" = some none)
    (z10 : PySem.W.nsIn K mainGlobals "max" = some none)
    {C : Addr} (gC : PySem.W.nsIn K mainGlobals "Parted" = some (some (.ref C)))
    {qCinit : Addr} (faCinit : PySem.W.findIn K (.ref C) "__init__" = some (some (.ref qCinit)))
    (fiCinit : PySem.W.isFn K (.ref qCinit) = true)
    {oiCinit : Value} {diCinit : Option Addr} {kiCinit : Value} {uiCinit : Value} {miCinit : Value} {niCinit : Option Addr} {viCinit : Value} {tiCinit : Value} {siCinit : Array (Option Value)} (liCinit : K.lookup qCinit = some ⟨oiCinit, diCinit, .func (PySem.W.fnOf "__init__" "Parted.__init__" (defArgs iParted) (defBody iParted) (defScope iParted) .none kiCinit uiCinit miCinit niCinit viCinit tiCinit), siCinit⟩)
    (ciCinit : PySem.W.codeIn K viCinit "Parted.__init__" = true)
    (kkCinit : PySem.W.keepIn K (.ref qCinit) = true)
    {qCput : Addr} (faCput : PySem.W.findIn K (.ref C) "put" = some (some (.ref qCput)))
    (fiCput : PySem.W.isFn K (.ref qCput) = true)
    {oiCput : Value} {diCput : Option Addr} {kiCput : Value} {uiCput : Value} {miCput : Value} {niCput : Option Addr} {viCput : Value} {tiCput : Value} {siCput : Array (Option Value)} (liCput : K.lookup qCput = some ⟨oiCput, diCput, .func (PySem.W.fnOf "put" "Parted.put" (defArgs sPut) (defBody sPut) (defScope sPut) .none kiCput uiCput miCput niCput viCput tiCput), siCput⟩)
    (ciCput : PySem.W.codeIn K viCput "Parted.put" = true)
    (kkCput : PySem.W.keepIn K (.ref qCput) = true)
    {qCleast_sum : Addr} (faCleast_sum : PySem.W.findIn K (.ref C) "least_sum" = some (some (.ref qCleast_sum)))
    (fiCleast_sum : PySem.W.isFn K (.ref qCleast_sum) = true)
    {oiCleast_sum : Value} {diCleast_sum : Option Addr} {kiCleast_sum : Value} {uiCleast_sum : Value} {miCleast_sum : Value} {niCleast_sum : Option Addr} {viCleast_sum : Value} {tiCleast_sum : Value} {siCleast_sum : Array (Option Value)} (liCleast_sum : K.lookup qCleast_sum = some ⟨oiCleast_sum, diCleast_sum, .func (PySem.W.fnOf "least_sum" "Parted.least_sum" (defArgs sLs) (defBody sLs) (defScope sLs) .none kiCleast_sum uiCleast_sum miCleast_sum niCleast_sum viCleast_sum tiCleast_sum), siCleast_sum⟩)
    (ciCleast_sum : PySem.W.codeIn K viCleast_sum "Parted.least_sum" = true)
    (kkCleast_sum : PySem.W.keepIn K (.ref qCleast_sum) = true)
    {qCbound : Addr} (faCbound : PySem.W.findIn K (.ref C) "bound" = some (some (.ref qCbound)))
    (fiCbound : PySem.W.isFn K (.ref qCbound) = true)
    {oiCbound : Value} {diCbound : Option Addr} {kiCbound : Value} {uiCbound : Value} {miCbound : Value} {niCbound : Option Addr} {viCbound : Value} {tiCbound : Value} {siCbound : Array (Option Value)} (liCbound : K.lookup qCbound = some ⟨oiCbound, diCbound, .func (PySem.W.fnOf "bound" "Parted.bound" (defArgs sBound) (defBody sBound) (defScope sBound) .none kiCbound uiCbound miCbound niCbound viCbound tiCbound), siCbound⟩)
    (ciCbound : PySem.W.codeIn K viCbound "Parted.bound" = true)
    (kkCbound : PySem.W.keepIn K (.ref qCbound) = true)
    {qCbound_row : Addr} (faCbound_row : PySem.W.findIn K (.ref C) "bound_row" = some (some (.ref qCbound_row)))
    (fiCbound_row : PySem.W.isFn K (.ref qCbound_row) = true)
    {oiCbound_row : Value} {diCbound_row : Option Addr} {kiCbound_row : Value} {uiCbound_row : Value} {miCbound_row : Value} {niCbound_row : Option Addr} {viCbound_row : Value} {tiCbound_row : Value} {siCbound_row : Array (Option Value)} (liCbound_row : K.lookup qCbound_row = some ⟨oiCbound_row, diCbound_row, .func (PySem.W.fnOf "bound_row" "Parted.bound_row" (defArgs sBrow) (defBody sBrow) (defScope sBrow) .none kiCbound_row uiCbound_row miCbound_row niCbound_row viCbound_row tiCbound_row), siCbound_row⟩)
    (ciCbound_row : PySem.W.codeIn K viCbound_row "Parted.bound_row" = true)
    (kkCbound_row : PySem.W.keepIn K (.ref qCbound_row) = true)
    {qCbounds : Addr} (faCbounds : PySem.W.findIn K (.ref C) "bounds" = some (some (.ref qCbounds)))
    (fiCbounds : PySem.W.isFn K (.ref qCbounds) = true)
    {oiCbounds : Value} {diCbounds : Option Addr} {kiCbounds : Value} {uiCbounds : Value} {miCbounds : Value} {niCbounds : Option Addr} {viCbounds : Value} {tiCbounds : Value} {siCbounds : Array (Option Value)} (liCbounds : K.lookup qCbounds = some ⟨oiCbounds, diCbounds, .func (PySem.W.fnOf "bounds" "Parted.bounds" (defArgs sBounds) (defBody sBounds) (defScope sBounds) .none kiCbounds uiCbounds miCbounds niCbounds viCbounds tiCbounds), siCbounds⟩)
    (ciCbounds : PySem.W.codeIn K viCbounds "Parted.bounds" = true)
    (kkCbounds : PySem.W.keepIn K (.ref qCbounds) = true)
    {qCways : Addr} (faCways : PySem.W.findIn K (.ref C) "ways" = some (some (.ref qCways)))
    (fiCways : PySem.W.isFn K (.ref qCways) = true)
    {oiCways : Value} {diCways : Option Addr} {kiCways : Value} {uiCways : Value} {miCways : Value} {niCways : Option Addr} {viCways : Value} {tiCways : Value} {siCways : Array (Option Value)} (liCways : K.lookup qCways = some ⟨oiCways, diCways, .func (PySem.W.fnOf "ways" "Parted.ways" (defArgs sWays) (defBody sWays) (defScope sWays) .none kiCways uiCways miCways niCways viCways tiCways), siCways⟩)
    (ciCways : PySem.W.codeIn K viCways "Parted.ways" = true)
    (kkCways : PySem.W.keepIn K (.ref qCways) = true)
    (pgC : PySem.W.plainGet K C Str.empty = true)
    (hdC : PySem.W.hasDictIn K C = true)
    (poC : PySem.W.plainOver K C = true)
    (saC : PySem.W.findIn K (.ref C) "__setattr__" = some (some (.builtin "object.__setattr__")))
    (mkC : PySem.W.makesIn K C = true)
    (kcC : PySem.W.keepIn K (.ref C) = true)
    (naCprices : PySem.W.findIn K (.ref C) "prices" = some none)
    (naCthings : PySem.W.findIn K (.ref C) "things" = some none)
    (naCsums : PySem.W.findIn K (.ref C) "sums" = some none)
    (naCheads : PySem.W.findIn K (.ref C) "heads" = some none)
    (naCtails : PySem.W.findIn K (.ref C) "tails" = some none)
    {D : Addr} (gD : PySem.W.nsIn K mainGlobals "Counts" = some (some (.ref D)))
    {qDinit : Addr} (faDinit : PySem.W.findIn K (.ref D) "__init__" = some (some (.ref qDinit)))
    (fiDinit : PySem.W.isFn K (.ref qDinit) = true)
    {oiDinit : Value} {diDinit : Option Addr} {kiDinit : Value} {uiDinit : Value} {miDinit : Value} {niDinit : Option Addr} {viDinit : Value} {tiDinit : Value} {siDinit : Array (Option Value)} (liDinit : K.lookup qDinit = some ⟨oiDinit, diDinit, .func (PySem.W.fnOf "__init__" "Counts.__init__" (defArgs iCounts) (defBody iCounts) (defScope iCounts) .none kiDinit uiDinit miDinit niDinit viDinit tiDinit), siDinit⟩)
    (ciDinit : PySem.W.codeIn K viDinit "Counts.__init__" = true)
    (kkDinit : PySem.W.keepIn K (.ref qDinit) = true)
    {qDput_counts : Addr} (faDput_counts : PySem.W.findIn K (.ref D) "put_counts" = some (some (.ref qDput_counts)))
    (fiDput_counts : PySem.W.isFn K (.ref qDput_counts) = true)
    {oiDput_counts : Value} {diDput_counts : Option Addr} {kiDput_counts : Value} {uiDput_counts : Value} {miDput_counts : Value} {niDput_counts : Option Addr} {viDput_counts : Value} {tiDput_counts : Value} {siDput_counts : Array (Option Value)} (liDput_counts : K.lookup qDput_counts = some ⟨oiDput_counts, diDput_counts, .func (PySem.W.fnOf "put_counts" "Counts.put_counts" (defArgs sPutC) (defBody sPutC) (defScope sPutC) .none kiDput_counts uiDput_counts miDput_counts niDput_counts viDput_counts tiDput_counts), siDput_counts⟩)
    (ciDput_counts : PySem.W.codeIn K viDput_counts "Counts.put_counts" = true)
    (kkDput_counts : PySem.W.keepIn K (.ref qDput_counts) = true)
    {qDover_ways : Addr} (faDover_ways : PySem.W.findIn K (.ref D) "over_ways" = some (some (.ref qDover_ways)))
    (fiDover_ways : PySem.W.isFn K (.ref qDover_ways) = true)
    {oiDover_ways : Value} {diDover_ways : Option Addr} {kiDover_ways : Value} {uiDover_ways : Value} {miDover_ways : Value} {niDover_ways : Option Addr} {viDover_ways : Value} {tiDover_ways : Value} {siDover_ways : Array (Option Value)} (liDover_ways : K.lookup qDover_ways = some ⟨oiDover_ways, diDover_ways, .func (PySem.W.fnOf "over_ways" "Counts.over_ways" (defArgs sOver) (defBody sOver) (defScope sOver) .none kiDover_ways uiDover_ways miDover_ways niDover_ways viDover_ways tiDover_ways), siDover_ways⟩)
    (ciDover_ways : PySem.W.codeIn K viDover_ways "Counts.over_ways" = true)
    (kkDover_ways : PySem.W.keepIn K (.ref qDover_ways) = true)
    {qDby_way : Addr} (faDby_way : PySem.W.findIn K (.ref D) "by_way" = some (some (.ref qDby_way)))
    (fiDby_way : PySem.W.isFn K (.ref qDby_way) = true)
    {oiDby_way : Value} {diDby_way : Option Addr} {kiDby_way : Value} {uiDby_way : Value} {miDby_way : Value} {niDby_way : Option Addr} {viDby_way : Value} {tiDby_way : Value} {siDby_way : Array (Option Value)} (liDby_way : K.lookup qDby_way = some ⟨oiDby_way, diDby_way, .func (PySem.W.fnOf "by_way" "Counts.by_way" (defArgs sBy) (defBody sBy) (defScope sBy) .none kiDby_way uiDby_way miDby_way niDby_way viDby_way tiDby_way), siDby_way⟩)
    (ciDby_way : PySem.W.codeIn K viDby_way "Counts.by_way" = true)
    (kkDby_way : PySem.W.keepIn K (.ref qDby_way) = true)
    (pgD : PySem.W.plainGet K D Str.empty = true)
    (hdD : PySem.W.hasDictIn K D = true)
    (poD : PySem.W.plainOver K D = true)
    (saD : PySem.W.findIn K (.ref D) "__setattr__" = some (some (.builtin "object.__setattr__")))
    (mkD : PySem.W.makesIn K D = true)
    (kcD : PySem.W.keepIn K (.ref D) = true)
    (naDparted : PySem.W.findIn K (.ref D) "parted" = some none)
    (naDletters : PySem.W.findIn K (.ref D) "letters" = some none)
    (naDcodes : PySem.W.findIn K (.ref D) "codes" = some none)
    (naDtails : PySem.W.findIn K (.ref D) "tails" = some none)
    {M : Addr} (gM : PySem.W.nsIn K mainGlobals "PriceMove" = some (some (.ref M)))
    {qMinit : Addr} (faMinit : PySem.W.findIn K (.ref M) "__init__" = some (some (.ref qMinit)))
    (fiMinit : PySem.W.isFn K (.ref qMinit) = true)
    {oiMinit : Value} {diMinit : Option Addr} {kiMinit : Value} {uiMinit : Value} {miMinit : Value} {niMinit : Option Addr} {viMinit : Value} {tiMinit : Value} {siMinit : Array (Option Value)} (liMinit : K.lookup qMinit = some ⟨oiMinit, diMinit, .func (PySem.W.fnOf "__init__" "PriceMove.__init__" (defArgs iPm) (defBody iPm) (defScope iPm) .none kiMinit uiMinit miMinit niMinit viMinit tiMinit), siMinit⟩)
    (ciMinit : PySem.W.codeIn K viMinit "PriceMove.__init__" = true)
    (kkMinit : PySem.W.keepIn K (.ref qMinit) = true)
    {qMnow : Addr} (faMnow : PySem.W.findIn K (.ref M) "now" = some (some (.ref qMnow)))
    (fiMnow : PySem.W.isFn K (.ref qMnow) = true)
    {oiMnow : Value} {diMnow : Option Addr} {kiMnow : Value} {uiMnow : Value} {miMnow : Value} {niMnow : Option Addr} {viMnow : Value} {tiMnow : Value} {siMnow : Array (Option Value)} (liMnow : K.lookup qMnow = some ⟨oiMnow, diMnow, .func (PySem.W.fnOf "now" "PriceMove.now" (defArgs sNow) (defBody sNow) (defScope sNow) .none kiMnow uiMnow miMnow niMnow viMnow tiMnow), siMnow⟩)
    (ciMnow : PySem.W.codeIn K viMnow "PriceMove.now" = true)
    (kkMnow : PySem.W.keepIn K (.ref qMnow) = true)
    {qMshare : Addr} (faMshare : PySem.W.findIn K (.ref M) "share" = some (some (.ref qMshare)))
    (fiMshare : PySem.W.isFn K (.ref qMshare) = true)
    {oiMshare : Value} {diMshare : Option Addr} {kiMshare : Value} {uiMshare : Value} {miMshare : Value} {niMshare : Option Addr} {viMshare : Value} {tiMshare : Value} {siMshare : Array (Option Value)} (liMshare : K.lookup qMshare = some ⟨oiMshare, diMshare, .func (PySem.W.fnOf "share" "PriceMove.share" (defArgs sShare) (defBody sShare) (defScope sShare) .none kiMshare uiMshare miMshare niMshare viMshare tiMshare), siMshare⟩)
    (ciMshare : PySem.W.codeIn K viMshare "PriceMove.share" = true)
    (kkMshare : PySem.W.keepIn K (.ref qMshare) = true)
    {qMcheapest_at : Addr} (faMcheapest_at : PySem.W.findIn K (.ref M) "cheapest_at" = some (some (.ref qMcheapest_at)))
    (fiMcheapest_at : PySem.W.isFn K (.ref qMcheapest_at) = true)
    {oiMcheapest_at : Value} {diMcheapest_at : Option Addr} {kiMcheapest_at : Value} {uiMcheapest_at : Value} {miMcheapest_at : Value} {niMcheapest_at : Option Addr} {viMcheapest_at : Value} {tiMcheapest_at : Value} {siMcheapest_at : Array (Option Value)} (liMcheapest_at : K.lookup qMcheapest_at = some ⟨oiMcheapest_at, diMcheapest_at, .func (PySem.W.fnOf "cheapest_at" "PriceMove.cheapest_at" (defArgs sAt) (defBody sAt) (defScope sAt) .none kiMcheapest_at uiMcheapest_at miMcheapest_at niMcheapest_at viMcheapest_at tiMcheapest_at), siMcheapest_at⟩)
    (ciMcheapest_at : PySem.W.codeIn K viMcheapest_at "PriceMove.cheapest_at" = true)
    (kkMcheapest_at : PySem.W.keepIn K (.ref qMcheapest_at) = true)
    (pgM : PySem.W.plainGet K M Str.empty = true)
    (hdM : PySem.W.hasDictIn K M = true)
    (poM : PySem.W.plainOver K M = true)
    (saM : PySem.W.findIn K (.ref M) "__setattr__" = some (some (.builtin "object.__setattr__")))
    (mkM : PySem.W.makesIn K M = true)
    (kcM : PySem.W.keepIn K (.ref M) = true)
    (naMprices : PySem.W.findIn K (.ref M) "prices" = some none)
    (naMweights : PySem.W.findIn K (.ref M) "weights" = some none)
    (naMletter : PySem.W.findIn K (.ref M) "letter" = some none)
    {N : Addr} (gN : PySem.W.nsIn K mainGlobals "WeightMove" = some (some (.ref N)))
    {qNinit : Addr} (faNinit : PySem.W.findIn K (.ref N) "__init__" = some (some (.ref qNinit)))
    (fiNinit : PySem.W.isFn K (.ref qNinit) = true)
    {oiNinit : Value} {diNinit : Option Addr} {kiNinit : Value} {uiNinit : Value} {miNinit : Value} {niNinit : Option Addr} {viNinit : Value} {tiNinit : Value} {siNinit : Array (Option Value)} (liNinit : K.lookup qNinit = some ⟨oiNinit, diNinit, .func (PySem.W.fnOf "__init__" "WeightMove.__init__" (defArgs iWm) (defBody iWm) (defScope iWm) .none kiNinit uiNinit miNinit niNinit viNinit tiNinit), siNinit⟩)
    (ciNinit : PySem.W.codeIn K viNinit "WeightMove.__init__" = true)
    (kkNinit : PySem.W.keepIn K (.ref qNinit) = true)
    {qNnow : Addr} (faNnow : PySem.W.findIn K (.ref N) "now" = some (some (.ref qNnow)))
    (fiNnow : PySem.W.isFn K (.ref qNnow) = true)
    {oiNnow : Value} {diNnow : Option Addr} {kiNnow : Value} {uiNnow : Value} {miNnow : Value} {niNnow : Option Addr} {viNnow : Value} {tiNnow : Value} {siNnow : Array (Option Value)} (liNnow : K.lookup qNnow = some ⟨oiNnow, diNnow, .func (PySem.W.fnOf "now" "WeightMove.now" (defArgs sNowW) (defBody sNowW) (defScope sNowW) .none kiNnow uiNnow miNnow niNnow viNnow tiNnow), siNnow⟩)
    (ciNnow : PySem.W.codeIn K viNnow "WeightMove.now" = true)
    (kkNnow : PySem.W.keepIn K (.ref qNnow) = true)
    {qNshare : Addr} (faNshare : PySem.W.findIn K (.ref N) "share" = some (some (.ref qNshare)))
    (fiNshare : PySem.W.isFn K (.ref qNshare) = true)
    {oiNshare : Value} {diNshare : Option Addr} {kiNshare : Value} {uiNshare : Value} {miNshare : Value} {niNshare : Option Addr} {viNshare : Value} {tiNshare : Value} {siNshare : Array (Option Value)} (liNshare : K.lookup qNshare = some ⟨oiNshare, diNshare, .func (PySem.W.fnOf "share" "WeightMove.share" (defArgs sShareW) (defBody sShareW) (defScope sShareW) .none kiNshare uiNshare miNshare niNshare viNshare tiNshare), siNshare⟩)
    (ciNshare : PySem.W.codeIn K viNshare "WeightMove.share" = true)
    (kkNshare : PySem.W.keepIn K (.ref qNshare) = true)
    {qNcheapest_at : Addr} (faNcheapest_at : PySem.W.findIn K (.ref N) "cheapest_at" = some (some (.ref qNcheapest_at)))
    (fiNcheapest_at : PySem.W.isFn K (.ref qNcheapest_at) = true)
    {oiNcheapest_at : Value} {diNcheapest_at : Option Addr} {kiNcheapest_at : Value} {uiNcheapest_at : Value} {miNcheapest_at : Value} {niNcheapest_at : Option Addr} {viNcheapest_at : Value} {tiNcheapest_at : Value} {siNcheapest_at : Array (Option Value)} (liNcheapest_at : K.lookup qNcheapest_at = some ⟨oiNcheapest_at, diNcheapest_at, .func (PySem.W.fnOf "cheapest_at" "WeightMove.cheapest_at" (defArgs sAtW) (defBody sAtW) (defScope sAtW) .none kiNcheapest_at uiNcheapest_at miNcheapest_at niNcheapest_at viNcheapest_at tiNcheapest_at), siNcheapest_at⟩)
    (ciNcheapest_at : PySem.W.codeIn K viNcheapest_at "WeightMove.cheapest_at" = true)
    (kkNcheapest_at : PySem.W.keepIn K (.ref qNcheapest_at) = true)
    (pgN : PySem.W.plainGet K N Str.empty = true)
    (hdN : PySem.W.hasDictIn K N = true)
    (poN : PySem.W.plainOver K N = true)
    (saN : PySem.W.findIn K (.ref N) "__setattr__" = some (some (.builtin "object.__setattr__")))
    (mkN : PySem.W.makesIn K N = true)
    (kcN : PySem.W.keepIn K (.ref N) = true)
    (naNprices : PySem.W.findIn K (.ref N) "prices" = some none)
    (naNweights : PySem.W.findIn K (.ref N) "weights" = some none)
    (naNthing : PySem.W.findIn K (.ref N) "thing" = some none)
    {c0 : Addr} (hcd : cd18 = .ref c0)
    (lhd : PySem.W.codeHdIn K c0 T = true) :
    ∃ fd : FuncData, (∀ (s : Shared) (v : Value), BindsTo s fd ⟨[v], []⟩ [("script", v)]) ∧ ∀ base : Heap, K.In base → base.Ns mainGlobals mg → (∃ bm, L2.BMod mg base ts bm) → FnOk l.prog w K mg base CX0 73 fa fd ["script"] (spLaw K T) := by
  have e := hfa.symm.trans (PySem.W.mg_of X G a41)
  cases e
  have F1 := fun_mk (st := sIs) l1 c1 k1
  have m1 := PySem.W.mg_of X G a1
  have b1 := F1.binds (ps := ["number"]) fun _ _ _ _ _ _ => al1 fun _ => rfl
  have F2 := fun_mk (st := sAlone) l2 c2 k2
  have m2 := PySem.W.mg_of X G a2
  have b2 := F2.binds (ps := ["word", "letters"]) fun _ _ _ _ _ _ => al2 fun _ _ => rfl
  have F3 := fun_mk (st := sPPrice) l3 c3 k3
  have m3 := PySem.W.mg_of X G a3
  have b3 := F3.binds (ps := ["prices", "word"]) fun _ _ _ _ _ _ => al2 fun _ _ => rfl
  have F4 := fun_mk (st := sBegins) l4 c4 k4
  have m4 := PySem.W.mg_of X G a4
  have b4 := F4.binds (ps := ["one", "other"]) fun _ _ _ _ _ _ => al2 fun _ _ => rfl
  have F5 := fun_mk (st := sClash) l5 c5 k5
  have m5 := PySem.W.mg_of X G a5
  have b5 := F5.binds (ps := ["code"]) fun _ _ _ _ _ _ => al1 fun _ => rfl
  have F6 := fun_mk (st := sRises) l6 c6 k6
  have m6 := PySem.W.mg_of X G a6
  have b6 := F6.binds (ps := ["code"]) fun _ _ _ _ _ _ => al1 fun _ => rfl
  have F7 := fun_mk (st := sIsKept) l7 c7 k7
  have m7 := PySem.W.mg_of X G a7
  have b7 := F7.binds (ps := ["code"]) fun _ _ _ _ _ _ => al1 fun _ => rfl
  have F8 := fun_mk (st := sPCost) l8 c8 k8
  have m8 := PySem.W.mg_of X G a8
  have b8 := F8.binds (ps := ["prices", "weights", "code"]) fun _ _ _ _ _ _ => al3 fun _ _ _ => rfl
  have F9 := fun_mk (st := sSums) l9 c9 k9
  have m9 := PySem.W.mg_of X G a9
  have b9 := F9.binds (ps := ["weights"]) fun _ _ _ _ _ _ => al1 fun _ => rfl
  have F10 := fun_mk (st := sRow) l10 c10 k10
  have m10 := PySem.W.mg_of X G a10
  have b10 := F10.binds (ps := ["side", "at", "number"]) fun _ _ _ _ _ _ => al3 fun _ _ _ => rfl
  have F11 := fun_mk (st := sSquare) l11 c11 k11
  have m11 := PySem.W.mg_of X G a11
  have b11 := F11.binds (ps := ["side", "diagonal"]) fun _ _ _ _ _ _ => al2 fun _ _ => rfl
  have F12 := fun_mk (st := sLeast) l12 c12 k12
  have m12 := PySem.W.mg_of X G a12
  have b12 := F12.binds (ps := ["numbers"]) fun _ _ _ _ _ _ => al1 fun _ => rfl
  have F13 := fun_mk (st := sAdded) l13 c13 k13
  have m13 := PySem.W.mg_of X G a13
  have b13 := F13.binds (ps := ["one", "other"]) fun _ _ _ _ _ _ => al2 fun _ _ => rfl
  have F14 := fun_mk (st := sPl) l14 c14 k14
  have m14 := PySem.W.mg_of X G a14
  have b14 := F14.binds (ps := ["prices", "weights"]) fun _ _ _ _ _ _ => al2 fun _ _ => rfl
  have F15 := fun_mk (st := sPw) l15 c15 k15
  have m15 := PySem.W.mg_of X G a15
  have b15 := F15.binds (ps := ["parted", "first", "end", "words_of"]) fun _ _ _ _ _ _ => al4 fun _ _ _ _ => rfl
  have F16 := fun_mk (st := sLf) l16 c16 k16
  have m16 := PySem.W.mg_of X G a16
  have b16 := F16.binds (ps := ["prices", "weights"]) fun _ _ _ _ _ _ => al2 fun _ _ => rfl
  have F17 := fun_mk (st := sCk) l17 c17 k17
  have m17 := PySem.W.mg_of X G a17
  have b17 := F17.binds (ps := ["prices", "weights"]) fun _ _ _ _ _ _ => al2 fun _ _ => rfl
  have F18 := fun_mk (st := sKw) l18 c18 k18
  have m18 := PySem.W.mg_of X G a18
  have b18 := F18.binds (ps := ["parted", "first", "end"]) fun _ _ _ _ _ _ => al3 fun _ _ _ => rfl
  have F19 := fun_mk (st := sIck) l19 c19 k19
  have m19 := PySem.W.mg_of X G a19
  have b19 := F19.binds (ps := ["prices", "weights", "code"]) fun _ _ _ _ _ _ => al3 fun _ _ _ => rfl
  have F20 := fun_mk (st := sPM) l20 c20 k20
  have m20 := PySem.W.mg_of X G a20
  have b20 := F20.binds (ps := ["prices", "letter", "number"]) fun _ _ _ _ _ _ => al3 fun _ _ _ => rfl
  have F21 := fun_mk (st := sWM) l21 c21 k21
  have m21 := PySem.W.mg_of X G a21
  have b21 := F21.binds (ps := ["weights", "thing", "number"]) fun _ _ _ _ _ _ => al3 fun _ _ _ => rfl
  have F22 := fun_mk (st := sRL) l22 c22 k22
  have m22 := PySem.W.mg_of X G a22
  have b22 := F22.binds (ps := ["prices", "letter"]) fun _ _ _ _ _ _ => al2 fun _ _ => rfl
  have F23 := fun_mk (st := sRT) l23 c23 k23
  have m23 := PySem.W.mg_of X G a23
  have b23 := F23.binds (ps := ["weights", "thing"]) fun _ _ _ _ _ _ => al2 fun _ _ => rfl
  have F24 := fun_mk (st := sWN) l24 c24 k24
  have m24 := PySem.W.mg_of X G a24
  have b24 := F24.binds (ps := ["numbers", "at", "number"]) fun _ _ _ _ _ _ => al3 fun _ _ _ => rfl
  have F25 := fun_mk (st := sPS) l25 c25 k25
  have m25 := PySem.W.mg_of X G a25
  have b25 := F25.binds (ps := ["prices", "weights", "code", "letter"]) fun _ _ _ _ _ _ => al4 fun _ _ _ _ => rfl
  have F26 := fun_mk (st := sWS) l26 c26 k26
  have m26 := PySem.W.mg_of X G a26
  have b26 := F26.binds (ps := ["prices", "weights", "code", "thing"]) fun _ _ _ _ _ _ => al4 fun _ _ _ _ => rfl
  have F27 := fun_mk (st := sEt) l27 c27 k27
  have m27 := PySem.W.mg_of X G a27
  have b27 := F27.binds (ps := ["move", "code", "far"]) fun _ _ _ _ _ _ => al3 fun _ _ _ => rfl
  have F28 := fun_mk (st := sBe) l28 c28 k28
  have m28 := PySem.W.mg_of X G a28
  have b28 := F28.binds (ps := ["move", "code"]) fun _ _ _ _ _ _ => al2 fun _ _ => rfl
  have F29 := fun_mk (st := sSo) l29 c29 k29
  have m29 := PySem.W.mg_of X G a29
  have b29 := F29.binds (ps := ["move", "code"]) fun _ _ _ _ _ _ => al2 fun _ _ => rfl
  have F30 := fun_mk (st := sPst) l30 c30 k30
  have m30 := PySem.W.mg_of X G a30
  have b30 := F30.binds (ps := ["prices", "weights", "code", "letter"]) fun _ _ _ _ _ _ => al4 fun _ _ _ _ => rfl
  have F31 := fun_mk (st := sWst) l31 c31 k31
  have m31 := PySem.W.mg_of X G a31
  have b31 := F31.binds (ps := ["prices", "weights", "code", "thing"]) fun _ _ _ _ _ _ => al4 fun _ _ _ _ => rfl
  have F32 := fun_mk (st := sNbd) l32 c32 k32
  have m32 := PySem.W.mg_of X G a32
  have b32 := F32.binds (ps := ["prices", "weights", "number"]) fun _ _ _ _ _ _ => al3 fun _ _ _ => rfl
  have F33 := fun_mk (st := sWb) l33 c33 k33
  have m33 := PySem.W.mg_of X G a33
  have b33 := F33.binds (ps := ["counts", "number", "first", "end"]) fun _ _ _ _ _ _ => al4 fun _ _ _ _ => rfl
  have F34 := fun_mk (st := sTw) l34 c34 k34
  have m34 := PySem.W.mg_of X G a34
  have b34 := F34.binds (ps := ["counts", "number", "letter", "first", "end"]) fun _ _ _ _ _ _ => al5 fun _ _ _ _ _ => rfl
  have F35 := fun_mk (st := sFold) l35 c35 k35
  have m35 := PySem.W.mg_of X G a35
  have b35 := F35.binds (ps := ["script", "size"]) fun _ _ _ _ _ _ => al2 fun _ _ => rfl
  have F36 := fun_mk (st := sCellA) l36 c36 k36
  have m36 := PySem.W.mg_of X G a36
  have b36 := F36.binds (ps := ["script", "k"]) fun _ _ _ _ _ _ => al2 fun _ _ => rfl
  have F37 := fun_mk (st := sAmount) l37 c37 k37
  have m37 := PySem.W.mg_of X G a37
  have b37 := F37.binds (ps := ["cell"]) fun _ _ _ _ _ _ => al1 fun _ => rfl
  have F38 := fun_mk (st := sMoved) l38 c38 k38
  have m38 := PySem.W.mg_of X G a38
  have b38 := F38.binds (ps := ["prices", "weights", "way", "at", "number"]) fun _ _ _ _ _ _ => al5 fun _ _ _ _ _ => rfl
  have F39 := fun_mk (st := sLl) l39 c39 k39
  have m39 := PySem.W.mg_of X G a39
  have b39 := F39.binds (ps := ["prices", "weights", "way", "at", "number"]) fun _ _ _ _ _ _ => al5 fun _ _ _ _ _ => rfl
  have F40 := fun_mk (st := sLn) l40 c40 k40
  have m40 := PySem.W.mg_of X G a40
  have b40 := F40.binds (ps := ["ends", "cell"]) fun _ _ _ _ _ _ => al2 fun _ _ => rfl
  have F41 := fun_mk (st := sLaw) l41 c41 k41
  have m41 := PySem.W.mg_of X G a41
  have B_len := PySem.W.mg_none_of X G z1
  have B_range := PySem.W.mg_none_of X G z2
  have B_sum := PySem.W.mg_none_of X G z3
  have B_min := PySem.W.mg_none_of X G z4
  have B_tuple := PySem.W.mg_none_of X G z5
  have B_list := PySem.W.mg_none_of X G z6
  have B_zip := PySem.W.mg_none_of X G z7
  have B_all := PySem.W.mg_none_of X G z8
  have B_abs := PySem.W.mg_none_of X G z9
  have B_max := PySem.W.mg_none_of X G z10
  refine ⟨PySem.W.fnOf "law" "law" (defArgs sLaw) (defBody sLaw) (defScope sLaw) .none kV41 dc41 pm41 an41 cd41 ct41, fun s v => .of_eq rfl, fun base _ _ hBM => ?_⟩
  have rd : DC K D := ⟨⟨pgD, hdD, poD, saD⟩, naDparted, naDletters, naDcodes, naDtails⟩
  have rc : PC K C := ⟨⟨pgC, hdC, poC, saC⟩, naCprices, naCthings, naCsums, naCheads, naCtails⟩
  have rcM : MC true K M := ⟨⟨pgM, hdM, poM, saM⟩, naMprices, naMweights, naMletter⟩
  have rcN : MC false K N := ⟨⟨pgN, hdN, poN, saN⟩, naNprices, naNweights, naNthing⟩
  have FI := fun_mk (st := iParted) liCinit ciCinit kkCinit
  have bI := FI.binds (ps := ["self", "prices", "weights"]) fun _ _ _ _ _ _ => al3 fun _ _ _ => rfl
  have FP := fun_mk (st := sPut) liCput ciCput kkCput
  have bP := FP.binds (ps := ["self", "first", "end", "floor"]) fun _ _ _ _ _ _ => al4 fun _ _ _ _ => rfl
  have FL := fun_mk (st := sLs) liCleast_sum ciCleast_sum kkCleast_sum
  have bL := FL.binds (ps := ["self", "letter", "first", "end", "last"]) fun _ _ _ _ _ _ => al5 fun _ _ _ _ _ => rfl
  have FB := fun_mk (st := sBound) liCbound ciCbound kkCbound
  have bB := FB.binds (ps := ["self", "first", "end"]) fun _ _ _ _ _ _ => al3 fun _ _ _ => rfl
  have FR := fun_mk (st := sBrow) liCbound_row ciCbound_row kkCbound_row
  have bR := FR.binds (ps := ["self", "first"]) fun _ _ _ _ _ _ => al2 fun _ _ => rfl
  have FS := fun_mk (st := sBounds) liCbounds ciCbounds kkCbounds
  have bS := FS.binds (ps := ["self"]) fun _ _ _ _ _ _ => al1 fun _ => rfl
  have FW := fun_mk (st := sWays) liCways ciCways kkCways
  have bW := FW.binds (ps := ["self", "letter", "first", "end"]) fun _ _ _ _ _ _ => al4 fun _ _ _ _ => rfl
  have FJ := fun_mk (st := iCounts) liDinit ciDinit kkDinit
  have bJ := FJ.binds (ps := ["self", "prices", "weights"]) fun _ _ _ _ _ _ => al3 fun _ _ _ => rfl
  have FQ := fun_mk (st := sPutC) liDput_counts ciDput_counts kkDput_counts
  have bQ := FQ.binds (ps := ["self", "first", "end"]) fun _ _ _ _ _ _ => al3 fun _ _ _ => rfl
  have FO := fun_mk (st := sOver) liDover_ways ciDover_ways kkDover_ways
  have bO := FO.binds (ps := ["self", "letter", "first", "end"]) fun _ _ _ _ _ _ => al4 fun _ _ _ _ => rfl
  have FY := fun_mk (st := sBy) liDby_way ciDby_way kkDby_way
  have bY := FY.binds (ps := ["self", "way", "first", "end"]) fun _ _ _ _ _ _ => al4 fun _ _ _ _ => rfl
  have FMI := fun_mk (st := iPm) liMinit ciMinit kkMinit
  have bMI := FMI.binds (ps := ["self", "prices", "weights", "letter"]) fun _ _ _ _ _ _ => al4 fun _ _ _ _ => rfl
  have FMN := fun_mk (st := sNow) liMnow ciMnow kkMnow
  have bMN := FMN.binds (ps := ["self"]) fun _ _ _ _ _ _ => al1 fun _ => rfl
  have FMH := fun_mk (st := sShare) liMshare ciMshare kkMshare
  have bMH := FMH.binds (ps := ["self", "code"]) fun _ _ _ _ _ _ => al2 fun _ _ => rfl
  have FMA := fun_mk (st := sAt) liMcheapest_at ciMcheapest_at kkMcheapest_at
  have bMA := FMA.binds (ps := ["self", "number"]) fun _ _ _ _ _ _ => al2 fun _ _ => rfl
  have FNI := fun_mk (st := iWm) liNinit ciNinit kkNinit
  have bNI := FNI.binds (ps := ["self", "prices", "weights", "thing"]) fun _ _ _ _ _ _ => al4 fun _ _ _ _ => rfl
  have FNN := fun_mk (st := sNowW) liNnow ciNnow kkNnow
  have bNN := FNN.binds (ps := ["self"]) fun _ _ _ _ _ _ => al1 fun _ => rfl
  have FNH := fun_mk (st := sShareW) liNshare ciNshare kkNshare
  have bNH := FNH.binds (ps := ["self", "code"]) fun _ _ _ _ _ _ => al2 fun _ _ => rfl
  have FNA := fun_mk (st := sAtW) liNcheapest_at ciNcheapest_at kkNcheapest_at
  have bNA := FNA.binds (ps := ["self", "number"]) fun _ _ _ _ _ _ => al2 fun _ _ => rfl
  have B9 : Fns l.prog w K mg base ["weights"] "weight_sums" spSums 2 := ⟨_, _, (ok_sums F9).mono (by decide), b9, k9, m9⟩
  have B10 : Fns l.prog w K mg base ["side", "at", "number"] "row_with" spRow 1 := ⟨_, _, ok_row F10, b10, k10, m10⟩
  have B11 : Fns l.prog w K mg base ["side", "diagonal"] "square" spSquare 2 := ⟨_, _, ok_square F11 B10 B_range, b11, k11, m11⟩
  have B12 : Fns l.prog w K mg base ["numbers"] "least" spLeast 1 := ⟨_, _, ok_least F12 B_min, b12, k12, m12⟩
  have B13 : Fns l.prog w K mg base ["one", "other"] "added" spAdded 1 := ⟨_, _, ok_added F13, b13, k13, m13⟩
  have ML : Mt l.prog w K mg base C "least_sum" ["self", "letter", "first", "end", "last"] (spLs C) 2 := ⟨_, _, ⟨faCleast_sum, fiCleast_sum, kkCleast_sum⟩, ok_ls FL B12 B13 rc B_range, bL⟩
  have MB : Mt l.prog w K mg base C "bound" ["self", "first", "end"] (spBound C) 3 := ⟨_, _, ⟨faCbound, fiCbound, kkCbound⟩, ok_bound FB (B12.up (by decide)) ML rc B_len B_range, bB⟩
  have MP : Mt l.prog w K mg base C "put" ["self", "first", "end", "floor"] (spPut C) 3 := ⟨_, _, ⟨faCput, fiCput, kkCput⟩, ok_put FP (B12.up (by decide)) (B13.up (by decide)) ML rc B_len B_range, bP⟩
  have MR : Mt l.prog w K mg base C "bound_row" ["self", "first"] (spBrow C) 4 := ⟨_, _, ⟨faCbound_row, fiCbound_row, kkCbound_row⟩, ok_brow FR MB rc B_range, bR⟩
  have MS : Mt l.prog w K mg base C "bounds" ["self"] (spBounds C) 5 := ⟨_, _, ⟨faCbounds, fiCbounds, kkCbounds⟩, ok_bounds FS MR rc B_range, bS⟩
  have MW : Mt l.prog w K mg base C "ways" ["self", "letter", "first", "end"] (spWays C) 3 := ⟨_, _, ⟨faCways, fiCways, kkCways⟩, (ok_ways FW (B13.up (by decide)) rc B_len B_range).mono (by decide), bW⟩
  have cl : Cl l.prog w K mg base C := ⟨rc, PySem.W.mg_of X G gC, _, _, ⟨mkC, faCinit, fiCinit, kcC⟩, ok_pinit FI B9 B11 rc B_len B_range, bI⟩
  have B14 : Fns l.prog w K mg base ["prices", "weights"] "parted_least" (spPl C) 5 := ⟨_, _, ok_pl F14 cl (MP.up (by decide)) (MB.up (by decide)) B_len B_range, b14, k14, m14⟩
  have B16 : Fns l.prog w K mg base ["prices", "weights"] "least_floors" spLf2 6 := ⟨_, _, ok_lf2 F16 B14 MS rc, b16, k16, m16⟩
  obtain ⟨bm, BM⟩ := hBM
  have LC : LamC K mg base c0 T bm := ⟨lhd, BM.hbm, BM.bo, BM.b1, BM.b2, BM.b3 T hT, BM.b4 T hT⟩
  have B18 : Fns l.prog w K mg base ["parted", "first", "end"] "kept_words" (spKw C T 20) 64 := ⟨_, _, ok_kw F18 hcd LC m18 k18 b18 F15 m15 k15 b15 MW rc 20, b18, k18, m18⟩
  have B17 : Fns l.prog w K mg base ["prices", "weights"] "cheapest_kept" (spCk T) 65 := ⟨_, _, ok_ck (by decide) F17 B14 MS B18 rc B_len B_tuple, b17, k17, m17⟩
  have B1 : Fns l.prog w K mg base ["number"] "is_amount" spIs 1 := ⟨_, _, ok_is F1, b1, k1, m1⟩
  have B2 : Fns l.prog w K mg base ["word", "letters"] "has_letters_alone" spAlone 1 := ⟨_, _, ok_alone F2 B_all, b2, k2, m2⟩
  have B3 : Fns l.prog w K mg base ["prices", "word"] "word_price" K98.Q.spPrice 2 := ⟨_, _, K98.Q.ok_price F3 B2 B_len B_sum, b3, k3, m3⟩
  have B8 : Fns l.prog w K mg base ["prices", "weights", "code"] "cost" spPCost 3 := ⟨_, _, ok_pcost F8 B3 B_len B_sum B_zip, b8, k8, m8⟩
  have B4 : Fns l.prog w K mg base ["one", "other"] "begins" spBegins 1 := ⟨_, _, ok_begins F4 B_len, b4, k4, m4⟩
  have B5 : Fns l.prog w K mg base ["code"] "clash" spClash 2 := ⟨_, _, ok_clash F5 B4 B_len B_range, b5, k5, m5⟩
  have B6 : Fns l.prog w K mg base ["code"] "rises" spRises 2 := ⟨_, _, (ok_rises F6 B_len B_range B_all).mono (by decide), b6, k6, m6⟩
  have B7 : Fns l.prog w K mg base ["code"] "is_kept" spKept 6 := ⟨_, _, (ok_kept F7 B6 B5).mono (by decide), b7, k7, m7⟩
  have B19 : Fns l.prog w K mg base ["prices", "weights", "code"] "is_cheapest_kept" spIck 7 := ⟨_, _, ok_ick F19 (B8.up (by decide)) B16 B7, b19, k19, m19⟩
  have B22 : Fns l.prog w K mg base ["prices", "letter"] "refuse_letter" spRL 2 := ⟨_, _, (ok_RL F22 B_len).mono (by decide), b22, k22, m22⟩
  have B23 : Fns l.prog w K mg base ["weights", "thing"] "refuse_thing" spRL 2 := ⟨_, _, (ok_RT F23 B_len).mono (by decide), b23, k23, m23⟩
  have B24 : Fns l.prog w K mg base ["numbers", "at", "number"] "with_number" spWN 2 := ⟨_, _, ok_WN F24 B1, b24, k24, m24⟩
  have B20 : Fns l.prog w K mg base ["prices", "letter", "number"] "price_moved" spWN 3 := ⟨_, _, ok_PM F20 B22 B24, b20, k20, m20⟩
  have B21 : Fns l.prog w K mg base ["weights", "thing", "number"] "weight_moved" spWN 3 := ⟨_, _, ok_WM F21 B23 B24, b21, k21, m21⟩
  have B25 : Fns l.prog w K mg base ["prices", "weights", "code", "letter"] "price_share" spPS 4 := ⟨_, _, ok_ps F25 B8 (B22.up (by decide)) B_sum B_zip, b25, k25, m25⟩
  have B26 : Fns l.prog w K mg base ["prices", "weights", "code", "thing"] "weight_share" spWS 4 := ⟨_, _, ok_ws F26 B8 (B23.up (by decide)) (B3.up (by decide)), b26, k26, m26⟩
  have clM : ClM true l.prog w K mg base M := ⟨rcM, PySem.W.mg_of X G gM, _, _, ⟨mkM, faMinit, fiMinit, kcM⟩, ok_minitP FMI rcM, bMI⟩
  have MTN : Mt l.prog w K mg base M "now" ["self"] (spNow true M) 1 := ⟨_, _, ⟨faMnow, fiMnow, kkMnow⟩, ok_nowP FMN rcM, bMN⟩
  have MTS : Mt l.prog w K mg base M "share" ["self", "code"] (spShr true M) 5 := ⟨_, _, ⟨faMshare, fiMshare, kkMshare⟩, ok_shrP FMH rcM B25, bMH⟩
  have MTA : Mt l.prog w K mg base M "cheapest_at" ["self", "number"] (spAt true M T) 66 := ⟨_, _, ⟨faMcheapest_at, fiMcheapest_at, kkMcheapest_at⟩, ok_atP (by decide) FMA rcM B20 B17, bMA⟩
  have B27M : Fns l.prog w K mg base ["move", "code", "far"] "end_towards" (spEt true M T) 67 := ⟨_, _, ok_et (by decide) F27 rcM MTN MTS MTA B8 B_abs, b27, k27, m27⟩
  have B28M : Fns l.prog w K mg base ["move", "code"] "both_ends" (spBe true M T) 68 := ⟨_, _, ok_be (by decide) F28 rcM MTS B19 B27M, b28, k28, m28⟩
  have B29M : Fns l.prog w K mg base ["move", "code"] "stretch_of" (spSo true M T) 69 := ⟨_, _, ok_so F29 B28M, b29, k29, m29⟩
  have clN : ClM false l.prog w K mg base N := ⟨rcN, PySem.W.mg_of X G gN, _, _, ⟨mkN, faNinit, fiNinit, kcN⟩, ok_minitW FNI rcN, bNI⟩
  have NTN : Mt l.prog w K mg base N "now" ["self"] (spNow false N) 1 := ⟨_, _, ⟨faNnow, fiNnow, kkNnow⟩, ok_nowW FNN rcN, bNN⟩
  have NTS : Mt l.prog w K mg base N "share" ["self", "code"] (spShr false N) 5 := ⟨_, _, ⟨faNshare, fiNshare, kkNshare⟩, ok_shrW FNH rcN B26, bNH⟩
  have NTA : Mt l.prog w K mg base N "cheapest_at" ["self", "number"] (spAt false N T) 66 := ⟨_, _, ⟨faNcheapest_at, fiNcheapest_at, kkNcheapest_at⟩, ok_atW (by decide) FNA rcN B21 B17, bNA⟩
  have B27N : Fns l.prog w K mg base ["move", "code", "far"] "end_towards" (spEt false N T) 67 := ⟨_, _, ok_et (by decide) F27 rcN NTN NTS NTA B8 B_abs, b27, k27, m27⟩
  have B28N : Fns l.prog w K mg base ["move", "code"] "both_ends" (spBe false N T) 68 := ⟨_, _, ok_be (by decide) F28 rcN NTS B19 B27N, b28, k28, m28⟩
  have B29N : Fns l.prog w K mg base ["move", "code"] "stretch_of" (spSo false N T) 69 := ⟨_, _, ok_so F29 B28N, b29, k29, m29⟩
  have B30 : Fns l.prog w K mg base ["prices", "weights", "code", "letter"] "price_stretch" (spPst true T) 70 := ⟨_, _, ok_pst (by decide) F30 clM B29M, b30, k30, m30⟩
  have B31 : Fns l.prog w K mg base ["prices", "weights", "code", "thing"] "weight_stretch" (spPst false T) 70 := ⟨_, _, ok_wst (by decide) F31 clN B29N, b31, k31, m31⟩
  have MY : Mt l.prog w K mg base D "by_way" NBy (spBy D) 3 := ⟨_, _, ⟨faDby_way, fiDby_way, kkDby_way⟩, (ok_by FY rd).mono (by decide), bY⟩
  have MO : Mt l.prog w K mg base D "over_ways" NOv (spOver C D) 4 := ⟨_, _, ⟨faDover_ways, fiDover_ways, kkDover_ways⟩, ok_over FO MW MY rc rd B_sum, bO⟩
  have MCc : Mt l.prog w K mg base D "put_counts" ["self", "first", "end"] (spPutC C D) 5 := ⟨_, _, ⟨faDput_counts, fiDput_counts, kkDput_counts⟩, ok_putc FQ MO rd B_range, bQ⟩
  have cd : ClC l.prog w K mg base C D := ⟨rd, PySem.W.mg_of X G gD, _, _, ⟨mkD, faDinit, fiDinit, kcD⟩, ok_cinit FJ B14 (B11.up (by decide)) MCc rd B_len B_range, bJ⟩
  have OWT := ok_wt (C := C) (D := D) F33 F34 m33 k33 b33 m34 k34 b34 MW MY rc rd 20
  have B33 : Fns l.prog w K mg base ["counts", "number", "first", "end"] "words_by" (spWb C D 20) 24 := ⟨_, _, OWT.1, b33, k33, m33⟩
  have B32 : Fns l.prog w K mg base ["prices", "weights", "number"] "numbered" spNum 25 := ⟨_, _, ok_nu F32 cd B33 B_len B_tuple, b32, k32, m32⟩
  have B35 : Fns l.prog w K mg base ["script", "size"] "_law_folded" (spFold K) 1 := ⟨_, _, ok_fold F35 B_len B_range B_list, b35, k35, m35⟩
  have B36 : Fns l.prog w K mg base ["script", "k"] "_law_cell_at" (K98.Q.spCell K) 1 := ⟨_, _, K98.Q.ok_cell F36 B_len, b36, k36, m36⟩
  have B37 : Fns l.prog w K mg base ["cell"] "_law_amount" spAmount 1 := ⟨_, _, ok_amount F37, b37, k37, m37⟩
  have B40 : Fns l.prog w K mg base ["ends", "cell"] "_law_number" spLn 2 := ⟨_, _, ok_ln F40 B37 B_max B_min, b40, k40, m40⟩
  have B38 : Fns l.prog w K mg base ["prices", "weights", "way", "at", "number"] "_law_moved" spLm 4 := ⟨_, _, ok_lm F38 B20 B21, b38, k38, m38⟩
  have B17M : Fns l.prog w K mg base ["prices", "weights"] "cheapest_kept" (spCkM T) 65 := ⟨B17.g, B17.gd, ck_m B17.ok, B17.b, B17.kp, B17.m⟩
  have B39 : Fns l.prog w K mg base ["prices", "weights", "way", "at", "number"] "_law_least" (spLl T) 66 := ⟨_, _, ok_ll F39 (B38.up (by decide)) B17M, b39, k39, m39⟩
  exact ok_law F41 (k := 72) (B35.up (by decide)) (B36.up (by decide)) (B37.up (by decide)) (B32.up (by decide)) (B8.up (by decide)) (B25.up (by decide)) (B26.up (by decide)) (B30.up (by decide)) (B31.up (by decide)) (B40.up (by decide)) (B38.up (by decide)) (B39.up (by decide)) B_len B_range B_tuple B_list B_sum
theorem walk {l : PySem.W.OpenLaw} {q : Program} {loose : List Str} {XP : (Str → Option Value) → Heap → Prop} {YP : World → Heap → Prop} {d : DefRec} {K : Params → PySem.W.Frag} {ts : List Addr} {T : Addr} (hT : T ∈ ts) (hn : l.most = some 63) (hdf : d.params.defaults = [])
    (hY : ∀ (w : World) (h : Heap), YP w h → (K w.params).In h ∧ ∀ T ∈ ts, h.get? T = some (PySem.W.tabObj #[]))
    (hC : ∀ (w : World), ∀ T ∈ ts, (∃ c, PySem.W.codeHdIn (K w.params) c T = true) ∧ (K w.params).lookup T = none)
    (F : ∀ (w : World) (mg : Str → Option Value) (fa : Addr) (h : Heap), (K w.params).In h → h.Ns mainGlobals mg → mg d.name = some (.ref fa) →
      ∃ fd : FuncData, (∀ (s : Shared) (u : Value), BindsTo s fd ⟨[u], []⟩ [("script", u)]) ∧ ∀ base : Heap, (K w.params).In base → base.Ns mainGlobals mg → (∃ bm, L2.BMod mg base ts bm) → FnOk l.prog w (K w.params) mg base CX0 73 fa fd ["script"] (spLaw (K w.params) T)) :
    PySem.W.WalkO q loose XP YP l.row.toRowW d [] (fun f vs => PySem.call f vs) :=
  L2.walk_ofT (n := 63) (k := 73) (x := "script") (ts := ts) (CX := fun _ => CX0) (sp := fun w => spLaw (K w.params) T) hn (by decide) hdf ⟨rfl, by decide, by decide⟩ hY hC F (fun _ _ a ns hl hO hS => ⟨a, ns, rfl, hS, hl, .inl (hO T hT), fun _ => rfl⟩) fun _ _ _ _ _ z => z
end K98.Q
namespace PySem.W.Fast
def tw14783950946266845537:=0
def tw5548167319955268141:=0
def tw5355144340108699310:=0
def tw991151798831569403:=0
def tw3300045084267440671:=0
def tw11231528879252208434:=0
def tw15445195803313021939:=0
def tw12875234459770556243:=0
def tw9961016943446847494:=0
def tw14529211300338231389:=0
def tw8088552682494454813:=0
def tw15174085445707238220:=0
def tw1556953098985886015:=0
def tw15287049324552922720:=0
def tw9767791000151516035:=0
def tw12656939928344127705:=0
def tw1423962616813753517:=0
def tw14987946555188951023:=0
def tw15809182929549070380:=0
def tw4846966166751875630:=0
def tw12418121739018530667:=0
def tw3343367764521671224:=0
def tw6629701603122958427:=0
def tw16423430540197810834:=0
def tw4153410850089971906:=0
def tw5743267778331341366:=0
def tw603335947441522146:=0
def tw8717070504473452577:=0
def tw3975682920614165636:=0
def tw901082333097959046:=0
def tw11265442309255511499:=0
def tw8846947010341508255:=0
def tw8906182122461989171:=0
def tw2061223582991324827:=0
def tw2794281799433358385:=0
def tw4527227845706580183:=0
def tw11543296711682156309:=0
def tw16751409350731845948:=0
def tw14914822706536111650:=0
def tw8987923993031628302:=0
def tw18349673015842568337:=0
def tw4422326320063778499:=0
def tw14671228472314952021:=0
def tw18248215194830396299:=0
def tw13503264893178553027:=0
def tw8046830181032411841:=0
def tw5459786702497870345:=0
def tw7919533302613576272:=0
def tw13563904566198351218:=0
def tw17041596942219246682:=0
def tw15906937440999360833:=0
def tw15913523323711476417:=0
def tw17088083315516190035:=0
def tw2236562217713985634:=0
def tw9377751549904432580:=0
def tw983505459439467240:=0
def tw6445220581609856250:=0
def tw15758152477986811348:=0
def tw12375463124210866132:=0
def tw17940436985861626179:=0
def tw8499094437745626223:=0
def tw7232974978246527943:=0
def tw3944368722162647727:=0
def tw7489707563274343162:=0
def tw9378319983154310261:=0
def tw11660435307610006494:=0
def tw13716703676638908121:=0
def tw16435827019258035739:=0
def tw3430888198530224382:=0
def tw17486621374584727182:=0
def tw4448393704560462347:=0
def tw13849010699078374576:=0
def tw15990814466809701760:=0
def tw14607303154531455333:=0
def tw14605961412308358443:=0
def tw3622732184177928099:=0
def tw5202448131858332529:=0
def tw9115144464955443251:=0
def tw1929047603790983409:=0
def tw12099465097362516328:=0
def tw4184718626298563428:=0
def tw11762887290626866102:=0
def tw18418737352480480781:=0
def tw7970950517192546832:=0
def tw16886206155787862123:=0
def tw1315139541440452720:=0
def tw4647435955140345133:=0
def tw2031817704295859886:=0
def tw10706521331851292028:=0
def tw15965065807640263534:=0
def tw3800080714384669709:=0
def tw3216630987709872963:=0
def tw17208070903087283752:=0
def tw764045777090667017:=0
def tw906324297652279861:=0
def tw11007587366746232224:=0
def tw9463113050370589837:=0
def tw5200524923517697426:=0
def tw8369568966408675824:=0
def tw12759407010957190222:=0
def tw10437361215957141498:=0
def tw16553145188866620823:=0
def tw8510483987711570648:=0
def tw10646696082771734002:=0
def tw12237030073287614389:=0
def tw17979412688656863811:=0
def tw3320508216232983139:=0
def tw12490441824760446134:=0
def tw3091519951312672949:=0
def tw17916466339708481616:=0
def tw13249669891539976269:=0
def tw3094834264288104856:=0
def tw6444521169828929695:=0
def tw14808948746028368522:=0
def tw10664565267003083125:=0
def tw5268360867378867954:=0
def tw17819917825386392784:=0
def tw15416760063972769379:=0
def tw5659673811569378554:=0
def tw8234409005263066324:=0
def tw6078265807118652490:=0
def tw4771239965750800121:=0
def tw3992450390770342658:=0
def tw2496356558434312793:=0
def tw8890691491795786944:=0
def tw16784022230936681906:=0
def tw8891394655874477802:=0
def tw3481778677587820262:=0
def tw16887519980083600670:=0
def tw16058056721603275719:=0
def tw18436001712505486476:=0
def tw3337153526993763915:=0
def tw17330055553544383093:=0
def tw8918600902203510695:=0
def tw4804854823206414603:=0
def tw14091675721518282364:=0
def tw9712903269061010346:=0
def tw10741704634957970956:=0
def tw613445700721759282:=0
def tw4259739860057274107:=0
def tw513906537642029786:=0
def tw680329174214700227:=0
def tw8443432056610818479:=0
def tw8865115974651978383:=0
def tw11891186342665643025:=0
def tw3001909480846176425:=0
def tw12295226201109587097:=0
def tw8678882509909794833:=0
def tw12853146171528393299:=0
def tw14942590211768886478:=0
def tw16438081831230513961:=0
def tw3918987860144731181:=0
def tw12810902104355748239:=0
def tw7687618112260475856:=0
def tw4051440420694714804:=0
def tw7229121216880673094:=0
def tw10555739539484148589:=0
def tw13247072813773219621:=0
def tw11180028872189577196:=0
def tw6464888895846312959:=0
def tw4155373630946377535:=0
def tw441869588885037102:=0
def tw7770312684539418724:=0
def tw8474784671039712309:=0
def tw5891881557585579824:=0
def tw4728432781304115510:=0
def tw3054804459809207846:=0
def tw7990526041649884187:=0
def tw7187935653321305654:=0
def tw147292376367700037:=0
def tw650645539382629741:=0
def tw765398043906448303:=0
def tw4835605745128993858:=0
def tw6743955918001112995:=0
def tw16874243052306561246:=0
def tw141774636339699555:=0
def tw13421826555500062275:=0
def tw10117958944434285471:=0
def tw16343324869551942728:=0
def tw14495969525066952372:=0
def tw11398615361130823130:=0
def tw2334113686891594366:=0
def tw11820693327002057328:=0
def tw16461634360115058181:=0
def tw7046921395286631830:=0
def tw15604873587565474410:=0
def tw13427824028879316267:=0
def tw18270267607662605139:=0
def tw12578665750170490376:=0
def tw13565120947132495623:=0
def tw11861139531416561973:=0
def tw8158760382766406789:=0
def tw1231021729647818512:=0
def tw8409745549428008215:=0
def tw11531280986325681907:=0
def tw17137300303587166773:=0
def tw15325576539232450442:=0
def tw9226106918828392002:=0
def tw6377942280486276482:=0
def tw18194113911908686581:=0
def tw16166598936583479230:=0
def tw5375248863584780019:=0
def tw4344070150021015701:=0
def tw4215215844619909740:=0
def tw14673763438203210820:=0
def tw3916698978753130507:=0
def tw17081144371203279953:=0
def tw15480802662328451390:=0
def tw17892995830946339958:=0
def tw985550319466422982:=0
def tw8583635065141103586:=0
def tw8385148261406854708:=0
def tw4668696398399097818:=0
def tw339892087291283471:=0
def tw2375844714928733725:=0
def tw16822900408414080799:=0
def tw15419145485713985987:=0
def tw15354805550278109675:=0
def tw13765663446233093476:=0
def tw11740213196509456535:=0
def tw10862473607991478612:=0
def tw9707590189924677262:=0
def tw1048570080047979639:=0
def tw4613901911481610705:=0
def tw5072383881232022074:=0
def tw15916106871425050890:=0
def tw11996943567002639198:=0
def tw10142391685604600509:=0
def tw8180083720953354934:=0
def tw8164104091216990266:=0
def tw659798597394514328:=0
def tw6112037765576401491:=0
def tw5911393452284329172:=0
def tw5515880158647716651:=0
def tw5348062696479834211:=0
def tw401017001469492200:=0
def tw3517104913255973836:=0
def tw2548464365153093249:=0
def tw1999611148302546126:=0
def tw17321498136800253738:=0
def tw160163087567447451:=0
def tw15494022904798731178:=0
def tw14485955096564870420:=0
def tw12216343075837073710:=0
def tw10285977356947957898:=0
def tw2928873761239270127:=0
def tw8091144778951799569:=0
def tw2759619390629185617:=0
def tw8175679873396805225:=0
def tw7858506859459739183:=0
def tw5961442759553851676:=0
def tw5134832414285720082:=0
def tw4646299725268472048:=0
def tw4475195932460376618:=0
def tw17160709140941170208:=0
def tw1491566921106333405:=0
def tw13441420694078740124:=0
def tw1163100219414218132:=0
def tw13952821798158267995:=0
def tw17173446877620793358:=0
def tw2636251544518302156:=0
def tw15974001163210756423:=0
def tw7094198223744689378:=0
def tw3707571847303928184:=0
def tw16678333259387459560:=0
def tw14098739077509649019:=0
def tw12062563835790731800:=0
def tw11297180294493564989:=0
def tw9910597286246509642:=0
def tw7494675720607743515:=0
def tw4171181312730205516:=0
def tw9490693553863519841:=0
def tw9249771153828333924:=0
def tw7957208034421485670:=0
def tw7507989124790602534:=0
def tw6974586219592053395:=0
def tw6970818360733345336:=0
def tw6634604932959673288:=0
def tw5376878999514623798:=0
def tw5034329888604791878:=0
def tw4823706400510645740:=0
def tw4232809049191867717:=0
def tw4173694166380291683:=0
def tw3664123214390768734:=0
def tw3618674556833431211:=0
def tw3613256080826347497:=0
def tw3306936604904099849:=0
def tw2642073671080823535:=0
def tw2290339871671272400:=0
def tw2243574665647123616:=0
def tw2171101073105013518:=0
def tw2126581390603966363:=0
def tw18271346659136770607:=0
def tw18187182143016693074:=0
def tw17773406471705084231:=0
def tw17024400433120068637:=0
def tw15988067169174943644:=0
def tw15804823829201961569:=0
def tw1520419397872456438:=0
def tw14760584158545741216:=0
end PySem.W.Fast
open PySem PySem.W PyProof.Rows
set_option maxRecDepth 100000 in
set_option maxHeartbeats 0 in
theorem PySem.Challenge.cw_lettertoll_k98_whole_costs_of_moved_numb_holds : PySem.Challenge.rw_lettertoll_k98_whole_costs_of_moved_numb.Holds := by
  w_on; o_law; k_head; (case hw => w_witness2)
  k_fill
  refine K98.Q.walk (T := 247) (l := PySem.Challenge.rw_lettertoll_k98_whole_costs_of_moved_numb) ?hT rfl rfl (fun w h Y => ⟨PySem.W.km_in_of Y, PySem.W.km_tabs_of Y⟩) ?hC ?F
  (case hT => exact List.mem_singleton.mpr rfl)
  (case hC => intro w T hT; cases List.mem_singleton.mp hT; exact ⟨⟨251, by kernel_rfl⟩, by kernel_rfl⟩)
  case F =>
    intro w mg fa h KX G hmg
    refine' K98.Q.all_mk (List.mem_singleton.mpr rfl) KX G hmg ?a1 ?l1 ?c1 ?k1 ?a2 ?l2 ?c2 ?k2 ?a3 ?l3 ?c3 ?k3 ?a4 ?l4 ?c4 ?k4 ?a5 ?l5 ?c5 ?k5 ?a6 ?l6 ?c6 ?k6 ?a7 ?l7 ?c7 ?k7 ?a8 ?l8 ?c8 ?k8 ?a9 ?l9 ?c9 ?k9 ?a10 ?l10 ?c10 ?k10 ?a11 ?l11 ?c11 ?k11 ?a12 ?l12 ?c12 ?k12 ?a13 ?l13 ?c13 ?k13 ?a14 ?l14 ?c14 ?k14 ?a15 ?l15 ?c15 ?k15 ?a16 ?l16 ?c16 ?k16 ?a17 ?l17 ?c17 ?k17 ?a18 ?l18 ?c18 ?k18 ?a19 ?l19 ?c19 ?k19 ?a20 ?l20 ?c20 ?k20 ?a21 ?l21 ?c21 ?k21 ?a22 ?l22 ?c22 ?k22 ?a23 ?l23 ?c23 ?k23 ?a24 ?l24 ?c24 ?k24 ?a25 ?l25 ?c25 ?k25 ?a26 ?l26 ?c26 ?k26 ?a27 ?l27 ?c27 ?k27 ?a28 ?l28 ?c28 ?k28 ?a29 ?l29 ?c29 ?k29 ?a30 ?l30 ?c30 ?k30 ?a31 ?l31 ?c31 ?k31 ?a32 ?l32 ?c32 ?k32 ?a33 ?l33 ?c33 ?k33 ?a34 ?l34 ?c34 ?k34 ?a35 ?l35 ?c35 ?k35 ?a36 ?l36 ?c36 ?k36 ?a37 ?l37 ?c37 ?k37 ?a38 ?l38 ?c38 ?k38 ?a39 ?l39 ?c39 ?k39 ?a40 ?l40 ?c40 ?k40 ?a41 ?l41 ?c41 ?k41 ?z1 ?z2 ?z3 ?z4 ?z5 ?z6 ?z7 ?z8 ?z9 ?z10 ?gC ?faCinit ?fiCinit ?liCinit ?ciCinit ?kkCinit ?faCput ?fiCput ?liCput ?ciCput ?kkCput ?faCleast_sum ?fiCleast_sum ?liCleast_sum ?ciCleast_sum ?kkCleast_sum ?faCbound ?fiCbound ?liCbound ?ciCbound ?kkCbound ?faCbound_row ?fiCbound_row ?liCbound_row ?ciCbound_row ?kkCbound_row ?faCbounds ?fiCbounds ?liCbounds ?ciCbounds ?kkCbounds ?faCways ?fiCways ?liCways ?ciCways ?kkCways ?pgC ?hdC ?poC ?saC ?mkC ?kcC ?naCprices ?naCthings ?naCsums ?naCheads ?naCtails ?gD ?faDinit ?fiDinit ?liDinit ?ciDinit ?kkDinit ?faDput_counts ?fiDput_counts ?liDput_counts ?ciDput_counts ?kkDput_counts ?faDover_ways ?fiDover_ways ?liDover_ways ?ciDover_ways ?kkDover_ways ?faDby_way ?fiDby_way ?liDby_way ?ciDby_way ?kkDby_way ?pgD ?hdD ?poD ?saD ?mkD ?kcD ?naDparted ?naDletters ?naDcodes ?naDtails ?gM ?faMinit ?fiMinit ?liMinit ?ciMinit ?kkMinit ?faMnow ?fiMnow ?liMnow ?ciMnow ?kkMnow ?faMshare ?fiMshare ?liMshare ?ciMshare ?kkMshare ?faMcheapest_at ?fiMcheapest_at ?liMcheapest_at ?ciMcheapest_at ?kkMcheapest_at ?pgM ?hdM ?poM ?saM ?mkM ?kcM ?naMprices ?naMweights ?naMletter ?gN ?faNinit ?fiNinit ?liNinit ?ciNinit ?kkNinit ?faNnow ?fiNnow ?liNnow ?ciNnow ?kkNnow ?faNshare ?fiNshare ?liNshare ?ciNshare ?kkNshare ?faNcheapest_at ?fiNcheapest_at ?liNcheapest_at ?ciNcheapest_at ?kkNcheapest_at ?pgN ?hdN ?poN ?saN ?mkN ?kcN ?naNprices ?naNweights ?naNthing ?hcd ?lhd
    (case a1 => k_is); (case l1 => k_is); (case c1 => k_is); (case k1 => k_is)
    (case a2 => k_is); (case l2 => k_is); (case c2 => k_is); (case k2 => k_is)
    (case a3 => k_is); (case l3 => k_is); (case c3 => k_is); (case k3 => k_is)
    (case a4 => k_is); (case l4 => k_is); (case c4 => k_is); (case k4 => k_is)
    (case a5 => k_is); (case l5 => k_is); (case c5 => k_is); (case k5 => k_is)
    (case a6 => k_is); (case l6 => k_is); (case c6 => k_is); (case k6 => k_is)
    (case a7 => k_is); (case l7 => k_is); (case c7 => k_is); (case k7 => k_is)
    (case a8 => k_is); (case l8 => k_is); (case c8 => k_is); (case k8 => k_is)
    (case a9 => k_is); (case l9 => k_is); (case c9 => k_is); (case k9 => k_is)
    (case a10 => k_is); (case l10 => k_is); (case c10 => k_is); (case k10 => k_is)
    (case a11 => k_is); (case l11 => k_is); (case c11 => k_is); (case k11 => k_is)
    (case a12 => k_is); (case l12 => k_is); (case c12 => k_is); (case k12 => k_is)
    (case a13 => k_is); (case l13 => k_is); (case c13 => k_is); (case k13 => k_is)
    (case a14 => k_is); (case l14 => k_is); (case c14 => k_is); (case k14 => k_is)
    (case a15 => k_is); (case l15 => k_is); (case c15 => k_is); (case k15 => k_is)
    (case a16 => k_is); (case l16 => k_is); (case c16 => k_is); (case k16 => k_is)
    (case a17 => k_is); (case l17 => k_is); (case c17 => k_is); (case k17 => k_is)
    (case a18 => k_is); (case l18 => k_is); (case c18 => k_is); (case k18 => k_is)
    (case a19 => k_is); (case l19 => k_is); (case c19 => k_is); (case k19 => k_is)
    (case a20 => k_is); (case l20 => k_is); (case c20 => k_is); (case k20 => k_is)
    (case a21 => k_is); (case l21 => k_is); (case c21 => k_is); (case k21 => k_is)
    (case a22 => k_is); (case l22 => k_is); (case c22 => k_is); (case k22 => k_is)
    (case a23 => k_is); (case l23 => k_is); (case c23 => k_is); (case k23 => k_is)
    (case a24 => k_is); (case l24 => k_is); (case c24 => k_is); (case k24 => k_is)
    (case a25 => k_is); (case l25 => k_is); (case c25 => k_is); (case k25 => k_is)
    (case a26 => k_is); (case l26 => k_is); (case c26 => k_is); (case k26 => k_is)
    (case a27 => k_is); (case l27 => k_is); (case c27 => k_is); (case k27 => k_is)
    (case a28 => k_is); (case l28 => k_is); (case c28 => k_is); (case k28 => k_is)
    (case a29 => k_is); (case l29 => k_is); (case c29 => k_is); (case k29 => k_is)
    (case a30 => k_is); (case l30 => k_is); (case c30 => k_is); (case k30 => k_is)
    (case a31 => k_is); (case l31 => k_is); (case c31 => k_is); (case k31 => k_is)
    (case a32 => k_is); (case l32 => k_is); (case c32 => k_is); (case k32 => k_is)
    (case a33 => k_is); (case l33 => k_is); (case c33 => k_is); (case k33 => k_is)
    (case a34 => k_is); (case l34 => k_is); (case c34 => k_is); (case k34 => k_is)
    (case a35 => k_is); (case l35 => k_is); (case c35 => k_is); (case k35 => k_is)
    (case a36 => k_is); (case l36 => k_is); (case c36 => k_is); (case k36 => k_is)
    (case a37 => k_is); (case l37 => k_is); (case c37 => k_is); (case k37 => k_is)
    (case a38 => k_is); (case l38 => k_is); (case c38 => k_is); (case k38 => k_is)
    (case a39 => k_is); (case l39 => k_is); (case c39 => k_is); (case k39 => k_is)
    (case a40 => k_is); (case l40 => k_is); (case c40 => k_is); (case k40 => k_is)
    (case a41 => k_is); (case l41 => k_is); (case c41 => k_is); (case k41 => k_is)
    (case z1 => k_is)
    (case z2 => k_is)
    (case z3 => k_is)
    (case z4 => k_is)
    (case z5 => k_is)
    (case z6 => k_is)
    (case z7 => k_is)
    (case z8 => k_is)
    (case z9 => k_is)
    (case z10 => k_is)
    (case gC => k_is)
    (case faCinit => k_is)
    (case fiCinit => k_is)
    (case liCinit => k_is)
    (case ciCinit => k_is)
    (case kkCinit => k_is)
    (case faCput => k_is)
    (case fiCput => k_is)
    (case liCput => k_is)
    (case ciCput => k_is)
    (case kkCput => k_is)
    (case faCleast_sum => k_is)
    (case fiCleast_sum => k_is)
    (case liCleast_sum => k_is)
    (case ciCleast_sum => k_is)
    (case kkCleast_sum => k_is)
    (case faCbound => k_is)
    (case fiCbound => k_is)
    (case liCbound => k_is)
    (case ciCbound => k_is)
    (case kkCbound => k_is)
    (case faCbound_row => k_is)
    (case fiCbound_row => k_is)
    (case liCbound_row => k_is)
    (case ciCbound_row => k_is)
    (case kkCbound_row => k_is)
    (case faCbounds => k_is)
    (case fiCbounds => k_is)
    (case liCbounds => k_is)
    (case ciCbounds => k_is)
    (case kkCbounds => k_is)
    (case faCways => k_is)
    (case fiCways => k_is)
    (case liCways => k_is)
    (case ciCways => k_is)
    (case kkCways => k_is)
    (case pgC => k_is)
    (case hdC => k_is)
    (case poC => k_is)
    (case saC => k_is)
    (case mkC => k_is)
    (case kcC => k_is)
    (case naCprices => k_is)
    (case naCthings => k_is)
    (case naCsums => k_is)
    (case naCheads => k_is)
    (case naCtails => k_is)
    (case gD => k_is)
    (case faDinit => k_is)
    (case fiDinit => k_is)
    (case liDinit => k_is)
    (case ciDinit => k_is)
    (case kkDinit => k_is)
    (case faDput_counts => k_is)
    (case fiDput_counts => k_is)
    (case liDput_counts => k_is)
    (case ciDput_counts => k_is)
    (case kkDput_counts => k_is)
    (case faDover_ways => k_is)
    (case fiDover_ways => k_is)
    (case liDover_ways => k_is)
    (case ciDover_ways => k_is)
    (case kkDover_ways => k_is)
    (case faDby_way => k_is)
    (case fiDby_way => k_is)
    (case liDby_way => k_is)
    (case ciDby_way => k_is)
    (case kkDby_way => k_is)
    (case pgD => k_is)
    (case hdD => k_is)
    (case poD => k_is)
    (case saD => k_is)
    (case mkD => k_is)
    (case kcD => k_is)
    (case naDparted => k_is)
    (case naDletters => k_is)
    (case naDcodes => k_is)
    (case naDtails => k_is)
    (case gM => k_is)
    (case faMinit => k_is)
    (case fiMinit => k_is)
    (case liMinit => k_is)
    (case ciMinit => k_is)
    (case kkMinit => k_is)
    (case faMnow => k_is)
    (case fiMnow => k_is)
    (case liMnow => k_is)
    (case ciMnow => k_is)
    (case kkMnow => k_is)
    (case faMshare => k_is)
    (case fiMshare => k_is)
    (case liMshare => k_is)
    (case ciMshare => k_is)
    (case kkMshare => k_is)
    (case faMcheapest_at => k_is)
    (case fiMcheapest_at => k_is)
    (case liMcheapest_at => k_is)
    (case ciMcheapest_at => k_is)
    (case kkMcheapest_at => k_is)
    (case pgM => k_is)
    (case hdM => k_is)
    (case poM => k_is)
    (case saM => k_is)
    (case mkM => k_is)
    (case kcM => k_is)
    (case naMprices => k_is)
    (case naMweights => k_is)
    (case naMletter => k_is)
    (case gN => k_is)
    (case faNinit => k_is)
    (case fiNinit => k_is)
    (case liNinit => k_is)
    (case ciNinit => k_is)
    (case kkNinit => k_is)
    (case faNnow => k_is)
    (case fiNnow => k_is)
    (case liNnow => k_is)
    (case ciNnow => k_is)
    (case kkNnow => k_is)
    (case faNshare => k_is)
    (case fiNshare => k_is)
    (case liNshare => k_is)
    (case ciNshare => k_is)
    (case kkNshare => k_is)
    (case faNcheapest_at => k_is)
    (case fiNcheapest_at => k_is)
    (case liNcheapest_at => k_is)
    (case ciNcheapest_at => k_is)
    (case kkNcheapest_at => k_is)
    (case pgN => k_is)
    (case hdN => k_is)
    (case poN => k_is)
    (case saN => k_is)
    (case mkN => k_is)
    (case kcN => k_is)
    (case naNprices => k_is)
    (case naNweights => k_is)
    (case naNthing => k_is)
    (case hcd => rfl)
    (case lhd => kernel_rfl)
