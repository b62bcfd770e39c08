import PyProof.Rows.All
import Wide.All
import OpenK.AllK
import Wide.FinOn
import Lean
import PyProof.EqAt
import PyProof.EqKinds
import PyProof.TupleCall
import PyProof.NeKinds
import PyProof.ConsumeWalk
import PyProof.SumAny
import PyProof.Rows.SumGenD
import KE.KIntText
import KE.IntTextLaws
import PyProof.Rows.FStr
import PyProof.Rows.StrNews
import PyProof.StrLawsTight
import PyProof.StrWalks
import PyProof.StrLawsIn
import PyProof.ExcInit
import PyProof.InstStoreFacts
import PyProof.ZipIter
import PyProof.EnumMake
import KE.IntBitsLaws
import PyProof.WalkInts
import PyProof.MinMaxWalk
import PyProof.TupleOfSeq
import PyProof.Rows.SortShell
import PyProof.Rows.StrBin
import PyProof.StrOps2
import PyProof.ListMulRoad
import PySem.Challenge.RW_lettertoll_k92_texts_that_are_no_books
set_option Elab.async false
set_option linter.all false
set_option maxRecDepth 100000
namespace L2
open PySem PySem.Spec PyProof.Rows
abbrev Key := Sum Int Str
def keyIs : Key → Value → Bool
  | .inl k, v => Value.isInt k v
  | .inr x, v => Value.isStrOf x v
def keyH (w : World) : Key → Int
  | .inl k => hashInt k
  | .inr x => hashStr w x
theorem keyIs_shape : ∀ {k : Key} {v : Value}, keyIs k v = true → (∃ i t, k = Sum.inl i ∧ v = Value.int i t) ∨ (∃ x t, k = Sum.inr x ∧ v = Value.str x t)
  | .inl i, v, h => by
    obtain ⟨t, e⟩ := Value.isInt_shape (k := i) (v := v) h
    exact .inl ⟨i, t, rfl, e⟩
  | .inr x, v, h => by
    obtain ⟨t, e⟩ := Value.isStrOf_shape (x := x) (v := v) h
    exact .inr ⟨x, t, rfl, e⟩
theorem key_ll (a b : Int) : decide ((Sum.inl a : Key) = Sum.inl b) = (a == b) := by
  by_cases e : a = b
  · subst e; simp
  · have h : ¬ (Sum.inl a : Key) = Sum.inl b := fun q => e (Sum.inl.inj q)
    rw [decide_eq_false h]
    exact (beq_eq_false_iff_ne.mpr e).symm
theorem key_rr (a b : Str) : decide ((Sum.inr a : Key) = Sum.inr b) = decide (a = b) := by
  by_cases e : a = b
  · subst e; simp
  · have h : ¬ (Sum.inr a : Key) = Sum.inr b := fun q => e (Sum.inr.inj q)
    rw [decide_eq_false h, decide_eq_false e]
theorem key_lr (a : Int) (b : Str) : decide ((Sum.inl a : Key) = Sum.inr b) = false := decide_eq_false (fun q => nomatch q)
theorem key_rl (a : Str) (b : Int) : decide ((Sum.inr a : Key) = Sum.inl b) = false := decide_eq_false (fun q => nomatch q)
def mixKind (prog : Program) (w : World) : PySem.KeyKind prog w Key where
  is := keyIs
  hash := keyH w
  inj := fun v a b ha hb => by
    rcases keyIs_shape ha with ⟨i, t, rfl, rfl⟩ | ⟨x, t, rfl, rfl⟩
    · rcases keyIs_shape hb with ⟨j, u, rfl, e⟩ | ⟨y, u, rfl, e⟩
      · injection e with e1 _; rw [e1]
      · exact nomatch e
    · rcases keyIs_shape hb with ⟨j, u, rfl, e⟩ | ⟨y, u, rfl, e⟩
      · exact nomatch e
      · injection e with e1 _; rw [e1]
  byValue := fun k v h => by
    rcases keyIs_shape h with ⟨i, t, rfl, rfl⟩ | ⟨x, t, rfl, rfl⟩ <;> rfl
  pyHash := fun hv h => by
    rcases keyIs_shape hv with ⟨i, t, rfl, rfl⟩ | ⟨x, t, rfl, rfl⟩
    · exact wpAny_pyHash_int h
    · exact wpAny_pyHash_str h
  eqBool := fun hu hv h => by
    rcases keyIs_shape hu with ⟨i, t, rfl, rfl⟩ | ⟨x, t, rfl, rfl⟩
    · rcases keyIs_shape hv with ⟨j, u, rfl, rfl⟩ | ⟨y, u, rfl, rfl⟩
      · rw [key_ll] at h; exact wpAny_eqBool_int h
      · rw [key_lr] at h; exact SeqAt.EqAt.int_str i t y u _ _ _ _ h
    · rcases keyIs_shape hv with ⟨j, u, rfl, rfl⟩ | ⟨y, u, rfl, rfl⟩
      · rw [key_rl] at h; exact SeqAt.EqAt.str_int x t j u _ _ _ _ h
      · rw [key_rr] at h; exact wpAny_eqBool_str h
  «strs» := fun k x t v h => by
    rcases keyIs_shape h with ⟨i, u, rfl, e⟩ | ⟨y, u, rfl, e⟩
    · exact nomatch e
    · injection e with e1 _
      subst e1
      cases v <;> rfl
end L2
namespace L2
open PySem PySem.Spec PyProof.Rows
inductive V where
  | non | bl (b : Bool) | int (i : Int) | str (x : Str) | byt (b : Array UInt8) | flt (b : UInt64) | ref (a : Addr) | ty (n : String)
  deriving DecidableEq
def RelV : V → Value → Prop
  | .non, u => u = Value.none
  | .bl b, u => u = Value.bool b
  | .int i, u => ∃ t, u = Value.int i t
  | .str x, u => ∃ t, u = Value.str x t
  | .byt b, u => ∃ t, u = Value.bytes b t
  | .flt b, u => ∃ t, u = Value.float b t
  | .ref a, u => u = Value.ref a
  | .ty n, u => u = Value.type n
abbrev Vals : List V → List Value → Prop := Paired RelV
theorem Vals.length {xs : List V} {us : List Value} (r : Vals xs us) : xs.length = us.length := Paired.length r
theorem Vals.get : ∀ {xs : List V} {us : List Value} {i : Nat} {x : V}, Vals xs us → xs[i]? = some x → ∃ u, us[i]? = some u ∧ RelV x u
  | _, _, _, _, .nil, e => by simp at e
  | _, _, 0, _, .cons r _, e => by simp at e; subst e; exact ⟨_, rfl, r⟩
  | _, _, i + 1, x, .cons _ t, e => by
    obtain ⟨u, h1, h2⟩ := Vals.get (i := i) (x := x) t (by simpa using e)
    exact ⟨u, by simpa using h1, h2⟩
theorem Vals.set {x : V} {u : Value} (r : RelV x u) : ∀ {xs : List V} {us : List Value} (i : Nat), Vals xs us → Vals (xs.set i x) (us.set i u)
  | _, _, _, .nil => .nil
  | _, _, 0, .cons _ t => .cons r t
  | _, _, i + 1, .cons q t => .cons q (Vals.set r i t)
theorem Vals.append : ∀ {xs ys : List V} {us ws : List Value}, Vals xs us → Vals ys ws → Vals (xs ++ ys) (us ++ ws)
  | _, _, _, _, .nil, s => s
  | _, _, _, _, .cons r t, s => .cons r (Vals.append t s)
theorem Vals.take : ∀ {xs : List V} {us : List Value} (n : Nat), Vals xs us → Vals (xs.take n) (us.take n)
  | _, _, 0, _ => .nil
  | _, _, _ + 1, .nil => .nil
  | _, _, n + 1, .cons r t => .cons r (Vals.take n t)
theorem Vals.drop : ∀ {xs : List V} {us : List Value} (n : Nat), Vals xs us → Vals (xs.drop n) (us.drop n)
  | _, _, 0, r => r
  | _, _, _ + 1, .nil => .nil
  | _, _, n + 1, .cons _ t => Vals.drop n t
def RelO : Option V → Option Value → Prop
  | some v, some u => RelV v u
  | none, none => True
  | _, _ => False
def KV {κ : Type} : List (κ × V) → List (κ × Value) → Prop := Paired fun (p : κ × V) (q : κ × Value) => p.1 = q.1 ∧ RelV p.2 q.2
def kV : Key → V
  | .inl i => .int i
  | .inr x => .str x
inductive HO where
  | lst (xs : List V)
  | tup (xs : List V)
  | dK (kvs : List (Key × V)) | dT (kvs : List (List Key × V))
  | set (S : Int → Bool) (n : Nat)
  | ins (C dx : Addr) (fs : List (Str × V))
  | own (x : Addr)
  | xd (fs : List (Str × V))
  | met (f x : Addr)
  | rng (lo hi : Int)
  | frz (o : Obj) (u : HO)
  | tbl (ps : Array Value)
  | ext (φ : Heap → Prop)
abbrev Hp := Addr → Option HO
def upd (H : Hp) (a : Addr) (o : HO) : Hp := fun b => if b = a then some o else H b
theorem upd_same {H : Hp} {a : Addr} {o : HO} : upd H a o a = some o := by unfold upd; rw [if_pos rfl]
theorem upd_ne {H : Hp} {a b : Addr} {o : HO} (h : b ≠ a) : upd H a o b = H b := by unfold upd; rw [if_neg h]
theorem ne_of {H : Hp} {a b : Addr} {o u : HO} (h : H a = some o) (h' : H b = some u) (d : o ≠ u) : a ≠ b := by
  intro e; subst e; rw [h] at h'; exact d (Option.some.inj h')
theorem ne_of_none {H : Hp} {a b : Addr} {o : HO} (h : H a = some o) (h' : H b = none) : a ≠ b := by
  intro e; subst e; rw [h] at h'; cases h'
def IsTp (h : Heap) (a : Addr) (items : Array Value) : Prop := ∃ o, h.get? a = some o ∧ ∃ n, o = { cls := .type "tuple", data := .seq items n }
theorem IsTp.is {h : Heap} {a : Addr} {items : Array Value} (x : IsTp h a items) : IsTup h a items := by
  obtain ⟨o, e, n, rfl⟩ := x
  exact ⟨_, e, rfl, n, rfl⟩
instance {h : Heap} {a : Addr} {items : Array Value} : Coe (IsTp h a items) (IsTup h a items) := ⟨IsTp.is⟩
instance {h : Heap} {a : Addr} {items : Array Value} : Coe (IsTp h a items) (Heap.IsTuple h a items) := ⟨fun x => x.is⟩
theorem IsTp.lt {h : Heap} {a : Addr} {items : Array Value} (x : IsTp h a items) : a < h.objs.size := x.is.lt
theorem IsTp.new (h : Heap) (items : Array Value) : IsTp (h.push { cls := .type "tuple", data := .seq items }) h.objs.size items := ⟨_, Heap.get?_push_size _ rfl, _, rfl⟩
section
variable (P : Program) (w : World)
def ObjOk (H : Hp) (h : Heap) (a : Addr) : HO → Prop
  | .lst xs => xs.length ≤ sizeLine ∧ ∃ (its : List Value) (n : Nat), Vals xs its ∧ h.get? a = some { cls := .type "list", data := .seq its.toArray n }
  | .tup xs => xs.length ≤ sizeLine ∧ ∃ its : List Value, Vals xs its ∧ IsTp h a its.toArray
  | .dK kvs => kvs.length ≤ sizeLine ∧ (a == sysModules) = false ∧ ∃ vs, KV kvs vs ∧ h.DictOf (mixKind P w) a vs
  | .dT kvs => kvs.length ≤ sizeLine ∧ (a == sysModules) = false ∧ ∃ xs : List (List Key × Addr × Value),
      Paired (fun (p : List Key × V) (q : List Key × Addr × Value) => p.1 = q.1 ∧ H q.2.1 = some (.tup (p.1.map kV)) ∧ RelV p.2 q.2.2) kvs xs ∧
      ∃ o es ep, h.get? a = some o ∧ o.ExactDict ∧ o.data = .dict es ep ∧ es.toList = xs.map (entryOfKey (tupleKind (mixKind P w))) ∧ (xs.map (·.1)).Nodup
  | .set S n => h.SetOf (intKind P w) a S n
  | .ins C dx fs => H dx = some (.own a) ∧ fs.length ≤ 1000 ∧ dx ≠ a ∧ h.get? a = some (PySem.W.instObj C dx) ∧
      ∃ mA, h.Ns1 dx mA ∧ (∀ f, RelO (fs.lookup f) (mA f)) ∧ PySem.Within mA (fs.map (·.1))
  | .own _ => ∃ o, h.get? a = some o
  | .xd fs => ∃ mA, h.Ns1 a mA ∧ ∀ f, RelO (fs.lookup f) (mA f)
  | .rng lo hi => ∃ t u v, h.get? a = some { cls := .type "range", data := .fields #[.int lo t, .int hi u, .int 1 v] }
  | .frz o u => h.get? a = some o ∧ ObjOk H h a u
  | .tbl ps => h.get? a = some { cls := .none, data := .fields ps }
  | .met f x => h.get? a = some (PySem.W.methodObj (.ref f) (.ref x))
  | .ext φ => φ h ∧ (∃ o, h.get? a = some o) ∧ ∀ h1 h2 : Heap, φ h1 → (∀ o, h1.get? a = some o → h2.get? a = some o) → φ h2
def HOk (H : Hp) (h : Heap) : Prop := ∀ a o, H a = some o → ObjOk P w H h a o
end
section
variable {P : Program} {w : World} {H H' : Hp} {h h' : Heap} {a : Addr} {o : HO}
theorem ObjOk.lt (x : ObjOk P w H h a o) : a < h.objs.size := by
  cases o with
  | lst xs => obtain ⟨_, _, _, _, e⟩ := x; exact Heap.lt_size e
  | tup xs => obtain ⟨_, _, _, p⟩ := x; exact p.lt
  | dK kvs => obtain ⟨_, _, _, _, o, _, _, e, _⟩ := x; exact Heap.lt_size e
  | dT kvs => obtain ⟨_, _, _, _, o, _, _, e, _⟩ := x; exact Heap.lt_size e
  | set S n => obtain ⟨o, _, _, _, e, _⟩ := x; exact Heap.lt_size e
  | ins C dx fs => obtain ⟨_, _, _, e, _⟩ := x; exact Heap.lt_size e
  | own y => obtain ⟨_, e⟩ := x; exact Heap.lt_size e
  | xd fs => obtain ⟨_, ⟨_, _, _, e, _⟩, _⟩ := x; exact Heap.lt_size e
  | rng lo hi => obtain ⟨_, _, _, e⟩ := x; exact Heap.lt_size e
  | frz ob u => obtain ⟨e, _⟩ := x; exact Heap.lt_size e
  | tbl ps => exact Heap.lt_size (show h.get? a = some _ from x)
  | met f y => exact Heap.lt_size (show h.get? a = some _ from x)
  | ext φ => obtain ⟨_, ⟨_, e⟩, _⟩ := x; exact Heap.lt_size e
theorem Paired.mapP {α β : Type} {F G : α → β → Prop} : ∀ {l₁ : List α} {l₂ : List β}, Paired F l₁ l₂ → (∀ a b, F a b → G a b) → Paired G l₁ l₂
  | _, _, .nil, _ => .nil
  | _, _, .cons r t, f => .cons (f _ _ r) (Paired.mapP t f)
theorem ObjOk.stay (x : ObjOk P w H h a o) (k : ∀ b u, (b = a ∨ H b = some (.own a)) → h.get? b = some u → h'.get? b = some u)
    (ho : ∀ b, H b = some (.own a) → H' b = some (.own a)) (ht : ∀ b xs, H b = some (.tup xs) → H' b = some (.tup xs)) : ObjOk P w H' h' a o := by
  induction o with
  | lst xs => obtain ⟨z, its, n, r, e⟩ := x; exact ⟨z, its, n, r, k _ _ (.inl rfl) e⟩
  | tup xs => obtain ⟨z, its, r, ob, e, c⟩ := x; exact ⟨z, its, r, ob, k _ _ (.inl rfl) e, c⟩
  | dK kvs => obtain ⟨z, y, vs, r, ob, es, ep, e, c⟩ := x; exact ⟨z, y, vs, r, ob, es, ep, k _ _ (.inl rfl) e, c⟩
  | dT kvs =>
    obtain ⟨z, y, xs, r, ob, es, ep, e, c⟩ := x
    exact ⟨z, y, xs, Paired.mapP r fun p q z => ⟨z.1, ht _ _ z.2.1, z.2.2⟩, ob, es, ep, k _ _ (.inl rfl) e, c⟩
  | set S n => obtain ⟨ob, es, ep, t, e, c⟩ := x; exact ⟨ob, es, ep, t, k _ _ (.inl rfl) e, c⟩
  | ins C dx fs =>
    obtain ⟨d, z, ne, e, mA, ⟨od, es, ep, e2, c⟩, r⟩ := x
    exact ⟨ho _ d, z, ne, k _ _ (.inl rfl) e, mA, ⟨od, es, ep, k _ _ (.inr d) e2, c⟩, r⟩
  | own y => obtain ⟨ob, e⟩ := x; exact ⟨ob, k _ _ (.inl rfl) e⟩
  | xd fs => obtain ⟨mA, ⟨od, es, ep, e, c⟩, r⟩ := x; exact ⟨mA, ⟨od, es, ep, k _ _ (.inl rfl) e, c⟩, r⟩
  | rng lo hi => obtain ⟨t, u, v, e⟩ := x; exact ⟨t, u, v, k _ _ (.inl rfl) e⟩
  | frz ob u ih => obtain ⟨e, q⟩ := x; exact ⟨k _ _ (.inl rfl) e, ih q⟩
  | tbl ps =>
    have e : h.get? a = some { cls := .none, data := .fields ps } := x
    show h'.get? a = some { cls := .none, data := .fields ps }
    exact k a _ (.inl rfl) e
  | met f y =>
    have e : h.get? a = some (PySem.W.methodObj (.ref f) (.ref y)) := x
    show h'.get? a = some (PySem.W.methodObj (.ref f) (.ref y))
    exact k a _ (.inl rfl) e
  | ext φ => obtain ⟨p, ⟨o, e⟩, st⟩ := x; exact ⟨st _ _ p fun o q => k _ _ (.inl rfl) q, ⟨o, k _ _ (.inl rfl) e⟩, st⟩
theorem HOk.lt (x : HOk P w H h) (e : H a = some o) : a < h.objs.size := (x a o e).lt
theorem HOk.fresh (x : HOk P w H h) (e : h.objs.size ≤ a) : H a = none := by
  cases q : H a with
  | none => rfl
  | some u => exact absurd (Nat.lt_of_lt_of_le (x.lt q) e) (Nat.lt_irrefl _)
theorem HOk.kept (x : HOk P w H h) (k : ∀ b u, h.get? b = some u → h'.get? b = some u) : HOk P w H h' := fun a o e =>
  (x a o e).stay (fun b u _ q => k b u q) (fun _ q => q) fun _ _ q => q
theorem HOk.laid (x : HOk P w H h) (k : ∀ b u, h.get? b = some u → h'.get? b = some u) (hp : h.objs.size ≤ a) (new : ObjOk P w (upd H a o) h' a o) : HOk P w (upd H a o) h' := fun b u e => by
  have hn := x.fresh hp
  by_cases hb : b = a
  · subst hb; rw [upd_same] at e; cases e; exact new
  · rw [upd_ne hb] at e
    exact (x b u e).stay (fun c v _ q => k c v q) (fun c q => by rw [upd_ne (ne_of_none q hn)]; exact q) fun c xs q => by rw [upd_ne (ne_of_none q hn)]; exact q
end
def Rd (H : Hp) (a : Addr) (u : HO) : Prop := H a = some u ∨ ∃ o, H a = some (.frz o u)
theorem Rd.ok {P : Program} {w : World} {H : Hp} {h : Heap} {a : Addr} {u : HO} (r : Rd H a u) (x : HOk P w H h) : ObjOk P w H h a u := by
  rcases r with r | ⟨o, r⟩
  · exact x a u r
  · obtain ⟨_, q⟩ := x a _ r
    exact q
def Mut : Option HO → Prop
  | some (.lst _) => True
  | some (.dK _) => True
  | some (.dT _) => True
  | some (.set _ _) => True
  | some (.ins _ _ _) => True
  | some (.ext _) => True
  | _ => False
section
variable {P : Program} {w : World} {H : Hp} {h h' : Heap} {x e : Addr} {o' : HO}
theorem HOk.write (ok : HOk P w H h) (mu : Mut (H x)) (he : e = x ∨ H e = some (.own x)) (k : ∀ b u, b ≠ e → h.get? b = some u → h'.get? b = some u) (heo : ∃ u, h'.get? e = some u)
    (new : ObjOk P w (upd H x o') h' x o') : HOk P w (upd H x o') h' := fun b u q => by
  have nown : ∀ c y, H c = some (.own y) → c ≠ x := fun c y r z => by subst z; rw [r] at mu; exact mu
  have ntup : ∀ c xs, H c = some (.tup xs) → c ≠ x := fun c xs r z => by subst z; rw [r] at mu; exact mu
  by_cases hb : b = x
  · subst hb; rw [upd_same] at q; cases q; exact new
  · rw [upd_ne hb] at q
    by_cases hbe : b = e
    · have q' : H b = some (.own x) := by
        rcases he with z | z
        · exact absurd (hbe.trans z) hb
        · rw [hbe]; exact z
      rw [q] at q'; cases q'
      obtain ⟨v, hv⟩ := heo
      exact ⟨v, by rw [hbe]; exact hv⟩
    · refine (ok b u q).stay (fun c v hc r => k c v ?_ r) (fun c r => by rw [upd_ne (nown c b r)]; exact r) fun c xs r => by rw [upd_ne (ntup c xs r)]; exact r
      rcases hc with rfl | hc
      · exact hbe
      · rintro rfl
        rcases he with z | z
        · exact nown c b hc z
        · rw [hc] at z; cases z; exact hb rfl
end
structure Un (fs ex : List Addr) (H H' : Hp) (h h' : Heap) : Prop where
  keep : ∀ b o, h.get? b = some o → H b = none → b ∉ fs → b ∉ ex → h'.get? b = some o
  slot : ∀ b o, h.get? b = some o → H b = none → b ∈ fs → b ∉ ex → ∃ sl, h'.get? b = some { o with slots := sl }
  free : ∀ b o, h.get? b = some o → H b = none → b ∉ ex → H' b = none
  there : ∀ b o, h.get? b = some o → b ∉ ex → ∃ o', h'.get? b = some o'
  tups : ∀ b xs, H b = some (.tup xs) → H' b = some (.tup xs)
  frzs : ∀ b o u, H b = some (.frz o u) → H' b = some (.frz o u)
  tbls : ∀ b ps, H b = some (.tbl ps) → ∃ more, H' b = some (.tbl (ps ++ more))
section
variable {fs fs' ex ex' : List Addr} {H H1 H2 : Hp} {h h1 h2 h' : Heap} {a x e : Addr} {o : HO}
theorem Un.any (u : Un fs ex H H1 h h1) {b : Addr} {ob : Obj} (q : h.get? b = some ob) (n : H b = none) (hx : b ∉ ex) : ∃ sl, h1.get? b = some { ob with slots := sl } := by
  by_cases hb : b ∈ fs
  · exact u.slot b ob q n hb hx
  · exact ⟨ob.slots, u.keep b ob q n hb hx⟩
theorem Un.kept (k : ∀ b u, h.get? b = some u → h'.get? b = some u) : Un fs ex H H h h' :=
  ⟨fun b ob q _ _ _ => k b ob q, fun b ob q _ _ _ => ⟨ob.slots, k b ob q⟩, fun _ _ _ n _ => n, fun b ob q _ => ⟨ob, k b ob q⟩, fun _ _ q => q, fun _ _ _ q => q, fun _ ps q => ⟨#[], by rw [q]; simp⟩⟩
theorem Un.refl : Un fs ex H H h h := Un.kept fun _ _ q => q
theorem Un.laid (k : ∀ b u, h.get? b = some u → h'.get? b = some u) (hp : h.objs.size ≤ a) (hn : H a = none) : Un fs ex H (upd H a o) h h' where
  keep := fun b u q _ _ _ => k b u q
  slot := fun b u q _ _ _ => ⟨u.slots, k b u q⟩
  free := fun b u q n _ => by rw [upd_ne (Nat.ne_of_lt (Nat.lt_of_lt_of_le (Heap.lt_size q) hp))]; exact n
  there := fun b u q _ => ⟨u, k b u q⟩
  tups := fun b xs q => by rw [upd_ne (ne_of_none q hn)]; exact q
  frzs := fun b u xs q => by rw [upd_ne (ne_of_none q hn)]; exact q
  tbls := fun b ps q => ⟨#[], by rw [upd_ne (ne_of_none q hn), q]; simp⟩
theorem Un.write (mu : Mut (H x)) (he : e = x ∨ H e = some (.own x)) (k : ∀ b u, b ≠ e → h.get? b = some u → h'.get? b = some u) (heo : ∃ u, h'.get? e = some u) : Un fs ex H (upd H x o) h h' := by
  have hx : ∀ b, H b = none → b ≠ x := fun b n z => by subst z; rw [n] at mu; exact mu
  have hb : ∀ b, H b = none → b ≠ e := fun b n z => by
    subst z
    rcases he with r | r
    · exact hx b n r
    · rw [n] at r; cases r
  have hm : ∀ b u, H b = some u → ¬ Mut (some u) → b ≠ x := fun b u q nm z => by subst z; rw [q] at mu; exact nm mu
  refine ⟨fun b u q n _ _ => k b u (hb b n) q, fun b u q n _ _ => ⟨u.slots, k b u (hb b n) q⟩, fun b u q n _ => by rw [upd_ne (hx b n)]; exact n, fun b u q _ => ?_,
    fun b xs q => by rw [upd_ne (hm b _ q fun z => z)]; exact q, fun b u xs q => by rw [upd_ne (hm b _ q fun z => z)]; exact q, fun b ps q => ⟨#[], by rw [upd_ne (hm b _ q fun z => z), q]; simp⟩⟩
  by_cases hbe : b = e
  · subst hbe; exact heo
  · exact ⟨u, k b u hbe q⟩
end
def trk (h : Heap) (H : Hp) : List Addr := (List.range h.objs.size).filter fun a => (H a).isSome
def hidT (h : Heap) (H : Hp) : Heap := PySem.W.hideAll h (trk h H)
theorem hidT_size (h : Heap) (H : Hp) : (hidT h H).objs.size = h.objs.size := PySem.W.hideAll_size _ _
theorem hidT_get {h : Heap} {H : Hp} {b : Addr} {o : Obj} (e : h.get? b = some o) (n : H b = none) : (hidT h H).get? b = some o :=
  PySem.W.hideAll_get _ e fun hm => by
    have q : (H b).isSome = true := (List.mem_filter.mp hm).2
    rw [n] at q; simp at q
theorem of_hidT {h : Heap} {H : Hp} {b : Addr} {o : Obj} (e : (hidT h H).get? b = some o) : h.get? b = some o ∧ H b = none := by
  have e' : h.get? b = some o := PySem.W.of_hideAll (trk h H) e
  refine ⟨e', ?_⟩
  cases q : H b with
  | none => rfl
  | some x =>
    have hm : b ∈ trk h H := List.mem_filter.mpr ⟨List.mem_range.mpr (Heap.lt_size e'), by simp [q]⟩
    have z : (hidT h H).get? b = none := PySem.W.hideAll_none (trk h H) hm
    rw [z] at e; cases e
def allNews (g h : Heap) (L : Addr) : List (Addr × Obj) := (List.range h.objs.size).filterMap fun a => if a = L ∨ (g.get? a).isSome = true then none else (h.get? a).map fun o => (a, o)
def rest (g h : Heap) (L d : Addr) : List (Addr × Obj) := (allNews g h L).filter fun p => decide (p.1 ≠ d)
end L2
namespace L2
open PySem PySem.Spec PyProof.Rows
structure Mod (K : PySem.W.Frag) (mg : Str → Option Value) (base : Heap) : Prop where
  kin : K.In base
  glob : base.Ns mainGlobals mg
  blt : ∃ mb, base.Ns builtinsNs mb ∧ ∀ x : Str, x ≠ "__name__" → mb x = bootBuiltins x
  nolimit : base.NoLimit
structure Cx where
  prog : Program
  w : World
  K : PySem.W.Frag
  mg : Str → Option Value
  base : Heap
  A : Around
  N : List Str
  s₀ : Shared
  H₀ : Hp
  env : Env
  outer : List Env
  stack : List Env
  ex : List Addr
  fn : Str → Bool
  calm : Bool
  pn : List (Addr × Obj)
  xe : Value → Shared → Prop
def frs (l : List Env) : List Addr := l.filterMap (·.frame)
abbrev Cx.fs (X : Cx) : List Addr := frs X.outer
def Vis (sc : Scope) (x : Str) : Prop := sc.names.lookup x = some .local ∨ sc.names.lookup x = some .cell ∨ sc.names.lookup x = some .free
def Loc (sc : Scope) (x : Str) : Prop := sc.names.lookup x = some .local ∨ sc.names.lookup x = some .cell
def Look (env : Env) (h : Heap) (m : Str → Option Value) (x : Str) (u : Value) : Prop :=
  (env.kindOf x = some .local ∧ m x = some u) ∨ ((env.kindOf x = some .cell ∨ env.kindOf x = some .free) ∧ ∃ c, env.cells.lookup x = some c ∧ h.IsCell c (some u))
structure Cx.Ok (X : Cx) : Prop where
  mod : Mod X.K X.mg X.base
  kind : X.env.scope.kind = .function
  glob : X.env.globals = mainGlobals
  blt : X.env.builtins = builtinsNs
  above : X.s₀.heap.objs.size ≤ X.env.locals
  inj : ∀ x y c, X.env.cells.lookup x = some c → X.env.cells.lookup y = some c → x = y
  has : ∀ x, (X.env.kindOf x = some .cell ∨ X.env.kindOf x = some .free) → ∃ c, X.env.cells.lookup x = some c
  cab : ∀ x c, X.fn x = true → X.env.cells.lookup x = some c → X.s₀.heap.objs.size ≤ c
  hd : X.calm = true → X.A.handled = none
  frames : X.A.frames = some X.stack
  stk : X.stack = X.outer ∨ (X.stack = X.env :: X.outer ∧ X.env.frame = some X.env.locals)
  exf : ∀ b ∈ X.ex, b ≠ X.env.locals ∧ ∀ x c, X.env.cells.lookup x = some c → c ≠ b
  bs : ∀ b o, X.base.get? b = some o → X.s₀.heap.get? b = some o ∧ X.H₀ b = none
  bsz : X.base.objs.size ≤ X.s₀.heap.objs.size
  noex : ∀ b o, X.base.get? b = some o → b ∉ X.ex
  exfs : ∀ b ∈ X.ex, b ∉ X.fs
  funs : X.s₀.heap.FunFrames X.base X.outer
  frf : ∀ b ∈ X.fs, X.H₀ b = none
structure Inv (X : Cx) (pins : List (Addr × Obj)) (σ : List (Option V)) (H : Hp) (s : Shared) : Prop where
  ok : X.Ok
  os : s.os = X.s₀.os
  bare : AllBare s.gens
  base : Un X.fs X.ex X.H₀ H X.s₀.heap s.heap
  loc : ∃ m, s.heap.Ns X.env.locals m ∧ ∀ (i : Nat) (x : Str) (v : V), X.N[i]? = some x → σ[i]? = some (some v) → Vis X.env.scope x → ∃ u, RelV v u ∧ Look X.env s.heap m x u
  cell : ∀ x c, X.env.cells.lookup x = some c → ∃ v, s.heap.IsCell c v
  free : H X.env.locals = none
  freeC : ∀ x c, X.env.cells.lookup x = some c → H c = none
  pin : ∀ p ∈ X.pn ++ pins, s.heap.get? p.1 = some p.2 ∧ H p.1 = none ∧ p.1 ≠ X.env.locals ∧ p.1 ∉ X.fs ∧ ∀ v, p.2.data ≠ .cell v
  hok : HOk X.prog X.w H s.heap
  len : σ.length = X.N.length
section
variable {X : Cx} {pins : List (Addr × Obj)} {σ : List (Option V)} {H H' : Hp} {s : Shared} {h' : Heap}
theorem Cx.Ok.nofr (ok : X.Ok) {b : Addr} {o : Obj} (e : X.base.get? b = some o) : b ∉ X.fs := fun hb => by
  have := (ok.funs.mem hb).1
  rw [e] at this; cases this
theorem Inv.bs (I : Inv X pins σ H s) : ∀ b o, X.base.get? b = some o → s.heap.get? b = some o ∧ H b = none := fun b o e =>
  ⟨I.base.keep b o (I.ok.bs b o e).1 (I.ok.bs b o e).2 (I.ok.nofr e) (I.ok.noex b o e), I.base.free b o (I.ok.bs b o e).1 (I.ok.bs b o e).2 (I.ok.noex b o e)⟩
theorem Inv.bk (I : Inv X pins σ H s) : ∀ b o, X.base.get? b = some o → s.heap.get? b = some o := fun b o e => (I.bs b o e).1
theorem Inv.mod (I : Inv X pins σ H s) : Mod X.K X.mg X.base := I.ok.mod
theorem Inv.kIn (I : Inv X pins σ H s) : X.K.In s.heap := I.ok.mod.kin.keeps I.bk
theorem Inv.lt (I : Inv X pins σ H s) : X.env.locals < s.heap.objs.size := let ⟨_, hn, _⟩ := I.loc; hn.lt
theorem Inv.sz (I : Inv X pins σ H s) : X.s₀.heap.objs.size ≤ s.heap.objs.size := Nat.le_trans I.ok.above (Nat.le_of_lt I.lt)
theorem Inv.nofs (I : Inv X pins σ H s) {a : Addr} (h : s.heap.objs.size ≤ a) : a ∉ X.fs := fun hb => by
  obtain ⟨_, o, ho, _⟩ := I.ok.funs.mem hb
  exact absurd (Nat.lt_of_lt_of_le (Heap.lt_size ho) (Nat.le_trans I.sz h)) (Nat.lt_irrefl _)
theorem Inv.cne (I : Inv X pins σ H s) : ∀ x c, X.env.cells.lookup x = some c → c ≠ X.env.locals := fun x c e z => by
  obtain ⟨v, o, ho, hd⟩ := I.cell x c e
  obtain ⟨m, ⟨o', es, ep, ho', hd', _⟩, _⟩ := I.loc
  rw [z, ho'] at ho; cases ho; rw [hd'] at hd; cases hd
theorem Inv.funs (I : Inv X pins σ H s) : s.heap.FunFrames X.base X.outer := by
  have all : ∀ (l : List Env), (∀ b ∈ frs l, b ∈ X.fs) → X.s₀.heap.FunFrames X.base l → s.heap.FunFrames X.base l := by
    intro l
    induction l with
    | nil => intro _ _; trivial
    | cons env r ih =>
      intro hs hl
      obtain ⟨hk, ⟨L, o, hf, hn, ho, hd⟩, hr⟩ := hl
      have hL : L ∈ X.fs := hs L (by unfold frs; rw [List.filterMap_cons, hf]; exact List.mem_cons_self)
      obtain ⟨sl, e⟩ := I.base.slot L o ho (I.ok.frf L hL) hL fun z => I.ok.exfs L z hL
      exact ⟨hk, ⟨L, _, hf, hn, e, hd⟩, ih (fun b hb => hs b (by unfold frs; rw [List.filterMap_cons, hf]; exact List.mem_cons_of_mem _ hb)) hr⟩
  exact all X.outer (fun _ hb => hb) I.ok.funs
theorem Inv.stack (I : Inv X pins σ H s) : s.heap.FunFrames X.base X.stack := by
  rcases I.ok.stk with e | ⟨e, hf⟩
  · rw [e]; exact I.funs
  · rw [e]
    obtain ⟨m, hn, _⟩ := I.loc
    refine .cons (by rw [I.ok.kind]; decide) hf hn ?_ I.funs
    exact Heap.get?_none_of_le (Nat.le_trans I.ok.bsz I.ok.above)
theorem Inv.stkSub (I : Inv X pins σ H s) : ∀ b ∈ frs X.stack, b ∈ X.env.locals :: X.fs := fun b hb => by
  rcases I.ok.stk with e | ⟨e, hf⟩
  · rw [e] at hb; exact List.mem_cons_of_mem _ hb
  · rw [e] at hb
    unfold frs at hb
    rw [List.filterMap_cons, hf] at hb
    exact hb
theorem Inv.stkFree (I : Inv X pins σ H s) : ∀ b ∈ frs X.stack, H b = none := fun b hb => by
  rcases List.mem_cons.mp (I.stkSub b hb) with e | hb
  · rw [e]; exact I.free
  · obtain ⟨_, o, ho, _⟩ := I.ok.funs.mem hb
    exact I.base.free b o ho (I.ok.frf b hb) fun z => I.ok.exfs b z hb
theorem Inv.step {g' : Array GenState} {t' : Nat} {d' : Drawn} {ch : List Addr} (I : Inv X pins σ H s)
    (hch : ∀ b ∈ ch, (b ∈ X.ex ∨ X.s₀.heap.objs.size ≤ b) ∧ b ≠ X.env.locals ∧ (∀ x c, X.env.cells.lookup x = some c → c ≠ b) ∧ ∀ p ∈ X.pn ++ pins, p.1 ≠ b)
    (keep : ∀ b o, b ≠ X.env.locals → b ∉ X.fs → b ∉ ch → s.heap.get? b = some o → H b = none → h'.get? b = some o)
    (slot : ∀ b o, b ≠ X.env.locals → b ∈ X.fs → b ∉ ch → s.heap.get? b = some o → H b = none → ∃ sl, h'.get? b = some { o with slots := sl }) (free : ∀ b o, b ∉ ch → s.heap.get? b = some o → H b = none → H' b = none)
    (there : ∀ b o, b ∉ ch → s.heap.get? b = some o → ∃ o', h'.get? b = some o')
    (tups : ∀ b xs, H b = some (.tup xs) → H' b = some (.tup xs)) (frzs : ∀ b o u, H b = some (.frz o u) → H' b = some (.frz o u)) (tbls : ∀ b ps, H b = some (.tbl ps) → ∃ more, H' b = some (.tbl (ps ++ more)))
    (ns : ∀ m, s.heap.Ns X.env.locals m → h'.Ns X.env.locals m) (hok : HOk X.prog X.w H' h') (hg : AllBare g') :
    Inv X pins σ H' { s with heap := h', gens := g', drawn := d', toks := t' } := by
  have neL : ∀ b o, X.s₀.heap.get? b = some o → b ≠ X.env.locals := fun b o e => Nat.ne_of_lt (Nat.lt_of_lt_of_le (Heap.lt_size e) I.ok.above)
  have neC : ∀ b o, X.s₀.heap.get? b = some o → b ∉ X.ex → b ∉ ch := fun b o e hx hb => by
    rcases (hch b hb).1 with z | z
    · exact hx z
    · exact absurd (Nat.lt_of_lt_of_le (Heap.lt_size e) z) (Nat.lt_irrefl _)
  have cellK : ∀ x c, X.env.cells.lookup x = some c → ∀ v, s.heap.IsCell c v → h'.IsCell c v := fun x c e v ⟨o, ho, hd⟩ => by
    have nch : c ∉ ch := fun z => (hch c z).2.2.1 x c e rfl
    by_cases hc : c ∈ X.fs
    · obtain ⟨sl, q⟩ := slot c o (I.cne x c e) hc nch ho (I.freeC x c e)
      exact ⟨_, q, hd⟩
    · exact ⟨o, keep c o (I.cne x c e) hc nch ho (I.freeC x c e), hd⟩
  refine ⟨I.ok, I.os, hg, ⟨fun b o e n hb hx => ?_, fun b o e n hb hx => ?_, fun b o e n hx => ?_, fun b o e hx => ?_, fun b xs e => tups b xs (I.base.tups b xs e), fun b o xs e => frzs b o xs (I.base.frzs b o xs e), fun b ps e => ?_⟩, ?_, fun x c e => ?_, ?_, fun x c e => ?_, fun p hp => ?_, hok, I.len⟩
  · exact keep b o (neL b o e) hb (neC b o e hx) (I.base.keep b o e n hb hx) (I.base.free b o e n hx)
  · obtain ⟨sl, e1⟩ := I.base.slot b o e n hb hx
    obtain ⟨sl', e2⟩ := slot b _ (neL b o e) hb (neC b o e hx) e1 (I.base.free b o e n hx)
    exact ⟨sl', e2⟩
  · obtain ⟨o', e1⟩ := I.base.there b o e hx
    exact free b o' (neC b o e hx) e1 (I.base.free b o e n hx)
  · obtain ⟨o', e1⟩ := I.base.there b o e hx
    exact there b o' (neC b o e hx) e1
  · obtain ⟨m1, e1⟩ := I.base.tbls b ps e
    obtain ⟨m2, e2⟩ := tbls b _ e1
    exact ⟨m1 ++ m2, by rw [e2, Array.append_assoc]⟩
  · obtain ⟨m, hn, hl⟩ := I.loc
    refine ⟨m, ns m hn, fun i x v e1 e2 e3 => ?_⟩
    obtain ⟨u, r, l⟩ := hl i x v e1 e2 e3
    refine ⟨u, r, ?_⟩
    rcases l with l | ⟨k, c, e, z⟩
    · exact .inl l
    · exact .inr ⟨k, c, e, cellK x c e _ z⟩
  · obtain ⟨v, z⟩ := I.cell x c e
    exact ⟨v, cellK x c e v z⟩
  · obtain ⟨m, ⟨o, _, _, ho, _⟩, _⟩ := I.loc
    exact free _ o (fun z => (hch _ z).2.1 rfl) ho I.free
  · obtain ⟨v, o, ho, hd⟩ := I.cell x c e
    exact free c o (fun z => (hch c z).2.2.1 x c e rfl) ho (I.freeC x c e)
  · obtain ⟨e, n, ne, nf, d⟩ := I.pin p hp
    have nch : p.1 ∉ ch := fun z => (hch p.1 z).2.2.2 p hp rfl
    exact ⟨keep p.1 p.2 ne nf nch e n, free p.1 p.2 nch e n, ne, nf, d⟩
theorem Inv.un {t' : Nat} (I : Inv X pins σ H s) (u : Un X.fs [] H H' s.heap h') (hok : HOk X.prog X.w H' h') : Inv X pins σ H' { s with heap := h', toks := t' } := by
  obtain ⟨m, ⟨o, es, ep, ho, r⟩, _⟩ := id I.loc
  obtain ⟨sl, hL⟩ := u.any ho I.free (by simp)
  exact I.step (g' := s.gens) (d' := s.drawn) (ch := []) (fun _ z => nomatch z) (fun b o _ hb _ e n => u.keep b o e n hb (by simp)) (fun b o _ hb _ e n => u.slot b o e n hb (by simp)) (fun b o _ e n => u.free b o e n (by simp)) (fun b o _ e => u.there b o e (by simp)) u.tups u.frzs u.tbls (fun m' hm => by
    obtain ⟨o', es', ep', ho', r'⟩ := hm
    rw [ho] at ho'; cases ho'
    exact ⟨_, es', ep', hL, r'⟩) hok I.bare
theorem Inv.call {g' : Array GenState} {t' : Nat} {d' : Drawn} {ch : List Addr} (I : Inv X pins σ H s) (u : Un (frs X.stack) ch H H' s.heap h') (hok : HOk X.prog X.w H' h') (hg : AllBare g')
    (hch : ∀ b ∈ ch, (b ∈ X.ex ∨ X.s₀.heap.objs.size ≤ b) ∧ b ≠ X.env.locals ∧ (∀ x c, X.env.cells.lookup x = some c → c ≠ b) ∧ ∀ p ∈ X.pn ++ pins, p.1 ≠ b) :
    Inv X pins σ H' { s with heap := h', gens := g', drawn := d', toks := t' } := by
  obtain ⟨m, ⟨o, es, ep, ho, r⟩, _⟩ := id I.loc
  obtain ⟨sl, hL⟩ := u.any ho I.free fun z => (hch _ z).2.1 rfl
  exact I.step (ch := ch) hch (fun b o hL hb hc e n => u.keep b o e n (fun z => (List.mem_cons.mp (I.stkSub b z)).elim hL hb) hc) (fun b o _ _ hc e n => u.any e n hc) (fun b o hc e n => u.free b o e n hc) (fun b o hc e => u.there b o e hc) u.tups u.frzs u.tbls (fun m' hm => by
    obtain ⟨o', es', ep', ho', r'⟩ := hm
    rw [ho] at ho'; cases ho'
    exact ⟨_, es', ep', hL, r'⟩) hok hg
theorem Inv.turned {t' : Nat} {it : Addr} (I : Inv X pins σ H s) (k : ∀ b o, b ≠ it → s.heap.get? b = some o → h'.get? b = some o) (hn : H it = none) (hL : it ≠ X.env.locals)
    (h1 : it ∈ X.ex ∨ X.s₀.heap.objs.size ≤ it) (h2 : ∀ x c, X.env.cells.lookup x = some c → c ≠ it) (h3 : ∀ p ∈ X.pn ++ pins, p.1 ≠ it) : Inv X pins σ H { s with heap := h', toks := t' } := by
  have nit : ∀ b u, H b = some u → b ≠ it := fun b u e z => by rw [z, hn] at e; cases e
  refine I.step (g' := s.gens) (d' := s.drawn) (ch := [it]) (fun b hb => ?_) (fun b o _ _ hc e _ => k b o (fun z => hc (by simp [z])) e) (fun b o _ _ hc e _ => ⟨o.slots, k b o (fun z => hc (by simp [z])) e⟩) (fun _ _ _ _ n => n)
    (fun b o hc e => ⟨o, k b o (fun z => hc (by simp [z])) e⟩) (fun _ _ e => e) (fun _ _ _ e => e) (fun b ps e => ⟨#[], by rw [e]; simp⟩) (fun m hm => ?_) (fun b u e => ?_) I.bare
  · have e : b = it := by simpa using hb
    subst e
    exact ⟨h1, hL, h2, h3⟩
  · obtain ⟨o, es, ep, ho, r⟩ := hm
    exact ⟨o, es, ep, k _ o (Ne.symm hL) ho, r⟩
  · refine (I.hok b u e).stay (fun c v hc q => k c v ?_ q) (fun _ q => q) fun _ _ q => q
    rcases hc with z | z
    · rw [z]; exact nit b u e
    · exact nit c _ z
theorem Inv.tok (I : Inv X pins σ H s) (t : Nat) : Inv X pins σ H { s with toks := t } := I.un (h' := s.heap) (t' := t) Un.refl I.hok
theorem Inv.kept {t' : Nat} (I : Inv X pins σ H s) (k : ∀ b u, s.heap.get? b = some u → h'.get? b = some u) : Inv X pins σ H { s with heap := h', toks := t' } := I.un (Un.kept k) (I.hok.kept k)
theorem Inv.laid {a : Addr} {o : HO} {t' : Nat} (I : Inv X pins σ H s) (k : ∀ b u, s.heap.get? b = some u → h'.get? b = some u) (hp : s.heap.objs.size ≤ a) (new : ObjOk X.prog X.w (upd H a o) h' a o) :
    Inv X pins σ (upd H a o) { s with heap := h', toks := t' } := I.un (Un.laid k hp (I.hok.fresh hp)) (I.hok.laid k hp new)
theorem Inv.write {x e : Addr} {o : HO} {t' : Nat} (I : Inv X pins σ H s) (mu : Mut (H x)) (he : e = x ∨ H e = some (.own x)) (k : ∀ b u, b ≠ e → s.heap.get? b = some u → h'.get? b = some u) (heo : ∃ u, h'.get? e = some u)
    (new : ObjOk X.prog X.w (upd H x o) h' x o) : Inv X pins σ (upd H x o) { s with heap := h', toks := t' } := I.un (Un.write mu he k heo) (I.hok.write mu he k heo new)
theorem Inv.weak {σ' : List (Option V)} (I : Inv X pins σ H s) (hl : σ'.length = σ.length) (w : ∀ (i : Nat) v, σ'[i]? = some (some v) → σ[i]? = some (some v)) : Inv X pins σ' H s :=
  ⟨I.ok, I.os, I.bare, I.base, let ⟨m, hn, hl'⟩ := I.loc; ⟨m, hn, fun i x v e1 e2 e3 => hl' i x v e1 (w i v e2) e3⟩, I.cell, I.free, I.freeC, I.pin, I.hok, hl.trans I.len⟩
theorem Inv.pins_of {pins' : List (Addr × Obj)} (I : Inv X pins σ H s) (h : ∀ p ∈ pins', s.heap.get? p.1 = some p.2 ∧ H p.1 = none ∧ p.1 ≠ X.env.locals ∧ p.1 ∉ X.fs ∧ ∀ v, p.2.data ≠ .cell v) : Inv X pins' σ H s :=
  ⟨I.ok, I.os, I.bare, I.base, I.loc, I.cell, I.free, I.freeC, fun p hp => (List.mem_append.mp hp).elim (fun z => I.pin p (List.mem_append_left _ z)) (h p), I.hok, I.len⟩
theorem nodup_ix {N : List Str} (hN : N.Nodup) {i j : Nat} {x : Str} (a : N[i]? = some x) (b : N[j]? = some x) : i = j := by
  obtain ⟨h1, e1⟩ := List.getElem?_eq_some_iff.mp a
  obtain ⟨h2, e2⟩ := List.getElem?_eq_some_iff.mp b
  exact (List.getElem_inj hN).mp (e1.trans e2.symm)
theorem store_ok2 {M : Model} {A : Around} {E : Value → Shared → Prop} {i : Nat} {x : Str} {v : V} {u : Value} {Q : Unit → Shared → Prop} (I : Inv X pins σ H s) (hN : X.N.Nodup) (hi : X.N[i]? = some x) (hx : Loc X.env.scope x) (r : RelV v u)
    (h : ∀ s', Inv X pins (σ.set i (some v)) H s' → (∃ a, Heap.SameBut a s.heap s'.heap ∧ (a = X.env.locals ∨ X.env.cells.lookup x = some a)) → Q () s') (hf : X.fn x = true ∨ X.env.scope.names.lookup x = some .local := by first | exact .inl rfl | exact .inr rfl | assumption) : wpAny M A (storeName X.env x u) Q E s := by
  obtain ⟨m, hn, hl⟩ := id I.loc
  have hcls : (X.env.scope.kind == .class || (X.env.scope.kind == .module && X.env.locals != X.env.globals)) = false := by rw [I.ok.kind]; rfl
  have hiσ : i < σ.length := by rw [I.len]; exact (List.getElem?_eq_some_iff.mp hi).1
  have cne := I.cne
  have tracked : ∀ {a : Addr} {h' : Heap}, (∃ o, s.heap.get? a = some o ∧ H a = none) → Heap.SameBut a s.heap h' → HOk X.prog X.w H h' := fun {a h'} ha hs b ob e => by
    obtain ⟨_, _, hfree⟩ := ha
    refine (I.hok b ob e).stay (fun c w' hc q => (hs.2 c ?_).trans q) (fun _ q => q) fun _ _ q => q
    rintro rfl
    rcases hc with rfl | hc
    · rw [hfree] at e; cases e
    · rw [hfree] at hc; cases hc
  rcases hx with hk | hk
  · refine wpAny_storeName_local hk hn (fun h' hn' hs => ?_) hcls
    obtain ⟨oL, _, _, hoL, _⟩ := id hn
    refine h _ ⟨I.ok, I.os, I.bare, ⟨fun b o e n hb hx => ?_, fun b o e n hb hx => ?_, I.base.free, fun b o e hx => ?_, I.base.tups, I.base.frzs, I.base.tbls⟩, ⟨_, hn', fun j y v' e1 e2 e3 => ?_⟩, fun y c e => ?_, I.free, I.freeC, fun p hp => ?_, tracked ⟨oL, hoL, I.free⟩ hs, by simpa using I.len⟩ ⟨_, hs, .inl rfl⟩
    · exact (hs.2 b (Nat.ne_of_lt (Nat.lt_of_lt_of_le (Heap.lt_size e) I.ok.above))).trans (I.base.keep b o e n hb hx)
    · obtain ⟨sl, e1⟩ := I.base.slot b o e n hb hx
      exact ⟨sl, (hs.2 b (Nat.ne_of_lt (Nat.lt_of_lt_of_le (Heap.lt_size e) I.ok.above))).trans e1⟩
    · obtain ⟨o', e1⟩ := I.base.there b o e hx
      exact ⟨o', (hs.2 b (Nat.ne_of_lt (Nat.lt_of_lt_of_le (Heap.lt_size e) I.ok.above))).trans e1⟩
    · by_cases hj : j = i
      · subst hj
        rw [hi] at e1; cases e1
        rw [List.getElem?_set_self hiσ] at e2
        cases e2
        exact ⟨u, r, .inl ⟨hk, by simp⟩⟩
      · rw [List.getElem?_set_ne (Ne.symm hj)] at e2
        obtain ⟨u', r', q⟩ := hl j y v' e1 e2 e3
        refine ⟨u', r', ?_⟩
        rcases q with ⟨k, e⟩ | ⟨k, c, e, z⟩
        · refine .inl ⟨k, ?_⟩
          have : y ≠ x := fun e => hj (nodup_ix hN e1 (e ▸ hi))
          simp [this, e]
        · exact .inr ⟨k, c, e, z.sameBut hs (cne y c e)⟩
    · obtain ⟨w', z⟩ := I.cell y c e
      exact ⟨w', z.sameBut hs (cne y c e)⟩
    · obtain ⟨e, n, ne, nf, d⟩ := I.pin p hp
      exact ⟨(hs.2 p.1 ne).trans e, n, ne, nf, d⟩
  · have hfn : X.fn x = true := by
      rcases hf with z | z
      · exact z
      · rw [z] at hk; cases hk
    obtain ⟨c, hc⟩ := I.ok.has x (.inl hk)
    obtain ⟨w', z⟩ := I.cell x c hc
    refine wpAny_storeName_cell I.ok.kind hk hc z (fun h' hc' hs => ?_)
    obtain ⟨oc, hoc, hocd⟩ := id z
    refine h { s with heap := h' } ⟨I.ok, I.os, I.bare, ⟨fun b o e n hb hx => ?_, fun b o e n hb hx => ?_, I.base.free, fun b o e hx => ?_, I.base.tups, I.base.frzs, I.base.tbls⟩, ⟨m, hn.sameBut hs (Ne.symm (cne x c hc)), fun j y v' e1 e2 e3 => ?_⟩, fun y c' e => ?_, I.free, I.freeC, fun p hp => ?_, tracked ⟨oc, hoc, I.freeC x c hc⟩ hs, by simpa using I.len⟩ ⟨c, hs, .inr hc⟩
    · exact (hs.2 b (Nat.ne_of_lt (Nat.lt_of_lt_of_le (Heap.lt_size e) (I.ok.cab x c hfn hc)))).trans (I.base.keep b o e n hb hx)
    · obtain ⟨sl, e1⟩ := I.base.slot b o e n hb hx
      exact ⟨sl, (hs.2 b (Nat.ne_of_lt (Nat.lt_of_lt_of_le (Heap.lt_size e) (I.ok.cab x c hfn hc)))).trans e1⟩
    · obtain ⟨o', e1⟩ := I.base.there b o e hx
      exact ⟨o', (hs.2 b (Nat.ne_of_lt (Nat.lt_of_lt_of_le (Heap.lt_size e) (I.ok.cab x c hfn hc)))).trans e1⟩
    · by_cases hj : j = i
      · subst hj
        rw [hi] at e1; cases e1
        rw [List.getElem?_set_self hiσ] at e2
        cases e2
        exact ⟨u, r, .inr ⟨.inl hk, c, hc, hc'⟩⟩
      · rw [List.getElem?_set_ne (Ne.symm hj)] at e2
        obtain ⟨u', r', q⟩ := hl j y v' e1 e2 e3
        refine ⟨u', r', ?_⟩
        rcases q with q | ⟨k, c', e, z'⟩
        · exact .inl q
        · refine .inr ⟨k, c', e, z'.sameBut hs ?_⟩
          rintro rfl
          exact hj (nodup_ix hN e1 (I.ok.inj _ _ _ e hc ▸ hi))
    · by_cases hcc : c' = c
      · subst hcc; exact ⟨_, hc'⟩
      · obtain ⟨w2, z2⟩ := I.cell y c' e
        exact ⟨w2, z2.sameBut hs hcc⟩
    · obtain ⟨e, n, ne, nf, d⟩ := I.pin p hp
      refine ⟨(hs.2 p.1 ?_).trans e, n, ne, nf, d⟩
      intro q
      rw [q, hoc] at e
      have q' : oc = p.2 := Option.some.inj e
      exact d w' (by rw [← q']; exact hocd)
theorem store_ok {M : Model} {A : Around} {E : Value → Shared → Prop} {i : Nat} {x : Str} {v : V} {u : Value} {Q : Unit → Shared → Prop} (I : Inv X pins σ H s) (hN : X.N.Nodup) (hi : X.N[i]? = some x) (hx : Loc X.env.scope x) (r : RelV v u)
    (h : ∀ s', Inv X pins (σ.set i (some v)) H s' → Q () s') (hf : X.fn x = true ∨ X.env.scope.names.lookup x = some .local := by first | exact .inl rfl | exact .inr rfl | assumption) : wpAny M A (storeName X.env x u) Q E s :=
  store_ok2 I hN hi hx r (fun s' I' _ => h s' I') hf
theorem Inv.call' {s' : Shared} {ch : List Addr} (I : Inv X pins σ H s) (ho : s'.os = s.os) (u : Un (frs X.stack) ch H H' s.heap s'.heap) (hok : HOk X.prog X.w H' s'.heap) (hg : AllBare s'.gens)
    (hch : ∀ b ∈ ch, (b ∈ X.ex ∨ X.s₀.heap.objs.size ≤ b) ∧ b ≠ X.env.locals ∧ (∀ x c, X.env.cells.lookup x = some c → c ≠ b) ∧ ∀ p ∈ X.pn ++ pins, p.1 ≠ b) : Inv X pins σ H' s' := by
  obtain ⟨h', g', d', t', o'⟩ := s'
  have e : o' = s.os := ho
  subst e
  exact I.call (g' := g') (t' := t') (d' := d') u hok hg hch
end
abbrev XK := Value → Option Addr → Hp → Prop
abbrev St := List (Option V)
abbrev VK := V → Hp → Prop
abbrev TE := St → Hp → VK → Prop
abbrev TT := St → Hp → (Bool → Hp → Prop) → Prop
abbrev TA := St → Hp → (List V → Hp → Prop) → Prop
structure Ends where
  nx : St → Hp → Prop
  rt : VK
  bk : St → Hp → Prop := fun _ _ => False
  ct : St → Hp → Prop := fun _ _ => False
abbrev TS := Ends → St → Hp → Prop
def EP (X : Cx) (pins : List (Addr × Obj)) (σ : St) (Q : VK) (u : Value) (s' : Shared) : Prop := ∃ v H', Inv X pins σ H' s' ∧ RelV v u ∧ Q v H'
def TP (X : Cx) (pins : List (Addr × Obj)) (σ : St) (Q : Bool → Hp → Prop) (b : Bool) (s' : Shared) : Prop := ∃ H', Inv X pins σ H' s' ∧ Q b H'
def AP (X : Cx) (pins : List (Addr × Obj)) (σ : St) (Q : List V → Hp → Prop) (us : List Value) (s' : Shared) : Prop := ∃ vs H', Inv X pins σ H' s' ∧ Vals vs us ∧ Q vs H'
def SP (X : Cx) (pins : List (Addr × Obj)) (D : Ends) (f : Flow) (s' : Shared) : Prop :=
  match f with
  | .next => ∃ σ' H', Inv X pins σ' H' s' ∧ D.nx σ' H'
  | .brk => ∃ σ' H', Inv X pins σ' H' s' ∧ D.bk σ' H'
  | .cont => ∃ σ' H', Inv X pins σ' H' s' ∧ D.ct σ' H'
  | .ret u => ∃ v σ' H', Inv X pins σ' H' s' ∧ RelV v u ∧ D.rt v H'
def PE (X : Cx) (e : Expr) (t : TE) : Prop :=
  ∀ (pins : List (Addr × Obj)) (s : Shared) (σ : St) (H : Hp) (Q : VK), Inv X pins σ H s → t σ H Q → wpAny (model X.prog X.w) X.A (eval e X.env) (EP X pins σ Q) X.xe s
def PT (X : Cx) (e : Expr) (t : TT) : Prop :=
  ∀ (pins : List (Addr × Obj)) (s : Shared) (σ : St) (H : Hp) (Q : Bool → Hp → Prop), Inv X pins σ H s → t σ H Q → wpAny (model X.prog X.w) X.A (isTrue e X.env (eval e X.env)) (TP X pins σ Q) X.xe s
def PW (X : Cx) (e : Expr) (t : TT) : Prop :=
  ∀ (whole : Sem Value) (pins : List (Addr × Obj)) (s : Shared) (σ : St) (H : Hp) (Q : Bool → Hp → Prop), Inv X pins σ H s → t σ H Q → wpAny (model X.prog X.w) X.A (isTrue e X.env whole) (TP X pins σ Q) X.xe s
theorem PW.pt {X : Cx} {e : Expr} {t : TT} (h : PW X e t) : PT X e t := h _
def PA (X : Cx) (es : List Expr) (t : TA) : Prop :=
  ∀ (pos : Pos) (pins : List (Addr × Obj)) (s : Shared) (σ : St) (H : Hp) (Q : List V → Hp → Prop), Inv X pins σ H s → t σ H Q → wpAny (model X.prog X.w) X.A (spliced (backTo pos (starEach es X.env))) (AP X pins σ Q) X.xe s
def PS (X : Cx) (st : Stmt) (t : TS) : Prop :=
  ∀ (pins : List (Addr × Obj)) (s : Shared) (σ : St) (H : Hp) (D : Ends), Inv X pins σ H s → t D σ H → wpAny (model X.prog X.w) X.A (exec st X.env) (SP X pins D) X.xe s
def PSs (X : Cx) (st : List Stmt) (t : TS) : Prop :=
  ∀ (pins : List (Addr × Obj)) (s : Shared) (σ : St) (H : Hp) (D : Ends), Inv X pins σ H s → t D σ H → wpAny (model X.prog X.w) X.A (execs st X.env) (SP X pins D) X.xe s
theorem thn {α : Type} {t : Sem α} {Q Q' : α → Shared → Prop} {M : Model} {A : Around} {E : Value → Shared → Prop} {s : Shared} (h : wpAny M A t Q E s) (hQ : ∀ a s, Q a s → Q' a s) : wpAny M A t Q' E s := wpAny_mono h hQ fun _ _ x => x
end L2
namespace L2
open PySem PySem.Spec PyProof.Rows
section
variable {X : Cx}
def tVar (i : Nat) : TE := fun σ H Q => ∃ v, σ[i]? = some (some v) ∧ Q v H
def tC (v : V) : TE := fun _ H Q => Q v H
theorem pe_var {i : Nat} {x : Str} {pos : Pos} (hN : X.N[i]? = some x) (hv : Vis X.env.scope x) (hd : (x == ("__debug__" : Str)) = false := by decide) (hcd : (x == ("__classdict__" : Str)) = false := by decide) : PE X (.Name x pos) (tVar i) := by
  intro pins s σ H Q I h
  obtain ⟨v, e, h⟩ := h
  obtain ⟨m, hn, hl⟩ := I.loc
  obtain ⟨u, r, l⟩ := hl i x v hN e hv
  have fin : EP X pins σ Q u s := ⟨v, H, I, r, h⟩
  rcases l with ⟨hk, hm⟩ | ⟨hk, c, hc, hcell⟩
  · exact wpAny_Name (wpAny_loadName_local I.ok.kind hk hn hm fin) hd
  · rcases hk with hk | hk
    · exact wpAny_Name (wpAny_loadName_cell I.ok.kind hk hc hcell fin) hd
    · exact wpAny_Name (wpAny_loadName_free I.ok.kind hk hc hcell fin hcd) hd
theorem pe_int {i j pos} : PE X (.Constant (.int i) j pos) (tC (.int i)) := fun _ _ _ H _ I h => wpAny_Constant_int ⟨.int i, H, I.tok _, ⟨_, rfl⟩, h⟩
theorem pe_bl {b j pos} : PE X (.Constant (.bool b) j pos) (tC (.bl b)) := fun _ _ _ H _ I h => Constant_bool ⟨.bl b, H, I, rfl, h⟩
theorem pe_non {j pos} : PE X (.Constant .none j pos) (tC .non) := fun _ _ _ H _ I h => Constant_none ⟨.non, H, I, rfl, h⟩
theorem pe_str {x j pos} : PE X (.Constant (.str x) j pos) (tC (.str x)) := fun _ _ _ H _ I h => Calls.Constant_str ⟨.str x, H, I.tok _, ⟨_, rfl⟩, h⟩
def Gl (X : Cx) (x : Str) : Prop := X.env.kindOf x = some .globalImplicit
theorem ld_glob {E : Value → Shared → Prop} {pins : List (Addr × Obj)} {s : Shared} {σ : St} {H : Hp} {x : Str} {u : Value} {pos : Pos} {Q : Value → Shared → Prop} (I : Inv X pins σ H s) (hg : Gl X x) (hm : X.mg x = some u) (h : Q u s)
    (hd : (x == ("__debug__" : Str)) = false := by decide) : wpAny (model X.prog X.w) X.A (eval (.Name x pos) X.env) Q E s :=
  Calls.Name_function_global I.ok.kind hg (Calls.loadGlobal_global (by rw [I.ok.glob]; exact I.mod.glob.keeps I.bk) hm h) hd
theorem ld_blt {E : Value → Shared → Prop} {pins : List (Addr × Obj)} {s : Shared} {σ : St} {H : Hp} {x : Str} {u : Value} {pos : Pos} {Q : Value → Shared → Prop} (I : Inv X pins σ H s) (hg : Gl X x) (hm : X.mg x = none) (hv : bootBuiltins x = some u) (h : Q u s)
    (hn : x ≠ "__name__" := by decide) (hd : (x == ("__debug__" : Str)) = false := by decide) : wpAny (model X.prog X.w) X.A (eval (.Name x pos) X.env) Q E s := by
  obtain ⟨mb, h1, h2⟩ := I.mod.blt
  exact Calls.Name_function_global I.ok.kind hg (Calls.loadGlobal_builtin (by rw [I.ok.glob]; exact I.mod.glob.keeps I.bk) hm (by rw [I.ok.blt]; exact h1.keeps I.bk) ((h2 x hn).trans hv) h) hd
theorem pe_glob {x : Str} {v : V} {u : Value} {pos : Pos} (hg : Gl X x) (hm : X.mg x = some u) (r : RelV v u) (hd : (x == ("__debug__" : Str)) = false := by decide) : PE X (.Name x pos) (tC v) :=
  fun _ _ _ H _ I h => ld_glob I hg hm ⟨v, H, I, r, h⟩ hd
theorem pe_bltn {x : Str} {v : V} {u : Value} {pos : Pos} (hg : Gl X x) (hm : X.mg x = none) (hv : bootBuiltins x = some u) (r : RelV v u) (hn : x ≠ "__name__" := by decide) (hd : (x == ("__debug__" : Str)) = false := by decide) : PE X (.Name x pos) (tC v) :=
  fun _ _ _ H _ I h => ld_blt I hg hm hv ⟨v, H, I, r, h⟩ hn hd
def t2I (ta tb : TE) (k : Int → Int → Hp → Prop) : St → Hp → Prop := fun σ H => ta σ H fun x H1 => tb σ H1 fun y H2 => ∃ i j, x = .int i ∧ y = .int j ∧ k i j H2
def tMul (ta tb : TE) : TE := fun σ H Q => t2I ta tb (fun i j H2 => (-(2 ^ 64) < i ∧ i < 2 ^ 64) ∧ Q (.int (i * j)) H2) σ H
variable {a b : Expr} {ta tb : TE} {pos : Pos}
def tIsN (ta : TE) : TE := fun σ H Q => ta σ H fun x H1 => Q (.bl (decide (x = .non))) H1
def tB (t : TE) : TT := fun σ H Q => t σ H fun x H1 => ∃ c, x = .bl c ∧ Q c H1
theorem pt_val {e : Expr} {t : TE} (h : PE X e t) (he : ∀ whole, isTrue e X.env whole = (do let v ← whole; standAt e.pos; holding [v] (truthy v)) := by intro _; rfl) : PT X e (tB t) := by
  intro pins s σ H Q I hw
  refine isTrue_plain (thn (h pins s σ H _ I hw) fun v s1 ⟨x, H1, I1, r1, q1⟩ => ?_) (he _)
  obtain ⟨d, rfl, q⟩ := q1
  cases r1
  exact wpAny_truthy_bool ⟨H1, I1, q⟩
variable {tA tB' : TT} {rest : List Expr}
def tAnd (t u : TT) : TT := fun σ H Q => t σ H fun c H1 => if c = true then u σ H1 Q else Q false H1
def tOr (t u : TT) : TT := fun σ H Q => t σ H fun c H1 => if c = true then Q true H1 else u σ H1 Q
def tNot (t : TT) : TT := fun σ H Q => t σ H fun c H1 => Q (!c) H1
theorem pw_and1 (ha : PT X a tA) : PW X (.BoolOp .And [a] pos) tA := by
  intro wh pins s σ H Q I h
  refine isTrue_and (thn (ha pins s σ H Q I h) fun c s1 e => ?_)
  cases c with
  | true => exact isTrue_and_nil e
  | false => exact e
theorem pw_or1 (ha : PT X a tA) : PW X (.BoolOp .Or [a] pos) tA := by
  intro wh pins s σ H Q I h
  refine isTrue_or (thn (ha pins s σ H Q I h) fun c s1 e => ?_)
  cases c with
  | false => exact isTrue_or_nil e
  | true => exact e
theorem pw_and (ha : PT X a tA) (hb : PW X (.BoolOp .And (b :: rest) pos) tB') : PW X (.BoolOp .And (a :: b :: rest) pos) (tAnd tA tB') := by
  intro wh pins s σ H Q I h
  refine isTrue_and (thn (ha pins s σ H _ I h) fun c s1 ⟨H1, I1, q1⟩ => ?_)
  cases c with
  | true => exact hb wh pins s1 σ H1 Q I1 q1
  | false => exact ⟨H1, I1, q1⟩
theorem pw_or (ha : PT X a tA) (hb : PW X (.BoolOp .Or (b :: rest) pos) tB') : PW X (.BoolOp .Or (a :: b :: rest) pos) (tOr tA tB') := by
  intro wh pins s σ H Q I h
  refine isTrue_or (thn (ha pins s σ H _ I h) fun c s1 ⟨H1, I1, q1⟩ => ?_)
  cases c with
  | true => exact ⟨H1, I1, q1⟩
  | false => exact hb wh pins s1 σ H1 Q I1 q1
theorem pt_not (ha : PT X a tA) : PT X (.UnaryOp .Not a pos) (tNot tA) := by
  intro pins s σ H Q I h
  exact isTrue_not (ha pins s σ H (fun c H1 => Q (!c) H1) I h)
def tAndV (ta tb : TE) : TE := fun σ H Q => ta σ H fun x H1 => ∃ c, x = .bl c ∧ if c = true then tb σ H1 Q else Q (.bl false) H1
def tOrV (ta tb : TE) : TE := fun σ H Q => ta σ H fun x H1 => ∃ c, x = .bl c ∧ if c = true then Q (.bl true) H1 else tb σ H1 Q
def tNotV (ta : TE) : TE := fun σ H Q => ta σ H fun x H1 => ∃ c, x = .bl c ∧ Q (.bl (!c)) H1
theorem pe_one {op} {t : TE} (h : PE X a t) : PE X (.BoolOp op [a] pos) t := fun pins s σ H Q I hw => BoolOp_one (h pins s σ H Q I hw)
theorem pe_and (ha : PE X a ta) (hb : PE X (.BoolOp .And (b :: rest) pos) tb) : PE X (.BoolOp .And (a :: b :: rest) pos) (tAndV ta tb) := by
  intro pins s σ H Q I h
  refine BoolOp_and (thn (ha pins s σ H _ I h) fun v s1 ⟨x, H1, I1, r1, q1⟩ => ?_)
  obtain ⟨c, rfl, q1⟩ := q1
  cases r1
  refine wpAny_truthy_bool ?_
  cases c with
  | true => exact hb pins s1 σ H1 Q I1 q1
  | false => exact ⟨.bl false, H1, I1, rfl, q1⟩
theorem pe_or (ha : PE X a ta) (hb : PE X (.BoolOp .Or (b :: rest) pos) tb) : PE X (.BoolOp .Or (a :: b :: rest) pos) (tOrV ta tb) := by
  intro pins s σ H Q I h
  refine BoolOp_or (thn (ha pins s σ H _ I h) fun v s1 ⟨x, H1, I1, r1, q1⟩ => ?_)
  obtain ⟨c, rfl, q1⟩ := q1
  cases r1
  refine wpAny_truthy_bool ?_
  cases c with
  | false => exact hb pins s1 σ H1 Q I1 q1
  | true => exact ⟨.bl true, H1, I1, rfl, q1⟩
theorem pe_not (ha : PE X a ta) : PE X (.UnaryOp .Not a pos) (tNotV ta) := by
  intro pins s σ H Q I h
  refine UnaryOp_ (thn (ha pins s σ H _ I h) fun v s1 ⟨x, H1, I1, r1, q1⟩ => ?_)
  obtain ⟨c, rfl, q1⟩ := q1
  cases r1
  exact not_of (wpAny_truthy_bool ⟨.bl (!c), H1, I1, rfl, q1⟩)
def tIf (t : TT) (ta tb : TE) : TE := fun σ H Q => t σ H fun c H1 => if c = true then ta σ H1 Q else tb σ H1 Q
end
end L2
namespace L2
open PySem PySem.Spec PyProof.Rows
def SqL (K : PySem.W.Frag) (H : Hp) (a : Addr) (xs : List V) : Prop :=
  Rd H a (.lst xs) ∨
    ∃ (o : Obj) (its : Array Value) (n : Nat), K.lookup a = some o ∧ o.cls = .type "list" ∧ o.dict = none ∧ o.data = .seq its n ∧ its.size ≤ sizeLine ∧ Vals xs its.toList
def SqT (K : PySem.W.Frag) (H : Hp) (a : Addr) (xs : List V) : Prop :=
  Rd H a (.tup xs) ∨
    ∃ (o : Obj) (its : Array Value) (n : Nat), K.lookup a = some o ∧ o.cls = .type "tuple" ∧ o.data = .seq its n ∧ its.size ≤ sizeLine ∧ Vals xs its.toList
def absV : Value → Option V
  | .none => some .non
  | .bool b => some (.bl b)
  | .int i _ => some (.int i)
  | .str x _ => some (.str x)
  | .bytes b _ => some (.byt b)
  | .float b _ => some (.flt b)
  | .ref a => some (.ref a)
  | .type n => some (.ty n)
  | _ => none
theorem RelV.abs {x : V} {u : Value} (r : RelV x u) : absV u = some x := by
  cases x with
  | non => cases r; rfl
  | bl _ => cases r; rfl
  | int _ => obtain ⟨t, rfl⟩ := r; rfl
  | str _ => obtain ⟨t, rfl⟩ := r; rfl
  | byt _ => obtain ⟨t, rfl⟩ := r; rfl
  | flt _ => obtain ⟨t, rfl⟩ := r; rfl
  | ref _ => cases r; rfl
  | ty _ => cases r; rfl
theorem RelV.inj {x y : V} {u : Value} (r : RelV x u) (q : RelV y u) : x = y := Option.some.inj (r.abs.symm.trans q.abs)
theorem Vals.inj : ∀ {xs ys : List V} {us : List Value}, Vals xs us → Vals ys us → xs = ys
  | _, _, _, .nil, .nil => rfl
  | _, _, _, .cons r t, .cons r' t' => by rw [r.inj r', Vals.inj t t']
section
variable {X : Cx} {pins : List (Addr × Obj)} {σ : St} {H : Hp} {s : Shared} {a : Addr} {xs ys : List V}
theorem SqL.of {K : PySem.W.Frag} (h : H a = some (.lst xs)) : SqL K H a xs := .inl (.inl h)
theorem SqT.of {K : PySem.W.Frag} (h : H a = some (.tup xs)) : SqT K H a xs := .inl (.inl h)
theorem Inv.list (I : Inv X pins σ H s) (h : SqL X.K H a xs) : ∃ its : List Value, Vals xs its ∧ PlainL s.heap a its.toArray ∧ xs.length ≤ sizeLine := by
  rcases h with h | ⟨o, its, n, hk, hc, hd, hs, hz, r⟩
  · obtain ⟨z, its, n, r, e⟩ := h.ok I.hok
    exact ⟨its, r, ⟨_, n, e, rfl, rfl, rfl⟩, z⟩
  · refine ⟨its.toList, r, ⟨o, n, I.kIn a o hk, hc, hd, by simpa using hs⟩, ?_⟩
    have e := r.length
    simp only [Array.length_toList] at e
    omega
theorem Inv.tuple (I : Inv X pins σ H s) (h : SqT X.K H a xs) : ∃ its : List Value, Vals xs its ∧ IsTup s.heap a its.toArray ∧ xs.length ≤ sizeLine := by
  rcases h with h | ⟨o, its, n, hk, hc, hs, hz, r⟩
  · obtain ⟨z, its, r, p⟩ := h.ok I.hok
    exact ⟨its, r, p.is, z⟩
  · refine ⟨its.toList, r, ⟨o, I.kIn a o hk, hc, n, by simpa using hs⟩, ?_⟩
    have e := r.length
    simp only [Array.length_toList] at e
    omega
theorem Inv.list_inj (I : Inv X pins σ H s) (h : SqL X.K H a xs) (h' : SqL X.K H a ys) : xs = ys := by
  obtain ⟨its, r, ⟨o, n, e, _, _, d⟩, _⟩ := I.list h
  obtain ⟨its', r', ⟨o', n', e', _, _, d'⟩, _⟩ := I.list h'
  rw [e] at e'; cases e'
  rw [d] at d'
  injection d' with d1 _
  have : its = its' := by simpa using congrArg Array.toList d1
  subst this
  exact r.inj r'
theorem Inv.tuple_inj (I : Inv X pins σ H s) (h : SqT X.K H a xs) (h' : SqT X.K H a ys) : xs = ys := by
  obtain ⟨its, r, ⟨o, e, _, n, d⟩, _⟩ := I.tuple h
  obtain ⟨its', r', ⟨o', e', _, n', d'⟩, _⟩ := I.tuple h'
  rw [e] at e'; cases e'
  rw [d] at d'
  injection d' with d1 _
  have : its = its' := by simpa using congrArg Array.toList d1
  subst this
  exact r.inj r'
end
abbrev Cx.wish (X : Cx) (E : Value → Shared → Prop) : Cx := { X with xe := E }
abbrev Cx.nox (X : Cx) : Cx := X.wish fun _ _ => False
theorem Cx.Ok.wish {X : Cx} (ok : X.Ok) (E : Value → Shared → Prop) : (X.wish E).Ok :=
  ⟨ok.mod, ok.kind, ok.glob, ok.blt, ok.above, ok.inj, ok.has, ok.cab, ok.hd, ok.frames, ok.stk, ok.exf, ok.bs, ok.bsz, ok.noex, ok.exfs, ok.funs, ok.frf⟩
theorem Cx.Ok.unwish {X : Cx} {E : Value → Shared → Prop} (ok : (X.wish E).Ok) : X.Ok :=
  ⟨ok.mod, ok.kind, ok.glob, ok.blt, ok.above, ok.inj, ok.has, ok.cab, ok.hd, ok.frames, ok.stk, ok.exf, ok.bs, ok.bsz, ok.noex, ok.exfs, ok.funs, ok.frf⟩
section
variable {X : Cx} {pins : List (Addr × Obj)} {σ : St} {H : Hp} {s : Shared} {E : Value → Shared → Prop}
theorem Inv.wish (I : Inv X pins σ H s) (E : Value → Shared → Prop) : Inv (X.wish E) pins σ H s := ⟨I.ok.wish E, I.os, I.bare, I.base, I.loc, I.cell, I.free, I.freeC, I.pin, I.hok, I.len⟩
theorem Inv.unwish (I : Inv (X.wish E) pins σ H s) : Inv X pins σ H s := ⟨I.ok.unwish, I.os, I.bare, I.base, I.loc, I.cell, I.free, I.freeC, I.pin, I.hok, I.len⟩
theorem SP.unwish {D : Ends} {f : Flow} {s' : Shared} (h : SP (X.wish E) pins D f s') : SP X pins D f s' := by
  cases f with
  | next => obtain ⟨σ', H', I, q⟩ := h; exact ⟨σ', H', I.unwish, q⟩
  | brk => obtain ⟨σ', H', I, q⟩ := h; exact ⟨σ', H', I.unwish, q⟩
  | cont => obtain ⟨σ', H', I, q⟩ := h; exact ⟨σ', H', I.unwish, q⟩
  | ret u => obtain ⟨v, σ', H', I, r, q⟩ := h; exact ⟨v, σ', H', I.unwish, r, q⟩
theorem PSs.nox {st : List Stmt} {t : TS} (h : PSs X.nox st t) : PSs X st t := fun pins s σ H D I hw =>
  wpAny_mono (h pins s σ H D (I.wish _) hw) (fun _ _ q => q.unwish) fun _ _ z => False.elim z
end
section
variable {X : Cx} {st : Stmt} {rest : List Stmt} {t u : TS} {e : Expr} {te : TE} {pos : Pos}
def tNext : TS := fun D σ H => D.nx σ H
def tSeq (t u : TS) : TS := fun D σ H => t { D with nx := u D } σ H
theorem pss_nil : PSs X [] tNext := fun _ _ σ H _ I h => wpAny_execs_nil ⟨σ, H, I, h⟩
theorem pss_cons (h1 : PS X st t) (h2 : PSs X rest u) : PSs X (st :: rest) (tSeq t u) := by
  intro pins s σ H D I h
  refine wpAny_execs_cons (thn (h1 pins s σ H { D with nx := u D } I h) fun f s1 q => ?_)
  cases f with
  | next =>
    obtain ⟨σ', H', I', q⟩ := q
    exact h2 pins s1 σ' H' D I' q
  | ret v => exact q
  | brk => exact q
  | cont => exact q
theorem pss_one (h1 : PS X st t) : PSs X [st] t := by
  intro pins s σ H D I h
  refine wpAny_execs_cons (thn (h1 pins s σ H D I h) fun f s1 q => ?_)
  cases f with
  | next => exact wpAny_execs_nil q
  | ret v => exact q
  | brk => exact q
  | cont => exact q
theorem Inv.quiet {pins : List (Addr × Obj)} {σ : St} {H : Hp} {s : Shared} (I : Inv X pins σ H s) : interactive X.env = false := by simp [interactive, I.ok.kind]
def tDrop (te : TE) : TS := fun D σ H => te σ H fun _ H1 => D.nx σ H1
theorem ps_expr (he : PE X e te) (hs : swapsWith e none pos.line X.env = pure false := by rfl) : PS X (.Expr e pos) (tDrop te) := by
  intro pins s σ H D I h
  exact wpAny_Expr_any (thn (he pins s σ H _ I h) fun v s1 ⟨x, H1, I1, r1, q1⟩ => ⟨σ, H1, I1, q1⟩) I.quiet hs
def tRet (te : TE) : TS := fun D σ H => te σ H D.rt
theorem ps_ret (he : PE X e te) : PS X (.Return (some e) pos) (tRet te) := by
  intro pins s σ H D I h
  exact wpAny_Return_some (thn (he pins s σ H _ I h) fun v s1 ⟨x, H1, I1, r1, q1⟩ => ⟨x, σ, H1, I1, r1, q1⟩)
def tIfS (c : TT) (t u : TS) : TS := fun D σ H => c σ H fun b H1 => if b = true then t D σ H1 else u D σ H1
theorem ps_if {c : Expr} {a b : List Stmt} {tc : TT} (hc : PT X c tc) (ha : PSs X a t) (hb : PSs X b u) : PS X (.If c a b pos) (tIfS tc t u) := by
  intro pins s σ H D I h
  refine wpAny_If (thn (hc pins s σ H _ I h) fun d s1 ⟨H1, I1, q1⟩ => ?_)
  cases d with
  | true => exact ha pins s1 σ H1 D I1 q1
  | false => exact hb pins s1 σ H1 D I1 q1
def tNever : TS := fun _ _ _ => False
end
abbrev TG := V → St → Hp → (St → Hp → Prop) → Prop
abbrev TGs := List V → St → Hp → (St → Hp → Prop) → Prop
def PG (X : Cx) (target : Expr) (t : TG) : Prop :=
  ∀ (pins : List (Addr × Obj)) (s : Shared) (σ : St) (H : Hp) (v : V) (u : Value) (Q : St → Hp → Prop), Inv X pins σ H s → RelV v u → t v σ H Q →
    wpAny (model X.prog X.w) X.A (assign target X.env u) (fun _ s' => ∃ σ' H', Inv X pins σ' H' s' ∧ Q σ' H') X.xe s
def PGs (X : Cx) (ts : List Expr) (t : TGs) : Prop :=
  ∀ (pins : List (Addr × Obj)) (s : Shared) (σ : St) (H : Hp) (vs : List V) (us : List Value) (Q : St → Hp → Prop), Inv X pins σ H s → Vals vs us → t vs σ H Q →
    wpAny (model X.prog X.w) X.A (assignInOrder ((assignEach ts X.env).map (·.2)) us) (fun _ s' => ∃ σ' H', Inv X pins σ' H' s' ∧ Q σ' H') X.xe s
abbrev TSet := V → V → V → Hp → (Hp → Prop) → Prop
def PSet (X : Cx) (t : TSet) : Prop :=
  ∀ (pins : List (Addr × Obj)) (s : Shared) (σ : St) (H : Hp) (o i v : V) (ov iv u : Value) (Q : Hp → Prop), Inv X pins σ H s → RelV o ov → RelV i iv → RelV v u → t o i v H Q →
    wpAny (model X.prog X.w) X.A (setItem ov iv u) (fun _ s' => ∃ H', Inv X pins σ H' s' ∧ Q H') X.xe s
abbrev TIp := V → V → Hp → VK → Prop
section
variable {X : Cx} {pos : Pos}
def gName (i : Nat) : TG := fun v σ H Q => Q (σ.set i (some v)) H
theorem pg_name {i : Nat} {x : Str} (hN : X.N.Nodup) (hi : X.N[i]? = some x) (hx : Loc X.env.scope x) (hf : X.fn x = true ∨ X.env.scope.names.lookup x = some .local := by first | exact .inl rfl | exact .inr rfl | assumption) : PG X (.Name x pos) (gName i) := by
  intro pins s σ H v u Q I r h
  exact wpAny_assign_Name (store_ok I hN hi hx r (fun s' I' => ⟨_, H, I', h⟩) hf)
def gNil : TGs := fun vs σ H Q => vs = [] ∧ Q σ H
def gCons (t : TG) (u : TGs) : TGs := fun vs σ H Q => ∃ v r, vs = v :: r ∧ t v σ H fun σ' H' => u r σ' H' Q
theorem pgs_nil : PGs X [] gNil := by
  intro pins s σ H vs us Q I r h
  obtain ⟨e, h⟩ := h
  subst e
  cases r
  exact assignInOrder_nil ⟨σ, H, I, h⟩
theorem pgs_cons {e : Expr} {es : List Expr} {t : TG} {u : TGs} (h1 : PG X e t) (h2 : PGs X es u)
    (hs : (assignEach (e :: es) X.env).map (·.2) = assign e X.env :: (assignEach es X.env).map (·.2) := by rfl) : PGs X (e :: es) (gCons t u) := by
  intro pins s σ H vs us Q I r h
  obtain ⟨v, vr, e1, h⟩ := h
  subst e1
  cases r with
  | cons r rr =>
    rw [hs]
    refine assignInOrder_cons (thn (h1 pins s σ H _ _ _ I r h) fun _ s1 ⟨σ1, H1, I1, q1⟩ => ?_)
    exact h2 pins s1 σ1 H1 _ _ Q I1 rr q1
def gTup (K : PySem.W.Frag) (n : Nat) (t : TGs) : TG := fun v σ H Q => ∃ a xs, v = .ref a ∧ SqT K H a xs ∧ xs.length = n ∧ t xs σ H Q
theorem pg_tup {es : List Expr} {k : Nat} {t : TGs} {n : Nat} (hc : X.calm = true) (h : PGs X es t)
    (hn : (assignEach es X.env).length = n := by rfl) (hst : (assignEach es X.env).findIdx? (·.1) = none := by rfl) : PG X (.Tuple es k pos) (gTup X.K n t) := by
  intro pins s σ H v u Q I r hw
  obtain ⟨a, xs, e1, hq, hl, hw⟩ := hw
  subst e1
  cases r
  obtain ⟨its, rv, ht, hz⟩ := I.tuple hq
  refine assign_Tuple_tuple (I.ok.hd hc) ht (by simp [hn, ← hl, rv.length]) hst fun h' hx => ?_
  have I1 : Inv X pins σ H { s with heap := h' } := I.kept (t' := s.toks) fun b o e => hx b o (Nat.ne_of_lt (Heap.lt_size e)) e
  exact h pins _ σ H xs _ Q I1 (by simpa using rv) hw
def gSub (to ti : TE) (t : TSet) : TG := fun v σ H Q => to σ H fun o H1 => ti σ H1 fun i H2 => t o i v H2 fun H3 => Q σ H3
theorem pg_sub {o i : Expr} {to ti : TE} {t : TSet} (ho : PE X o to) (hi : PE X i ti) (hs : PSet X t)
    (ha : ∀ v, assign (.Subscript o i pos) X.env v = (do
      let ov ← holding [v] (eval o X.env)
      let iv ← holding [v, ov] (eval i X.env)
      standAt pos
      holding [v, ov, iv] (setItem ov iv v)
      release [v, ov, iv] []) := by intro _; rfl) : PG X (.Subscript o i pos) (gSub to ti t) := by
  intro pins s σ H v u Q I r h
  rw [ha]
  refine wpAny_bind (wpAny_holding (thn (ho pins s σ H _ I h) fun ov s1 ⟨x, H1, I1, r1, q1⟩ => ?_))
  refine wpAny_bind (wpAny_holding (thn (hi pins s1 σ H1 _ I1 q1) fun iv s2 ⟨y, H2, I2, r2, q2⟩ => ?_))
  refine wpAny_bind (wpAny_standAt (wpAny_bind (wpAny_holding (thn (hs pins s2 σ H2 x y v ov iv u _ I2 r1 r2 r q2) fun _ s3 ⟨H3, I3, q3⟩ => ?_))))
  exact wpAny_release ⟨σ, H3, I3, q3⟩
def tAsg (te : TE) (g : TG) : TS := fun D σ H => te σ H fun x H1 => g x σ H1 D.nx
theorem ps_asg {tg e : Expr} {te : TE} {g : TG} (he : PE X e te) (hg : PG X tg g) (hs : swapsWithSole [tg] e pos.line X.env = pure false := by rfl) (hw : swappedStores [tg] e X.env = pure none := by rfl)
    (h1 : (assignEach [tg] X.env).map (·.2) = [assign tg X.env] := by rfl) : PS X (.Assign [tg] e pos) (tAsg te g) := by
  intro pins s σ H D I h
  refine wpAny_Assign_stores (thn (he pins s σ H _ I h) fun v s1 ⟨x, H1, I1, r1, q1⟩ => ?_) hs hw
  rw [h1]
  exact thn (hg pins s1 σ H1 x v _ I1 r1 q1) fun _ s2 q => q
theorem ps_set {i : Nat} {x : Str} {e : Expr} {te : TE} {pos' : Pos} (hN : X.N.Nodup) (hi : X.N[i]? = some x) (hx : Loc X.env.scope x) (he : PE X e te) (hs : swapsWith e (some (.Name x pos')) pos.line X.env = pure false := by rfl) (hf : X.fn x = true ∨ X.env.scope.names.lookup x = some .local := by first | exact .inl rfl | exact .inr rfl | assumption) :
    PS X (.Assign [.Name x pos'] e pos) (tAsg te (gName i)) := by
  intro pins s σ H D I h
  refine wpAny_Assign_Name (thn (he pins s σ H _ I h) fun v s1 ⟨y, H1, I1, r1, q1⟩ => ?_) hs
  exact store_ok I1 hN hi hx r1 (fun s2 I2 => ⟨_, H1, I2, q1⟩) hf
def tPar (i j : Nat) (ta : TA) : TS := fun D σ H => ta σ H fun vs H1 => ∃ v w, vs = [v, w] ∧ D.nx ((σ.set i (some v)).set j (some w)) H1
def tAug (i : Nat) (te : TE) (ti : TIp) : TS := fun D σ H => ∃ x, σ[i]? = some (some x) ∧ te σ H fun y H1 => ti x y H1 fun z H2 => D.nx (σ.set i (some z)) H2
def tAugS (to ti te : TE) (tget : V → V → Hp → VK → Prop) (tip : TIp) (tset : TSet) : TS := fun D σ H => to σ H fun o H1 => ti σ H1 fun i H2 => tget o i H2 fun x H3 => te σ H3 fun y H4 => tip x y H4 fun z H5 => tset o i z H5 fun H6 => D.nx σ H6
def PGet (X : Cx) (t : V → V → Hp → VK → Prop) : Prop :=
  ∀ (pins : List (Addr × Obj)) (s : Shared) (σ : St) (H : Hp) (o i : V) (ov iv : Value) (Q : VK), Inv X pins σ H s → RelV o ov → RelV i iv → t o i H Q →
    wpAny (model X.prog X.w) X.A (getItem ov iv) (EP X pins σ Q) X.xe s
def ipI (f : Int → Int → Int) : TIp := fun x y H Q => ∃ i j, x = .int i ∧ y = .int j ∧ Q (.int (f i j)) H
end
section
variable {X : Cx} {pos : Pos}
def tWhile (c : TT) (tb : TS) : TS := fun D σ H => ∃ W : Nat → St → Hp → Prop, (∃ m, W m σ H) ∧ ∀ m σ H, W m σ H →
  c σ H fun b H1 => if b = true then ∃ N : St → Hp → Prop, (∀ σ' H', N σ' H' → ∃ m', m' < m ∧ W m' σ' H') ∧ tb { D with nx := N, ct := N, bk := D.nx } σ H1 else D.nx σ H1
end
structure It where
  go : Nat → Hp → Prop
  yld : Nat → Hp → V → Hp → Prop
  stop : Nat → Hp → Prop
def FpOk (X : Cx) (pins : List (Addr × Obj)) (H : Hp) (b : Addr) : Prop :=
  H b = none ∧ b ≠ X.env.locals ∧ b ∉ X.fs ∧ (b ∈ X.ex ∨ X.s₀.heap.objs.size ≤ b) ∧ (∀ x c, X.env.cells.lookup x = some c → c ≠ b) ∧ ∀ p ∈ X.pn ++ pins, p.1 ≠ b
theorem Inv.fpOk {X : Cx} {pins : List (Addr × Obj)} {σ : St} {H H' : Hp} {s : Shared} {b : Addr} (I : Inv X pins σ H s) (hb : s.heap.objs.size ≤ b) (hn : H' b = none) : FpOk X pins H' b := by
  refine ⟨hn, Nat.ne_of_gt (Nat.lt_of_lt_of_le I.lt hb), I.nofs hb, .inr (Nat.le_trans I.sz hb), fun x c e z => ?_, fun p hp z => ?_⟩
  · obtain ⟨v, q⟩ := I.cell x c e
    exact absurd (Nat.lt_of_lt_of_le q.lt (by rw [z]; exact hb)) (Nat.lt_irrefl _)
  · exact absurd (Nat.lt_of_lt_of_le (Heap.lt_size (I.pin p hp).1) (by rw [z]; exact hb)) (Nat.lt_irrefl _)
structure Turn (P : Program) (w : World) (K : PySem.W.Frag) (tg : Expr) (J : It) (fp : List Addr) (it : Addr) (tn : Nat → Heap → Prop) : Prop where
  mem : it ∈ fp
  obj : ∀ i h, tn i h → ∀ b ∈ fp, ∃ o, h.get? b = some o ∧ ∀ v, o.data ≠ .cell v
  keep : ∀ i h h', tn i h → (∀ b ∈ fp, ∀ o, h.get? b = some o → h'.get? b = some o) → tn i h'
  item : ∀ (X : Cx), X.prog = P → X.w = w → X.K = K → X.calm = true → ∀ (i : Nat) (pins : List (Addr × Obj)) (s : Shared) (σ : St) (H : Hp) (E : Value → Shared → Prop), Inv X pins σ H s → (∀ b ∈ fp, FpOk X pins H b) → tn i s.heap → J.go i H →
    wpAny (model P w) X.A (pyNext (.ref it)) (fun r s1 => ∃ u, r = some u ∧
      wpAny (model P w) X.A (letOwnedTupleGo tg (.ref it) u) (fun _ s2 => ∃ x H', Inv X pins σ H' s2 ∧ RelV x u ∧ J.yld i H x H' ∧ tn (i + 1) s2.heap ∧ ∀ b ∈ fp, H' b = none) E s1) E s
  done : ∀ (X : Cx), X.prog = P → X.w = w → X.K = K → X.calm = true → ∀ (i : Nat) (pins : List (Addr × Obj)) (s : Shared) (σ : St) (H : Hp) (E : Value → Shared → Prop), Inv X pins σ H s → (∀ b ∈ fp, FpOk X pins H b) → tn i s.heap → J.stop i H →
    wpAny (model P w) X.A (pyNext (.ref it)) (fun r s1 => r = none ∧ Inv X pins σ H s1) E s
  self : ∀ (A : Around) (i : Nat) (s : Shared) (Q : Value → Shared → Prop) (E : Value → Shared → Prop), tn i s.heap → Q (.ref it) s → wpAny (model P w) A (pyIter (.ref it)) Q E s
abbrev TI := St → Hp → (It → Hp → Prop) → Prop
def PIE (X : Cx) (pins : List (Addr × Obj)) (σ : St) (tg : Expr) (R : It → Hp → Prop) (itv : Value) (s2 : Shared) : Prop :=
  ∃ (it : Addr) (fp : List Addr) (tn : Nat → Heap → Prop) (J : It) (H' : Hp), itv = .ref it ∧ Inv X pins σ H' s2 ∧ Turn X.prog X.w X.K tg J fp it tn ∧ tn 0 s2.heap ∧ (∀ b ∈ fp, FpOk X pins H' b) ∧ R J H'
def PI (X : Cx) (tg iter : Expr) (wi : TI) : Prop :=
  ∀ (pins : List (Addr × Obj)) (s : Shared) (σ : St) (H : Hp) (R : It → Hp → Prop), Inv X pins σ H s → wi σ H R →
    wpAny (model X.prog X.w) X.A (eval iter X.env) (fun v s1 => wpAny (model X.prog X.w) X.A (pyIter v) (PIE X pins σ tg R) X.xe s1) X.xe s
theorem go_of {M : Model} {A : Around} {E : Value → Shared → Prop} {s : Shared} {tg : Expr} {it : Addr} {u : Value} {o : Obj} {n : String} {vs : Array Value} {Q : Unit → Shared → Prop} (ho : s.heap.get? it = some o) (hc : o.cls = .type n) (hd : o.data = .fields vs)
    (hn : ["enumerate", "zip", "dict_itemiterator", "dict_reverseitemiterator", "odict_iterator", "itertools.zip_longest", "itertools.pairwise"].contains n = false) (hQ : Q () s) : wpAny M A (letOwnedTupleGo tg (.ref it) u) Q E s := by
  unfold letOwnedTupleGo
  cases tg <;> first
    | exact wpAny_pure hQ
    | (cases u <;> first
        | exact wpAny_pure hQ
        | (refine wpAny_bind (wpAny_load ho ?_)
           rw [hc, hd]
           show wpAny M A (if (["enumerate", "zip", "dict_itemiterator", "dict_reverseitemiterator", "odict_iterator", "itertools.zip_longest", "itertools.pairwise"].contains n && vs[0]? == some (rawInt _)) = true then _ else _) Q E s
           rw [if_neg (by intro h; rw [hn, Bool.false_and] at h; cases h)]
           exact wpAny_pure hQ))
def Itl (K : PySem.W.Frag) (a : Addr) : It :=
  ⟨fun i H => ∃ xs x, SqL K H a xs ∧ xs[i]? = some x, fun i H x H' => H' = H ∧ ∀ xs, SqL K H a xs → xs[i]? = some x, fun i H => ∃ xs, SqL K H a xs ∧ xs.length ≤ i⟩
def Itt (K : PySem.W.Frag) (a : Addr) : It :=
  ⟨fun i H => ∃ xs x, SqT K H a xs ∧ xs[i]? = some x, fun i H x H' => H' = H ∧ ∀ xs, SqT K H a xs → xs[i]? = some x, fun i H => ∃ xs, SqT K H a xs ∧ xs.length ≤ i⟩
def Itr (lo : Int) (n : Nat) : It := ⟨fun i _ => i < n, fun i H x H' => H' = H ∧ x = .int (lo + i), fun i _ => n ≤ i⟩
theorem turn_list {P : Program} {w : World} {K : PySem.W.Frag} {tg : Expr} (a it : Addr) : Turn P w K tg (Itl K a) [it] it (fun i h => h.IsListIter it a i) where
  mem := by simp
  obj := fun i h st b hb => by
    have e : b = it := by simpa using hb
    subst e
    obtain ⟨o, e, c, d⟩ := st
    exact ⟨o, e, fun v z => by rw [d] at z; cases z⟩
  keep := fun i h h' st k => st.at fun o e => k it (by simp) o e
  item := by
    intro X hP hw hK hc i pins s σ H E I hf st hg
    subst hP hw hK
    obtain ⟨xs, x, hq, hx⟩ := hg
    obtain ⟨its, rv, p, hz⟩ := I.list hq
    obtain ⟨u, hu, ru⟩ := rv.get hx
    obtain ⟨f0, f1, f2, f3, f4, f5⟩ := hf it (by simp)
    refine wpAny_pyNext_list_item st p.isList (x := u) (by simpa using hu) fun h' st' sb => ?_
    have I1 : Inv X pins σ H { s with heap := h' } := I.turned (t' := s.toks) (fun b o hb e => (sb.2 b hb).trans e) f0 f1 f3 f4 f5
    obtain ⟨o, e, c, d⟩ := id st'
    exact ⟨u, rfl, go_of (s := { s with heap := h' }) e c d (by decide) ⟨x, H, I1, ru, ⟨rfl, fun ys hy => by rw [I.list_inj hy hq]; exact hx⟩, st', fun b hb => (hf b hb).1⟩⟩
  done := by
    intro X hP hw hK hc i pins s σ H E I hf st hg
    subst hP hw hK
    obtain ⟨xs, hq, hx⟩ := hg
    obtain ⟨its, rv, p, hz⟩ := I.list hq
    obtain ⟨f0, f1, f2, f3, f4, f5⟩ := hf it (by simp)
    have hl := rv.length
    exact wpAny_pyNext_list_end (I.ok.hd hc) st p.isList (by simp; omega) fun h' eb => ⟨rfl, I.turned (t' := s.toks) (fun b o hb e => eb b o hb e) f0 f1 f3 f4 f5⟩
  self := fun _ _ _ _ _ st h => wpAny_pyIter_listiter st h
theorem turn_tuple {P : Program} {w : World} {K : PySem.W.Frag} {tg : Expr} (a it : Addr) : Turn P w K tg (Itt K a) [it] it (fun i h => h.IsTupleIter it a i) where
  mem := by simp
  obj := fun i h st b hb => by
    have e : b = it := by simpa using hb
    subst e
    obtain ⟨o, e, c, d⟩ := st
    exact ⟨o, e, fun v z => by rw [d] at z; cases z⟩
  keep := fun i h h' st k => st.at fun o e => k it (by simp) o e
  item := by
    intro X hP hw hK hc i pins s σ H E I hf st hg
    subst hP hw hK
    obtain ⟨xs, x, hq, hx⟩ := hg
    obtain ⟨its, rv, p, hz⟩ := I.tuple hq
    obtain ⟨u, hu, ru⟩ := rv.get hx
    obtain ⟨f0, f1, f2, f3, f4, f5⟩ := hf it (by simp)
    refine wpAny_pyNext_tuple_item st (show s.heap.IsTuple a its.toArray from p) (x := u) (by simpa using hu) fun h' st' sb => ?_
    have I1 : Inv X pins σ H { s with heap := h' } := I.turned (t' := s.toks) (fun b o hb e => (sb.2 b hb).trans e) f0 f1 f3 f4 f5
    obtain ⟨o, e, c, d⟩ := id st'
    exact ⟨u, rfl, go_of (s := { s with heap := h' }) e c d (by decide) ⟨x, H, I1, ru, ⟨rfl, fun ys hy => by rw [I.tuple_inj hy hq]; exact hx⟩, st', fun b hb => (hf b hb).1⟩⟩
  done := by
    intro X hP hw hK hc i pins s σ H E I hf st hg
    subst hP hw hK
    obtain ⟨xs, hq, hx⟩ := hg
    obtain ⟨its, rv, p, hz⟩ := I.tuple hq
    obtain ⟨f0, f1, f2, f3, f4, f5⟩ := hf it (by simp)
    have hl := rv.length
    exact wpAny_pyNext_tuple_end (I.ok.hd hc) st (show s.heap.IsTuple a its.toArray from p) (by simp; omega) fun h' eb => ⟨rfl, I.turned (t' := s.toks) (fun b o hb e => eb b o hb e) f0 f1 f3 f4 f5⟩
  self := fun _ _ _ _ _ st h => wpAny_pyIter_tupleiter st h
theorem turn_range {P : Program} {w : World} {K : PySem.W.Frag} {tg : Expr} (it : Addr) (lo : Int) (n : Nat) : Turn P w K tg (Itr lo n) [it] it (fun i h => IsRangeIter h it (lo + (i : Nat) * 1) ((n : Int) - (i : Nat)) 1) where
  mem := by simp
  obj := fun i h st b hb => by
    have e : b = it := by simpa using hb
    subst e
    exact ⟨_, st, fun v z => by
      have z' : Data.fields _ = Data.cell v := z
      cases z'⟩
  keep := fun i h h' st k => k it (by simp) _ st
  item := by
    intro X hP hw hK hc i pins s σ H E I hf st hg
    subst hP hw hK
    obtain ⟨f0, f1, f2, f3, f4, f5⟩ := hf it (by simp)
    have W := Walks.range (prog := X.prog) (w := X.w) (I.ok.hd hc) it lo 1 n
    refine W.item i s _ _ hg st fun v h' tk hv st' kk => ?_
    obtain ⟨t, rfl⟩ := hv
    have I1 : Inv X pins σ H { s with heap := h', toks := tk } := I.turned (fun b o hb e => kk b o (by simpa using hb) e) f0 f1 f3 f4 f5
    refine ⟨_, rfl, go_of (s := { s with heap := h', toks := tk }) (n := "range_iterator") st' rfl rfl (by decide) ⟨.int (lo + i), H, I1, ⟨t, ?_⟩, ⟨rfl, rfl⟩, st', fun b hb => (hf b hb).1⟩⟩
    rw [Int.mul_one]
  done := by
    intro X hP hw hK hc i pins s σ H E I hf st hg
    subst hP hw hK
    obtain ⟨f0, f1, f2, f3, f4, f5⟩ := hf it (by simp)
    exact wpAny_pyNext_range_end (I.ok.hd hc) st (by have : n ≤ i := hg; omega) fun h' eb => ⟨rfl, I.turned (t' := s.toks) (fun b o hb e => eb b o hb e) f0 f1 f3 f4 f5⟩
  self := fun _ _ _ _ _ st h => wpAny_pyIter_rangeiter st h
end L2
namespace L2
open PySem PySem.Spec PyProof.Rows
section
variable {X : Cx} {tg : Expr}
def iList (K : PySem.W.Frag) (tl : TE) : TI := fun σ H R => tl σ H fun x H1 => ∃ a, x = .ref a ∧ (∃ xs, SqL K H1 a xs) ∧ R (Itl K a) H1
def iTup (K : PySem.W.Frag) (tl : TE) : TI := fun σ H R => tl σ H fun x H1 => ∃ a, x = .ref a ∧ (∃ xs, SqT K H1 a xs) ∧ R (Itt K a) H1
theorem pi_list {l : Expr} {tl : TE} (hl : PE X l tl) : PI X tg l (iList X.K tl) := by
  intro pins s σ H R I h
  refine thn (hl pins s σ H _ I h) fun v s1 ⟨x, H1, I1, r1, q1⟩ => ?_
  obtain ⟨a, e, ⟨xs, hq⟩, q⟩ := q1
  subst e
  cases r1
  obtain ⟨its, rv, p, hz⟩ := I1.list hq
  refine wpAny_pyIter_list p.isList ?_
  refine ⟨s1.heap.objs.size, [s1.heap.objs.size], _, _, H1, rfl, I1.kept (t' := s1.toks) fun b o e => Heap.get?_push_of_some _ e, turn_list a _, ⟨_, Heap.get?_push_size _ rfl, rfl, rfl⟩, fun b hb => ?_, q⟩
  have e : b = s1.heap.objs.size := by simpa using hb
  subst e
  exact I1.fpOk (Nat.le_refl _) (I1.hok.fresh (Nat.le_refl _))
theorem pi_tup {l : Expr} {tl : TE} (hl : PE X l tl) : PI X tg l (iTup X.K tl) := by
  intro pins s σ H R I h
  refine thn (hl pins s σ H _ I h) fun v s1 ⟨x, H1, I1, r1, q1⟩ => ?_
  obtain ⟨a, e, ⟨xs, hq⟩, q⟩ := q1
  subst e
  cases r1
  obtain ⟨its, rv, p, hz⟩ := I1.tuple hq
  refine wpAny_pyIter_tuple (show s1.heap.IsTuple a its.toArray from p) ?_
  refine ⟨s1.heap.objs.size, [s1.heap.objs.size], _, _, H1, rfl, I1.kept (t' := s1.toks) fun b o e => Heap.get?_push_of_some _ e, turn_tuple a _, ⟨_, Heap.get?_push_size _ rfl, rfl, rfl⟩, fun b hb => ?_, q⟩
  have e : b = s1.heap.objs.size := by simpa using hb
  subst e
  exact I1.fpOk (Nat.le_refl _) (I1.hok.fresh (Nat.le_refl _))
theorem range_it {pins : List (Addr × Obj)} {σ : St} {H : Hp} {s : Shared} {R : It → Hp → Prop} {E : Value → Shared → Prop} {lo hi : Int} {t u v : Tok} {tk : Nat} (I : Inv X pins σ H s) (h1 : -(2 ^ 62) ≤ lo) (h2 : lo < 2 ^ 62) (h3 : -(2 ^ 62) ≤ hi) (h4 : hi < 2 ^ 62)
    (q : R (Itr lo (hi - lo).toNat) H) : wpAny (model X.prog X.w) X.A (pyIter (.ref s.heap.objs.size)) (PIE X pins σ tg R) E { s with heap := s.heap.push { cls := .type "range", data := .fields #[.int lo t, .int hi u, .int 1 v] }, toks := tk } := by
  refine wpAny_pyIter_range (IsRange.new ..) (small_one h1 h2 h3 h4) ?_
  have I1 : Inv X pins σ H { s with heap := s.heap.push { cls := .type "range", data := .fields #[.int lo t, .int hi u, .int 1 v] }, toks := tk } := I.kept fun b o e => Heap.get?_push_of_some _ e
  refine ⟨(s.heap.push { cls := .type "range", data := .fields #[.int lo t, .int hi u, .int 1 v] }).objs.size, [(s.heap.push { cls := .type "range", data := .fields #[.int lo t, .int hi u, .int 1 v] }).objs.size], _, _, H, rfl,
    I1.kept (t' := tk) fun b o e => Heap.get?_push_of_some _ e, turn_range _ lo (hi - lo).toNat, ?_, fun b hb => ?_, q⟩
  · have e1 : lo + ((0 : Nat) : Int) * 1 = lo := by simp
    have e2 : (((hi - lo).toNat : Nat) : Int) - ((0 : Nat) : Int) = Builtin.Range.rangeSize lo hi 1 := by rw [rangeSize_one]; split <;> omega
    show IsRangeIter _ _ (lo + ((0 : Nat) : Int) * 1) ((((hi - lo).toNat : Nat) : Int) - ((0 : Nat) : Int)) 1
    rw [e1, e2]
    exact Heap.get?_push_size _ rfl
  · have e : b = (s.heap.push { cls := .type "range", data := .fields #[.int lo t, .int hi u, .int 1 v] }).objs.size := by simpa using hb
    subst e
    exact I1.fpOk (Nat.le_refl _) (I1.hok.fresh (Nat.le_refl _))
def iRng1 (ta : TA) : TI := fun σ H R => ta σ H fun vs H1 => ∃ j : Int, vs = [.int j] ∧ -(2 ^ 62) ≤ j ∧ j < 2 ^ 62 ∧ R (Itr 0 j.toNat) H1
theorem pi_range1 {a : Expr} {ta : TA} {p pos : Pos} (hg : Gl X "range") (hm : X.mg "range" = none) (ha : PA X [a] ta) (hs : starEach [a] X.env = [(false, eval a X.env)] := by rfl) : PI X tg (.Call (.Name "range" p) [a] [] pos) (iRng1 ta) := by
  intro pins s σ H R I h
  refine Call_ (ld_blt I hg hm boot_range (PyProof.Rows.callWith_type1 (thn (ha pos pins s σ H _ I h) fun us s1 ⟨vs, H1, I1, r1, q1⟩ => ?_) hs rfl))
  obtain ⟨j, e, q1, q2, q⟩ := q1
  subst e
  cases r1 with
  | cons r rr =>
    cases rr
    obtain ⟨t, rfl⟩ := r
    exact call_range_1 (range_it I1 (by omega) (by omega) q1 q2 (by simpa using q))
def tFor (wi : TI) (g : TG) (tb : TS) : TS := fun D σ H => wi σ H fun J H1 => ∃ W : Nat → Nat → St → Hp → Prop, (∃ m, W 0 m σ H1) ∧ ∀ i m σ H, W i m σ H →
  (J.stop i H ∧ D.nx σ H) ∨ (J.go i H ∧ ∃ N : St → Hp → Prop, (∀ σ' H', N σ' H' → ∃ m', m' < m ∧ W (i + 1) m' σ' H') ∧ ∀ x H', J.yld i H x H' → g x σ H' fun σ2 H2 => tb { D with nx := N, ct := N, bk := D.nx } σ2 H2)
def pinsAt (fp : List Addr) (h : Heap) : List (Addr × Obj) := fp.filterMap fun b => (h.get? b).map fun o => (b, o)
theorem mem_pinsAt {fp : List Addr} {h : Heap} {b : Addr} {o : Obj} (hb : b ∈ fp) (e : h.get? b = some o) : (b, o) ∈ pinsAt fp h := List.mem_filterMap.mpr ⟨b, hb, by rw [e]; rfl⟩
theorem of_pinsAt {fp : List Addr} {h : Heap} {p : Addr × Obj} (hp : p ∈ pinsAt fp h) : p.1 ∈ fp ∧ h.get? p.1 = some p.2 := by
  obtain ⟨b, hb, e⟩ := List.mem_filterMap.mp hp
  cases q : h.get? b with
  | none => rw [q] at e; cases e
  | some o =>
    rw [q] at e
    have e' : (b, o) = p := Option.some.inj e
    subst e'
    exact ⟨hb, q⟩
theorem Inv.pinned {pins : List (Addr × Obj)} {σ : St} {H : Hp} {s : Shared} {fp : List Addr} (I : Inv X pins σ H s) (hf : ∀ b ∈ fp, FpOk X pins H b) (ho : ∀ b ∈ fp, ∃ o, s.heap.get? b = some o ∧ ∀ v, o.data ≠ .cell v) : Inv X (pins ++ pinsAt fp s.heap) σ H s :=
  I.pins_of fun p hp => (List.mem_append.mp hp).elim (fun z => I.pin p (List.mem_append_right _ z)) fun z => by
    obtain ⟨hb, e⟩ := of_pinsAt z
    obtain ⟨f0, f1, f2, _⟩ := hf p.1 hb
    obtain ⟨o, e', d⟩ := ho p.1 hb
    rw [e] at e'; cases e'
    exact ⟨e, f0, f1, f2, d⟩
theorem Inv.unpinned {pins pl : List (Addr × Obj)} {σ : St} {H : Hp} {s : Shared} (I : Inv X (pins ++ pl) σ H s) : Inv X pins σ H s := I.pins_of fun p hp => I.pin p (List.mem_append_right _ (List.mem_append_left _ hp))
theorem ps_for {iter : Expr} {body : List Stmt} {wi : TI} {g : TG} {tb : TS} {pos : Pos} (hp : PassesOwn (model X.prog X.w) X.A X.env X.xe) (hc : X.calm = true) (hi : PI X tg iter wi) (hg : PG X tg g) (hb : PSs X body tb)
    (hs : ∀ x, foldedSetIterable iter X.env x = pure x := by intro _; rfl) : PS X (.For tg iter body [] pos) (tFor wi g tb) := by
  intro pins s σ H D I h
  refine wpAny_For (thn (hi pins s σ H _ I h) fun v s1 h1 => thn h1 fun itv s2 h2 => ?_) hs
  obtain ⟨it, fp, tn, J, H2, e, I2, T, st2, f2, W, ⟨m0, w0⟩, turn⟩ := h2
  subst e
  have stat : ∀ {H' : Hp}, (∀ b ∈ fp, H' b = none) → ∀ b ∈ fp, FpOk X pins H' b := fun hn b hb => ⟨hn b hb, (f2 b hb).2⟩
  refine codeAny_forLoop_any (fun n s' => ∃ i σ' H', Inv X pins σ' H' s' ∧ tn i s'.heap ∧ (∀ b ∈ fp, H' b = none) ∧ W i n σ' H') ?_ m0 ⟨0, σ, H2, I2, st2, fun b hb => (f2 b hb).1, w0⟩
  rintro n s3 ⟨i, σ3, H3, I3, st3, fr3, w3⟩
  rcases turn i n σ3 H3 w3 with ⟨stop, qn⟩ | ⟨go, N, hN, step⟩
  · refine wpAny_passesOwn hp (thn (T.done X rfl rfl rfl hc i pins s3 σ3 H3 X.xe I3 (stat fr3) st3 stop) fun r s4 ⟨hr, I4⟩ => ?_)
    subst hr
    exact wpAny_execs_nil ⟨σ3, H3, I4, qn⟩
  · refine wpAny_passesOwn hp (thn (T.item X rfl rfl rfl hc i pins s3 σ3 H3 X.xe I3 (stat fr3) st3 go) fun r s4 ⟨u, hr, h4⟩ => ?_)
    subst hr
    refine wpAny_passesOwn hp (thn h4 fun _ s5 ⟨x, H5, I5, r5, y5, st5, fr5⟩ => ?_)
    have I5' := I5.pinned (stat fr5) (T.obj _ _ st5)
    refine wpAny_passesOwn hp (thn (hg _ s5 σ3 H5 x u _ I5' r5 (step x H5 y5)) fun _ s6 ⟨σ6, H6, I6, q6⟩ => ?_)
    refine wpAny_passesOwn hp (thn (hb _ s6 σ6 H6 _ I6 q6) fun f s7 q7 => ?_)
    have again : ∀ {σ7 : St} {H7 : Hp}, Inv X (pins ++ pinsAt fp s5.heap) σ7 H7 s7 → N σ7 H7 → ∃ m, m < n ∧ ∃ i σ' H', Inv X pins σ' H' s7 ∧ tn i s7.heap ∧ (∀ b ∈ fp, H' b = none) ∧ W i m σ' H' := fun {σ7 H7} I7 n7 => by
      obtain ⟨m', hm, w7⟩ := hN σ7 H7 n7
      refine ⟨m', hm, i + 1, σ7, H7, I7.unpinned, T.keep _ _ _ st5 fun b hb o e => (I7.pin (b, o) (List.mem_append_right _ (List.mem_append_right _ (mem_pinsAt hb e)))).1, fun b hb => ?_, w7⟩
      obtain ⟨o, e, d⟩ := T.obj _ _ st5 b hb
      exact (I7.pin (b, o) (List.mem_append_right _ (List.mem_append_right _ (mem_pinsAt hb e)))).2.1
    cases f with
    | next => obtain ⟨σ7, H7, I7, n7⟩ := q7; exact again I7 n7
    | cont => obtain ⟨σ7, H7, I7, n7⟩ := q7; exact again I7 n7
    | brk => obtain ⟨σ7, H7, I7, q7⟩ := q7; exact ⟨σ7, H7, I7.unpinned, q7⟩
    | ret v => obtain ⟨x7, σ7, H7, I7, r7, q7⟩ := q7; exact ⟨x7, σ7, H7, I7.unpinned, r7, q7⟩
end
theorem for_list {K : PySem.W.Frag} {a : Addr} {xs : List V} {g : TG} {tb : TS} {D : Ends} {σ : St} {H : Hp} (Pv : Nat → St → Hp → Prop) (h0 : Pv 0 σ H) (hl : ∀ i σ H, i ≤ xs.length → Pv i σ H → SqL K H a xs)
    (hs : ∀ i x σ H, xs[i]? = some x → Pv i σ H → g x σ H fun σ2 H2 => tb { D with nx := Pv (i + 1), ct := Pv (i + 1), bk := D.nx } σ2 H2) (hd : ∀ σ H, Pv xs.length σ H → D.nx σ H) :
    ∃ W : Nat → Nat → St → Hp → Prop, (∃ m, W 0 m σ H) ∧ ∀ i m σ H, W i m σ H →
      ((Itl K a).stop i H ∧ D.nx σ H) ∨ ((Itl K a).go i H ∧ ∃ N : St → Hp → Prop, (∀ σ' H', N σ' H' → ∃ m', m' < m ∧ W (i + 1) m' σ' H') ∧ ∀ x H', (Itl K a).yld i H x H' → g x σ H' fun σ2 H2 => tb { D with nx := N, ct := N, bk := D.nx } σ2 H2) := by
  refine ⟨fun i m σ H => m = xs.length - i ∧ i ≤ xs.length ∧ Pv i σ H, ⟨xs.length, by simp, Nat.zero_le _, h0⟩, ?_⟩
  rintro i m σ H ⟨rfl, hi, p⟩
  have q := hl i σ H hi p
  by_cases hlt : i < xs.length
  · refine .inr ⟨⟨xs, xs[i], q, by simp [hlt]⟩, Pv (i + 1), fun σ' H' p' => ⟨xs.length - (i + 1), by omega, rfl, hlt, p'⟩, fun x H' y => ?_⟩
    obtain ⟨e, y⟩ := y
    subst e
    exact hs i x σ _ (y xs q) p
  · have e : i = xs.length := by omega
    subst e
    exact .inl ⟨⟨xs, q, Nat.le_refl _⟩, hd σ H p⟩
theorem for_range {lo : Int} {n : Nat} {g : TG} {tb : TS} {D : Ends} {σ : St} {H : Hp} (Pv : Nat → St → Hp → Prop) (h0 : Pv 0 σ H)
    (hs : ∀ i σ H, i < n → Pv i σ H → g (.int (lo + i)) σ H fun σ2 H2 => tb { D with nx := Pv (i + 1), ct := Pv (i + 1), bk := D.nx } σ2 H2) (hd : ∀ σ H, Pv n σ H → D.nx σ H) :
    ∃ W : Nat → Nat → St → Hp → Prop, (∃ m, W 0 m σ H) ∧ ∀ i m σ H, W i m σ H →
      ((Itr lo n).stop i H ∧ D.nx σ H) ∨ ((Itr lo n).go i H ∧ ∃ N : St → Hp → Prop, (∀ σ' H', N σ' H' → ∃ m', m' < m ∧ W (i + 1) m' σ' H') ∧ ∀ x H', (Itr lo n).yld i H x H' → g x σ H' fun σ2 H2 => tb { D with nx := N, ct := N, bk := D.nx } σ2 H2) := by
  refine ⟨fun i m σ H => m = n - i ∧ i ≤ n ∧ Pv i σ H, ⟨n, by simp, Nat.zero_le _, h0⟩, ?_⟩
  rintro i m σ H ⟨rfl, hi, p⟩
  by_cases hlt : i < n
  · refine .inr ⟨hlt, Pv (i + 1), fun σ' H' p' => ⟨n - (i + 1), by omega, rfl, hlt, p'⟩, fun x H' y => ?_⟩
    obtain ⟨e, y⟩ := y
    subst e y
    exact hs i σ _ hlt p
  · have e : i = n := by omega
    subst e
    exact .inl ⟨Nat.le_refl _, hd σ H p⟩
end L2
namespace L2
open PySem PySem.Spec PyProof.Rows
abbrev R2 := V → V → Hp → VK → Prop
def OpR (X : Cx) (f : Value → Value → Sem Value) (r : R2) : Prop :=
  ∀ (pins : List (Addr × Obj)) (s : Shared) (σ : St) (H : Hp) (x y : V) (v u : Value) (Q : VK), Inv X pins σ H s → RelV x v → RelV y u → r x y H Q →
    wpAny (model X.prog X.w) X.A (f v u) (EP X pins σ Q) X.xe s
def UnR (X : Cx) (f : Value → Sem Value) (r : V → Hp → VK → Prop) : Prop :=
  ∀ (pins : List (Addr × Obj)) (s : Shared) (σ : St) (H : Hp) (x : V) (v : Value) (Q : VK), Inv X pins σ H s → RelV x v → r x H Q →
    wpAny (model X.prog X.w) X.A (f v) (EP X pins σ Q) X.xe s
def CallR (X : Cx) (f : Value) (r : List V → Hp → VK → Prop) : Prop :=
  ∀ (pins : List (Addr × Obj)) (s : Shared) (σ : St) (H : Hp) (xs : List V) (us : List Value) (Q : VK), Inv X pins σ H s → Vals xs us → r xs H Q →
    wpAny (model X.prog X.w) X.A (call f us) (EP X pins σ Q) X.xe s
def TruR (X : Cx) (r : V → Hp → (Bool → Hp → Prop) → Prop) : Prop :=
  ∀ (pins : List (Addr × Obj)) (s : Shared) (σ : St) (H : Hp) (x : V) (v : Value) (Q : Bool → Hp → Prop), Inv X pins σ H s → RelV x v → r x H Q →
    wpAny (model X.prog X.w) X.A (truthy v) (TP X pins σ Q) X.xe s
def tOp (r : R2) (ta tb : TE) : TE := fun σ H Q => ta σ H fun x H1 => tb σ H1 fun y H2 => r x y H2 Q
def tUn (r : V → Hp → VK → Prop) (ta : TE) : TE := fun σ H Q => ta σ H fun x H1 => r x H1 Q
def rI (C : Int → Int → Prop) (g : Int → Int → V) : R2 := fun x y H Q => ∃ i j, x = .int i ∧ y = .int j ∧ C i j ∧ Q (g i j) H
def rI0 (g : Int → Int → V) : R2 := fun x y H Q => ∃ i j, x = .int i ∧ y = .int j ∧ Q (g i j) H
def rU (g : Int → V) : V → Hp → VK → Prop := fun x H Q => ∃ i, x = .int i ∧ Q (g i) H
section
variable {X : Cx} {a b c : Expr} {ta tb tc : TE} {pos : Pos}
theorem binT (ha : PE X a ta) (hb : PE X b tb) {pins : List (Addr × Obj)} {s : Shared} {σ : St} {H : Hp} {R : V → V → Hp → Prop} (I : Inv X pins σ H s)
    (h : ta σ H fun x H1 => tb σ H1 fun y H2 => R x y H2) {Q : Value → Shared → Prop} {f : Value → Value → Sem Value}
    (hf : ∀ v u s2 x y H2, Inv X pins σ H2 s2 → RelV x v → RelV y u → R x y H2 → wpAny (model X.prog X.w) X.A (f v u) Q X.xe s2) :
    wpAny (model X.prog X.w) X.A (eval a X.env) (fun v s₁ => wpAny (model X.prog X.w) X.A (eval b X.env) (fun u s₂ => wpAny (model X.prog X.w) X.A (f v u) Q X.xe s₂) X.xe s₁) X.xe s := by
  refine thn (ha pins s σ H _ I h) fun v s1 ⟨x, H1, I1, r1, q1⟩ => ?_
  refine thn (hb pins s1 σ H1 _ I1 q1) fun u s2 ⟨y, H2, I2, r2, q2⟩ => ?_
  exact hf v u s2 x y H2 I2 r1 r2 q2
theorem pe_op {op : Operator} {r : R2} (ho : OpR X (binaryOp op) r) (ha : PE X a ta) (hb : PE X b tb) : PE X (.BinOp a op b pos) (tOp r ta tb) := by
  intro pins s σ H Q I h
  exact wpAny_BinOp (binT ha hb I h fun v u s2 x y H2 I2 rx ry q => ho pins s2 σ H2 x y v u Q I2 rx ry q)
theorem pe_un {op : UnaryOp} {r : V → Hp → VK → Prop} (ho : UnR X (unaryOp op) r) (ha : PE X a ta) : PE X (.UnaryOp op a pos) (tUn r ta) := by
  intro pins s σ H Q I h
  exact UnaryOp_ (thn (ha pins s σ H _ I h) fun v s1 ⟨x, H1, I1, r1, q1⟩ => ho pins s1 σ H1 x v Q I1 r1 q1)
theorem opI {f : Value → Value → Sem Value} {C : Int → Int → Prop} {g : Int → Int → Int}
    (rule : ∀ (i j : Int) (t u : Tok) (s : Shared) (Q : Value → Shared → Prop) (E : Value → Shared → Prop), C i j → Q (.int (g i j) s.toks) { s with toks := s.toks + 1 } → wpAny (model X.prog X.w) X.A (f (.int i t) (.int j u)) Q E s) :
    OpR X f (rI C fun i j => .int (g i j)) := by
  intro pins s σ H x y v u Q I rx ry h
  obtain ⟨i, j, rfl, rfl, hc, q⟩ := h
  obtain ⟨t, rfl⟩ := rx
  obtain ⟨t', rfl⟩ := ry
  exact rule i j t t' s _ _ hc ⟨.int (g i j), H, I.tok _, ⟨_, rfl⟩, q⟩
theorem opI0 {f : Value → Value → Sem Value} {g : Int → Int → Int}
    (rule : ∀ (i j : Int) (t u : Tok) (s : Shared) (Q : Value → Shared → Prop) (E : Value → Shared → Prop), Q (.int (g i j) s.toks) { s with toks := s.toks + 1 } → wpAny (model X.prog X.w) X.A (f (.int i t) (.int j u)) Q E s) :
    OpR X f (rI0 fun i j => .int (g i j)) := by
  intro pins s σ H x y v u Q I rx ry h
  obtain ⟨i, j, rfl, rfl, q⟩ := h
  obtain ⟨t, rfl⟩ := rx
  obtain ⟨t', rfl⟩ := ry
  exact rule i j t t' s _ _ ⟨.int (g i j), H, I.tok _, ⟨_, rfl⟩, q⟩
theorem opB0 {f : Value → Value → Sem Value} {g : Int → Int → Bool}
    (rule : ∀ (i j : Int) (t u : Tok) (s : Shared) (Q : Value → Shared → Prop) (E : Value → Shared → Prop), Q (.bool (g i j)) s → wpAny (model X.prog X.w) X.A (f (.int i t) (.int j u)) Q E s) :
    OpR X f (rI0 fun i j => .bl (g i j)) := by
  intro pins s σ H x y v u Q I rx ry h
  obtain ⟨i, j, rfl, rfl, q⟩ := h
  obtain ⟨t, rfl⟩ := rx
  obtain ⟨t', rfl⟩ := ry
  exact rule i j t t' s _ _ ⟨.bl (g i j), H, I, rfl, q⟩
def CDiv (i j : Int) : Prop := 0 < j ∧ j < 1073741824
def CPow (i j : Int) : Prop := 0 ≤ j ∧ j ≤ 1000000 ∧ i.natAbs < 2 ^ 64
def CMul (i j : Int) : Prop := (-(2 ^ 64) < i ∧ i < 2 ^ 64) ∨ (-(2 ^ 64) < j ∧ j < 2 ^ 64)
theorem CMul.ok {i j : Int} (h : CMul i j) : IntMulOk i j := by
  rcases h with ⟨h1, h2⟩ | ⟨h1, h2⟩
  · exact .of_left (intBits_le_64 h1 h2)
  · exact .of_right (intBits_le_64 h1 h2)
theorem op_add : OpR X (binaryOp .Add) (rI0 fun i j => .int (i + j)) := opI0 fun _ _ _ _ _ _ _ q => add_int q
theorem op_sub : OpR X (binaryOp .Sub) (rI0 fun i j => .int (i - j)) := opI0 fun _ _ _ _ _ _ _ q => sub_int q
theorem op_mul : OpR X (binaryOp .Mult) (rI CMul fun i j => .int (i * j)) := opI fun _ _ _ _ _ _ _ hc q => mul_int q hc.ok
theorem op_fdiv : OpR X (binaryOp .FloorDiv) (rI CDiv fun i j => .int (i / j)) := opI fun i j _ _ _ _ _ hc q => by
  have h1 : (0 : Int) < j := hc.1
  have h2 : j < 1073741824 := hc.2
  exact floordiv_int (by omega) (by rw [Int.fdiv_eq_ediv_of_nonneg i (by omega)]; exact q) (.inl (PyProof.noPylong_small (by omega)))
theorem op_mod : OpR X (binaryOp .Mod) (rI (fun _ j => 0 < j) fun i j => .int (i % j)) := opI fun i j _ _ _ _ _ hc q => by
  have h1 : (0 : Int) < j := hc
  exact mod_int' (by omega) (by rw [Int.fmod_eq_emod_of_nonneg i (by omega)]; exact q)
theorem op_pow : OpR X (binaryOp .Pow) (rI CPow fun i j => .int (i ^ j.toNat)) := opI fun _ _ _ _ _ _ _ hc q => pow_int_small hc.1 hc.2.1 hc.2.2 q
theorem unI {f : Value → Sem Value} {g : Int → Int}
    (rule : ∀ (i : Int) (t : Tok) (s : Shared) (Q : Value → Shared → Prop) (E : Value → Shared → Prop), Q (.int (g i) s.toks) { s with toks := s.toks + 1 } → wpAny (model X.prog X.w) X.A (f (.int i t)) Q E s) :
    UnR X f (rU fun i => .int (g i)) := by
  intro pins s σ H x v Q I rx h
  obtain ⟨i, rfl, q⟩ := h
  obtain ⟨t, rfl⟩ := rx
  exact rule i t s _ _ ⟨.int (g i), H, I.tok _, ⟨_, rfl⟩, q⟩
theorem un_neg : UnR X (unaryOp .USub) (rU fun i => .int (-i)) := unI fun _ _ _ _ _ q => neg_int q
end
def scal : V → V → Bool
  | .non, .non => true | .non, .int _ => true | .int _, .non => true | .non, .bl _ => true | .bl _, .non => true | .non, .str _ => true | .str _, .non => true
  | .int _, .int _ => true | .bl _, .bl _ => true | .str _, .str _ => true | .byt _, .byt _ => true
  | .int _, .str _ => true | .str _, .int _ => true | .bl _, .str _ => true | .str _, .bl _ => true
  | _, _ => false
def rEq : R2 := fun x y H Q => scal x y = true ∧ Q (.bl (decide (x = y))) H
def rNe : R2 := fun x y H Q => scal x y = true ∧ Q (.bl (!decide (x = y))) H
theorem dec_int {i j : Int} : decide (V.int i = V.int j) = (i == j) := by
  rw [Bool.eq_iff_iff]
  simp
theorem dec_bl {i j : Bool} : decide (V.bl i = V.bl j) = (i == j) := by
  rw [Bool.eq_iff_iff]
  simp
theorem dec_str {i j : Str} : decide (V.str i = V.str j) = (i == j) := by
  rw [Bool.eq_iff_iff]
  simp
theorem dec_byt {i j : Array UInt8} : decide (V.byt i = V.byt j) = (i.toList == j.toList) := by
  rw [Bool.eq_iff_iff]
  cases i
  cases j
  simp
section
variable {X : Cx} {a b c : Expr} {ta tb tc : TE} {pos : Pos}
theorem fin_bl {pins : List (Addr × Obj)} {σ : St} {H : Hp} {s : Shared} {Q : VK} {k k' : Bool} (I : Inv X pins σ H s) (q : Q (.bl k) H) (e : k = k') : EP X pins σ Q (.bool k') s := by
  subst e
  exact ⟨.bl k, H, I, rfl, q⟩
theorem op_eq : OpR X (compareOp .Eq) rEq := by
  intro pins s σ H x y v u Q I rx ry h
  obtain ⟨hs, q⟩ := h
  cases x with
  | non =>
    cases rx
    cases y with
    | non => cases ry; exact PySem.EqNone.eq_none_none (fin_bl I q (by simp))
    | bl j => cases ry; exact PySem.EqNone.eq_none_bool (fin_bl I q (by simp))
    | int j => obtain ⟨t', rfl⟩ := ry; exact PySem.EqNone.eq_none_int (fin_bl I q (by simp))
    | str j => obtain ⟨t', rfl⟩ := ry; exact PySem.EqNone.eq_none_str (fin_bl I q (by simp))
    | _ => exact absurd (show false = true from hs) Bool.false_ne_true
  | bl i =>
    cases rx
    cases y with
    | non => cases ry; exact PySem.EqNone.eq_bool_none (fin_bl I q (by simp))
    | bl j => cases ry; exact eq_bool (fin_bl I q dec_bl)
    | str j => obtain ⟨t', rfl⟩ := ry; exact PySem.EqMixed.eq_bool_str (fin_bl I q (by simp))
    | _ => exact absurd (show false = true from hs) Bool.false_ne_true
  | int i =>
    obtain ⟨t, rfl⟩ := rx
    cases y with
    | non => cases ry; exact PySem.EqNone.eq_int_none (fin_bl I q (by simp))
    | int j => obtain ⟨t', rfl⟩ := ry; exact eq_int (fin_bl I q dec_int)
    | str j => obtain ⟨t', rfl⟩ := ry; exact PySem.EqMixed.eq_int_str (fin_bl I q (by simp))
    | _ => exact absurd (show false = true from hs) Bool.false_ne_true
  | str i =>
    obtain ⟨t, rfl⟩ := rx
    cases y with
    | non => cases ry; exact PySem.EqNone.eq_str_none (fin_bl I q (by simp))
    | bl j => cases ry; exact PySem.EqMixed.eq_str_bool (fin_bl I q (by simp))
    | int j => obtain ⟨t', rfl⟩ := ry; exact PySem.EqMixed.eq_str_int (fin_bl I q (by simp))
    | str j => obtain ⟨t', rfl⟩ := ry; exact eq_str (fin_bl I q dec_str)
    | _ => exact absurd (show false = true from hs) Bool.false_ne_true
  | byt i =>
    obtain ⟨t, rfl⟩ := rx
    cases y with
    | byt j => obtain ⟨t', rfl⟩ := ry; exact PySem.W.eq_bytes (fin_bl I q dec_byt)
    | _ => exact absurd (show false = true from hs) Bool.false_ne_true
  | _ => cases y <;> exact absurd (show false = true from hs) Bool.false_ne_true
theorem op_ne : OpR X (compareOp .NotEq) rNe := by
  intro pins s σ H x y v u Q I rx ry h
  obtain ⟨hs, q⟩ := h
  cases x with
  | non =>
    cases rx
    cases y with
    | non => cases ry; exact PySem.EqNone.ne_none_none (fin_bl I q (by simp))
    | bl j => cases ry; exact PySem.EqNone.ne_none_bool (fin_bl I q (by simp))
    | int j => obtain ⟨t', rfl⟩ := ry; exact PySem.EqNone.ne_none_int (fin_bl I q (by simp))
    | str j => obtain ⟨t', rfl⟩ := ry; exact PySem.EqNone.ne_none_str (fin_bl I q (by simp))
    | _ => exact absurd (show false = true from hs) Bool.false_ne_true
  | bl i =>
    cases rx
    cases y with
    | non => cases ry; exact PySem.EqNone.ne_bool_none (fin_bl I q (by simp))
    | bl j => cases ry; exact ne_bool (fin_bl I q (congrArg not dec_bl))
    | str j => obtain ⟨t', rfl⟩ := ry; exact PySem.EqMixed.ne_bool_str (fin_bl I q (by simp))
    | _ => exact absurd (show false = true from hs) Bool.false_ne_true
  | int i =>
    obtain ⟨t, rfl⟩ := rx
    cases y with
    | non => cases ry; exact PySem.EqNone.ne_int_none (fin_bl I q (by simp))
    | int j => obtain ⟨t', rfl⟩ := ry; exact ne_int (fin_bl I q (congrArg not dec_int))
    | str j => obtain ⟨t', rfl⟩ := ry; exact PySem.EqMixed.ne_int_str (fin_bl I q (by simp))
    | _ => exact absurd (show false = true from hs) Bool.false_ne_true
  | str i =>
    obtain ⟨t, rfl⟩ := rx
    cases y with
    | non => cases ry; exact PySem.EqNone.ne_str_none (fin_bl I q (by simp))
    | bl j => cases ry; exact PySem.EqMixed.ne_str_bool (fin_bl I q (by simp))
    | int j => obtain ⟨t', rfl⟩ := ry; exact PySem.EqMixed.ne_str_int (fin_bl I q (by simp))
    | str j => obtain ⟨t', rfl⟩ := ry; exact ne_str (fin_bl I q (congrArg not dec_str))
    | _ => exact absurd (show false = true from hs) Bool.false_ne_true
  | byt i =>
    obtain ⟨t, rfl⟩ := rx
    cases y with
    | byt j => obtain ⟨t', rfl⟩ := ry; exact PySem.W.ne_bytes (fin_bl I q (congrArg not dec_byt))
    | _ => exact absurd (show false = true from hs) Bool.false_ne_true
  | _ => cases y <;> exact absurd (show false = true from hs) Bool.false_ne_true
theorem op_lt : OpR X (compareOp .Lt) (rI0 fun i j => .bl (decide (i < j))) := opB0 fun _ _ _ _ _ _ _ q => lt_int q
theorem op_le : OpR X (compareOp .LtE) (rI0 fun i j => .bl (decide (i ≤ j))) := opB0 fun _ _ _ _ _ _ _ q => le_int q
theorem op_gt : OpR X (compareOp .Gt) (rI0 fun i j => .bl (decide (j < i))) := opB0 fun _ _ _ _ _ _ _ q => gt_int q
theorem op_in_str : OpR X (compareOp .In) (fun x y H Q => ∃ i j, x = .str i ∧ y = .str j ∧ Q (.bl (!(Builtin.Str.occurrences j i 0 j.length 1).isEmpty)) H) := by
  intro pins s σ H x y v u Q I rx ry h
  obtain ⟨i, j, rfl, rfl, q⟩ := h
  obtain ⟨t, rfl⟩ := rx
  obtain ⟨t', rfl⟩ := ry
  exact in_str (fin_bl I q rfl)
theorem op_isN : OpR X (compareOp .Is) (fun x y H Q => y = .non ∧ Q (.bl (decide (x = .non))) H) := by
  intro pins s σ H x y v u Q I rx ry h
  obtain ⟨rfl, q⟩ := h
  cases ry
  refine is_none_gen (fin_bl I q ?_)
  cases x <;> first
    | (cases rx; rfl)
    | (obtain ⟨t, rfl⟩ := rx; rfl)
def isObj : HO → Bool
  | .lst _ => true
  | .ins _ _ _ => true
  | _ => false
theorem OpR.or {f : Value → Value → Sem Value} {r r' : R2} (h : OpR X f r) (h' : OpR X f r') : OpR X f (fun x y H Q => r x y H Q ∨ r' x y H Q) := by
  intro pins s σ H x y v u Q I rx ry q
  rcases q with q | q
  · exact h pins s σ H x y v u Q I rx ry q
  · exact h' pins s σ H x y v u Q I rx ry q
theorem nomark (b : Expr) {op : CmpOp} (h : op ≠ .In := by decide) (h2 : op ≠ .NotIn := by decide) : behindInMarks op b = false := by
  have e1 : (op == CmpOp.In) = false := by cases op <;> first | rfl | exact absurd rfl h
  have e2 : (op == CmpOp.NotIn) = false := by cases op <;> first | rfl | exact absurd rfl h2
  cases b <;> simp [behindInMarks, e1, e2]
theorem pe_cmpR {op : CmpOp} {r : R2} (ho : OpR X (compareOp op) r) (ha : PE X a ta) (hb : PE X b tb) (hm : behindInMarks op b = false) : PE X (.Compare a [op] [b] pos) (tOp r ta tb) := by
  intro pins s σ H Q I h
  exact wpAny_Compare1 (binT ha hb I h fun v u s2 x y H2 I2 rx ry q => ho pins s2 σ H2 x y v u Q I2 rx ry q) hm
def tTest (t : TE) : TT := fun σ H Q => t σ H fun x H' => ∃ k, x = .bl k ∧ Q k H'
theorem pt_cmpR {op : CmpOp} {r : R2} (ho : OpR X (compareOp op) r) (ha : PE X a ta) (hb : PE X b tb) (hm : behindInMarks op b = false) : PT X (.Compare a [op] [b] pos) (tTest (tOp r ta tb)) := by
  intro pins s σ H Q I h
  refine wpAny_isTrue_Compare1 (thn (ha pins s σ H _ I h) fun v s1 ⟨x, H1, I1, r1, q1⟩ => thn (hb pins s1 σ H1 _ I1 q1) fun u s2 ⟨y, H2, I2, r2, q2⟩ =>
    thn (ho pins s2 σ H2 x y v u _ I2 r1 r2 q2) fun c s3 ⟨z, H3, I3, r3, k, e, q3⟩ => ?_) hm
  subst e
  cases r3
  exact wpAny_truthy_bool ⟨H3, I3, q3⟩
def tChain (r r' : R2) (ta tb tc : TE) : TE := fun σ H Q => ta σ H fun x H1 => tb σ H1 fun y H2 => r x y H2 fun z H3 => ∃ k, z = .bl k ∧
  (if k = true then tc σ H3 fun w' H4 => r' y w' H4 Q else Q (.bl false) H3)
theorem pe_chain {op op' : CmpOp} {r r' : R2} (ho : OpR X (compareOp op) r) (ho' : OpR X (compareOp op') r') (ha : PE X a ta) (hb : PE X b tb) (hc : PE X c tc)
    (hm : lastMarks [op, op'] [b, c] = false := by with_unfolding_all rfl) : PE X (.Compare a [op, op'] [b, c] pos) (tChain r r' ta tb tc) := by
  intro pins s σ H Q I h
  refine Compare_chain (thn (ha pins s σ H _ I h) fun v s1 ⟨x, H1, I1, r1, q1⟩ => chain_link (thn (hb pins s1 σ H1 _ I1 q1) fun u s2 ⟨y, H2, I2, r2, q2⟩ =>
    thn (ho pins s2 σ H2 x y v u _ I2 r1 r2 q2) fun d s3 ⟨z, H3, I3, r3, k, e, q3⟩ => ?_)) hm
  subst e
  cases r3
  refine wpAny_truthy_bool ?_
  cases k with
  | false => exact ite_ff ⟨.bl false, H3, I3, rfl, q3⟩
  | true => exact ite_tt (chain_last (thn (hc pins s3 σ H3 _ I3 q3) fun w' s4 ⟨z', H4, I4, r4, q4⟩ => ho' pins s4 σ H4 y z' u w' Q I4 r2 r4 q4))
theorem pt_chain {op op' : CmpOp} {r r' : R2} (ho : OpR X (compareOp op) r) (ho' : OpR X (compareOp op') r') (ha : PE X a ta) (hb : PE X b tb) (hc : PE X c tc)
    (hm : lastMarks [op, op'] [b, c] = false := by with_unfolding_all rfl) : PT X (.Compare a [op, op'] [b, c] pos) (tTest (tChain r r' ta tb tc)) := by
  intro pins s σ H Q I h
  refine isTrue_chain (thn (ha pins s σ H _ I h) fun v s1 ⟨x, H1, I1, r1, q1⟩ => test_link (thn (hb pins s1 σ H1 _ I1 q1) fun u s2 ⟨y, H2, I2, r2, q2⟩ =>
    thn (ho pins s2 σ H2 x y v u _ I2 r1 r2 q2) fun d s3 ⟨z, H3, I3, r3, k, e, q3⟩ => ?_)) hm
  subst e
  cases r3
  refine wpAny_truthy_bool ?_
  cases k with
  | false =>
    obtain ⟨k', e', q'⟩ := q3
    cases e'
    exact ite_ff ⟨H3, I3, q'⟩
  | true =>
    refine ite_tt (test_last (thn (hc pins s3 σ H3 _ I3 q3) fun w' s4 ⟨z', H4, I4, r4, q4⟩ => thn (ho' pins s4 σ H4 y z' u w' _ I4 r2 r4 q4) fun d' s5 ⟨z2, H5, I5, r5, k2, e2, q5⟩ => ?_))
    subst e2
    cases r5
    exact wpAny_truthy_bool ⟨H5, I5, q5⟩
def TruV (K : PySem.W.Frag) (x : V) (H : Hp) (k : Bool) : Prop :=
  match x with
  | .non => k = false
  | .bl b => k = b
  | .int i => k = (i != 0)
  | .str y => y.length ≤ sizeLine ∧ k = ((y.length : Int) != 0)
  | .byt y => y.size ≤ sizeLine ∧ k = ((y.size : Int) != 0)
  | .ref p => (∃ xs, SqL K H p xs ∧ k = !xs.isEmpty) ∨ (∃ xs, SqT K H p xs ∧ k = !xs.isEmpty) ∨ ∃ kvs, H p = some (.dK kvs) ∧ k = !kvs.isEmpty
  | _ => False
theorem line63 : (sizeLine : Nat) < 2 ^ 63 := by rw [sizeLine_eq]; decide
theorem op_add_str : OpR X (binaryOp .Add) (fun x y H Q => ∃ i j, x = .str i ∧ y = .str j ∧ i.length + j.length ≤ sizeLine ∧ Q (.str (i ++ j)) H) := by
  intro pins s σ H x y v u Q I rx ry h
  obtain ⟨i, j, rfl, rfl, hz, q⟩ := h
  obtain ⟨t, rfl⟩ := rx
  obtain ⟨t', rfl⟩ := ry
  exact add_str (fun t' tk => ⟨.str (i ++ j), H, I.tok _, ⟨_, rfl⟩, q⟩) hz
theorem vals1 {x : V} {us : List Value} (r : Vals [x] us) : ∃ u, us = [u] ∧ RelV x u := by
  cases r with
  | cons r1 r2 => cases r2; exact ⟨_, rfl, r1⟩
theorem call_str_int : CallR X (.type "str") (fun xs H Q => ∃ i, xs = [.int i] ∧ i.natAbs.log2 < 1920 ∧ Q (.str (toString i)) H) := by
  intro pins s σ H xs us Q I r h
  obtain ⟨i, rfl, hz, q⟩ := h
  obtain ⟨u, rfl, t, rfl⟩ := vals1 r
  exact PySem.P.str_of_int hz ⟨.str _, H, I.tok _, ⟨_, rfl⟩, q⟩
theorem call_ord : CallR X (.builtin "ord") (fun xs H Q => ∃ x, xs = [.str x] ∧ x.length = 1 ∧ Q (.int (x.cps.getD 0 0 : Nat)) H) := by
  intro pins s σ H xs us Q I r h
  obtain ⟨x, rfl, hz, q⟩ := h
  obtain ⟨u, rfl, t, rfl⟩ := vals1 r
  exact ord_of_one hz ⟨.int _, H, I.tok _, ⟨_, rfl⟩, q⟩
def LenV (K : PySem.W.Frag) (x : V) (H : Hp) (n : Nat) : Prop :=
  match x with
  | .str y => y.length ≤ sizeLine ∧ n = y.length
  | .byt y => y.size ≤ sizeLine ∧ n = y.size
  | .ref p => (∃ xs, SqL K H p xs ∧ n = xs.length) ∨ ∃ xs, SqT K H p xs ∧ n = xs.length
  | _ => False
end
end L2
namespace L2
open PySem PySem.Spec PyProof.Rows
structure ObjM (h : Heap) (x dx C : Addr) (mA : Str → Option Value) : Prop where
  obj : h.get? x = some (PySem.W.instObj C dx)
  ns : h.Ns1 dx mA
  ne : dx ≠ x
theorem lookIn_ns {h : Heap} {dx : Addr} {mA : Str → Option Value} (n : h.Ns1 dx mA) : ∃ od, h.get? dx = some od ∧ ∀ name, PySem.W.lookIn name od = some (mA name) := by
  obtain ⟨o, es, ep, ho, hd, hk, _, hm⟩ := n
  refine ⟨o, ho, fun name => ?_⟩
  have e := hm name
  unfold nsFind findBy at e
  rw [← Array.find?_toList] at e
  unfold PySem.W.lookIn
  rw [hd]
  dsimp only
  split
  · rename_i y q
    rw [q] at e
    exact congrArg some e
  · rename_i q
    rw [q] at e
    have a : es.toList.any (·.refKey) = false := by
      rw [List.any_eq_false]
      intro y hy
      obtain ⟨z, t, hkey⟩ := hk y (Array.mem_toList_iff.mp hy)
      simp [DictEntry.refKey, hkey]
    have a' : ¬ es.toList.any (·.refKey) = true := by rw [a]; exact Bool.false_ne_true
    rw [if_neg a']
    exact congrArg some e
theorem ObjM.look {h : Heap} {x dx C : Addr} {mA : Str → Option Value} (I : ObjM h x dx C mA) : ∃ od, PySem.W.InstAt h x (PySem.W.instObj C dx) C (some od) ∧ ∀ name, PySem.W.lookIn name od = some (mA name) :=
  let ⟨od, ho, hl⟩ := lookIn_ns I.ns
  ⟨od, ⟨I.obj, rfl, rfl, ho⟩, hl⟩
section
variable {prog : Program} {w : World} {A : Around} {E : Value → Shared → Prop} {s : Shared} {K : PySem.W.Frag} {x dx C f : Addr} {mA : Str → Option Value} {name : Str} {v : Value}
theorem get_map {expr : Bool} {Q : Value → Shared → Prop} (X : K.In s.heap) (I : ObjM s.heap x dx C mA) (hg : PySem.W.plainGet K C name = true) (hh : PySem.W.hasDictIn K C = true)
    (ha : PySem.W.findIn K (.ref C) name = some none) (hv : mA name = some v) (hv' : PySem.W.handedIn v = true) (h : Q v { s with toks := s.toks + 1 }) :
    wpAny (model prog w) A (getAttr (.ref x) name expr) Q E s := by
  obtain ⟨od, J, hl⟩ := I.look
  exact PySem.W.get_value X J (PySem.W.plainGet_of hg).1 (PySem.W.findObj_own hh ha rfl (by rw [hl, hv])) hv' h
theorem get_meth {pl : Sem Bool} {Q : Value × List Value → Shared → Prop} (X : K.In s.heap) (I : ObjM s.heap x dx C mA) (hg : PySem.W.plainGet K C name = true)
    (hf : PySem.W.findIn K (.ref C) name = some (some (.ref f))) (ht : PySem.W.isFn K (.ref f) = true) (hv : mA name = none) (h : Q (.ref f, [.ref x]) s) :
    wpAny (model prog w) A (getMethod (.ref x) name pl) Q E s := by
  obtain ⟨od, J, hl⟩ := I.look
  exact PySem.W.method_fn X J (PySem.W.plainGet_of hg).1 (PySem.W.plainGet_of hg).2 hf (beq_iff_eq.mp ht) (by show (PySem.W.lookIn name od).map (·.isSome) = some false; rw [hl, hv]; rfl) h
theorem set_map {ns : List Str} {Q : Unit → Shared → Prop} (X : K.In s.heap) (I : ObjM s.heap x dx C mA)
    (hs : PySem.W.findIn K (.ref C) "__setattr__" = some (some (.builtin "object.__setattr__"))) (hp : PySem.W.plainOver K C = true) (ht : PySem.W.takerIn K C name = some none) (hh : PySem.W.hasDictIn K C = true)
    (hw : PySem.Within mA ns) (hsz : ns.length ≤ sizeLine)
    (h : ∀ h', ObjM h' x dx C (fun y => if y = name then some v else mA y) → Heap.SameBut dx s.heap h' → Q () { s with heap := h', toks := s.toks + 2 }) :
    wpAny (model prog w) A (setAttr (.ref x) name v) Q E s := by
  obtain ⟨od, J, hl⟩ := I.look
  refine PySem.W.set_plain X J hs (PySem.W.osa_open (s := { s with toks := s.toks + 1 }) (r := none) X J hp ht fun b => ?_)
  obtain ⟨cd, hc, hd'⟩ := PySem.W.any_some hh
  have hx : s.heap.get? x = some ⟨.ref C, some dx, .plain, #[]⟩ := I.obj
  refine wpAny_bind (wpAny_pure (wpAny_bind (wpAny_bind (wpAny_loadPart hx (wpAny_bind (PySem.W.Looks.here (s := { s with toks := s.toks + 1 }) (PySem.W.looks_clsIn X hc) ?_))))))
  rw [hd']
  refine wpAny_pure (a := some dx) (wpAny_bind (wpAny_pure (wpAny_bind ?_)))
  refine wpAny_nsSet1 (s := { s with toks := s.toks + 1 }) I.ns fun h' hn2 hs2 => ?_
  obtain ⟨oD, esD, epD, hoD, hdD, hcD⟩ := hn2.count (PySem.Within.cons name v hw)
  refine wpAny_bind (wpAny_lookBehind hoD (by rw [hdD]; exact pastItsLine_dict (Nat.le_trans hcD (by rw [List.length_cons]; omega))) ?_)
  exact wpAny_pure (h _ ⟨(hs2.2 _ (Ne.symm I.ne)).trans I.obj, hn2, I.ne⟩ hs2)
theorem make_map {R : Result → Shared → Prop} {vs : List Value} {kw : List (Str × Value)} (X : K.In s.heap) (hm : PySem.W.makesIn K C = true)
    (hi : PySem.W.findIn K (.ref C) "__init__" = some (some (.ref f))) (hf : PySem.W.typeIn K (.ref f) = some (.type "function"))
    (h : codeAny (model prog w) (A.under (.builtin "type.__call__" ⟨.ref C :: vs, kw⟩)) (.call (.ref f) ⟨.ref (s.heap.objs.size + 1) :: vs, kw⟩) (PySem.W.InitBack (s.heap.objs.size + 1) R)
      { s with heap := (s.heap.push PySem.W.emptyDict).push (PySem.W.instObj C s.heap.objs.size) }) :
    codeAny (model prog w) A (.call (.ref C) ⟨vs, kw⟩) R s := by
  obtain ⟨hh, g, d, t, os⟩ := s
  exact PySem.W.make_core (PySem.W.makes_of X hm) (PySem.W.looks_findIn X hi) (fun self => PySem.W.bind_fn X self hf) (.inl rfl) h
end
def putF (f : Str) (v : V) : List (Str × V) → List (Str × V)
  | [] => [(f, v)]
  | (g, x) :: r => if g = f then (g, v) :: r else (g, x) :: putF f v r
theorem lookup_putF (f g : Str) (v : V) : ∀ fs : List (Str × V), (putF f v fs).lookup g = if g = f then some v else fs.lookup g
  | [] => by
    show List.lookup g [(f, v)] = _
    by_cases h : g = f
    · have hb : (g == f) = true := beq_iff_eq.mpr h
      simp only [List.lookup, hb, if_pos h]
    · have hb : (g == f) = false := beq_eq_false_iff_ne.mpr h
      simp only [List.lookup, hb, if_neg h]
  | (k, x) :: r => by
    have ih := lookup_putF f g v r
    rw [show putF f v ((k, x) :: r) = (if k = f then (k, v) :: r else (k, x) :: putF f v r) from rfl]
    by_cases hk : k = f
    · rw [if_pos hk]
      by_cases h : g = k
      · have hb : (g == k) = true := beq_iff_eq.mpr h
        simp only [List.lookup, hb, if_pos (h.trans hk)]
      · have hb : (g == k) = false := beq_eq_false_iff_ne.mpr h
        simp only [List.lookup, hb, if_neg (fun e : g = f => h (e.trans hk.symm))]
    · rw [if_neg hk]
      by_cases h : g = k
      · have hb : (g == k) = true := beq_iff_eq.mpr h
        simp only [List.lookup, hb, if_neg (fun e : g = f => hk (h.symm.trans e))]
      · have hb : (g == k) = false := beq_eq_false_iff_ne.mpr h
        simp only [List.lookup, hb]
        exact ih
theorem keys_putF (f : Str) (v : V) : ∀ fs : List (Str × V), f ∈ (putF f v fs).map (·.1) ∧ ∀ g, g ∈ fs.map (·.1) → g ∈ (putF f v fs).map (·.1)
  | [] => ⟨by simp [putF], fun g h => by simp at h⟩
  | (k, x) :: r => by
    obtain ⟨i1, i2⟩ := keys_putF f v r
    rw [show putF f v ((k, x) :: r) = (if k = f then (k, v) :: r else (k, x) :: putF f v r) from rfl]
    by_cases hk : k = f
    · rw [if_pos hk]
      subst hk
      exact ⟨by simp, fun g h => by simpa using h⟩
    · rw [if_neg hk]
      refine ⟨?_, fun g h => ?_⟩
      · rw [List.map_cons]
        exact List.mem_cons_of_mem _ i1
      · rw [List.map_cons] at h ⊢
        rcases List.mem_cons.mp h with e | e
        · exact List.mem_cons.mpr (.inl e)
        · exact List.mem_cons_of_mem _ (i2 g e)
theorem length_putF (f : Str) (v : V) : ∀ fs : List (Str × V), (putF f v fs).length ≤ fs.length + 1
  | [] => by simp [putF]
  | (k, x) :: r => by
    have ih := length_putF f v r
    rw [show putF f v ((k, x) :: r) = (if k = f then (k, v) :: r else (k, x) :: putF f v r) from rfl]
    by_cases hk : k = f
    · rw [if_pos hk, List.length_cons, List.length_cons]; omega
    · rw [if_neg hk, List.length_cons, List.length_cons]; omega
theorem RelO.some_of {v : V} {o : Option Value} (r : RelO (some v) o) : ∃ u, o = some u ∧ RelV v u := by
  cases o with
  | none => exact (show False from r).elim
  | some u => exact ⟨u, rfl, r⟩
theorem RelO.none_of {o : Option Value} (r : RelO none o) : o = none := by
  cases o with
  | none => rfl
  | some u => exact (show False from r).elim
theorem handed_of {v : V} {u : Value} (r : RelV v u) : PySem.W.handedIn u = true := by
  cases v with
  | non => cases (show u = Value.none from r); rfl
  | bl b => cases (show u = Value.bool b from r); rfl
  | int i => obtain ⟨t, e⟩ := (show ∃ t, u = Value.int i t from r); cases e; rfl
  | str x => obtain ⟨t, e⟩ := (show ∃ t, u = Value.str x t from r); cases e; rfl
  | byt b => obtain ⟨t, e⟩ := (show ∃ t, u = Value.bytes b t from r); cases e; rfl
  | flt b => obtain ⟨t, e⟩ := (show ∃ t, u = Value.float b t from r); cases e; rfl
  | ref a => cases (show u = Value.ref a from r); rfl
  | ty n => cases (show u = Value.type n from r); rfl
section
variable {P : Program} {w : World} {H H' : Hp} {h h' : Heap} {a C dx : Addr} {fs fs' : List (Str × V)}
theorem ins_get (hok : HOk P w H h) (e : H a = some (.ins C dx fs)) : ∃ mA, ObjM h a dx C mA ∧ (∀ f, RelO (fs.lookup f) (mA f)) ∧ PySem.Within mA (fs.map (·.1)) ∧ fs.length ≤ 1000 ∧ H dx = some (.own a) := by
  obtain ⟨d, z, ne, ob, mA, n, r, q⟩ := (show ObjOk P w H h a (.ins C dx fs) from hok a _ e)
  exact ⟨mA, ⟨ob, n, ne⟩, r, q, z, d⟩
end
structure Cls (K : PySem.W.Frag) (C : Addr) : Prop where
  pg : PySem.W.plainGet K C Str.empty = true
  hd : PySem.W.hasDictIn K C = true
  po : PySem.W.plainOver K C = true
  sa : PySem.W.findIn K (.ref C) "__setattr__" = some (some (.builtin "object.__setattr__"))
theorem Cls.get {K : PySem.W.Frag} {C : Addr} (c : Cls K C) (f : Str) : PySem.W.plainGet K C f = true := c.pg
def NoAttr (K : PySem.W.Frag) (C : Addr) (f : Str) : Prop := PySem.W.findIn K (.ref C) f = some none
theorem NoAttr.taker {K : PySem.W.Frag} {C : Addr} {f : Str} (n : NoAttr K C f) : PySem.W.takerIn K C f = some none := by
  unfold PySem.W.takerIn
  rw [show PySem.W.findIn K (.ref C) f = some none from n]
  rfl
structure Con (K : PySem.W.Frag) (C : Addr) (f : Str) (v : V) (u : Value) : Prop where
  at_ : PySem.W.findIn K (.ref C) f = some (some u)
  rel : RelV v u
  get : PySem.W.specialIn K u "__get__" = some none
  cp : PySem.W.copiedNames.contains f = false
structure Meth (K : PySem.W.Frag) (C : Addr) (m : Str) (f : Addr) : Prop where
  at_ : PySem.W.findIn K (.ref C) m = some (some (.ref f))
  fn : PySem.W.isFn K (.ref f) = true
  kp : PySem.W.keepIn K (.ref f) = true
section
variable {X : Cx} {pins : List (Addr × Obj)} {σ : St} {H : Hp} {s : Shared} {a C dx : Addr} {fs : List (Str × V)} {f : Str} {v : V} {A : Around} {E : Value → Shared → Prop}
theorem getattr_ok {b : Bool} {Q : Value → Shared → Prop} (I : Inv X pins σ H s) (e : H a = some (.ins C dx fs)) (c : Cls X.K C) (n : NoAttr X.K C f) (l : fs.lookup f = some v)
    (h : ∀ u s', Inv X pins σ H s' → RelV v u → Q u s') : wpAny (model X.prog X.w) A (getAttr (.ref a) f b) Q E s := by
  obtain ⟨mA, O, r, _, _, _⟩ := ins_get I.hok e
  obtain ⟨u, hu, ru⟩ := RelO.some_of (v := v) (o := mA f) (by rw [← l]; exact r f)
  exact get_map I.kIn O (c.get f) c.hd n hu (handed_of ru) (h u _ (I.tok _) ru)
theorem getmeth_ok {m : Str} {g : Addr} {pl : Sem Bool} {Q : Value × List Value → Shared → Prop} (I : Inv X pins σ H s) (e : H a = some (.ins C dx fs)) (c : Cls X.K C) (k : Meth X.K C m g) (l : fs.lookup m = none)
    (h : Q (.ref g, [.ref a]) s) : wpAny (model X.prog X.w) A (getMethod (.ref a) m pl) Q E s := by
  obtain ⟨mA, O, r, _, _, _⟩ := ins_get I.hok e
  have hn : mA m = none := RelO.none_of (by rw [← l]; exact r m)
  exact get_meth I.kIn O (c.get m) k.at_ k.fn hn h
theorem setattr_ok {y : V} {u : Value} {Q : Unit → Shared → Prop} (I : Inv X pins σ H s) (e : H a = some (.ins C dx fs)) (c : Cls X.K C) (n : NoAttr X.K C f) (hl : fs.length < 1000) (ry : RelV y u)
    (h : ∀ s', Inv X pins σ (upd H a (.ins C dx (putF f y fs))) s' → Q () s') : wpAny (model X.prog X.w) A (setAttr (.ref a) f u) Q E s := by
  obtain ⟨mA, O, r, wi, _, ho⟩ := ins_get I.hok e
  have hz : (fs.map (·.1)).length ≤ sizeLine := by rw [List.length_map, sizeLine_eq]; omega
  refine set_map I.kIn O c.sa c.po n.taker c.hd wi hz fun h' O' sb => h _ ?_
  have hd : ∃ o, h'.get? dx = some o := let ⟨o, _, _, e', _⟩ := O'.ns; ⟨o, e'⟩
  refine I.write (x := a) (e := dx) (by rw [e]; exact True.intro) (.inr ho) (fun b q hb z => (sb.2 b hb).trans z) hd ?_
  refine ⟨by rw [upd_ne O.ne]; exact ho, ?_, O.ne, O'.obj, _, O'.ns, fun g => ?_, fun g hg => ?_⟩
  · have := length_putF f y fs; omega
  · show RelO ((putF f y fs).lookup g) (if g = f then some u else mA g)
    rw [lookup_putF]
    by_cases q : g = f
    · rw [if_pos q, if_pos q]; exact ry
    · rw [if_neg q, if_neg q]; exact r g
  · by_cases q : g = f
    · rw [q]; exact (keys_putF f y fs).1
    · refine (keys_putF f y fs).2 g (wi g fun z => hg ?_)
      show (if g = f then some u else mA g) = none
      rw [if_neg q]; exact z
theorem Inv.made (I : Inv X pins σ H s) : Inv X pins σ (upd (upd H s.heap.objs.size (.own (s.heap.objs.size + 1))) (s.heap.objs.size + 1) (.ins C s.heap.objs.size []))
    { s with heap := (s.heap.push PySem.W.emptyDict).push (PySem.W.instObj C s.heap.objs.size) } := by
  have e1 : (s.heap.push PySem.W.emptyDict).get? s.heap.objs.size = some PySem.W.emptyDict := Heap.get?_push_size s.heap rfl
  have e2 : ((s.heap.push PySem.W.emptyDict).push (PySem.W.instObj C s.heap.objs.size)).get? (s.heap.objs.size + 1) = some (PySem.W.instObj C s.heap.objs.size) := by
    have := Heap.get?_push_size (s.heap.push PySem.W.emptyDict) (o := PySem.W.instObj C s.heap.objs.size) rfl
    rwa [Heap.size_push] at this
  have e3 : (s.heap.push PySem.W.emptyDict).Ns s.heap.objs.size (fun _ => none) := ⟨PySem.W.emptyDict, #[], _, e1, rfl, (fun e he => absurd he (by simp)), fun _ => rfl⟩
  have I1 := I.laid (a := s.heap.objs.size) (o := .own (s.heap.objs.size + 1)) (h' := s.heap.push PySem.W.emptyDict) (t' := s.toks) (fun b u q => Heap.get?_push_of_some _ q) (Nat.le_refl _) ⟨_, e1⟩
  refine I1.laid (a := s.heap.objs.size + 1) (o := .ins C s.heap.objs.size []) (t' := s.toks) (fun b u q => Heap.get?_push_of_some _ q) (Nat.le_of_eq (Heap.size_push _ _)) ?_
  have ne : s.heap.objs.size ≠ s.heap.objs.size + 1 := Nat.ne_of_lt (Nat.lt_succ_self _)
  refine ⟨by rw [upd_ne ne, upd_same], Nat.zero_le _, ne, e2, fun _ => none, (Heap.Ns1.of_empty e3).at fun o q => Heap.get?_push_of_some _ q, fun _ => True.intro, fun y hy => absurd rfl hy⟩
theorem attr_of {prog : Program} {w : World} {env : Env} {e : Expr} {f : Str} {pos : Pos} {s : Shared} {Q : Value → Shared → Prop} (hb : attributeBase e f env (eval e env) = eval e env)
    (h : wpAny (model prog w) A (eval e env) (fun o s₁ => wpAny (model prog w) A (getAttr o f true) Q E s₁) E s) : wpAny (model prog w) A (eval (.Attribute e f pos) env) Q E s :=
  Attribute_any_ h (by rw [arm_eval_Attribute, hb])
end
def tFld (K : PySem.W.Frag) (ta : TE) (f : Str) : TE := fun σ H Q => ta σ H fun x H1 => ∃ a C dx fs v, x = .ref a ∧ H1 a = some (.ins C dx fs) ∧ Cls K C ∧ NoAttr K C f ∧ fs.lookup f = some v ∧ Q v H1
def tCon (K : PySem.W.Frag) (ta : TE) (f : Str) : TE := fun σ H Q => ta σ H fun x H1 => ∃ a C dx fs v u, x = .ref a ∧ H1 a = some (.ins C dx fs) ∧ Cls K C ∧ Con K C f v u ∧ fs.lookup f = none ∧ Q v H1
def sFld (K : PySem.W.Frag) (ta tv : TE) (f : Str) : TS := fun D σ H => tv σ H fun y H1 => ta σ H1 fun x H2 => ∃ a C dx fs, x = .ref a ∧ H2 a = some (.ins C dx fs) ∧ Cls K C ∧ NoAttr K C f ∧ fs.length < 1000 ∧
  D.nx σ (upd H2 a (.ins C dx (putF f y fs)))
def InOp (X : Cx) (op : Operator) (rd : V → V → Hp → VK → Prop) : Prop :=
  ∀ (pins : List (Addr × Obj)) (s : Shared) (σ : St) (H : Hp) (x y : V) (u v : Value) (Q : VK), Inv X pins σ H s → RelV x u → RelV y v → rd x y H Q → wpAny (model X.prog X.w) X.A (inplaceOp op u v) (EP X pins σ Q) X.xe s
def sFldAug (K : PySem.W.Frag) (ta tv : TE) (rd : V → V → Hp → VK → Prop) (f : Str) : TS := fun D σ H => ta σ H fun x H1 => ∃ a C dx fs v, x = .ref a ∧ H1 a = some (.ins C dx fs) ∧ Cls K C ∧ NoAttr K C f ∧ fs.lookup f = some v ∧
  tv σ H1 fun y H2 => rd v y H2 fun z H3 => ∃ dx' fs', H3 a = some (.ins C dx' fs') ∧ fs'.length < 1000 ∧ D.nx σ (upd H3 a (.ins C dx' (putF f z fs')))
section
variable {X : Cx} {o e value : Expr} {f : Str} {pos pos' tpos : Pos} {ta tv : TE}
theorem pe_fld (he : PE X e ta) (hb : attributeBase e f X.env (eval e X.env) = eval e X.env) : PE X (.Attribute e f pos) (tFld X.K ta f) := by
  intro pins s σ H Q I h
  refine attr_of hb (thn (he pins s σ H _ I h) fun u s1 ⟨x, H1, I1, rx, a, C, dx, fs, v, ex, ea, c, n, l, q⟩ => ?_)
  subst ex
  obtain rfl : u = Value.ref a := rx
  exact getattr_ok I1 ea c n l fun u' s2 I2 ru => ⟨v, H1, I2, ru, q⟩
theorem ps_fld (ha : PE X o ta) (hv : PE X value tv) (hs : swapsWith value (some (.Attribute o f pos')) pos.line X.env = pure false) : PS X (.Assign [.Attribute o f pos'] value pos) (sFld X.K ta tv f) := by
  intro pins s σ H D I h
  refine plainObj_wpAny_Assign_Attribute (thn (hv pins s σ H _ I h) fun u s1 ⟨y, H1, I1, ry, q⟩ => thn (ha pins s1 σ H1 _ I1 q) fun ov s2 ⟨x, H2, I2, rx, a, C, dx, fs, ex, ea, c, n, l, q2⟩ => ?_) hs
  subst ex
  obtain rfl : ov = Value.ref a := rx
  exact setattr_ok I2 ea c n l ry fun s3 I3 => ⟨σ, _, I3, q2⟩
end
section
variable {X : Cx} {pins : List (Addr × Obj)} {σ : St} {H : Hp} {s : Shared} {A : Around} {E : Value → Shared → Prop} {Q : Value → Shared → Prop} {c : Value} {b : Bool}
inductive TyOf (K : PySem.W.Frag) (H : Hp) : V → Value → Prop where
  | non : TyOf K H .non (.type "NoneType")
  | bl (x : Bool) : TyOf K H (.bl x) (.type "bool")
  | int (i : Int) : TyOf K H (.int i) (.type "int")
  | str (x : Str) : TyOf K H (.str x) (.type "str")
  | flt (x : UInt64) : TyOf K H (.flt x) (.type "float")
  | lst {a : Addr} {xs : List V} (e : H a = some (.lst xs)) : TyOf K H (.ref a) (.type "list")
  | frz {a : Addr} {o : Obj} {xs : List V} (e : H a = some (.frz o (.lst xs))) : TyOf K H (.ref a) (.type "list")
  | tup {a : Addr} {xs : List V} (e : H a = some (.tup xs)) : TyOf K H (.ref a) (.type "tuple")
  | dK {a : Addr} {kvs : List (Key × V)} (e : H a = some (.dK kvs)) : TyOf K H (.ref a) (.type "dict")
  | dT {a : Addr} {kvs : List (List Key × V)} (e : H a = some (.dT kvs)) : TyOf K H (.ref a) (.type "dict")
  | ins {a C dx : Addr} {fs : List (Str × V)} (e : H a = some (.ins C dx fs)) (cl : Cls K C) (ha : PySem.W.findIn K (.ref C) "__class__" = some (some (.builtin "object.__class__")))
      (hn : PySem.W.specialIn K (.builtin "object.__class__") "__get__" = some (some (.builtin "getset_descriptor.__get__"))) (htk : PySem.W.takesIn K (.builtin "object.__class__") = some true)
      (hm : PySem.W.mroIn K C (.type "object") = some true) : TyOf K H (.ref a) (.ref C)
theorem isinst_ok {x : V} {u t : Value} (I : Inv X pins σ H s) (rx : RelV x u) (ty : TyOf X.K H x t) (e : PySem.W.kitOne X.K t c = some b) (h : ∀ tk, Q (.bool b) { s with toks := tk }) :
    wpAny (model X.prog X.w) A (call (.builtin "isinstance") [u, c]) Q E s := by
  cases ty with
  | non => cases (show u = Value.none from rx); exact PySem.W.kia_one PySem.W.kitx_none I.kIn True.intro e (fun z => nomatch z) h
  | bl y => cases (show u = Value.bool y from rx); exact PySem.W.kia_one PySem.W.kitx_bool I.kIn True.intro e (fun z => nomatch z) h
  | int i => obtain ⟨t, q⟩ := (show ∃ t, u = Value.int i t from rx); cases q; exact PySem.W.kia_one PySem.W.kitx_int I.kIn True.intro e (fun z => nomatch z) h
  | str y => obtain ⟨t, q⟩ := (show ∃ t, u = Value.str y t from rx); cases q; exact PySem.W.kia_one PySem.W.kitx_str I.kIn True.intro e (fun z => nomatch z) h
  | flt y => obtain ⟨t, q⟩ := (show ∃ t, u = Value.float y t from rx); cases q; exact PySem.W.kia_one PySem.W.kitx_float I.kIn True.intro e (fun z => nomatch z) h
  | @lst a xs ea =>
    cases (show u = Value.ref a from rx)
    obtain ⟨_, _, n, _, h1⟩ := (show ObjOk X.prog X.w H s.heap a (.lst xs) from I.hok a _ ea)
    exact PySem.W.kia_one PySem.W.kitx_list I.kIn ⟨_, h1, rfl⟩ e (fun z => nomatch z) h
  | @frz a ob xs ea =>
    cases (show u = Value.ref a from rx)
    obtain ⟨_, _, _, n, _, h1⟩ := (show ObjOk X.prog X.w H s.heap a (.frz ob (.lst xs)) from I.hok a _ ea)
    exact PySem.W.kia_one PySem.W.kitx_list I.kIn ⟨_, h1, rfl⟩ e (fun z => nomatch z) h
  | @tup a xs ea =>
    cases (show u = Value.ref a from rx)
    obtain ⟨_, _, _, p⟩ := (show ObjOk X.prog X.w H s.heap a (.tup xs) from I.hok a _ ea)
    obtain ⟨o, h1, h2, _⟩ := p.is
    exact PySem.W.kia_one PySem.W.kitx_tuple I.kIn ⟨o, h1, h2⟩ e (fun z => nomatch z) h
  | @dK a kvs ea =>
    cases (show u = Value.ref a from rx)
    obtain ⟨_, _, vs, _, p⟩ := (show ObjOk X.prog X.w H s.heap a (.dK kvs) from I.hok a _ ea)
    obtain ⟨o, es, ep, h1, h2, _⟩ := p
    exact PySem.W.kia_one PySem.W.kitx_dict I.kIn ⟨o, h1, h2.1⟩ e (fun z => nomatch z) h
  | @dT a kvs ea =>
    cases (show u = Value.ref a from rx)
    obtain ⟨_, _, xs, _, o, es, ep, h1, h2, _⟩ := (show ObjOk X.prog X.w H s.heap a (.dT kvs) from I.hok a _ ea)
    exact PySem.W.kia_one PySem.W.kitx_dict I.kIn ⟨o, h1, h2.1⟩ e (fun z => nomatch z) h
  | @ins a C dx fs ea cl ha hn htk hm =>
    cases (show u = Value.ref a from rx)
    obtain ⟨mA, O, _⟩ := ins_get I.hok ea
    obtain ⟨od, J, _⟩ := O.look
    exact PySem.W.kia_one (PySem.W.kitx_own (cl.get _) cl.hd ha hn htk hm) I.kIn J e (fun z => nomatch z) h
end
end L2
namespace L2
open PySem PySem.Spec PyProof.Rows
structure Room (k : Nat) (A : Around) : Prop where
  hd : A.handled = none
  dp : A.depth + 3 * k + 5 < recursionLimit
  un : A.units + 16 * k + 200 < cLine
theorem Room.mono {j k : Nat} {A : Around} (r : Room k A) (h : j ≤ k) : Room j A := ⟨r.hd, by have := r.dp; omega, by have := r.un; omega⟩
theorem Room.deeper {k : Nat} {A : Around} (r : Room (k + 1) A) (env : Env) : Room k (A.deeper env) :=
  ⟨r.hd, by have := r.dp; show A.depth + 1 + 3 * k + 5 < _; omega, by have := r.un; show A.units + 3 + 16 * k + 200 < _; omega⟩
theorem make_depth {A : Around} {C : Addr} {us : List Value} {kw : List (Str × Value)} : (A.under (.builtin "type.__call__" ⟨.ref C :: us, kw⟩)).depth = A.depth + 1 := by
  first | rfl | simp [Around.under, Code.weight, Code.isCreation, Code.isGuard, Code.isCaller, Code.frames, Code.isFrame, guardIds]
theorem make_units {A : Around} {C : Addr} {us : List Value} {kw : List (Str × Value)} : (A.under (.builtin "type.__call__" ⟨.ref C :: us, kw⟩)).units = A.units + 1 := by
  first | rfl | simp [Around.under, Code.cUnits, Code.frames, Code.isFrame]
theorem Room.make {k : Nat} {A : Around} (r : Room (k + 1) A) (C : Addr) (us : List Value) (kw : List (Str × Value)) : Room k (A.under (.builtin "type.__call__" ⟨.ref C :: us, kw⟩)) :=
  ⟨r.hd, by have := r.dp; rw [make_depth]; omega, by have := r.un; rw [make_units]; omega⟩
theorem Room.depth {k : Nat} {A : Around} (r : Room k A) : A.depth < recursionLimit := by have := r.dp; omega
theorem Room.units {k : Nat} {A : Around} (r : Room k A) : A.units + 64 < cLine := by have := r.un; omega
def tNil : TA := fun _ H Q => Q [] H
def tCons (ta : TE) (tr : TA) : TA := fun σ H Q => ta σ H fun x H1 => tr σ H1 fun xs H2 => Q (x :: xs) H2
section
variable {X : Cx} {e : Expr} {es : List Expr} {te : TE} {t : TA} {pos : Pos}
theorem pa_nil : PA X [] tNil := fun _ _ _ _ H Q I h => Calls.spliced_nil ⟨[], H, I, .nil, h⟩
theorem pa_cons (ha : PE X e te) (hr : PA X es t) (hs : starEach (e :: es) X.env = (false, eval e X.env) :: starEach es X.env := by rfl) : PA X (e :: es) (tCons te t) := by
  intro pos pins s σ H Q I h
  rw [hs]
  show wpAny _ _ (spliced ((false, eval e X.env) :: backTo pos (starEach es X.env))) _ _ s
  refine Calls.spliced_cons (thn (ha pins s σ H _ I h) fun u s1 ⟨x, H1, I1, r1, q1⟩ => ?_)
  exact thn (hr pos pins s1 σ H1 _ I1 q1) fun us s2 ⟨xs, H2, I2, r2, q2⟩ => ⟨x :: xs, H2, I2, .cons r1 r2, q2⟩
def tTup (t : TA) : TE := fun σ H Q => t σ H fun xs H1 => xs.length ≤ sizeLine ∧ ∀ p, H1 p = none → Q (.ref p) (upd H1 p (.tup xs))
def tLst (t : TA) : TE := fun σ H Q => t σ H fun xs H1 => xs.length ≤ sizeLine ∧ ∀ p, H1 p = none → Q (.ref p) (upd H1 p (.lst xs))
theorem pe_tup {x1} (h : PA X es t) : PE X (.Tuple es x1 pos) (tTup t) := by
  intro pins s σ H Q I hq
  refine wpAny_Tuple_spliced (thn (h pos pins s σ H _ I hq) fun us s1 ⟨xs, H1, I1, r, z, q⟩ => ⟨by rw [← r.length]; exact z, ?_⟩)
  have hf : H1 s1.heap.objs.size = none := I1.hok.fresh (Nat.le_refl _)
  refine ⟨.ref s1.heap.objs.size, upd H1 s1.heap.objs.size (.tup xs), I1.laid (t' := s1.toks) (fun b u e => Heap.get?_push_of_some _ e) (Nat.le_refl _) ?_, rfl, q _ hf⟩
  exact ⟨z, us, r, ⟨_, Heap.get?_push_size _ rfl, _, rfl⟩⟩
theorem pe_lst (h : PA X es t) : PE X (.List es pos) (tLst t) := by
  intro pins s σ H Q I hq
  refine wpAny_List_spliced (thn (h pos pins s σ H _ I hq) fun us s1 ⟨xs, H1, I1, r, z, q⟩ => ⟨by rw [← r.length]; exact z, ?_⟩)
  have hf : H1 s1.heap.objs.size = none := I1.hok.fresh (Nat.le_refl _)
  refine ⟨.ref s1.heap.objs.size, upd H1 s1.heap.objs.size (.lst xs), I1.laid (t' := s1.toks) (fun b u e => Heap.get?_push_of_some _ e) (Nat.le_refl _) ?_, rfl, q _ hf⟩
  exact ⟨z, us, 0, r, Heap.get?_push_size _ rfl⟩
end
abbrev Sp := List V → Hp → VK → XK → Prop
abbrev CXT := List Env → Hp → Shared → XK → Value → Shared → Prop
structure Env0 (P : Program) (w : World) (K : PySem.W.Frag) (mg : Str → Option Value) (base : Heap) (A : Around) (outer : List Env) (s : Shared) (H : Hp) : Prop where
  frames : A.frames = some outer
  mod : Mod K mg base
  bs : ∀ b o, base.get? b = some o → s.heap.get? b = some o ∧ H b = none
  bsz : base.objs.size ≤ s.heap.objs.size
  funs : s.heap.FunFrames base outer
  frf : ∀ b ∈ frs outer, H b = none
  hok : HOk P w H s.heap
  bare : AllBare s.gens
def CE (outer : List Env) (P : Program) (w : World) (H : Hp) (s : Shared) (Q : VK) (u : Value) (s' : Shared) : Prop :=
  ∃ v H', s'.os = s.os ∧ AllBare s'.gens ∧ Un (frs outer) [] H H' s.heap s'.heap ∧ HOk P w H' s'.heap ∧ RelV v u ∧ Q v H'
def CR (CX : CXT) (outer : List Env) (P : Program) (w : World) (H : Hp) (s : Shared) (Q : VK) (E : XK) (r : Result) (s' : Shared) : Prop :=
  match r with
  | .ok (.ret u) => CE outer P w H s Q u s'
  | .ok _ => False
  | .error e => CX outer H s E e s'
structure FnOk (P : Program) (w : World) (K : PySem.W.Frag) (mg : Str → Option Value) (base : Heap) (CX : CXT) (k : Nat) (f : Addr) (fd : FuncData) (ps : List Str) (sp : Sp) : Prop where
  len : ∀ vs H Q E, sp vs H Q E → vs.length = ps.length
  run : ∀ (A : Around) (outer : List Env) (s : Shared) (H : Hp) (args : Args) (us : List Value) (vs : List V) (Q : VK) (E : XK), Room k A → Env0 P w K mg base A outer s H → BindsTo s fd args (ps.zip us) → Vals vs us → sp vs H Q E →
    codeAny (model P w) A (.call (.ref f) args) (CR CX outer P w H s Q E) s
theorem FnOk.mono {P : Program} {w : World} {K : PySem.W.Frag} {mg : Str → Option Value} {base : Heap} {CX : CXT} {j k : Nat} {f : Addr} {fd : FuncData} {ps : List Str} {sp : Sp} (F : FnOk P w K mg base CX j f fd ps sp) (h : j ≤ k) :
    FnOk P w K mg base CX k f fd ps sp := ⟨F.len, fun A outer s H args us vs Q E hr => F.run A outer s H args us vs Q E (hr.mono h)⟩
theorem Env0.make {P : Program} {w : World} {K : PySem.W.Frag} {mg : Str → Option Value} {base : Heap} {A : Around} {outer : List Env} {s : Shared} {H : Hp} (e : Env0 P w K mg base A outer s H) (C : Addr) (us : List Value) (kw : List (Str × Value)) :
    Env0 P w K mg base (A.under (.builtin "type.__call__" ⟨.ref C :: us, kw⟩)) outer s H := ⟨by first | exact e.frames | (simpa [Around.under, Code.envs, Code.isFrame, pushEnvs] using e.frames), e.mod, e.bs, e.bsz, e.funs, e.frf, e.hok, e.bare⟩
section
variable {X : Cx} {pins : List (Addr × Obj)} {σ : St} {H : Hp} {s s' : Shared}
theorem Inv.env0 (I : Inv X pins σ H s) : Env0 X.prog X.w X.K X.mg X.base X.A X.stack s H :=
  ⟨I.ok.frames, I.ok.mod, I.bs, Nat.le_trans I.ok.bsz I.sz, I.stack, I.stkFree, I.hok, I.bare⟩
theorem Inv.after {Q : VK} {u : Value} (I : Inv X pins σ H s) (h : CE X.stack X.prog X.w H s Q u s') : EP X pins σ Q u s' := by
  obtain ⟨v, H', os, bare, un, hok, r, q⟩ := h
  obtain ⟨hh, g, d, t, os'⟩ := s'
  obtain rfl : os' = s.os := os
  exact ⟨v, H', I.call (h' := hh) (g' := g) (d' := d) (t' := t) (ch := []) un hok bare (fun b z => absurd z (by simp)), r, q⟩
end
def tCall (sp : Sp) (dvs : List V) (E : XK) (t : TA) : TE := fun σ H Q => t σ H fun vs H1 => sp (vs ++ dvs) H1 Q E
def tMeth (C : Addr) (m : Str) (sp : Sp) (dvs : List V) (E : XK) (ta : TE) (t : TA) : TE := fun σ H Q => ta σ H fun x H1 => ∃ a dx fs, x = .ref a ∧ H1 a = some (.ins C dx fs) ∧ fs.lookup m = none ∧
  t σ H1 fun vs H2 => sp (x :: (vs ++ dvs)) H2 Q E
def tMake (C : Addr) (sp : Sp) (dvs : List V) (E : XK) (t : TA) : TE := fun σ H Q => t σ H fun vs H1 => ∀ x dx, H1 x = none → H1 dx = none → dx ≠ x →
  sp (.ref x :: (vs ++ dvs)) (upd (upd H1 dx (.own x)) x (.ins C dx [])) (fun v H2 => v = .non ∧ Q (.ref x) H2) E
def Binds (K : PySem.W.Frag) (fd : FuncData) (ps : List Str) (ds : List Value) : Prop :=
  ∀ (s : Shared) (us : List Value), K.In s.heap → (us ++ ds).length = ps.length → BindsTo s fd ⟨us, []⟩ (ps.zip (us ++ ds))
theorem Binds.all {K : PySem.W.Frag} {fd : FuncData} {ps : List Str} (h : ∀ us : List Value, us.length = ps.length → bindArgs fd ⟨us, []⟩ = pure (ps.zip us)) : Binds K fd ps [] := fun s us _ hl => by
  rw [List.append_nil] at hl ⊢
  exact .of_eq (h us hl)
def Passes (CX : CXT) (X : Cx) (E : XK) : Prop := ∀ (pins : List (Addr × Obj)) (σ : St) (H : Hp) (s : Shared) (e : Value) (s' : Shared), Inv X pins σ H s → CX X.stack H s E e s' → X.xe e s'
section
variable {X : Cx} {CX : CXT} {k : Nat} {f C : Addr} {fd : FuncData} {ps : List Str} {sp : Sp} {dvs : List V} {ds : List Value} {E : XK} {x m : Str} {p pos apos : Pos} {e o : Expr} {es : List Expr} {ta : TE} {t : TA}
theorem run_fn {pins : List (Addr × Obj)} {σ : St} {H : Hp} {s : Shared} {Q : VK} {us : List Value} {vs : List V} (F : FnOk X.prog X.w X.K X.mg X.base CX k f fd ps sp) (hr : Room k X.A) (hb : Binds X.K fd ps ds) (hd : Vals dvs ds) (hx : Passes CX X E)
    (I : Inv X pins σ H s) (r : Vals vs us) (h : sp (vs ++ dvs) H Q E) : wpAny (model X.prog X.w) X.A (call (.ref f) us) (EP X pins σ Q) X.xe s := by
  have r2 : Vals (vs ++ dvs) (us ++ ds) := r.append hd
  have hl : (us ++ ds).length = ps.length := by rw [← r2.length]; exact F.len _ _ _ _ h
  refine wpAny_call (codeAny_mono (F.run X.A X.stack s H ⟨us, []⟩ (us ++ ds) (vs ++ dvs) Q E hr I.env0 (hb s us I.kIn hl) r2 h) fun r s' hq => ?_)
  cases r with
  | error e => exact hx pins σ H s e s' I hq
  | ok fl =>
    cases fl with
    | ret u => exact I.after hq
    | next => exact False.elim hq
    | brk => exact False.elim hq
    | cont => exact False.elim hq
theorem pe_call (F : FnOk X.prog X.w X.K X.mg X.base CX k f fd ps sp) (hr : Room k X.A) (hg : Gl X x) (hm : X.mg x = some (.ref f)) (hk : PySem.W.keepIn X.K (.ref f) = true) (hb : Binds X.K fd ps ds) (hd : Vals dvs ds) (hx : Passes CX X E)
    (ha : PA X (e :: es) t) (hdb : (x == ("__debug__" : Str)) = false := by decide) (he : starEach (e :: es) X.env = (false, eval e X.env) :: starEach es X.env := by rfl) (hpl : (backTo pos (starEach es X.env)).any (·.1) = false := by rfl) :
    PE X (.Call (.Name x p) (e :: es) [] pos) (tCall sp dvs E t) := by
  intro pins s σ H Q I h
  refine wpAny_Call_Name_kw (ld_glob I hg hm ?_ hdb)
  refine PySem.W.callWith_K (h₀ := X.base) I.ok.mod.kin hk (thn (ha pos pins s σ H _ I h) fun us s1 ⟨vs, H1, I1, r, q⟩ => ⟨I1.kIn, ?_⟩) he hpl
  exact run_fn F hr hb hd hx I1 r q
theorem pe_meth0 {pl : Sem Bool} (he : PE X o ta) (c : Cls X.K C) (hm : Meth X.K C m f) (F : FnOk X.prog X.w X.K X.mg X.base CX k f fd ps sp) (hr : Room k X.A) (hb : Binds X.K fd ps ds) (hd : Vals dvs ds) (hx : Passes CX X E)
    (ht : eval (.Call (.Attribute o m apos) [] [] pos) X.env = (do
      let ov ← eval o X.env
      standAt apos.atName
      let (f, first) ← holding [ov] (getMethod ov m pl)
      callWith pos f first (backTo pos (starEach [] X.env)) (backToKw pos (keywordEach [] X.env))) := by rfl) :
    PE X (.Call (.Attribute o m apos) [] [] pos) (tMeth C m sp dvs E ta tNil) := by
  intro pins s σ H Q I h
  refine PySem.W.methodCall_KW (pl := pl) (thn (he pins s σ H _ I h) fun u s1 ⟨x, H1, I1, rx, a, dx, fs, ex, ea, l, q⟩ => ?_) ht
  subst ex
  obtain rfl : u = Value.ref a := rx
  refine getmeth_ok I1 ea c hm l ?_
  exact PySem.W.callWith_K0 (first := [.ref a]) I1.kIn hm.kp (run_fn (us := [.ref a]) (vs := [.ref a]) F hr hb hd hx I1 (.cons rfl .nil) q)
structure Mk (K : PySem.W.Frag) (C f : Addr) : Prop where
  makes : PySem.W.makesIn K C = true
  init : PySem.W.findIn K (.ref C) "__init__" = some (some (.ref f))
  fn : PySem.W.isFn K (.ref f) = true
  kp : PySem.W.keepIn K (.ref C) = true
theorem run_make {pins : List (Addr × Obj)} {σ : St} {H : Hp} {s : Shared} {Q : VK} {us : List Value} {vs : List V} (M : Mk X.K C f) (F : FnOk X.prog X.w X.K X.mg X.base CX k f fd ps sp) (hr : Room (k + 1) X.A) (hb : Binds X.K fd ps ds) (hd : Vals dvs ds)
    (hx : Passes CX X E) (I : Inv X pins σ H s) (r : Vals vs us)
    (h : ∀ x dx, H x = none → H dx = none → dx ≠ x → sp (.ref x :: (vs ++ dvs)) (upd (upd H dx (.own x)) x (.ins C dx [])) (fun v H2 => v = .non ∧ Q (.ref x) H2) E) :
    wpAny (model X.prog X.w) X.A (call (.ref C) us) (EP X pins σ Q) X.xe s := by
  have hq := h (s.heap.objs.size + 1) s.heap.objs.size (I.hok.fresh (Nat.le_succ _)) (I.hok.fresh (Nat.le_refl _)) (Nat.ne_of_lt (Nat.lt_succ_self _))
  have I2 := Inv.made (C := C) I
  have r2 : Vals (V.ref (s.heap.objs.size + 1) :: (vs ++ dvs)) (Value.ref (s.heap.objs.size + 1) :: (us ++ ds)) := .cons rfl (r.append hd)
  have hl : (Value.ref (s.heap.objs.size + 1) :: us ++ ds).length = ps.length := by
    have e := r2.length
    rw [F.len _ _ _ _ hq] at e
    exact e.symm
  refine wpAny_call (make_map (f := f) I.kIn M.makes M.init (beq_iff_eq.mp M.fn) (codeAny_mono (F.run _ X.stack _ _ ⟨Value.ref (s.heap.objs.size + 1) :: us, []⟩ (Value.ref (s.heap.objs.size + 1) :: (us ++ ds)) _ _ E (hr.make C us [])
    (I2.env0.make C us []) (hb _ (Value.ref (s.heap.objs.size + 1) :: us) I2.kIn hl) r2 hq) fun r s' hq' => ?_))
  cases r with
  | error e => exact hx pins σ _ _ e s' I2 hq'
  | ok fl =>
    cases fl with
    | ret u =>
      obtain ⟨v, H', I3, rv, ev, q3⟩ := I2.after hq'
      subst ev
      exact ⟨rv, ⟨V.ref (s.heap.objs.size + 1), H', I3, rfl, q3⟩⟩
    | next => exact False.elim hq'
    | brk => exact False.elim hq'
    | cont => exact False.elim hq'
theorem pe_make (M : Mk X.K C f) (F : FnOk X.prog X.w X.K X.mg X.base CX k f fd ps sp) (hr : Room (k + 1) X.A) (hg : Gl X x) (hm : X.mg x = some (.ref C)) (hb : Binds X.K fd ps ds) (hd : Vals dvs ds) (hx : Passes CX X E)
    (ha : PA X (e :: es) t) (hdb : (x == ("__debug__" : Str)) = false := by decide) (he : starEach (e :: es) X.env = (false, eval e X.env) :: starEach es X.env := by rfl) (hpl : (backTo pos (starEach es X.env)).any (·.1) = false := by rfl) :
    PE X (.Call (.Name x p) (e :: es) [] pos) (tMake C sp dvs E t) := by
  intro pins s σ H Q I h
  refine wpAny_Call_Name_kw (ld_glob I hg hm ?_ hdb)
  refine PySem.W.callWith_K (h₀ := X.base) I.ok.mod.kin M.kp (thn (ha pos pins s σ H _ I h) fun us s1 ⟨vs, H1, I1, r, q⟩ => ⟨I1.kIn, ?_⟩) he hpl
  exact run_make M F hr hb hd hx I1 r q
end
def PK (X : Cx) (kws : List Keyword) (t : TA) : Prop :=
  ∀ (pos : Pos) (pins : List (Addr × Obj)) (s : Shared) (σ : St) (H : Hp) (Q : List V → Hp → Prop), Inv X pins σ H s → t σ H Q → wpAny (model X.prog X.w) X.A (evalAll ((backToKw pos (keywordEach kws X.env)).map (·.2))) (AP X pins σ Q) X.xe s
section
variable {X : Cx} {CX : CXT} {k : Nat} {f C : Addr} {fd : FuncData} {ps ks : List Str} {sp : Sp} {E : XK} {x m : Str} {p pos apos kpos : Pos} {e o : Expr} {es : List Expr} {kws : List Keyword} {te ta : TE} {t tk : TA} {nm : Option Str}
structure KBinds (K : PySem.W.Frag) (fd : FuncData) (ps ks : List Str) (g : List Value → List Value → List Value) (gV : List V → List V → List V) : Prop where
  to : ∀ (s : Shared) (us ws : List Value), K.In s.heap → (g us ws).length = ps.length → BindsTo s fd ⟨us, ks.zip ws⟩ (ps.zip (g us ws))
  rel : ∀ {vs : List V} {us : List Value} {zs : List V} {ws : List Value}, Vals vs us → Vals zs ws → Vals (gV vs zs) (g us ws)
variable {g : List Value → List Value → List Value} {gV : List V → List V → List V}
end
structure FnScope (N P : List Str) (sc : Scope) : Prop where
  kind : sc.kind = .function
  co : sc.isCoroutine = false
  gen : sc.isGenerator = false
  nd : N.Nodup
  pre : N.take P.length = P
  par : ∀ x ∈ P, sc.names.lookup x = some .local ∨ sc.names.lookup x = some .cell
  nofree : ∀ y ∈ sc.names, y.2 ≠ .free
theorem bindL_out {kindOf : Str → Option NameKind} {x : Str} : ∀ {binds : List (Str × Value)} {m : Str → Option Value}, (∀ v, (x, v) ∉ binds) → bindL kindOf binds m x = m x
  | [], _, _ => rfl
  | (n, v) :: r, m, h => by
    unfold bindL
    rw [bindL_out fun w hw => h w (List.mem_cons_of_mem _ hw)]
    split
    · have : x ≠ n := by rintro rfl; exact h v List.mem_cons_self
      simp [this]
    · rfl
theorem bindC_out {kindOf : Str → Option NameKind} {x : Str} : ∀ {binds : List (Str × Value)} {m : Str → Option Value}, (∀ v, (x, v) ∉ binds) → bindC kindOf binds m x = m x
  | [], _, _ => rfl
  | (n, v) :: r, m, h => by
    unfold bindC
    rw [bindC_out fun w hw => h w (List.mem_cons_of_mem _ hw)]
    split
    · rfl
    · have : x ≠ n := by rintro rfl; exact h v List.mem_cons_self
      simp [this]
theorem bindL_get {kindOf : Str → Option NameKind} {x : Str} {v : Value} : ∀ {P : List Str} {vs : List Value} {i : Nat} {m : Str → Option Value}, P.Nodup → P[i]? = some x → vs[i]? = some v → kindOf x = some .local →
    bindL kindOf (P.zip vs) m x = some v
  | [], _, _, _, _, h, _, _ => by simp at h
  | _ :: _, [], _, _, _, _, h, _ => by simp at h
  | p :: P, w :: vs, 0, m, nd, h1, h2, hk => by
    simp at h1 h2; subst h1; subst h2
    show bindL kindOf ((p, w) :: P.zip vs) m p = _
    unfold bindL
    rw [bindL_out fun v hv => (List.nodup_cons.mp nd).1 (List.of_mem_zip hv).1, if_pos hk]
    simp
  | p :: P, w :: vs, i + 1, m, nd, h1, h2, hk => by
    show bindL kindOf ((p, w) :: P.zip vs) m x = _
    unfold bindL
    exact bindL_get (i := i) (List.nodup_cons.mp nd).2 (by simpa using h1) (by simpa using h2) hk
theorem bindC_get {kindOf : Str → Option NameKind} {x : Str} {v : Value} : ∀ {P : List Str} {vs : List Value} {i : Nat} {m : Str → Option Value}, P.Nodup → P[i]? = some x → vs[i]? = some v → kindOf x ≠ some .local →
    bindC kindOf (P.zip vs) m x = some v
  | [], _, _, _, _, h, _, _ => by simp at h
  | _ :: _, [], _, _, _, _, h, _ => by simp at h
  | p :: P, w :: vs, 0, m, nd, h1, h2, hk => by
    simp at h1 h2; subst h1; subst h2
    show bindC kindOf ((p, w) :: P.zip vs) m p = _
    unfold bindC
    rw [bindC_out fun v hv => (List.nodup_cons.mp nd).1 (List.of_mem_zip hv).1, if_neg hk]
    simp
  | p :: P, w :: vs, i + 1, m, nd, h1, h2, hk => by
    show bindC kindOf ((p, w) :: P.zip vs) m x = _
    unfold bindC
    exact bindC_get (i := i) (List.nodup_cons.mp nd).2 (by simpa using h1) (by simpa using h2) hk
def start (N : List Str) (vs : List V) : St := vs.map some ++ List.replicate (N.length - vs.length) none
def cxOf (CX : CXT) (P : Program) (w : World) (K : PySem.W.Frag) (mg : Str → Option Value) (base : Heap) (N : List Str) (qual : Str) (scope : Scope) (f : Addr) (cd : Value) (A : Around) (outer : List Env) (s : Shared) (H : Hp) (E : XK) : Cx where
  prog := P
  w := w
  K := K
  mg := mg
  base := base
  A := A.deeper (envOfC qual scope s.heap.objs.size f cd)
  N := N
  s₀ := s
  H₀ := H
  env := envOfC qual scope s.heap.objs.size f cd
  outer := outer
  stack := envOfC qual scope s.heap.objs.size f cd :: outer
  ex := []
  calm := true
  fn := fun _ => true
  pn := []
  xe := fun e s' => wpAny (model P w) (A.deeper (envOfC qual scope s.heap.objs.size f cd)) (leaving (envOfC qual scope s.heap.objs.size f cd) e) (fun _ s'' => CX outer H s E e s'') (fun e' s'' => CX outer H s E e' s'') s'
theorem cell_has {sc : Scope} {n : Nat} {x : Str} (h : sc.names.lookup x = some .cell) : ∃ c, (cellsFrom n sc.names []).lookup x = some c := by
  have q := PySem.W.cellsFrom_some sc.names n [] (.inl h)
  exact Option.isSome_iff_exists.mp q
theorem inv_start {CX : CXT} {P : Program} {w : World} {K : PySem.W.Frag} {mg : Str → Option Value} {base : Heap} {N ps : List Str} {qual : Str} {scope : Scope} {f : Addr} {cd : Value} {A : Around} {outer : List Env} {s s1 : Shared} {H : Hp} {E : XK} {us : List Value} {vs : List V}
    (S : FnScope N ps scope) (hd : A.handled = none) (e0 : Env0 P w K mg base A outer s H) (hl : vs.length = ps.length) (r : Vals vs us)
    (x : InCallC s s.heap.objs.size (bindL (envOfC qual scope s.heap.objs.size f cd).kindOf (ps.zip us) fun _ => none) (cellsFrom (s.heap.objs.size + 1) scope.names []) (bindC (envOfC qual scope s.heap.objs.size f cd).kindOf (ps.zip us) fun _ => none) s1) :
    Inv (cxOf CX P w K mg base N qual scope f cd A outer s H E) [] (start N vs) H s1 := by
  have hpl : ps.length ≤ N.length := by have := congrArg List.length S.pre; rw [List.length_take] at this; omega
  obtain ⟨h1, tk, rfl, hk⟩ := x.done
  have noA : ∀ b : Addr, b ∉ (cxOf CX P w K mg base N qual scope f cd A outer s H E).ex := fun b z => absurd (show b ∈ ([] : List Addr) from z) (by simp)
  refine ⟨⟨e0.mod, S.kind, rfl, rfl, Nat.le_refl _, fun y z c h1 h2 => ?_, fun y hy => ?_, fun y c _ h => ?_, fun _ => hd, Around.frames_deeper e0.frames, .inr ⟨rfl, rfl⟩, fun b z => absurd z (noA b), e0.bs, e0.bsz, fun b _ _ => noA b, fun b z => absurd z (noA b), e0.funs, e0.frf⟩,
    rfl, e0.bare, Un.kept hk, ⟨_, x.toInCall.ns, fun i y v h1 h2 h3 => ?_⟩, fun y c h => ⟨_, x.cell y c h⟩, e0.hok.fresh (Nat.le_refl _), fun y c h => ?_, fun p hp => absurd (show p ∈ ([] : List (Addr × Obj)) from hp) (by simp), e0.hok.kept hk, ?_⟩
  · exact name_of_addr x.apart (PySem.mem_of_lookup h1) (PySem.mem_of_lookup h2)
  · have hy : scope.names.lookup y = some .cell ∨ scope.names.lookup y = some .free := hy
    rcases hy with hy | hy
    · exact cell_has hy
    · exact absurd rfl (S.nofree _ (PySem.mem_of_lookup hy))
  · exact Nat.le_of_lt (x.above y c (PySem.mem_of_lookup h))
  · have hi : i < vs.length := by
      unfold start at h2
      by_cases hi : i < vs.length
      · exact hi
      · rw [List.getElem?_append_right (by simpa using hi)] at h2
        rw [List.getElem?_replicate] at h2
        split at h2 <;> cases h2
    have ha : vs[i]? = some v := by
      unfold start at h2
      rw [List.getElem?_append_left (by simpa using hi), List.getElem?_map] at h2
      cases e : vs[i]? with
      | none => rw [e] at h2; cases h2
      | some a => rw [e] at h2; cases h2; rfl
    obtain ⟨u, hu, rv⟩ := r.get ha
    have hp : ps[i]? = some y := by
      rw [← S.pre, List.getElem?_take_of_lt (by omega)]; exact h1
    have ndP : ps.Nodup := by rw [← S.pre]; exact S.nd.sublist (List.take_sublist _ _)
    refine ⟨u, rv, ?_⟩
    rcases S.par y (List.mem_of_getElem? hp) with k | k
    · exact .inl ⟨k, bindL_get ndP hp hu k⟩
    · obtain ⟨c, e⟩ := cell_has (n := s.heap.objs.size + 1) k
      refine .inr ⟨.inl k, c, e, ?_⟩
      have q := x.cell y c e
      rw [bindC_get ndP hp hu (by show scope.names.lookup y ≠ _; rw [k]; decide)] at q
      exact q
  · exact e0.hok.fresh (Nat.le_of_lt (x.above y c (PySem.mem_of_lookup h)))
  · unfold start
    show _ = N.length
    rw [List.length_append, List.length_map, List.length_replicate]
    omega
theorem fn_of {CX : CXT} {P : Program} {w : World} {K : PySem.W.Frag} {mg : Str → Option Value} {base : Heap} {k : Nat} {f : Addr} {name qual : Str} {params : Arguments} {body : List Stmt} {scope : Scope} {dV kV doc pm cdv ct oc : Value} {an od : Option Addr}
    {osl : Array (Option Value)} {N ps : List Str} {sp : Sp} (lk : K.lookup f = some ⟨oc, od, .func (PySem.W.fnOf name qual params body scope dV kV doc pm an cdv ct), osl⟩) (hcd : PySem.W.codeIn K cdv qual = true) (S : FnScope N ps scope)
    (len : ∀ vs H Q E, sp vs H Q E → vs.length = ps.length)
    (hbody : ∀ (A : Around) (outer : List Env) (s : Shared) (H : Hp) (vs : List V) (Q : VK) (E : XK), Room k (A.deeper (envOfC qual scope s.heap.objs.size f cdv)) → sp vs H Q E →
      ∃ t, PSs (cxOf CX P w K mg base N qual scope f cdv A outer s H E) body t ∧ t { nx := fun _ H' => Q .non H', rt := Q } (start N vs) H) :
    FnOk P w K mg base CX (k + 1) f (PySem.W.fnOf name qual params body scope dV kV doc pm an cdv ct) ps sp := by
  refine ⟨len, fun A outer s H args us vs Q E hr e0 hb r hsp => ?_⟩
  have hl := len _ _ _ _ hsp
  have KX : K.In s.heap := e0.mod.kin.keeps fun b o e => (e0.bs b o e).1
  have lim : s.heap.NoLimit := e0.mod.nolimit.keeps fun b o e => (e0.bs b o e).1
  have hkind : ∀ y ∈ ps.zip us, scope.names.lookup y.1 = some .local ∨ (scope.names.lookup y.1 = some .cell ∧ ((cellsFrom (s.heap.objs.size + 1) scope.names []).lookup y.1).isSome = true) := fun ⟨n, v⟩ hy => by
    rcases S.par n (List.of_mem_zip hy).1 with q | q
    · exact .inl q
    · exact .inr ⟨q, PySem.W.cellsFrom_some _ _ _ (.inl q)⟩
  refine codeAny_call_function hr.depth (KX _ _ lk) rfl S.co S.gen rfl (PySem.W.codeRec_of KX hcd) (hb _ _ _ _ ?_)
  refine wpAny_newFunctionEnv_cells S.kind hkind fun env he s1 x => ?_
  subst he
  refine ⟨lim.keeps x.toInCall.keep, codeAny_func ?_⟩
  obtain ⟨t, ht, hq⟩ := hbody A outer s H vs Q E (hr.deeper _) hsp
  have I : Inv (cxOf CX P w K mg base N qual scope f cdv A outer s H E) [] (start N vs) H s1 := inv_start S hr.hd e0 hl r x
  refine wpAny_mono (ht [] s1 (start N vs) H _ I hq) (fun fl s' hs => ?_) fun e s' hs => hs
  have fin : ∀ {σ' : St} {H' : Hp} {v : V} {u : Value}, Inv (cxOf CX P w K mg base N qual scope f cdv A outer s H E) [] σ' H' s' → RelV v u → Q v H' → CE outer P w H s Q u s' :=
    fun {σ' H' v u} J rv q => ⟨v, H', J.os, J.bare, J.base, J.hok, rv, q⟩
  cases fl with
  | ret u =>
    obtain ⟨v, σ', H', J, rv, q⟩ := hs
    exact fin J rv q
  | next =>
    obtain ⟨σ', H', J, q⟩ := hs
    exact fin (v := V.non) (u := Value.none) J rfl q
  | brk =>
    obtain ⟨_, _, _, q⟩ := hs
    exact False.elim q
  | cont =>
    obtain ⟨_, _, _, q⟩ := hs
    exact False.elim q
end L2
namespace L2
open PySem PySem.Spec PyProof.Rows
section
variable {X : Cx} {x : Str} {p pos : Pos} {e : Expr} {es : List Expr} {t : TA} {id T : String} {r : List V → Hp → VK → Prop}
def tCB (r : List V → Hp → VK → Prop) (t : TA) : TE := fun σ H Q => t σ H fun vs H1 => r vs H1 Q
theorem pe_callB (hc : CallR X (.builtin id) r) (hg : Gl X x) (hm : X.mg x = none) (hv : bootBuiltins x = some (.builtin id)) (ha : PA X (e :: es) t) (hn : x ≠ "__name__" := by decide) (hdb : (x == ("__debug__" : Str)) = false := by decide)
    (he : starEach (e :: es) X.env = (false, eval e X.env) :: starEach es X.env := by rfl) (hpl : (backTo pos (starEach es X.env)).any (·.1) = false := by rfl) : PE X (.Call (.Name x p) (e :: es) [] pos) (tCB r t) := by
  intro pins s σ H Q I h
  refine wpAny_Call_Name_kw (ld_blt I hg hm hv ?_ hn hdb)
  exact PyProof.Rows.callWith_builtin1 (thn (ha pos pins s σ H _ I h) fun us s1 ⟨vs, H1, I1, r1, q1⟩ => hc pins s1 σ H1 vs us Q I1 r1 q1) he hpl
theorem pe_callTy (hc : CallR X (.type T) r) (hg : Gl X x) (hm : X.mg x = none) (hv : bootBuiltins x = some (.type T)) (ha : PA X (e :: es) t) (hn : x ≠ "__name__" := by decide) (hdb : (x == ("__debug__" : Str)) = false := by decide)
    (he : starEach (e :: es) X.env = (false, eval e X.env) :: starEach es X.env := by rfl) (hpl : (backTo pos (starEach es X.env)).any (·.1) = false := by rfl) : PE X (.Call (.Name x p) (e :: es) [] pos) (tCB r t) := by
  intro pins s σ H Q I h
  refine wpAny_Call_Name_kw (ld_blt I hg hm hv ?_ hn hdb)
  exact PyProof.Rows.callWith_type1 (thn (ha pos pins s σ H _ I h) fun us s1 ⟨vs, H1, I1, r1, q1⟩ => hc pins s1 σ H1 vs us Q I1 r1 q1) he hpl
end
end L2
namespace HT
open PySem PyProof.Rows
def lexLt : List Int → List Int → Bool
  | [], [] => false
  | [], _ :: _ => true
  | _ :: _, [] => false
  | x :: xs, y :: ys => if x = y then lexLt xs ys else decide (x < y)
section
open PySem.SeqAt
open PySem.AutoSeq1 (wpAny_loadPart')
open PySem.MeetsSeq PySem.MeetsSeq2 PySem.MeetsSeq3
end
section
variable {prog : Program} {w : World} {A : Around} {E : Value → Shared → Prop} {s : Shared}
theorem cat_tup {t b : Addr} {vs ws : List Value} {Q : Value → Shared → Prop} (ht : IsTup s.heap t vs.toArray) (hb : IsTup s.heap b ws.toArray) (hv : vs ≠ [])
    (h1 : ws = [] → Q (.ref t) s) (h2 : ws ≠ [] → Q (.ref s.heap.objs.size) { s with heap := s.heap.push { cls := .type "tuple", data := .seq (vs ++ ws).toArray } })
    (hsz : vs.length + ws.length ≤ sizeLine) : wpAny (model prog w) A (binaryOp .Add (.ref t) (.ref b)) Q E s := by
  obtain ⟨⟨cls, dd, data, sl⟩, ho, hc, n, hd⟩ := id ht
  obtain ⟨⟨cls2, dd2, data2, sl2⟩, ho2, hc2, n2, hd2⟩ := id hb
  simp only at hc hd hc2 hd2
  subst hc hd hc2 hd2
  have e : vs.toArray ++ ws.toArray = (vs ++ ws).toArray := by simp
  by_cases hw : ws = []
  · exact concat_meets ⟨_, ho, rfl⟩ ⟨_, ho2, rfl⟩ noFill_tuple_add seq_tuple_add PySem.F.slot_tuple_add PySem.F.entry_tuple_add (PySem.F.args_tuple_add_2 _ _)
      (tuple_addW1 t b vs.toArray ws.toArray n n2 dd dd2 sl sl2 (by simpa using hv) (by simp [hw])) ⟨ho, ho2, h1 hw⟩
  · refine concat_meets ⟨_, ho, rfl⟩ ⟨_, ho2, rfl⟩ noFill_tuple_add seq_tuple_add PySem.F.slot_tuple_add PySem.F.entry_tuple_add (PySem.F.args_tuple_add_2 _ _)
      (tuple_addW2 t b vs.toArray ws.toArray n n2 dd dd2 sl sl2 (by simpa using hv) (by simpa using hw) (by rw [List.size_toArray, List.size_toArray]; exact hsz)) ⟨ho, ho2, ?_⟩
    rw [e]
    exact h2 hw
def sIx (n d : Nat) : Option Int → Nat
  | none => d
  | some v => if v < 0 then (v + (n : Int)).toNat else min v.toNat n
theorem sIx_none (n d : Nat) : sIx n d none = d := rfl
theorem sIx_nat (n d k : Nat) : sIx n d (some (k : Int)) = min k n := by
  show (if (k : Int) < 0 then ((k : Int) + (n : Int)).toNat else min (k : Int).toNat n) = min k n
  rw [if_neg (by omega), Int.toNat_natCast]
end
end HT
namespace L2
open PySem PySem.Spec PyProof.Rows
abbrev TO := St → Hp → (Option Int → Hp → Prop) → Prop
def PO (X : Cx) (e : Option Expr) (t : TO) : Prop :=
  ∀ (pins : List (Addr × Obj)) (s : Shared) (σ : St) (H : Hp) (Q : Option Int → Hp → Prop), Inv X pins σ H s → t σ H Q →
    wpAny (model X.prog X.w) X.A (evalPart e X.env) (fun u s' => ∃ o H', Inv X pins σ H' s' ∧ IsPart u o ∧ Q o H') X.xe s
def tNoPart : TO := fun _ H Q => Q none H
def tPart (t : TE) : TO := fun σ H Q => t σ H fun x H1 => ∃ i, x = .int i ∧ Q (some i) H1
section
variable {X : Cx} {e : Expr} {te : TE} {lo hi : Option Expr} {tl th : TO} {pos p2 : Pos}
theorem po_none : PO X none tNoPart := by
  intro pins s σ H Q I h
  rw [evalPart_none]
  exact wpAny_pure ⟨none, H, I, .none, h⟩
theorem po_some (h : PE X e te) : PO X (some e) (tPart te) := by
  intro pins s σ H Q I hw
  rw [evalPart_some]
  refine thn (h pins s σ H _ I hw) fun u s1 ⟨x, H1, I1, r1, q1⟩ => ?_
  obtain ⟨i, rfl, q⟩ := q1
  obtain ⟨t, rfl⟩ := r1
  exact ⟨some i, H1, I1, .int i t, q⟩
def SlR (X : Cx) (r : V → Option Int → Option Int → Hp → VK → Prop) : Prop :=
  ∀ (pins : List (Addr × Obj)) (s : Shared) (σ : St) (H : Hp) (x : V) (v vl vu : Value) (lo hi : Option Int) (sl : Addr) (Q : VK), Inv X pins σ H s → RelV x v → s.heap.IsSliceOf sl vl vu .none → IsPart vl lo → IsPart vu hi → r x lo hi H Q →
    ∃ T id, typeLookup (.type T) "__getitem__" = pure (some (.builtin id)) ∧ s.TypeIs v T ∧ wpAny (model X.prog X.w) X.A (getItem v (.ref sl)) (EP X pins σ Q) X.xe s
def tSl (r : V → Option Int → Option Int → Hp → VK → Prop) (te : TE) (tl th : TO) : TE := fun σ H Q => te σ H fun x H1 => tl σ H1 fun l H2 => th σ H2 fun u H3 => r x l u H3 Q
theorem pe_slice {r : V → Option Int → Option Int → Hp → VK → Prop} (hr : SlR X r) (he : PE X e te) (hl : PO X lo tl) (hu : PO X hi th) : PE X (.Subscript e (.Slice lo hi none p2) pos) (tSl r te tl th) := by
  intro pins s σ H Q I h
  refine Subscript_ (thn (he pins s σ H _ I h) fun v s1 ⟨x, H1, I1, r1, q1⟩ => ?_)
  refine wpAny_Slice (thn (hl pins s1 σ H1 _ I1 q1) fun vl s2 ⟨l, H2, I2, pl, q2⟩ => thn (hu pins s2 σ H2 _ I2 q2) fun vu s3 ⟨u, H3, I3, pu, q3⟩ => ?_)
  rw [evalPart_none]
  refine wpAny_pure ?_
  have I4 : Inv X pins σ H3 { s3 with heap := s3.heap.push { cls := .type "slice", data := .fields #[vl, vu, .none] } } := I3.kept (t' := s3.toks) fun b ob q => Heap.get?_push_of_some _ q
  obtain ⟨T, id, hT, ht, hg⟩ := hr pins { s3 with heap := s3.heap.push { cls := .type "slice", data := .fields #[vl, vu, .none] } } σ H3 x v vl vu l u s3.heap.objs.size Q I4 r1 (Heap.IsSliceOf.new ..) pl pu q3
  show wpAny (model X.prog X.w) X.A (subscriptTail e (.Slice lo hi none p2) v (.ref s3.heap.objs.size)) (EP X pins σ Q) X.xe { s3 with heap := s3.heap.push { cls := .type "slice", data := .fields #[vl, vu, .none] } }
  exact tail_any (ops := [.ref s3.heap.objs.size, v]) ht hT hg (by with_unfolding_all rfl)
def cutV (xs : List V) (lo hi : Option Int) : List V := (xs.drop (HT.sIx xs.length 0 lo)).take (HT.sIx xs.length xs.length hi - HT.sIx xs.length 0 lo)
theorem cutV_length (xs : List V) (lo hi : Option Int) : (cutV xs lo hi).length ≤ xs.length := by
  unfold cutV
  rw [List.length_take, List.length_drop]
  omega
def rSlT (K : PySem.W.Frag) : V → Option Int → Option Int → Hp → VK → Prop := fun x lo hi H Q => ∃ a xs, x = .ref a ∧ SqT K H a xs ∧
  ¬ (HT.sIx xs.length 0 lo = 0 ∧ HT.sIx xs.length xs.length hi = xs.length) ∧ ∀ p, H p = none → Q (.ref p) (upd H p (.tup (cutV xs lo hi)))
def rCatT (K : PySem.W.Frag) : R2 := fun x y H Q => ∃ a b xs ys, x = .ref a ∧ y = .ref b ∧ SqT K H a xs ∧ SqT K H b ys ∧ xs ≠ [] ∧ xs.length + ys.length ≤ sizeLine ∧
  (ys = [] → Q (.ref a) H) ∧ (ys ≠ [] → ∀ p, H p = none → Q (.ref p) (upd H p (.tup (xs ++ ys))))
theorem Vals.nil_iff {xs : List V} {us : List Value} (r : Vals xs us) : us = [] ↔ xs = [] := by
  cases r with
  | nil => simp
  | cons _ _ => simp
theorem op_catT : OpR X (binaryOp .Add) (rCatT X.K) := by
  intro pins s σ H x y v u Q I rx ry h
  obtain ⟨a, b, xs, ys, rfl, rfl, ha, hb, hx, hz, q1, q2⟩ := h
  cases rx
  cases ry
  obtain ⟨its, r1, p1, _⟩ := I.tuple ha
  obtain ⟨its2, r2, p2, _⟩ := I.tuple hb
  refine HT.cat_tup p1 p2 (fun z => hx (r1.nil_iff.mp z)) (fun z => ⟨.ref a, H, I, rfl, q1 (r2.nil_iff.mp z)⟩) (fun z => ?_) (by rw [← r1.length, ← r2.length]; exact hz)
  refine ⟨.ref s.heap.objs.size, _, I.laid (t' := s.toks) (o := .tup (xs ++ ys)) (fun b ob q => Heap.get?_push_of_some _ q) (Nat.le_refl _) ?_, rfl, q2 (fun w => z (r2.nil_iff.mpr w)) _ (I.hok.fresh (Nat.le_refl _))⟩
  exact ⟨by rw [List.length_append]; exact hz, _, r1.append r2, IsTp.new _ _⟩
end
end L2
namespace L2
open PySem PySem.Spec PyProof.Rows
def ixN (n : Nat) (i : Int) : Option Nat := if 0 ≤ i then (if i < n then some i.toNat else none) else if -(n : Int) ≤ i then some (i + n).toNat else none
def atI {α : Type} (xs : List α) (i : Int) : Option α := (ixN xs.length i).bind fun j => xs[j]?
theorem ixN_seq {n : Nat} {i : Int} {j : Nat} (h : ixN n i = some j) : seqIndex? i n = some j ∧ j < n ∧ -(n : Int) ≤ i ∧ i < n := by
  unfold ixN at h
  by_cases h0 : 0 ≤ i
  · rw [if_pos h0] at h
    by_cases h1 : i < n
    · rw [if_pos h1] at h
      have e : i.toNat = j := Option.some.inj h
      exact ⟨by rw [seqIndex_of h0 h1, e], by omega, by omega, h1⟩
    · rw [if_neg h1] at h; cases h
  · rw [if_neg h0] at h
    by_cases h1 : -(n : Int) ≤ i
    · rw [if_pos h1] at h
      have e : (i + n).toNat = j := Option.some.inj h
      exact ⟨by rw [seqIndex_neg (by omega) h1, e], by omega, h1, by omega⟩
    · rw [if_neg h1] at h; cases h
theorem atI_get {α : Type} {xs : List α} {i : Int} {v : α} (h : atI xs i = some v) : ∃ j, seqIndex? i xs.length = some j ∧ xs[j]? = some v ∧ j < xs.length ∧ -(xs.length : Int) ≤ i ∧ i < xs.length := by
  unfold atI at h
  cases e : ixN xs.length i with
  | none => rw [e] at h; cases h
  | some j =>
    rw [e] at h
    obtain ⟨h1, h2, h3, h4⟩ := ixN_seq e
    exact ⟨j, h1, h, h2, h3, h4⟩
theorem atI_nat {α : Type} {xs : List α} {j : Nat} {v : α} (h : xs[j]? = some v) : atI xs (j : Int) = some v := by
  have hj : j < xs.length := (List.getElem?_eq_some_iff.mp h).1
  have e : ixN xs.length (j : Int) = some j := by
    unfold ixN
    rw [if_pos (by omega), if_pos (by omega)]; simp
  unfold atI; rw [e]; exact h
theorem atI_last {α : Type} (xs : List α) (v : α) : atI (xs ++ [v]) (-1) = some v := by
  have hl : (xs ++ [v]).length = xs.length + 1 := by simp
  have e : ixN (xs ++ [v]).length (-1) = some xs.length := by
    unfold ixN
    rw [hl, if_neg (by decide), if_pos (by omega)]
    congr 1
    omega
  unfold atI
  rw [e]
  show (xs ++ [v])[xs.length]? = some v
  simp
def PlainIx (b : Expr) : Prop := ∀ o i, subscripted b false o i = operate [o, i] (getItem o i)
def IxR (X : Cx) (r : R2) : Prop :=
  ∀ (value slice : Expr) (pins : List (Addr × Obj)) (s : Shared) (σ : St) (H : Hp) (x y : V) (v u : Value) (Q : VK), Inv X pins σ H s → RelV x v → RelV y u → r x y H Q →
    subscripted slice false v u = operate [v, u] (getItem v u) → wpAny (model X.prog X.w) X.A (subscriptTail value slice v u) (EP X pins σ Q) X.xe s
def MtR (X : Cx) (id : String) (r : V → List V → Hp → VK → Prop) : Prop :=
  ∀ (pins : List (Addr × Obj)) (s : Shared) (σ : St) (H : Hp) (x : V) (xs : List V) (v : Value) (us : List Value) (Q : VK), Inv X pins σ H s → RelV x v → Vals xs us → r x xs H Q →
    wpAny (model X.prog X.w) X.A (call (.builtin id) (v :: us)) (EP X pins σ Q) X.xe s
section
variable {X : Cx} {a b : Expr} {ta tb : TE} {pos : Pos}
theorem pe_ix {r : R2} (hr : IxR X r) (ha : PE X a ta) (hb : PE X b tb) (hs : PlainIx b) : PE X (.Subscript a b pos) (tOp r ta tb) := by
  intro pins s σ H Q I h
  exact Subscript_ (binT ha hb I h fun v u s2 x y H2 I2 rx ry q => hr a b pins s2 σ H2 x y v u Q I2 rx ry q (hs _ _))
def rIxL (K : PySem.W.Frag) : R2 := fun x y H Q => ∃ p xs i v, x = .ref p ∧ y = .int i ∧ SqL K H p xs ∧ atI xs i = some v ∧ Q v H
def rIxT (K : PySem.W.Frag) : R2 := fun x y H Q => ∃ p xs i v, x = .ref p ∧ y = .int i ∧ SqT K H p xs ∧ atI xs i = some v ∧ Q v H
def rIxS : R2 := fun x y H Q => ∃ z i c, x = .str z ∧ y = .int i ∧ z.length ≤ sizeLine ∧ atI z.cps.toList i = some c ∧ Q (.str ⟨#[c]⟩) H
theorem ix_list : IxR X (rIxL X.K) := by
  intro value slice pins s σ H x y v u Q I rx ry h hs
  obtain ⟨p, xs, i, z, rfl, rfl, hq, he, q⟩ := h
  cases rx
  obtain ⟨t, rfl⟩ := ry
  obtain ⟨its, r, pl, hz⟩ := I.list hq
  obtain ⟨j, h1, h2, h3, h4, h5⟩ := atI_get he
  obtain ⟨w, ew, rw'⟩ := r.get h2
  have hl := r.length
  have hn := line63
  have fin : EP X pins σ Q w s := ⟨z, H, I, rw', q⟩
  by_cases h0 : 0 ≤ i
  · have hj : i.toNat = j := by
      rw [seqIndex_of h0 h5] at h1
      exact Option.some.inj h1
    exact item_listR pl.isList h0 (by omega) (by rw [hj]; simpa using ew) fin hs
  · have hj : (i + (its.toArray.size : Int)).toNat = j := by
      rw [seqIndex_neg (by omega) h4] at h1
      rw [List.size_toArray, ← hl]
      exact Option.some.inj h1
    exact subscriptTail_builtinR (x := w) pl.isList.typeIs slot_list_getitem.lookup
      (wpAny_getItem_list_neg (Q := fun r s' => r = w ∧ EP X pins σ Q r s') pl.isList (by omega) (by rw [List.size_toArray] <;> omega) (by omega) (by rw [hj]; simpa using ew) ⟨rfl, fin⟩) hs
theorem ix_tup : IxR X (rIxT X.K) := by
  intro value slice pins s σ H x y v u Q I rx ry h hs
  obtain ⟨p, xs, i, z, rfl, rfl, hq, he, q⟩ := h
  cases rx
  obtain ⟨t, rfl⟩ := ry
  obtain ⟨its, r, pl, hz⟩ := I.tuple hq
  obtain ⟨j, h1, h2, h3, h4, h5⟩ := atI_get he
  obtain ⟨w, ew, rw'⟩ := r.get h2
  have hl := r.length
  have hn := line63
  have fin : EP X pins σ Q w s := ⟨z, H, I, rw', q⟩
  exact subscriptTail_builtinR (x := w) pl.typeIs slot_tuple_getitem.lookup
    (getItem_tuple (j := j) (Q := fun r s' => r = w ∧ EP X pins σ Q r s') pl (by omega) (by omega) (by rw [List.size_toArray, ← hl]; exact h1) (by simpa using ew) ⟨rfl, fin⟩) hs
theorem ix_str : IxR X rIxS := by
  intro value slice pins s σ H x y v u Q I rx ry h hs
  obtain ⟨z, i, c, rfl, rfl, hz, he, q⟩ := h
  obtain ⟨t, rfl⟩ := rx
  obtain ⟨t', rfl⟩ := ry
  obtain ⟨j, h1, h2, h3, h4, h5⟩ := atI_get he
  have hl : z.cps.toList.length = z.length := by simp [Str.length]
  rw [hl] at h1 h4 h5
  have hn := line63
  exact tail_any (typeIs_str s z t) slot_str_getitem.lookup (getItem_str (c := c) (by
    have e1 : decide (i < -(2 ^ 63 : Int)) = false := decide_eq_false (by omega)
    have e2 : decide (i ≥ 2 ^ 63) = false := decide_eq_false (by omega)
    rw [e1, e2, Bool.or_false]) (by rw [h1]; simpa using h2) ⟨.str ⟨#[c]⟩, H, I.tok _, ⟨_, rfl⟩, q⟩) hs
def rIx (K : PySem.W.Frag) : R2 := fun x y H Q => rIxL K x y H Q ∨ rIxT K x y H Q ∨ rIxS x y H Q
theorem mapSeq_set (its : List Value) (n j : Nat) (u : Value) : Obj.mapSeq (·.setIfInBounds j u) { cls := .type "list", data := .seq its.toArray n } = { cls := .type "list", data := .seq (its.set j u).toArray n } := by
  simp [Obj.mapSeq]
theorem Inv.lst {pins : List (Addr × Obj)} {σ : St} {H : Hp} {s : Shared} {p : Addr} {xs : List V} (I : Inv X pins σ H s) (h : H p = some (.lst xs)) :
    ∃ (its : List Value) (n : Nat), Vals xs its ∧ s.heap.get? p = some { cls := .type "list", data := .seq its.toArray n } ∧ xs.length ≤ sizeLine := by
  obtain ⟨z, its, n, r, e⟩ := I.hok p _ h
  exact ⟨its, n, r, e, z⟩
theorem Inv.lstUpd {pins : List (Addr × Obj)} {σ : St} {H : Hp} {s : Shared} {p : Addr} {xs ys : List V} {its its' : List Value} {n n' : Nat} {f : Obj → Obj} (I : Inv X pins σ H s) (h : H p = some (.lst xs))
    (ho : s.heap.get? p = some { cls := .type "list", data := .seq its.toArray n }) (hf : f { cls := .type "list", data := .seq its.toArray n } = { cls := .type "list", data := .seq its'.toArray n' }) (r : Vals ys its') (hz : ys.length ≤ sizeLine) (t : Nat) :
    Inv X pins σ (upd H p (.lst ys)) { s with heap := s.heap.update p f, toks := t } := by
  have e : (s.heap.update p f).get? p = some { cls := .type "list", data := .seq its'.toArray n' } := by
    rw [Heap.get?_update_self f ho (by rw [hf] <;> rfl), hf]
  refine I.write (x := p) (e := p) (by rw [h]; trivial) (.inl rfl) (fun b u hb q => (Heap.get?_update_other _ _ (Ne.symm hb)).trans q) ⟨_, e⟩ ?_
  exact ⟨hz, its', n', r, e⟩
def rSetL : V → V → V → Hp → (Hp → Prop) → Prop := fun o i v H Q => ∃ p xs k j, o = .ref p ∧ i = .int k ∧ H p = some (.lst xs) ∧ ixN xs.length k = some j ∧ Q (upd H p (.lst (xs.set j v)))
theorem set_list : PSet X rSetL := by
  intro pins s σ H o i v ov iv u Q I ro ri rv h
  obtain ⟨p, xs, k, j, rfl, rfl, hp, hj, q⟩ := h
  cases ro
  obtain ⟨t, rfl⟩ := ri
  obtain ⟨its, n, r, ho, hz⟩ := I.lst hp
  obtain ⟨h1, h2, h3, h4⟩ := ixN_seq hj
  have hl := r.length
  have hn := line63
  have I' : Inv X pins σ (upd H p (.lst (xs.set j v))) { s with heap := s.heap.update p (Obj.mapSeq (·.setIfInBounds j u)) } :=
    I.lstUpd hp ho (mapSeq_set its n j u) (r.set rv j) (by rw [List.length_set]; exact hz) s.toks
  by_cases h0 : 0 ≤ k
  · have hk : k.toNat = j := by
      rw [seqIndex_of h0 h4] at h1
      exact Option.some.inj h1
    exact PySem.W.ki_setAt ho h0 (by omega) (by rw [List.size_toArray, ← hl]; exact h4) (by rw [hk]; exact ⟨_, I', q⟩)
  · have hk : (k + (its.toArray.size : Int)).toNat = j := by
      rw [seqIndex_neg (by omega) h3] at h1
      rw [List.size_toArray, ← hl]
      exact Option.some.inj h1
    exact PySem.W.ki_setBack ho (by omega) (by rw [List.size_toArray, ← hl]; exact h3) (by omega) (by rw [hk]; exact ⟨_, I', q⟩)
theorem slice_bounds (lo hi : Option Int) (n : Nat) : (sliceBounds lo hi none n).1 = ((HT.sIx n 0 lo : Nat) : Int) ∧ (sliceBounds lo hi none n).2.1 = ((HT.sIx n n hi : Nat) : Int) ∧ (sliceBounds lo hi none n).2.2 = 1 := by
  refine ⟨?_, ?_, rfl⟩
  · cases lo with
    | none => simp [sliceBounds, HT.sIx]
    | some i =>
      simp only [sliceBounds, HT.sIx, Option.getD_none, show (1 : Int) > 0 by decide, if_true]
      by_cases h : i < 0
      · simp only [h, if_true] <;> omega
      · simp only [h, if_false] <;> omega
  · cases hi with
    | none => simp [sliceBounds, HT.sIx]
    | some i =>
      simp only [sliceBounds, HT.sIx, Option.getD_none, show (1 : Int) > 0 by decide, if_true]
      by_cases h : i < 0
      · simp only [h, if_true] <;> omega
      · simp only [h, if_false] <;> omega
theorem slicePick_cut (its : List Value) (lo hi : Option Int) : slicePick its.toArray lo hi none = ((its.drop (HT.sIx its.length 0 lo)).take (HT.sIx its.length its.length hi - HT.sIx its.length 0 lo)).toArray := by
  obtain ⟨h1, h2, h3⟩ := slice_bounds lo hi its.toArray.size
  unfold slicePick
  rw [h1, h2, h3]
  simp only [sliceRange_one, pick_run, List.size_toArray] <;> rfl
def rSlL (K : PySem.W.Frag) : V → Option Int → Option Int → Hp → VK → Prop := fun x lo hi H Q => ∃ a xs, x = .ref a ∧ SqL K H a xs ∧ ∀ p, H p = none → Q (.ref p) (upd H p (.lst (cutV xs lo hi)))
theorem sl_list : SlR X (rSlL X.K) := by
  intro pins s σ H x v vl vu lo hi sl Q I rx hs pl pu h
  obtain ⟨a, xs, rfl, hx, q⟩ := h
  cases rx
  obtain ⟨its, r, ht, hz⟩ := I.list hx
  have hlen := r.length
  refine ⟨"list", _, slot_list_getitem.lookup, ht.isList.typeIs, ?_⟩
  refine wpAny_getItem_list_slice ht.isList hs pl pu .none (by simp) ?_ (by rw [List.size_toArray] <;> omega)
  rw [slicePick_cut, ← hlen]
  refine ⟨.ref s.heap.objs.size, _, I.laid (t' := s.toks) (o := .lst (cutV xs lo hi)) (fun b ob q => Heap.get?_push_of_some _ q) (Nat.le_refl _) ?_, rfl, q _ (I.hok.fresh (Nat.le_refl _))⟩
  exact ⟨Nat.le_trans (cutV_length xs lo hi) hz, _, 0, (r.drop (HT.sIx xs.length 0 lo)).take (HT.sIx xs.length xs.length hi - HT.sIx xs.length 0 lo), Heap.get?_push_size _ rfl⟩
def flatV : V → Bool
  | .non => true
  | .bl _ => true
  | .int _ => true
  | .str _ => true
  | _ => false
def eqV : V → V → Bool
  | .non, .non => true
  | .bl a, .bl b => a == b
  | .bl a, .int b => (if a then 1 else 0) == b
  | .int a, .bl b => a == (if b then 1 else 0)
  | .int a, .int b => a == b
  | .str a, .str b => a == b
  | _, _ => false
theorem eqAt_V {A : Around} {s : Shared} {y x : V} {u v : Value} (ry : RelV y u) (rx : RelV x v) (fy : flatV y = true) (fx : flatV x = true) : SeqAt.EqAt A s u v (eqV y x) := by
  cases y with
  | non =>
    cases ry
    cases x with
    | non => cases rx; exact SeqAt.EqAt.same _
    | bl b => cases rx; exact SeqAt.EqAt.none_bool b
    | int b => obtain ⟨t, rfl⟩ := rx; exact SeqAt.EqAt.none_int b t
    | str b => obtain ⟨t, rfl⟩ := rx; exact SeqAt.EqAt.none_str b t
    | _ => exact absurd (show false = true from fx) Bool.false_ne_true
  | bl a =>
    cases ry
    cases x with
    | non => cases rx; exact SeqAt.EqAt.bool_none a
    | bl b => cases rx; exact SeqAt.EqAt.bool_bool a b
    | int b => obtain ⟨t, rfl⟩ := rx; exact SeqAt.EqAt.bool_int a b t
    | str b => obtain ⟨t, rfl⟩ := rx; exact SeqAt.EqAt.bool_str a b t
    | _ => exact absurd (show false = true from fx) Bool.false_ne_true
  | int a =>
    obtain ⟨t', rfl⟩ := ry
    cases x with
    | non => cases rx; exact SeqAt.EqAt.int_none a t'
    | bl b => cases rx; exact SeqAt.EqAt.int_bool a t' b
    | int b => obtain ⟨t, rfl⟩ := rx; exact SeqAt.EqAt.int_int a t' b t
    | str b => obtain ⟨t, rfl⟩ := rx; exact SeqAt.EqAt.int_str a t' b t
    | _ => exact absurd (show false = true from fx) Bool.false_ne_true
  | str a =>
    obtain ⟨t', rfl⟩ := ry
    cases x with
    | non => cases rx; exact SeqAt.EqAt.str_none a t'
    | bl b => cases rx; exact SeqAt.EqAt.str_bool a t' b
    | int b => obtain ⟨t, rfl⟩ := rx; exact SeqAt.EqAt.str_int a t' b t
    | str b => obtain ⟨t, rfl⟩ := rx; exact SeqAt.EqAt.str_str a t' b t
    | _ => exact absurd (show false = true from fx) Bool.false_ne_true
  | _ => exact absurd (show false = true from fy) Bool.false_ne_true
def eqU (x : V) (u : Value) : Bool := match u with
  | .none => eqV .non x
  | .bool b => eqV (.bl b) x
  | .int i _ => eqV (.int i) x
  | .str z _ => eqV (.str z) x
  | _ => false
theorem eqU_of {x y : V} {u : Value} (r : RelV y u) (f : flatV y = true) : eqU x u = eqV y x := by
  cases y with
  | non => cases r; rfl
  | bl b => cases r; rfl
  | int i => obtain ⟨t, rfl⟩ := r; rfl
  | str z => obtain ⟨t, rfl⟩ := r; rfl
  | _ => exact absurd (show false = true from f) Bool.false_ne_true
theorem any_eqU {x : V} : ∀ {xs : List V} {us : List Value}, Vals xs us → xs.all flatV = true → us.any (eqU x) = xs.any fun y => eqV y x
  | _, _, .nil, _ => rfl
  | y :: xs, u :: us, .cons r t, f => by
    rw [List.all_cons, Bool.and_eq_true] at f
    rw [List.any_cons, List.any_cons, eqU_of r f.1, any_eqU t f.2]
theorem mem_eqAt {A : Around} {s : Shared} {x : V} {v : Value} (rx : RelV x v) (fx : flatV x = true) : ∀ {xs : List V} {us : List Value}, Vals xs us → xs.all flatV = true → ∀ u ∈ us, SeqAt.EqAt A s u v (eqU x u)
  | _, _, .nil, _ => fun u hu => by cases hu
  | y :: xs, u :: us, .cons r t, f => fun u' hu => by
    rw [List.all_cons, Bool.and_eq_true] at f
    rcases List.mem_cons.mp hu with rfl | hu
    · rw [eqU_of r f.1]; exact eqAt_V r rx f.1 fx
    · exact mem_eqAt rx fx t f.2 u' hu
def inV (x : V) (xs : List V) : Bool := xs.any fun y => eqV y x
def rIn (K : PySem.W.Frag) (neg : Bool) : R2 := fun x y H Q => ∃ p xs, y = .ref p ∧ (SqL K H p xs ∨ SqT K H p xs) ∧ flatV x = true ∧ xs.all flatV = true ∧ Q (.bl (if neg then !inV x xs else inV x xs)) H
theorem op_in_seq : OpR X (compareOp .In) (rIn X.K false) := by
  intro pins s σ H x y v u Q I rx ry h
  obtain ⟨p, xs, rfl, hq, fx, fs, q⟩ := h
  cases ry
  rcases hq with hq | hq
  · obtain ⟨its, r, pl, hz⟩ := I.list hq
    refine SeqAt.in_listAt (eqU x) pl.isList (fun w hw => mem_eqAt rx fx r fs w (by simpa using hw)) ⟨.bl _, H, I, rfl, ?_⟩
    rw [show its.toArray.any (eqU x) = its.any (eqU x) by simp, any_eqU r fs]
    exact q
  · obtain ⟨its, r, pl, hz⟩ := I.tuple hq
    refine SeqAt.in_tupleAt (eqU x) pl (fun w hw => mem_eqAt rx fx r fs w (by simpa using hw)) ⟨.bl _, H, I, rfl, ?_⟩
    rw [show its.toArray.any (eqU x) = its.any (eqU x) by simp, any_eqU r fs]
    exact q
theorem op_notIn_seq : OpR X (compareOp .NotIn) (rIn X.K true) := by
  intro pins s σ H x y v u Q I rx ry h
  obtain ⟨p, xs, rfl, hq, fx, fs, q⟩ := h
  cases ry
  rcases hq with hq | hq
  · obtain ⟨its, r, pl, hz⟩ := I.list hq
    refine SeqAt.notIn_listAt (eqU x) pl.isList (fun w hw => mem_eqAt rx fx r fs w (by simpa using hw)) ⟨.bl _, H, I, rfl, ?_⟩
    rw [show its.toArray.any (eqU x) = its.any (eqU x) by simp, any_eqU r fs]
    exact q
  · obtain ⟨its, r, pl, hz⟩ := I.tuple hq
    refine SeqAt.notIn_tupleAt (eqU x) pl (fun w hw => mem_eqAt rx fx r fs w (by simpa using hw)) ⟨.bl _, H, I, rfl, ?_⟩
    rw [show its.toArray.any (eqU x) = its.any (eqU x) by simp, any_eqU r fs]
    exact q
theorem call_len_seq : CallR X (.builtin "len") (fun xs H Q => ∃ p ys, xs = [.ref p] ∧ (SqL X.K H p ys ∨ SqT X.K H p ys) ∧ Q (.int ys.length) H) := by
  intro pins s σ H xs us Q I r h
  obtain ⟨p, ys, rfl, hq, q⟩ := h
  obtain ⟨u, rfl, rx⟩ := vals1 r
  cases rx
  have hn := line63
  rcases hq with hq | hq
  · obtain ⟨its, r', pl, hz⟩ := I.list hq
    have hlen := r'.length
    exact Calls.call_len_list pl.isList (by simp only [List.size_toArray] <;> omega) ⟨.int ys.length, H, I.tok _, ⟨s.toks + 1, by rw [List.size_toArray, hlen]⟩, q⟩
  · obtain ⟨its, r', pl, hz⟩ := I.tuple hq
    have hlen := r'.length
    exact len_tuple pl (by simp only [List.size_toArray] <;> omega) ⟨.int ys.length, H, I.tok _, ⟨s.toks + 1, by rw [List.size_toArray, hlen]⟩, q⟩
theorem call_len_str : CallR X (.builtin "len") (fun xs H Q => ∃ z, xs = [.str z] ∧ z.length ≤ sizeLine ∧ Q (.int z.length) H) := by
  intro pins s σ H xs us Q I r h
  obtain ⟨z, rfl, hz, q⟩ := h
  obtain ⟨u, rfl, t, rfl⟩ := vals1 r
  have hn := line63
  exact len_str (by omega) ⟨.int z.length, H, I.tok _, ⟨_, rfl⟩, q⟩
theorem call_list_of : CallR X (.type "list") (fun xs H Q => ∃ p ys, xs = [.ref p] ∧ (SqL X.K H p ys ∨ SqT X.K H p ys) ∧ ∀ l, H l = none → Q (.ref l) (upd H l (.lst ys))) := by
  intro pins s σ H xs us Q I r h
  obtain ⟨p, ys, rfl, hq, q⟩ := h
  obtain ⟨u, rfl, rx⟩ := vals1 r
  cases rx
  have fin : ∀ (its : List Value), Vals ys its → ys.length ≤ sizeLine → ∀ (h' : Heap) (c' : Nat), (∀ b o', s.heap.get? b = some o' → h'.get? b = some o') →
      h'.get? s.heap.objs.size = some { cls := .type "list", dict := none, data := .seq its.toArray c', slots := #[] } → EP X pins σ Q (.ref s.heap.objs.size) { s with heap := h' } := fun its r' hz h' c' kp e =>
    ⟨.ref s.heap.objs.size, _, I.laid (t' := s.toks) kp (Nat.le_refl _) (show ObjOk X.prog X.w _ h' _ (.lst ys) from ⟨hz, its, c', r', e⟩), rfl, q _ (I.hok.fresh (Nat.le_refl _))⟩
  rcases hq with hq | hq
  · obtain ⟨its, r', pl, hz⟩ := I.list hq
    have hlen := r'.length
    obtain ⟨o, ho, hc, n, hd⟩ := pl.isList
    exact call_list_seq p (.inl rfl) ho hc hd (fun h' c' kp e => fin its r' hz h' c' kp e) (by simp only [List.size_toArray] <;> omega)
  · obtain ⟨its, r', pl, hz⟩ := I.tuple hq
    have hlen := r'.length
    obtain ⟨o, ho, hc, n, hd⟩ := pl
    exact call_list_seq p (.inr rfl) ho hc hd (fun h' c' kp e => fin its r' hz h' c' kp e) (by simp only [List.size_toArray] <;> omega)
theorem call_tuple_of : CallR X (.type "tuple") (fun xs H Q => ∃ p ys, xs = [.ref p] ∧ ((SqL X.K H p ys ∧ ∀ l, H l = none → Q (.ref l) (upd H l (.tup ys))) ∨ (SqT X.K H p ys ∧ Q (.ref p) H))) := by
  intro pins s σ H xs us Q I r h
  obtain ⟨p, ys, rfl, h⟩ := h
  obtain ⟨u, rfl, rx⟩ := vals1 r
  cases rx
  rcases h with ⟨hq, q⟩ | ⟨hq, q⟩
  · obtain ⟨its, r', pl, hz⟩ := I.list hq
    have hlen := r'.length
    refine call_tuple_list pl.isList (fun h' kp => ?_) (by simp only [List.size_toArray] <;> omega)
    have I1 : Inv X pins σ H { s with heap := h' } := I.kept (t' := s.toks) kp
    have I2 : Inv X pins σ (upd H h'.objs.size (.tup ys)) { s with heap := h'.push { cls := .type "tuple", data := .seq its.toArray } } :=
      I1.laid (t' := s.toks) (fun b o e => Heap.get?_push_of_some _ e) (Nat.le_refl _) (show ObjOk X.prog X.w _ _ _ (.tup ys) from ⟨hz, its, r', IsTp.new _ _⟩)
    exact ⟨.ref h'.objs.size, _, I2, rfl, q _ (I1.hok.fresh (Nat.le_refl _))⟩
  · obtain ⟨its, r', pl, hz⟩ := I.tuple hq
    exact call_tuple_same pl ⟨.ref p, H, I, rfl, q⟩
def tyV (K : PySem.W.Frag) (T : String) (x : V) (H : Hp) : Prop := match x with
  | .str _ => T = "str"
  | .int _ => T = "int"
  | .ref p => (T = "list" ∧ ∃ xs, SqL K H p xs) ∨ (T = "tuple" ∧ ∃ o, K.lookup p = some o ∧ o.cls = .type "tuple" ∧ o.dict = none) ∨
      (T = "dict" ∧ ((∃ kvs, H p = some (.dK kvs)) ∨ ∃ kvs, H p = some (.dT kvs))) ∨ (T = "set" ∧ ∃ S n, H p = some (.set S n))
  | _ => False
theorem tyV_is {pins : List (Addr × Obj)} {σ : St} {H : Hp} {s : Shared} {T : String} {x : V} {v : Value} (I : Inv X pins σ H s) (r : RelV x v) (ty : tyV X.K T x H) :
    s.TypeIs v T ∧ ∀ a, v = .ref a → ∃ ob, s.heap.get? a = some ob ∧ ob.dict = none := by
  cases x with
  | str z =>
    obtain ⟨t, rfl⟩ := r
    cases (show T = "str" from ty)
    exact ⟨typeIs_str s z t, fun _ e => nomatch e⟩
  | int i =>
    obtain ⟨t, rfl⟩ := r
    cases (show T = "int" from ty)
    exact ⟨typeIs_int s i t, fun _ e => nomatch e⟩
  | ref p =>
    cases r
    rcases ty with ⟨rfl, xs, hq⟩ | ⟨rfl, o, hk, hc, hd⟩ | ⟨rfl, hk⟩ | ⟨rfl, S, n, hk⟩
    · obtain ⟨its, _, pl, _⟩ := I.list hq
      refine ⟨pl.isList.typeIs, fun a e => ?_⟩
      cases e
      obtain ⟨o, n, e, c, hd, _⟩ := pl
      exact ⟨o, e, hd⟩
    · refine ⟨⟨o, I.kIn p o hk, hc⟩, fun a e => ?_⟩
      cases e
      exact ⟨o, I.kIn _ o hk, hd⟩
    · have z : ∃ o, s.heap.get? p = some o ∧ o.ExactDict := by
        rcases hk with ⟨kvs, hk⟩ | ⟨kvs, hk⟩
        · obtain ⟨_, _, _, _, o, _, _, e, ex, _⟩ := I.hok p _ hk
          exact ⟨o, e, ex⟩
        · obtain ⟨_, _, _, _, o, _, _, e, ex, _⟩ := I.hok p _ hk
          exact ⟨o, e, ex⟩
      obtain ⟨o, e, ex⟩ := z
      refine ⟨⟨o, e, ex.1⟩, fun a e2 => ?_⟩
      cases e2
      exact ⟨o, e, ex.2.1⟩
    · obtain ⟨o, _, _, _, e, ex, _⟩ := I.hok p _ hk
      refine ⟨⟨o, e, ex.1⟩, fun a e2 => ?_⟩
      cases e2
      exact ⟨o, e, ex.2.1⟩
  | _ => exact False.elim ty
def tBM0 (K : PySem.W.Frag) (T : String) (r : V → List V → Hp → VK → Prop) (to : TE) : TE := fun σ H Q => to σ H fun x H1 => tyV K T x H1 ∧ r x [] H1 Q
def tBM (K : PySem.W.Frag) (T : String) (r : V → List V → Hp → VK → Prop) (to : TE) (t : TA) : TE := fun σ H Q => to σ H fun x H1 => tyV K T x H1 ∧ t σ H1 fun xs H2 => r x xs H2 Q
variable {o e : Expr} {es : List Expr} {to : TE} {t : TA} {name : Str} {apos cpos : Pos} {T id : String} {r : V → List V → Hp → VK → Prop}
theorem pe_bm0 (pa : PlainAttrs T) (slot : Slot T name id) (hty : typeOf (.builtin id) = pure (.type "method_descriptor")) (hm : MtR X id r) (ho : PE X o to)
    (hbase : attributeBase o name X.env (eval o X.env) = eval o X.env := by rfl) (hline : (apos.endLine == cpos.line) = true := by rfl) : PE X (.Call (.Attribute o name apos) [] [] cpos) (tBM0 X.K T r to) := by
  intro pins s σ H Q I h
  refine wpAny_Call_method0_late hbase hline (thn (ho pins s σ H _ I h) fun v s1 ⟨x, H1, I1, r1, ty, q1⟩ => ?_)
  obtain ⟨h1, h2⟩ := tyV_is I1 r1 ty
  exact ⟨T, id, pa, slot, hty, h1, h2, Calls.callWith_builtin rfl (PySem.evalArgs_none (hm pins s1 σ H1 x [] v [] Q I1 r1 .nil q1))⟩
theorem pe_bm (pa : PlainAttrs T) (slot : Slot T name id) (hty : typeOf (.builtin id) = pure (.type "method_descriptor")) (hm : MtR X id r) (ho : PE X o to) (ha : PA X (e :: es) t)
    (hbase : attributeBase o name X.env (eval o X.env) = eval o X.env := by rfl)
    (hfew : ((backTo cpos (starEach (e :: es) X.env)).all (fun x => !x.1) && (backToKw cpos (keywordEach [] X.env)).all (fun x => x.1.isSome)
      && decide ((e :: es).length + ([] : List Keyword).length + (if ([] : List Keyword).isEmpty then 0 else 1) < 30)) = true := by rfl)
    (hline : (apos.endLine == cpos.line) = true := by rfl) (hs : starEach (e :: es) X.env = (false, eval e X.env) :: starEach es X.env := by rfl) (hplain : (backTo cpos (starEach es X.env)).any (·.1) = false := by rfl) :
    PE X (.Call (.Attribute o name apos) (e :: es) [] cpos) (tBM X.K T r to t) := by
  intro pins s σ H Q I h
  refine wpAny_Call_method_late hbase hfew hline rfl (thn (ho pins s σ H _ I h) fun v s1 ⟨x, H1, I1, r1, ty, q1⟩ => ?_)
  obtain ⟨h1, h2⟩ := tyV_is I1 r1 ty
  refine ⟨T, id, pa, slot, hty, h1, h2, ?_⟩
  have hA := ha cpos pins s1 σ H1 _ I1 q1
  rw [hs] at hA ⊢
  refine Calls.callWith_builtin (by show (false || (backTo cpos (starEach es X.env)).any (·.1)) = false; rw [hplain] <;> rfl) (Calls.evalArgs_plain ?_)
  exact thn hA fun us s2 ⟨vs, H2, I2, r2, q2⟩ => hm pins s2 σ H2 x vs v us Q I2 r1 r2 q2
end
end L2
namespace L2
open PySem PySem.Spec PyProof.Rows
def MtM (X : Cx) (id : String) (r : V → List V → Hp → VK → Prop) : Prop :=
  ∀ (pins : List (Addr × Obj)) (s : Shared) (σ : St) (H : Hp) (x : V) (xs : List V) (v : Value) (us : List Value) (Q : VK), Inv X pins σ H s → RelV x v → Vals xs us → r x xs H Q →
    wpAny (model X.prog X.w) X.A (call (.builtin id) (v :: us)) (EP X pins σ Q) X.xe s
theorem Vals.one : ∀ {x : V} {us : List Value}, Vals [x] us → ∃ u, us = [u] ∧ RelV x u
  | _, _, .cons r .nil => ⟨_, rfl, r⟩
theorem Vals.two : ∀ {x y : V} {us : List Value}, Vals [x, y] us → ∃ u v, us = [u, v] ∧ RelV x u ∧ RelV y v
  | _, _, _, .cons r (.cons q .nil) => ⟨_, _, rfl, r, q⟩
theorem Vals.zero : ∀ {us : List Value}, Vals [] us → us = []
  | _, .nil => rfl
theorem Vals.dropLast {xs : List V} {us : List Value} (h : Vals xs us) : Vals xs.dropLast us.dropLast := by
  induction h with
  | nil => exact .nil
  | cons r t ih =>
    cases t with
    | nil => exact .nil
    | cons q t' => exact .cons r ih
theorem Vals.rep {xs : List V} {us : List Value} (h : Vals xs us) : ∀ k : Nat, Vals (List.replicate k xs).flatten (List.replicate k us).flatten
  | 0 => .nil
  | k + 1 => by
    rw [List.replicate_succ, List.replicate_succ, List.flatten_cons, List.flatten_cons]
    exact Vals.append h (Vals.rep h k)
theorem erase_last {α : Type} (l : List α) : l.eraseIdx (l.length - 1) = l.dropLast := by
  induction l with
  | nil => rfl
  | cons a r ih =>
    cases r with
    | nil => rfl
    | cons b r =>
      have e : (a :: b :: r).length - 1 = ((b :: r).length - 1) + 1 := by
        have h1 : (a :: b :: r).length = r.length + 2 := rfl
        have h2 : (b :: r).length = r.length + 1 := rfl
        omega
      rw [e, List.eraseIdx_cons_succ, ih]
      all_goals rfl
theorem foldl_rep (its : List Value) : ∀ (k : Nat) (acc : List Value),
    List.foldl (fun x1 x2 => x1 ++ x2) acc.toArray (List.replicate k its.toArray) = (acc ++ (List.replicate k its).flatten).toArray
  | 0, acc => by simp
  | k + 1, acc => by
    have e : acc.toArray ++ its.toArray = (acc ++ its).toArray := by simp
    have e2 : (acc ++ its) ++ (List.replicate k its).flatten = acc ++ (List.replicate (k + 1) its).flatten := by
      rw [List.replicate_succ, List.flatten_cons, List.append_assoc]
    rw [← e2, ← foldl_rep its k (acc ++ its), ← e, List.replicate_succ, List.foldl_cons]
section
variable {X : Cx} {pins : List (Addr × Obj)} {σ : St} {H : Hp} {s : Shared} {l b : Addr} {xs ys zs : List V}
theorem Inv.lset {its its' : List Value} {n : Nat} {f : Array Value → Array Value} {t' : Nat} (I : Inv X pins σ H s) (hH : H l = some (.lst xs))
    (e : s.heap.get? l = some { cls := .type "list", data := .seq its.toArray n }) (hf : f its.toArray = its'.toArray) (hv : Vals ys its') (hz : ys.length ≤ sizeLine) :
    Inv X pins σ (upd H l (.lst ys)) { s with heap := s.heap.update l (Obj.mapSeq f), toks := t' } := by
  have q := PySem.IsL.update e f
  rw [hf] at q
  refine I.write (x := l) (e := l) (by rw [hH]; exact trivial) (.inl rfl) (fun b' u hb hu => (Heap.get?_update_other s.heap (Obj.mapSeq f) (Ne.symm hb)).trans hu) ⟨_, q⟩ ?_
  exact ⟨hz, its', _, hv, q⟩
theorem Inv.lnew {its : List Value} {t' : Nat} (I : Inv X pins σ H s) (hv : Vals ys its) (hz : ys.length ≤ sizeLine) :
    Inv X pins σ (upd H s.heap.objs.size (.lst ys)) { s with heap := s.heap.push { cls := .type "list", data := .seq its.toArray }, toks := t' } :=
  I.laid (fun _ _ q => Heap.get?_push_of_some _ q) (Nat.le_refl _) ⟨hz, its, 0, hv, Heap.get?_push_size _ rfl⟩
theorem Inv.fresh (I : Inv X pins σ H s) : H s.heap.objs.size = none := I.hok.fresh (Nat.le_refl _)
theorem Inv.lstM (I : Inv X pins σ H s) (hH : H l = some (.lst xs)) : xs.length ≤ sizeLine ∧ ∃ (its : List Value) (n : Nat), Vals xs its ∧ xs.length = its.length ∧ s.heap.get? l = some { cls := .type "list", data := .seq its.toArray n } := by
  obtain ⟨z, its, n, r, e⟩ := I.hok l _ hH
  exact ⟨z, its, n, r, r.length, e⟩
theorem notLongL {n : Nat} (h : n ≤ sizeLine) : Builtin.List.listTooLong n = false := by
  unfold Builtin.List.listTooLong
  exact decide_eq_false (by omega)
end
section
variable {X : Cx}
def rAppend : V → List V → Hp → VK → Prop := fun x vs H Q => ∃ l xs y, x = .ref l ∧ vs = [y] ∧ H l = some (.lst xs) ∧ xs.length < sizeLine ∧ Q .non (upd H l (.lst (xs ++ [y])))
theorem mt_append : MtM X "list.append" rAppend := by
  intro pins s σ H x vs v us Q I rx rv h
  obtain ⟨l, xs, y, rfl, rfl, hH, hz, q⟩ := h
  cases rx
  obtain ⟨u, rfl, ru⟩ := rv.one
  obtain ⟨z, its, n, r, hl, e⟩ := I.lstM hH
  refine call_meets F.slot_list_append ⟨_, e, rfl⟩ F.entry_list_append (F.args_list_append_2 _ _) (PySem.list_append l its.toArray n u (by rw [List.size_toArray]; omega)) ⟨e, ?_⟩
  refine ⟨.non, _, I.lset (its' := its ++ [u]) hH e (by simp) (r.append (.cons ru .nil)) ?_, rfl, q⟩
  rw [List.length_append, List.length_singleton]
  omega
def rExtend : V → List V → Hp → VK → Prop := fun x vs H Q => ∃ l b xs zs, x = .ref l ∧ vs = [.ref b] ∧ H l = some (.lst xs) ∧ H b = some (.lst zs) ∧ xs.length + zs.length ≤ sizeLine ∧ Q .non (upd H l (.lst (xs ++ zs)))
theorem mt_extend : MtM X "list.extend" rExtend := by
  intro pins s σ H x vs v us Q I rx rv h
  obtain ⟨l, b, xs, zs, rfl, rfl, hH, hB, hz, q⟩ := h
  cases rx
  obtain ⟨u, rfl, ru⟩ := rv.one
  cases ru
  obtain ⟨z, its, n, r, hl, e⟩ := I.lstM hH
  obtain ⟨z2, its2, n2, r2, hl2, e2⟩ := I.lstM hB
  have hsz : its.toArray.size + its2.toArray.size ≤ sizeLine := by rw [List.size_toArray, List.size_toArray]; omega
  have hlong : ¬ (!its.toArray.isEmpty && Builtin.List.listTooLong (its.toArray.size + its2.toArray.size)) = true := by
    rw [notLongL hsz, Bool.and_false]
    exact Bool.false_ne_true
  refine call_meets F.slot_list_extend ⟨_, e, rfl⟩ F.entry_list_extend (F.args_list_extend_2 _ _)
    (AutoSeq1.list_extend_list_list_0 l its.toArray n b its2.toArray n2 hlong (by rw [List.size_toArray]; omega) (by omega)) ⟨e, e2, ?_⟩
  refine ⟨.non, _, I.lset (its' := its ++ its2) hH e (by simp) (r.append r2) ?_, rfl, q⟩
  rw [List.length_append]
  omega
def rPop : V → List V → Hp → VK → Prop := fun x vs H Q => ∃ l xs y, x = .ref l ∧ vs = [] ∧ H l = some (.lst xs) ∧ xs[xs.length - 1]? = some y ∧ Q y (upd H l (.lst xs.dropLast))
theorem mt_pop : MtM X "list.pop" rPop := by
  intro pins s σ H x vs v us Q I rx rv h
  obtain ⟨l, xs, y, rfl, rfl, hH, hy, q⟩ := h
  cases rx
  have hus := rv.zero
  subst hus
  obtain ⟨z, its, n, r, hl, e⟩ := I.lstM hH
  obtain ⟨u, hu, ru⟩ := r.get hy
  have hy' : its.toArray[its.toArray.size - 1]? = some u := by
    show its.toArray[its.length - 1]? = some u
    rw [← Array.getElem?_toList, ← hl]
    exact hu
  refine call_meets F.slot_list_pop ⟨_, e, rfl⟩ F.entry_list_pop (F.args_list_pop_1 _) (MeetsSeq.list_pop_last l its.toArray n u hy' (by rw [List.size_toArray]; omega)) ⟨e, ?_⟩
  refine ⟨y, _, I.lset (its' := its.dropLast) hH e ?_ r.dropLast ?_, ru, q⟩
  · show its.toArray.eraseIdxIfInBounds (its.toArray.size - 1) = its.dropLast.toArray
    rw [List.size_toArray, List.eraseIdxIfInBounds_toArray, erase_last]
  · rw [List.length_dropLast]
    omega
def rCat : R2 := fun x y H Q => ∃ l b xs zs, x = .ref l ∧ y = .ref b ∧ H l = some (.lst xs) ∧ H b = some (.lst zs) ∧ xs.length + zs.length ≤ sizeLine ∧ ∀ p, H p = none → Q (.ref p) (upd H p (.lst (xs ++ zs)))
theorem op_cat : OpR X (binaryOp .Add) rCat := by
  intro pins s σ H x y v u Q I rx ry h
  obtain ⟨l, b, xs, zs, rfl, rfl, hH, hB, hz, q⟩ := h
  cases rx
  cases ry
  obtain ⟨z, its, n, r, hl, e⟩ := I.lstM hH
  obtain ⟨z2, its2, n2, r2, hl2, e2⟩ := I.lstM hB
  refine PySem.P.add_list e e2 ?_ (by rw [List.size_toArray, List.size_toArray]; omega)
  have ea : its.toArray ++ its2.toArray = (its ++ its2).toArray := by simp
  rw [ea]
  exact ⟨.ref _, _, I.lnew (t' := s.toks) (r.append r2) (by rw [List.length_append]; omega), rfl, q _ I.fresh⟩
def rRep : R2 := fun x y H Q => ∃ l k xs, x = .ref l ∧ y = .int k ∧ H l = some (.lst xs) ∧ -(2 ^ 63) ≤ k ∧ k < 2 ^ 63 ∧ xs.length * k.toNat ≤ sizeLine ∧
  ∀ p, H p = none → Q (.ref p) (upd H p (.lst (List.replicate k.toNat xs).flatten))
theorem len_rep {α : Type} (xs : List α) (k : Nat) : (List.replicate k xs).flatten.length = k * xs.length := by
  induction k with
  | zero => simp
  | succ k ih => rw [List.replicate_succ, List.flatten_cons, List.length_append, ih, Nat.succ_mul, Nat.add_comm]
end
section
variable {prog : Program} {w : World} {A : Around} {E : Value → Shared → Prop} {s : Shared}
end
section
variable {X : Cx}
end
end L2
namespace Att
open PySem PySem.W PySem.Calls PyProof.Rows
theorem ints_of_wellAll {P : Params} {h : Heap} : ∀ (ns : List Int) (vs : List Value), WellAll P h vs (ns.map WData.int) → IntsAre vs ns := by
  intro ns
  induction ns with
  | nil =>
    intro vs w
    rw [List.map_nil] at w
    cases w
    exact .nil
  | cons n ns ih =>
    intro vs w
    rw [List.map_cons] at w
    cases w with
    | cons a b =>
      cases a
      exact .cons _ _ (ih _ b)
theorem script_of {l : OpenLaw} {n : Nat} (hn : l.most = some n) {P : Params} {h : Heap} {args : List WData} {vals : List Value}
    (hpre : l.row.toRowW.claim.pre args = true) (hwl : WellAll P h vals args) :
    ∃ a vs ns, vals = [Value.ref a] ∧ args = [WData.list (ns.map WData.int)] ∧ h.get? a = some { cls := .type "list", data := .seq vs.toArray } ∧ IntsAre vs ns ∧ ns.length ≤ n := by
  have hsh : WShape.hasAll [] args [.list .int] = true := (pre_splitW hpre).1
  have hc : l.pre.holds [] { args := args } = true := (pre_splitW hpre).2
  obtain ⟨d, r, rfl, h1, h2⟩ := hasAllW_cons hsh
  obtain rfl := hasAllW_nil h2
  obtain ⟨xs, rfl, h3⟩ := hasW_list h1
  obtain ⟨ns, rfl⟩ := items_int h3
  have hlen : ns.length ≤ n := by
    unfold OpenLaw.pre at hc
    have h4 : (WTm.not (.lt (.lit (.int (n : Int))) (.len (.arg 0)))).holds [] { args := [.list (ns.map .int)] } = true := by
      have h4 := (holds_andW hc).1
      rw [hn] at h4
      exact h4
    have h5 := condW_of h4 (w_not (w_lt w_lit (w_len_list (w_arg rfl))))
    rw [List.length_map] at h5
    refine Nat.le_of_not_lt fun q => ?_
    have q' : (n : Int) < ((ns.length : Nat) : Int) := by omega
    first
      | (rw [decide_eq_true q'] at h5; exact absurd h5 (by decide))
      | (simp at h5; omega)
  cases hwl with
  | cons w1 w2 =>
    cases w2
    cases w1 with
    | list ho hall => exact ⟨_, _, ns, rfl, rfl, ho, ints_of_wellAll ns _ hall, hlen⟩
theorem post_true (l : OpenLaw) (args : List WData) : l.row.toRowW.claim.post args (.bool true) args = true :=
  postW_of (r := l.row.toRowW) (X := (true == true))
    (show WShape.has [] (.bool true) .bool = true by first | rfl | decide | simp [WShape.has, WShape.arms, WShape.armsAll])
    (show (WTm.eq .res (.lit (.bool true))).value [] { args := args, res := some (.bool true), after := args } = some (.bool (true == true)) from w_eq_bool (w_res rfl) w_lit) rfl
theorem attach_call {l : OpenLaw} {n : Nat} {q : Program} {loose : List Str} {XP : (Str → Option Value) → Heap → Prop} {YP : World → Heap → Prop} {d : DefRec}
    (hn : l.most = some n) (hdf : d.params.defaults = [])
    (call : ∀ (w : World) (s₀ s₁ : Shared) (mg mb : Str → Option Value) (fa : Addr) (o : Obj) (pm cd doc : Value) (a : Addr) (vs : List Value) (ns : List Int),
      Ground q loose [] XP w s₀ mg mb s₁.heap → YP w s₁.heap →
      s₁.heap.get? fa = some o → o.data = .func (docDef d.name d.params d.body d.scope pm cd doc) → s₁.heap.CodeRec cd d.name → mg d.name = some (.ref fa) →
      s₁.heap.get? a = some { cls := .type "list", data := .seq vs.toArray } → IntsAre vs ns → ns.length ≤ n → s₁.gens = #[] →
      codeAny (model l.prog w) callerA (.call (.ref fa) ⟨[.ref a], []⟩) (fun r s' => r = .ok (.ret (.bool true)) ∧ OldK s₁.heap s'.heap ∧ s'.os = s₁.os ∧ AllBare s'.gens) s₁) :
    WalkO q loose XP YP l.row.toRowW d [] (fun f vs => PySem.call f vs) := by
  intro w s₀ s₁ mg mb G Y fa o pm cd doc dV kV ho hd hcd hD hmg hg args vals as hpre hlay hrd hwl hlo
  obtain rfl : dV = .none := Dflts.none hD hdf
  obtain rfl : kV = .none := Dflts.noKw hD
  obtain ⟨a, vs, ns, rfl, rfl, hobj, hints, hlen⟩ := script_of hn hpre hwl
  refine enter_call (codeAny_mono (call w s₀ s₁ mg mb fa o pm cd doc a vs ns G Y ho (fd_plain hd) hcd hmg hobj hints hlen hg) fun r s' hq => ?_)
  obtain ⟨rfl, h2, h3, h4⟩ := hq
  exact ⟨.inl ⟨.bool true, .bool true, [], rfl, fun _ => rfl, .bool true, post_true l _, fun _ => ⟨List.Pairwise.nil, fun _ hm => (nomatch hm)⟩⟩, h2, h3, h4⟩
section
variable {prog : Program} {w : World} {A : Around} {E : Value → Shared → Prop} {s : Shared} {K : Frag}
def ledger (h : Heap) (L d : Addr) : List (Addr × Obj) := (List.range h.objs.size).filterMap fun a => if a = L ∨ a = d then none else (h.get? a).map fun o => (a, o)
end
end Att
namespace L2
open PySem PySem.Spec PyProof.Rows
theorem vals_ints : ∀ {vs : List Value} {ns : List Int}, IntsAre vs ns → Vals (ns.map V.int) vs
  | _, _, .nil => .nil
  | _, _, .cons n t h => .cons ⟨t, rfl⟩ (vals_ints h)
def Only (H : Hp) : Prop := ∀ b, H b = none ∨ ∃ o xs, H b = some (.frz o (.lst xs))
theorem law_call {P : Program} {w : World} {K : PySem.W.Frag} {mg mb : Str → Option Value} {CX : CXT} {k : Nat} {fa a : Addr} {fd : FuncData} {x : Str} {sp : Sp} {s₁ : Shared} {vs : List Value} {ns : List Int}
    (KX : K.In s₁.heap) (hns : s₁.heap.Ns mainGlobals mg) (hb : s₁.heap.Ns builtinsNs mb) (hbb : ∀ x : Str, x ≠ "__name__" → mb x = bootBuiltins x) (hlim : s₁.heap.NoLimit) (hg : s₁.gens = #[])
    (ha : s₁.heap.get? a = some { cls := .type "list", data := .seq vs.toArray }) (hi : IntsAre vs ns) (hl : ns.length ≤ sizeLine) (hr : Room k callerA)
    (F : ∀ base : Heap, K.In base → base.Ns mainGlobals mg → FnOk P w K mg base CX k fa fd [x] sp) (hbind : ∀ (s : Shared) (u : Value), BindsTo s fd ⟨[u], []⟩ [(x, u)])
    (hsp : ∀ H : Hp, Only H → SqL K H a (ns.map V.int) → sp [.ref a] H (fun v _ => v = .bl true) fun _ _ _ => False)
    (hCX : ∀ H e s', CX [] H s₁ (fun _ _ _ => False) e s' → False) :
    codeAny (model P w) callerA (.call (.ref fa) ⟨[.ref a], []⟩) (fun r s' => r = .ok (.ret (.bool true)) ∧ OldK s₁.heap s'.heap ∧ s'.os = s₁.os ∧ AllBare s'.gens) s₁ := by
  have rv := vals_ints hi
  have lenV := hi.length
  have core : ∀ H : Hp, Only H → SqL K H a (ns.map V.int) → HOk P w H s₁.heap → (∀ b, H b ≠ none → b = a) → (H a ≠ none → K.lookup a = none) →
      codeAny (model P w) callerA (.call (.ref fa) ⟨[.ref a], []⟩) (fun r s' => r = .ok (.ret (.bool true)) ∧ OldK s₁.heap s'.heap ∧ s'.os = s₁.os ∧ AllBare s'.gens) s₁ := by
    intro H hO hS hok hA hK
    have base_of : ∀ {b : Addr} {o : Obj}, s₁.heap.get? b = some o → H b = none → (hidT s₁.heap H).get? b = some o := fun e n => hidT_get e n
    have noA : ∀ {b : Addr} {o : Obj} {es : Array DictEntry} {ep : Nat}, s₁.heap.get? b = some o → o.data = .dict es ep → H b = none := fun {b o es ep} e d => by
      cases q : H b with
      | none => rfl
      | some u =>
        have e' : b = a := hA b (by rw [q]; simp)
        subst e'
        rw [ha] at e; cases e
        have d' : Data.seq vs.toArray _ = Data.dict es ep := d
        cases d'
    have nsK : ∀ {b : Addr} {m : Str → Option Value}, s₁.heap.Ns b m → (hidT s₁.heap H).Ns b m := fun {b m} ⟨o, es, ep, e, d, r⟩ => ⟨o, es, ep, base_of e (noA e d), d, r⟩
    have hKb : K.In (hidT s₁.heap H) := fun b o e => base_of (KX b o e) (by
      cases q : H b with
      | none => rfl
      | some u =>
        have e' : b = a := hA b (by rw [q]; simp)
        subst e'
        rw [hK (by rw [q]; simp)] at e; cases e)
    have hM : Mod K mg (hidT s₁.heap H) := ⟨hKb, nsK hns, ⟨mb, nsK hb, hbb⟩, let ⟨mc, h1, h2⟩ := hlim; ⟨mc, nsK h1, h2⟩⟩
    have e0 : Env0 P w K mg (hidT s₁.heap H) callerA [] s₁ H := ⟨rfl, hM, fun b o e => of_hidT e, Nat.le_of_eq (hidT_size _ _), trivial, fun b hb => absurd (show b ∈ ([] : List Addr) from hb) (by simp), hok, .of_eq hg⟩
    refine codeAny_mono ((F _ hKb (nsK hns)).run callerA [] s₁ H ⟨[.ref a], []⟩ [.ref a] [.ref a] _ _ hr e0 (hbind s₁ (.ref a)) (.cons rfl .nil) (hsp H hO hS)) fun r s' h => ?_
    cases r with
    | error e => exact (hCX H e s' h).elim
    | ok fl =>
      cases fl with
      | next => exact False.elim h
      | brk => exact False.elim h
      | cont => exact False.elim h
      | ret u =>
        obtain ⟨v, H', os, bare, un, hok', r', q⟩ := h
        have q' : v = .bl true := q
        subst q'
        obtain rfl : u = Value.bool true := r'
        refine ⟨rfl, OldK.of_keep fun b o e => ?_, os, bare⟩
        cases q : H b with
        | none => exact un.keep b o e q (by intro z; exact absurd (show b ∈ ([] : List Addr) from z) (by simp)) (by simp)
        | some u =>
          rcases hO b with z | ⟨ob, xs, z⟩
          · rw [q] at z; cases z
          · have z2 := un.frzs b ob _ z
            obtain ⟨e1, _⟩ := hok b _ z
            obtain ⟨e2, _⟩ := hok' b _ z2
            rw [e] at e1; cases e1
            exact e2
  cases hk : K.lookup a with
  | some o =>
    have e := KX a o hk
    rw [ha] at e
    cases e
    refine core (fun _ => none) (fun _ => .inl rfl) (.inr ⟨_, vs.toArray, _, hk, rfl, rfl, rfl, by rw [List.size_toArray, lenV]; exact hl, by simpa using rv⟩) (fun b u z => by have z' : (none : Option HO) = some u := z; cases z') (fun b z => absurd rfl z) fun z => absurd rfl z
  | none =>
    refine core (fun b => if b = a then some (.frz { cls := .type "list", data := .seq vs.toArray } (.lst (ns.map V.int))) else none) (fun b => ?_) (.inl (.inr ⟨{ cls := .type "list", data := .seq vs.toArray }, if_pos rfl⟩)) (fun b u z => ?_) (fun b z => ?_) fun _ => hk
    · by_cases hb : b = a
      · exact .inr ⟨_, _, if_pos hb⟩
      · exact .inl (if_neg hb)
    · by_cases hb : b = a
      · have z' := (if_pos hb).symm.trans z
        cases z'
        subst hb
        exact ⟨ha, by rw [List.length_map]; exact hl, vs, _, rv, ha⟩
      · have z' := (if_neg hb).symm.trans z
        cases z'
    · by_cases hb : b = a
      · exact hb
      · exact absurd (if_neg hb) z
end L2
namespace L2
open PySem PySem.Spec PyProof.Rows
abbrev KOf {K : PySem.W.Frag} {h : Heap} (_ : K.In h) : PySem.W.Frag := K
theorem walk_of {l : PySem.W.OpenLaw} {n k : Nat} {q : Program} {loose : List Str} {XP : (Str → Option Value) → Heap → Prop} {YP : World → Heap → Prop} {d : DefRec} {K : Params → PySem.W.Frag} {CX : World → CXT} {sp : World → Sp} {x : Str}
    (hn : l.most = some n) (hn2 : n ≤ sizeLine) (hdf : d.params.defaults = []) (hr : Room k callerA)
    (hY : ∀ (w : World) (h : Heap), YP w h → (K w.params).In h)
    (F : ∀ (w : World) (mg : Str → Option Value) (fa : Addr) (h : Heap), (K w.params).In h → h.Ns mainGlobals mg → mg d.name = some (.ref fa) →
      ∃ fd : FuncData, (∀ (s : Shared) (u : Value), BindsTo s fd ⟨[u], []⟩ [(x, u)]) ∧
        ∀ base : Heap, (K w.params).In base → base.Ns mainGlobals mg → FnOk l.prog w (K w.params) mg base (CX w) k fa fd [x] (sp w))
    (hsp : ∀ (w : World) (H : Hp) (a : Addr) (ns : List Int), ns.length ≤ n → Only H → SqL (K w.params) H a (ns.map V.int) → sp w [.ref a] H (fun v _ => v = .bl true) fun _ _ _ => False)
    (hCX : ∀ (w : World) (H : Hp) (s : Shared) (e : Value) (s' : Shared), CX w [] H s (fun _ _ _ => False) e s' → False) :
    PySem.W.WalkO q loose XP YP l.row.toRowW d [] (fun f vs => PySem.call f vs) := by
  refine Att.attach_call hn hdf fun w s₀ s₁ mg mb fa o pm cd doc a vs ns G Y ho hd hcd hmg hobj hints hlen hg => ?_
  have KX := hY w _ Y
  obtain ⟨fd, hb, hF⟩ := F w mg fa _ KX G.T.g hmg
  exact law_call KX G.T.g G.T.b G.T.builtins G.T.nolimit hg hobj hints (Nat.le_trans hlen hn2) hr hF hb (fun H hO hS => hsp w H a ns hlen hO hS) fun H e s' => hCX w H s₁ e s'
end L2
namespace L2
open PySem PySem.Spec PyProof.Rows
def inClass (s : Stmt) (j : Nat) : Stmt := match s with
  | .ClassDef _ _ _ body _ _ _ _ _ _ _ => body.getD j (.Pass ⟨0, 0, 0, 0⟩)
  | _ => .Pass ⟨0, 0, 0, 0⟩
def defArgs (s : Stmt) : Arguments := match s with
  | .FunctionDef _ a _ _ _ _ _ _ _ _ => a
  | _ => { posonlyargs := [], args := [], vararg := none, kwonlyargs := [], kw_defaults := [], kwarg := none, defaults := [] }
def defBody (s : Stmt) : List Stmt := match s with
  | .FunctionDef _ _ b _ _ _ _ _ _ _ => b
  | _ => []
def defScope (s : Stmt) : Scope := match s with
  | .FunctionDef _ _ _ _ _ _ sc _ _ _ => sc
  | _ => { kind := .function, names := [], isGenerator := false, isCoroutine := false }
abbrev CX0 : CXT := fun _ _ _ _ _ _ => False
abbrev E0 : XK := fun _ _ _ => False
theorem pass0 {X : Cx} : Passes CX0 X E0 := fun _ _ _ _ _ _ _ h => h.elim
structure Fun (K : PySem.W.Frag) (x qual : Str) (st : Stmt) (f : Addr) (fd : FuncData) : Prop where
  ex : ∃ (oc : Value) (od : Option Addr) (kV doc pm : Value) (an : Option Addr) (cdv ct : Value) (osl : Array (Option Value)),
    fd = PySem.W.fnOf x qual (defArgs st) (defBody st) (defScope st) .none kV doc pm an cdv ct ∧ K.lookup f = some ⟨oc, od, .func fd, osl⟩ ∧ PySem.W.codeIn K cdv qual = true
  kp : PySem.W.keepIn K (.ref f) = true
section
variable {P : Program} {w : World} {K : PySem.W.Frag} {mg : Str → Option Value} {base : Heap}
theorem Fun.ok {x qual : Str} {st : Stmt} {f : Addr} {fd : FuncData} {N ps : List Str} {k : Nat} {sp : Sp} (F : Fun K x qual st f fd) (S : FnScope N ps (defScope st)) (len : ∀ vs H Q E, sp vs H Q E → vs.length = ps.length)
    (hbody : ∀ (cdv : Value) (A : Around) (outer : List Env) (s : Shared) (H : Hp) (vs : List V) (Q : VK) (E : XK), Room k (A.deeper (envOfC qual (defScope st) s.heap.objs.size f cdv)) → sp vs H Q E →
      ∃ t, PSs (cxOf CX0 P w K mg base N qual (defScope st) f cdv A outer s H E).nox (defBody st) t ∧ t { nx := fun _ H' => Q .non H', rt := Q } (start N vs) H) : FnOk P w K mg base CX0 (k + 1) f fd ps sp := by
  obtain ⟨oc, od, kV, doc, pm, an, cdv, ct, osl, rfl, lk, hcd⟩ := F.ex
  refine fn_of lk hcd S len fun A outer s H vs Q E hr hsp => ?_
  obtain ⟨t, h, q⟩ := hbody cdv A outer s H vs Q E hr hsp
  exact ⟨t, h.nox, q⟩
theorem Fun.binds {x qual : Str} {st : Stmt} {f : Addr} {fd : FuncData} {ps : List Str} (F : Fun K x qual st f fd)
    (h : ∀ (kV doc pm : Value) (an : Option Addr) (cdv ct : Value) (us : List Value), us.length = ps.length → bindArgs (PySem.W.fnOf x qual (defArgs st) (defBody st) (defScope st) .none kV doc pm an cdv ct) ⟨us, []⟩ = pure (ps.zip us)) : Binds K fd ps [] := by
  obtain ⟨oc, od, kV, doc, pm, an, cdv, ct, osl, rfl, lk, hcd⟩ := F.ex
  exact .all (h kV doc pm an cdv ct)
theorem fun_mk {x qual : Str} {st : Stmt} {f : Addr} {oc : Value} {od an : Option Addr} {osl : Array (Option Value)} {kV doc pm cdv ct : Value} (l : K.lookup f = some ⟨oc, od, .func (PySem.W.fnOf x qual (defArgs st) (defBody st) (defScope st) .none kV doc pm an cdv ct), osl⟩)
    (c : PySem.W.codeIn K cdv qual = true) (k : PySem.W.keepIn K (.ref f) = true) : Fun K x qual st f (PySem.W.fnOf x qual (defArgs st) (defBody st) (defScope st) .none kV doc pm an cdv ct) := ⟨⟨oc, od, kV, doc, pm, an, cdv, ct, osl, rfl, l, c⟩, k⟩
end
theorem small1000 {n : Nat} (h : n ≤ 1000) : n < sizeLine := Nat.lt_of_le_of_lt h (by decide)
section
variable {X : Cx}
theorem pv (i : Nat) {x : Str} {pos : Pos} (hN : X.N[i]? = some x := by rfl) (hv : Vis X.env.scope x := by first | exact Or.inl rfl | exact Or.inr (Or.inl rfl) | exact Or.inr (Or.inr rfl)) (hd : (x == ("__debug__" : Str)) = false := by decide)
    (hcd : (x == ("__classdict__" : Str)) = false := by decide) : PE X (.Name x pos) (tVar i) := pe_var hN hv hd hcd
end
theorem iteF {A B : Prop} (h : B) : if false = true then A else B := by
  rw [if_neg Bool.false_ne_true]
  exact h
theorem iteT {A B : Prop} (h : A) : if true = true then A else B := by
  rw [if_pos rfl]
  exact h
theorem ite2 {c A B : Prop} [Decidable c] (h1 : c → A) (h2 : ¬ c → B) : if c then A else B := by
  by_cases h : c
  · rw [if_pos h]
    exact h1 h
  · rw [if_neg h]
    exact h2 h
def Same (H H' : Hp) : Prop := ∀ b o, H b = some o → H' b = some o
theorem Same.refl (H : Hp) : Same H H := fun _ _ h => h
theorem Same.trans {H H1 H2 : Hp} (a : Same H H1) (b : Same H1 H2) : Same H H2 := fun c o h => b c o (a c o h)
theorem Same.seq {K : PySem.W.Frag} {H H' : Hp} {a : Addr} {xs : List V} (e : Same H H') (h : SqL K H a xs) : SqL K H' a xs := by
  rcases h with (h | ⟨o, h⟩) | h
  · exact .inl (.inl (e _ _ h))
  · exact .inl (.inr ⟨o, e _ _ h⟩)
  · exact .inr h
end L2
set_option Elab.async false
set_option linter.all false
set_option maxRecDepth 100000
namespace L2
open PySem PySem.Spec PyProof.Rows
section
variable {prog : Program} {w : World} {A : Around} {R : Result → Shared → Prop} {s : Shared}
abbrev testsOf (cs : List Expr) (en : Env) : Sem Bool :=
  forIn cs true fun c r => if r = true then do let ok ← isTrue c en (eval c en); pure (ForInStep.yield ok) else pure (ForInStep.yield r)
theorem comp_turns {elt tg iter : Expr} {cs : List Expr} {scope : Scope} {pos : Pos} {it acc : Value} {en : Env} {EE : Value → Shared → Prop} (hE : EE = notedBy (model prog w) A en fun e s' => R (.error e) s') (J : Nat → Shared → Prop)
    (turn : ∀ n s, J n s → wpAny (model prog w) A (pyNext it) (fun r s1 => match r with
      | none => R (.ok .next) s1
      | some v => wpAny (model prog w) A (letOwnedTupleGo tg it v) (fun _ sg => wpAny (model prog w) A (assign tg en v) (fun _ s2 => wpAny (model prog w) A (testsOf cs en) (fun ok s3 =>
          if ok = true then wpAny (model prog w) A (eval elt en) (fun y s4 => wpAny (model prog w) A (call (.builtin "list.append") [acc, y]) (fun _ s5 => ∃ m, m < n ∧ J m s5) EE s4) EE s3
          else ∃ m, m < n ∧ J m s3) EE s2) EE sg) EE s1) EE s)
    (n : Nat) (h : J n s) : codeAny (model prog w) A (.compLoop (.ListComp elt [⟨tg, iter, cs, 0⟩] scope pos) 0 it acc en) R s := by
  subst hE
  refine codeAny_loop rfl J (fun n s hJ => ?_) n h
  show wpAny _ A (Sem.onRaise (compTurn (.ListComp elt [⟨tg, iter, cs, 0⟩] scope pos) 0 it acc en) (fun x => do noteFrame x en; theTreesLotGoes x)) _ _ s
  refine wpAny_noted ?_
  rw [compTurn_list]
  refine wpAny_bind (wpAny_standAt (wpAny_bind (thn (turn n s hJ) fun r s1 q1 => ?_)))
  cases r with
  | none => exact wpAny_pure q1
  | some v =>
    refine wpAny_bind (thn q1 fun _ sg qg => wpAny_bind (thn qg fun _ s2 q2 => wpAny_bind (thn q2 fun ok s3 q3 => ?_)))
    cases ok with
    | false => exact wpAny_pure ⟨rfl, q3⟩
    | true => exact wpAny_bind (wpAny_bind (thn q3 fun y s4 q4 => wpAny_bind (thn q4 fun _ s5 q5 => wpAny_pure (wpAny_pure ⟨rfl, q5⟩))))
end
def PTs (X : Cx) (cs : List Expr) (t : TT) : Prop :=
  ∀ (pins : List (Addr × Obj)) (s : Shared) (σ : St) (H : Hp) (Q : Bool → Hp → Prop), Inv X pins σ H s → t σ H Q → wpAny (model X.prog X.w) X.A (testsOf cs X.env) (TP X pins σ Q) X.xe s
def tTrue : TT := fun _ H Q => Q true H
theorem pts_nil {X : Cx} : PTs X [] tTrue := fun _ _ _ H _ I h => wpAny_tests_nil ⟨H, I, h⟩
theorem pts_one {X : Cx} {c : Expr} {t : TT} (h : PT X c t) : PTs X [c] t := fun pins s σ H Q I q => wpAny_tests_one (h pins s σ H Q I q)
theorem closure_list {en : Env} : ∀ (names : List (Str × NameKind)) (acc : List (Str × Addr)), (∀ y, (y, NameKind.free) ∈ names → ∃ c, en.cells.lookup y = some c) →
    (∀ y c, acc.lookup y = some c → en.cells.lookup y = some c) →
    ∃ cl, (forIn (m := Sem) names acc fun p cs => if (p.2 == .free) = true then (do let a ← cellOf en p.1; pure (ForInStep.yield ((p.1, a) :: cs))) else pure (ForInStep.yield cs)) = pure cl ∧
      (∀ y c, cl.lookup y = some c → en.cells.lookup y = some c) ∧ (∀ y, ((y, NameKind.free) ∈ names ∨ ∃ c, acc.lookup y = some c) → ∃ c, cl.lookup y = some c)
  | [], acc, _, h2 => ⟨acc, rfl, h2, fun y h => h.elim (fun z => by simp at z) id⟩
  | (n, k) :: r, acc, h1, h2 => by
    by_cases hk : k = .free
    · subst hk
      obtain ⟨c, hc⟩ := h1 n (by simp)
      obtain ⟨cl, e, a, b⟩ := closure_list r ((n, c) :: acc) (fun y hy => h1 y (List.mem_cons_of_mem _ hy)) (fun y d hd => by
        rw [List.lookup_cons] at hd
        by_cases hy : y = n
        · subst hy; simp at hd; subst hd; exact hc
        · have : (y == n) = false := by simpa using hy
          rw [this] at hd; exact h2 y d hd)
      refine ⟨cl, ?_, a, fun y hy => b y ?_⟩
      · rw [List.forIn_cons]
        have e1 : cellOf en n = pure c := by unfold cellOf; rw [hc]
        simp only [beq_self_eq_true, if_true, e1, pure_bind]
        exact e
      · rcases hy with hy | ⟨d, hd⟩
        · rcases List.mem_cons.mp hy with z | z
          · cases z; exact .inr ⟨c, by simp⟩
          · exact .inl z
        · by_cases hy : y = n
          · subst hy; exact .inr ⟨c, by simp⟩
          · have : (y == n) = false := by simpa using hy
            exact .inr ⟨d, by rw [List.lookup_cons, this]; exact hd⟩
    · have hb : (k == NameKind.free) = false := by simpa using hk
      obtain ⟨cl, e, a, b⟩ := closure_list r acc (fun y hy => h1 y (List.mem_cons_of_mem _ hy)) h2
      refine ⟨cl, ?_, a, fun y hy => b y ?_⟩
      · rw [List.forIn_cons]
        simp only [hb, Bool.false_eq_true, if_false, pure_bind]
        exact e
      · rcases hy with hy | hy
        · rcases List.mem_cons.mp hy with z | z
          · cases z; exact absurd rfl hk
          · exact .inl z
        · exact .inr hy
theorem closure_of {scope : Scope} {en : Env} (h1 : ∀ y, (y, NameKind.free) ∈ scope.names → ∃ c, en.cells.lookup y = some c) :
    ∃ cl, closureFor scope en = pure cl ∧ (∀ y c, cl.lookup y = some c → en.cells.lookup y = some c) ∧ (∀ y, (y, NameKind.free) ∈ scope.names → ∃ c, cl.lookup y = some c) := by
  obtain ⟨cl, e, a, b⟩ := closure_list (en := en) scope.names [] h1 (fun y c h => by simp at h)
  refine ⟨cl, ?_, a, fun y hy => b y (.inl hy)⟩
  have q := congrArg (fun t : Sem (List (Str × Addr)) => t >>= fun c => pure c) e
  exact q
end L2
set_option Elab.async false
set_option linter.all false
set_option maxRecDepth 100000
namespace L2
open PySem PySem.Spec PyProof.Rows
def xeC (X : Cx) (en : Env) (C : Addr) : Value → Shared → Prop :=
  notedBy (model X.prog X.w) X.A en fun e s' => compPost (model X.prog X.w) X.A X.xe none (fun _ _ => False) Value.none C (.error e) s'
def cxC (X : Cx) (scope : Scope) (cl : List (Str × Addr)) (C : Addr) (s0 : Shared) (H0 : Hp) (fp : List Addr) (N : List Str) : Cx where
  prog := X.prog
  w := X.w
  K := X.K
  mg := X.mg
  base := X.base
  A := X.A
  N := N
  s₀ := s0
  H₀ := H0
  env := compEnvC scope cl C X.env
  outer := X.stack
  stack := X.stack
  ex := fp
  fn := fun _ => false
  calm := X.calm
  pn := []
  xe := xeC X (compEnvC scope cl C X.env) C
structure CompScope (scope : Scope) (en : Env) (N M : List Str) : Prop where
  kind : scope.kind = .function
  nocell : ∀ y ∈ scope.names, y.2 ≠ .cell
  locs : ∀ y ∈ scope.names, y.2 = .local → scope.names.lookup y.1 = some .local
  free : ∀ y, (y, NameKind.free) ∈ scope.names → en.kindOf y = some .cell ∨ en.kindOf y = some .free
  len : M.length = N.length
  same : ∀ (j : Nat) (y : Str), M[j]? = some y → Vis (relabel scope en) y → N[j]? = some y ∧ (y, NameKind.free) ∈ scope.names ∧ (relabel scope en).names.lookup y ≠ some .local
  relab : ∀ y, ((relabel scope en).names.lookup y = some .cell ∨ (relabel scope en).names.lookup y = some .free) → (y, NameKind.free) ∈ scope.names
def tComp (k : Nat) (wi : TI) (g : TG) (tc : TT) (te : TE) : TE := fun σ H Q => wi σ H fun J H1 => ∀ d, H1 d = none → ∃ W : Nat → Nat → Hp → Prop, (∃ m, W 0 m (upd H1 d (.lst []))) ∧ ∀ i m H, W i m H →
  (J.stop i H ∧ Q (.ref d) H) ∨ (J.go i H ∧ ∃ N : Hp → Prop, (∀ H', N H' → ∃ m', m' < m ∧ W (i + 1) m' H') ∧ ∀ x H', J.yld i H x H' → g x (List.replicate k none ++ σ) H' fun σ2 H2 =>
    tc σ2 H2 fun b H3 => if b = true then te σ2 H3 fun y H4 => ∃ ys, H4 d = some (.lst ys) ∧ ys.length < sizeLine ∧ N (upd H4 d (.lst (ys ++ [y]))) else N H3)
structure Gone (X : Cx) (pins : List (Addr × Obj)) (H : Hp) (C : Addr) : Prop where
  no : H C = none
  ne : C ≠ X.env.locals
  yg : X.s₀.heap.objs.size ≤ C
  cl : ∀ x c, X.env.cells.lookup x = some c → c ≠ C
  pn : ∀ p ∈ X.pn ++ pins, p.1 ≠ C
theorem Inv.gone {X : Cx} {pins : List (Addr × Obj)} {σ : St} {H : Hp} {s : Shared} {C : Addr} {h' : Heap} (I : Inv X pins σ H s) (g : Gone X pins H C) (hs : Heap.SameBut C s.heap h') : Inv X pins σ H { s with heap := h' } :=
  I.turned (t' := s.toks) (it := C) (fun b o hb e => hs.extBut b o hb e) g.no g.ne (.inr g.yg) g.cl g.pn
structure Back (X Y : Cx) (pins : List (Addr × Obj)) (σ : St) (fp : List Addr) (C : Addr) (s3 : Shared) (H3 : Hp) : Prop where
  i0 : Inv X pins σ H3 s3
  fp : ∀ b ∈ fp, (b ∈ X.ex ∨ X.s₀.heap.objs.size ≤ b) ∧ b ≠ X.env.locals ∧ (∀ x c, X.env.cells.lookup x = some c → c ≠ b) ∧ ∀ p ∈ X.pn ++ pins, p.1 ≠ b
  inv : ∀ (pins' : List (Addr × Obj)) (σ' : St) (H' : Hp) (s' : Shared), Inv Y pins' σ' H' s' → Inv X pins σ H' s' ∧ Gone X pins H' C
theorem comp_run {X : Cx} {elt tg iter : Expr} {cs : List Expr} {scope : Scope} {pos : Pos} {wi : TI} {g : TG} {tc : TT} {te : TE} {xs M : List Str} {use : Option (Value → Sem Unit)} {RR : Value → Shared → Prop} (hc : X.calm = true) (S : CompScope scope X.env X.N M) (hi : PI X tg iter wi)
    (hin : ∀ (cl : List (Str × Addr)) (C : Addr) (s0 : Shared) (H0 : Hp) (fp : List Addr) (pins : List (Addr × Obj)) (σ : St), Back X (cxC X scope cl C s0 H0 fp (xs ++ M)) pins σ fp C s0 H0 → PG (cxC X scope cl C s0 H0 fp (xs ++ M)) tg g ∧ PTs (cxC X scope cl C s0 H0 fp (xs ++ M)) cs tc ∧ PE (cxC X scope cl C s0 H0 fp (xs ++ M)) elt te)
    (hg : ∀ v σ H Q, g v (List.replicate xs.length none ++ σ) H Q → g v (List.replicate xs.length none ++ σ) H fun σ2 H2 => (∃ l : St, l.length = xs.length ∧ σ2 = l ++ σ) ∧ Q σ2 H2)
    (hs : ∀ x, foldedSetIterable iter X.env x = pure x) (pins : List (Addr × Obj)) (s : Shared) (σ : St) (H : Hp) (Q : VK) (I : Inv X pins σ H s) (h : tComp xs.length wi g tc te σ H Q)
    (fin : ∀ (d C : Addr) (s6 : Shared) (H6 : Hp) (m : Str → Option Value), Q (.ref d) H6 → Inv X pins σ H6 s6 → s6.heap.Ns C m → Gone X pins H6 C → compPost (model X.prog X.w) X.A X.xe use RR (.ref d) C (.ok .next) s6) :
    wpAny (model X.prog X.w) X.A (comprehension (.ListComp elt [⟨tg, iter, cs, 0⟩] scope pos) scope X.env (firstIterPos [⟨tg, iter, cs, 0⟩] pos) (newList []) false (eval iter X.env) use) RR X.xe s := by
  obtain ⟨cl, hcl, cl1, cl2⟩ := closure_of (scope := scope) (en := X.env) fun y hy => I.ok.has y (S.free y hy)
  refine wpAny_comprehension_free (use := use) rfl hs hcl S.kind S.locs (thn (hi pins s σ H _ I h) fun v s1 h1 => thn h1 fun itv s2 h2 => ?_)
  obtain ⟨it, fp, tn, J, H2, e, I2, T, st2, f2, h3⟩ := h2
  subst e
  have hf : H2 s2.heap.objs.size = none := I2.fresh
  obtain ⟨W, ⟨m0, w0⟩, turn⟩ := h3 _ hf
  refine wpAny_newObj_type (wpAny_newFunctionEnv S.nocell (by intro y hy; simp at hy) (fun h4 hns hsb => ?_) S.kind)
  have I3 : Inv X pins σ (upd H2 s2.heap.objs.size (.lst [])) { s2 with heap := s2.heap.push { cls := .type "list", data := .seq ([] : List Value).toArray } } := I2.lnew (ys := []) (its := []) (t' := s2.toks) .nil (Nat.zero_le _)
  generalize hs3 : ({ s2 with heap := s2.heap.push { cls := .type "list", data := .seq ([] : List Value).toArray } } : Shared) = s3 at I3
  generalize hH3 : upd H2 s2.heap.objs.size (.lst []) = H3 at I3 w0
  have e3 : s2.heap.push { cls := .type "list", dict := none, data := .seq ([] : List Value).toArray } = s3.heap := by rw [← hs3]
  dsimp only at hns hsb ⊢
  rw [e3] at hns hsb
  have old : ∀ b o, s3.heap.get? b = some o → h4.get? b = some o := fun b o e => hsb.extBut b o (Nat.ne_of_lt (Heap.lt_size e)) (Heap.get?_push_of_some _ e)
  have keep2 : ∀ b o, s2.heap.get? b = some o → s3.heap.get? b = some o := fun b o e => by rw [← e3]; exact Heap.get?_push_of_some _ e
  have lt3 : ∀ b ∈ fp, b < s3.heap.objs.size := fun b hb => by
    obtain ⟨o, e, _⟩ := T.obj _ _ st2 b hb
    exact Heap.lt_size (keep2 b o e)
  have n3 : ∀ b ∈ fp, H3 b = none := fun b hb => by
    obtain ⟨o, e, _⟩ := T.obj _ _ st2 b hb
    rw [← hH3, upd_ne (Nat.ne_of_lt (Heap.lt_size e))]
    exact (f2 b hb).1
  have st4 : tn 0 h4 := T.keep _ _ _ st2 fun b _ o e => old b o (keep2 b o e)
  let Y : Cx := cxC X scope cl s3.heap.objs.size s3 H3 fp (xs ++ M)
  have relab : ∀ y, ((relabel scope X.env).names.lookup y = some .cell ∨ (relabel scope X.env).names.lookup y = some .free) → ∃ c, cl.lookup y = some c := fun y hy => cl2 y (S.relab y hy)
  have Yok : Y.Ok := by
    refine ⟨I3.ok.mod, S.kind, I3.ok.glob, I3.ok.blt, Nat.le_refl _, fun y z c h1 h2 => I3.ok.inj y z c (cl1 y c h1) (cl1 z c h2), fun y hy => relab y hy, fun _ _ h _ => absurd (show false = true from h) (by decide), I3.ok.hd, I3.ok.frames, .inl rfl,
      fun b hb => ⟨Nat.ne_of_lt (lt3 b hb), fun y c e => (f2 b hb).2.2.2.2.1 y c (cl1 y c e)⟩, I3.bs, Nat.le_trans I3.ok.bsz I3.sz, fun b o e hb => ?_, fun b hb z => ?_, I3.stack, I3.stkFree⟩
    · rcases (f2 b hb).2.2.2.1 with z | z
      · exact I3.ok.noex b o e z
      · exact absurd (Nat.lt_of_lt_of_le (Heap.lt_size e) (Nat.le_trans I3.ok.bsz z)) (Nat.lt_irrefl _)
    · rcases List.mem_cons.mp (I3.stkSub b z) with z | z
      · exact (f2 b hb).2.1 z
      · exact (f2 b hb).2.2.1 z
  have cells4 : ∀ y c, cl.lookup y = some c → ∀ v, s3.heap.IsCell c v → h4.IsCell c v := fun y c _ v ⟨o, ho, hd⟩ => ⟨o, old c o ho, hd⟩
  have IY : ∀ t', Inv Y [] (List.replicate xs.length none ++ σ) H3 { s3 with heap := h4, toks := t' } := fun t' => by
    refine ⟨Yok, rfl, I3.bare, Un.kept old, ⟨_, hns, fun i y v e1 e2 e3 => ?_⟩, fun y c e => ?_, I3.hok.fresh (Nat.le_refl _), fun y c e => I3.freeC y c (cl1 y c e), fun p hp => absurd (show p ∈ ([] : List (Addr × Obj)) from hp) (by simp), I3.hok.kept old, ?_⟩
    · by_cases hi : i < xs.length
      · rw [List.getElem?_append_left (by simpa using hi), List.getElem?_replicate] at e2
        split at e2 <;> cases e2
      · obtain ⟨j, rfl⟩ : ∃ j, i = xs.length + j := ⟨i - xs.length, by omega⟩
        have e1' : M[j]? = some y := by
          have q : (xs ++ M)[xs.length + j]? = some y := e1
          rw [List.getElem?_append_right (Nat.le_add_right _ _)] at q
          simpa using q
        have e2' : σ[j]? = some (some v) := by
          rw [List.getElem?_append_right (by simp)] at e2
          simpa using e2
        obtain ⟨a1, a2, a3⟩ := S.same j y e1' e3
        have vis : Vis X.env.scope y := by
          rcases S.free y a2 with z | z
          · exact .inr (.inl z)
          · exact .inr (.inr z)
        obtain ⟨m, _, hl⟩ := I3.loc
        obtain ⟨u, r, l⟩ := hl j y v a1 e2' vis
        refine ⟨u, r, ?_⟩
        have kk : Y.env.kindOf y = some .cell ∨ Y.env.kindOf y = some .free := by
          rcases e3 with z | z | z
          · exact absurd z a3
          · exact .inl z
          · exact .inr z
        rcases l with ⟨k1, _⟩ | ⟨_, c, ec, ic⟩
        · rcases S.free y a2 with z | z
          · rw [z] at k1; cases k1
          · rw [z] at k1; cases k1
        · obtain ⟨c', ec'⟩ := cl2 y a2
          have := cl1 y c' ec'
          rw [ec] at this
          cases this
          exact .inr ⟨kk, c, ec', cells4 y c ec' _ ic⟩
    · obtain ⟨v, z⟩ := I3.cell y c (cl1 y c e)
      exact ⟨v, cells4 y c e v z⟩
    · show (List.replicate xs.length none ++ σ).length = (xs ++ M).length
      rw [List.length_append, List.length_append, List.length_replicate, S.len, I3.len]
  have stat : ∀ {pl : List (Addr × Obj)} {H' : Hp}, (∀ p ∈ pl, p.1 ∉ fp) → (∀ b ∈ fp, H' b = none) → ∀ b ∈ fp, FpOk Y pl H' b := fun hp hn b hb =>
    ⟨hn b hb, Nat.ne_of_lt (lt3 b hb), Yok.exfs b hb, .inl hb, fun y c e => (f2 b hb).2.2.2.2.1 y c (cl1 y c e), fun p hp' z => hp p (by simpa [Y, cxC] using hp') (z ▸ hb)⟩
  have bk : Back X Y pins σ fp s3.heap.objs.size s3 H3 := by
    refine ⟨I3, fun b hb => ⟨(f2 b hb).2.2.2.1, (f2 b hb).2.1, (f2 b hb).2.2.2.2.1, (f2 b hb).2.2.2.2.2⟩, fun pins' σ' H' s' J => ⟨?_, ?_⟩⟩
    · exact I3.call' (ch := fp) J.os J.base J.hok J.bare fun b hb => ⟨(f2 b hb).2.2.2.1, (f2 b hb).2.1, (f2 b hb).2.2.2.2.1, (f2 b hb).2.2.2.2.2⟩
    · refine ⟨J.free, Nat.ne_of_gt I3.lt, I3.sz, fun y c e z => ?_, fun p hp z => ?_⟩
      · obtain ⟨v, q⟩ := I3.cell y c e
        have := q.lt
        rw [z] at this
        exact Nat.lt_irrefl _ this
      · have := Heap.lt_size (I3.pin p hp).1
        rw [z] at this
        exact Nat.lt_irrefl _ this
  obtain ⟨hG, hT, hE⟩ := hin cl s3.heap.objs.size s3 H3 fp pins σ bk
  have loop : ∀ t', codeAny (model X.prog X.w) X.A (.compLoop (.ListComp elt [⟨tg, iter, cs, 0⟩] scope pos) 0 (.ref it) (.ref s2.heap.objs.size) Y.env) (compPost (model X.prog X.w) X.A X.xe use RR (.ref s2.heap.objs.size) s3.heap.objs.size) { s3 with heap := h4, toks := t' } := by
    intro t'
    refine comp_turns (EE := Y.xe) (by cases use <;> rfl) (fun n s' => ∃ i H', Inv Y [] (List.replicate xs.length none ++ σ) H' s' ∧ tn i s'.heap ∧ (∀ b ∈ fp, H' b = none) ∧ W i n H') ?_ m0 ⟨0, H3, IY t', st4, n3, w0⟩
    rintro n s5 ⟨i, H5, I5, st5, fr5, w5⟩
    rcases turn i n H5 w5 with ⟨stop, qn⟩ | ⟨go, N, hN, step⟩
    · refine thn (T.done Y rfl rfl rfl hc i [] s5 (List.replicate xs.length none ++ σ) H5 _ I5 (stat (by simp) fr5) st5 stop) fun r s6 ⟨hr, I6⟩ => ?_
      subst hr
      obtain ⟨m6, hn6, _⟩ := I6.loc
      have I8 : Inv X pins σ H5 s6 := I3.call' (ch := fp) I6.os I6.base I6.hok I6.bare fun b hb => ⟨(f2 b hb).2.2.2.1, (f2 b hb).2.1, (f2 b hb).2.2.2.2.1, (f2 b hb).2.2.2.2.2⟩
      have lt8 : X.env.locals < s3.heap.objs.size := I3.lt
      refine fin _ _ s6 H5 m6 qn I8 hn6 ⟨I6.free, Nat.ne_of_gt lt8, I3.sz, fun y c e z => ?_, fun p hp z => ?_⟩
      · obtain ⟨v, q⟩ := I3.cell y c e
        have := q.lt
        rw [z] at this
        exact Nat.lt_irrefl _ this
      · have := Heap.lt_size (I3.pin p hp).1
        rw [z] at this
        exact Nat.lt_irrefl _ this
    · refine thn (T.item Y rfl rfl rfl hc i [] s5 (List.replicate xs.length none ++ σ) H5 _ I5 (stat (by simp) fr5) st5 go) fun r s6 ⟨u, hr, h6⟩ => ?_
      subst hr
      refine thn h6 fun _ s7 ⟨x7, H7, I7, r7, y7, st7, fr7⟩ => ?_
      have I7' := I7.pinned (stat (by simp) fr7) (T.obj _ _ st7)
      have again : ∀ {σ8 : St} {H8 : Hp} {s8 : Shared}, (∃ l : St, l.length = xs.length ∧ σ8 = l ++ σ) → Inv Y ([] ++ pinsAt fp s7.heap) σ8 H8 s8 → N H8 → ∃ m, m < n ∧ ∃ i H', Inv Y [] (List.replicate xs.length none ++ σ) H' s8 ∧ tn i s8.heap ∧ (∀ b ∈ fp, H' b = none) ∧ W i m H' := fun {σ8 H8 s8} l8 I8 n8 => by
        obtain ⟨m', hm, w8⟩ := hN H8 n8
        obtain ⟨l, ll, rfl⟩ := l8
        have pin8 : ∀ b ∈ fp, ∀ o, s7.heap.get? b = some o → s8.heap.get? b = some o ∧ H8 b = none := fun b hb o e => by
          have z := I8.pin (b, o) (List.mem_append_right _ (List.mem_append_right _ (mem_pinsAt hb e)))
          exact ⟨z.1, z.2.1⟩
        refine ⟨m', hm, i + 1, H8, I8.unpinned.weak (by simp [ll]) (fun j v e => ?_), T.keep _ _ _ st7 fun b hb o e => (pin8 b hb o e).1, fun b hb => ?_, w8⟩
        · by_cases hj : j < xs.length
          · rw [List.getElem?_append_left (by simpa using hj), List.getElem?_replicate] at e
            split at e <;> cases e
          · rw [List.getElem?_append_right (by simpa using hj)] at e
            rw [List.getElem?_append_right (by omega), ll]
            simpa using e
        · obtain ⟨o, e, _⟩ := T.obj _ _ st7 b hb
          exact (pin8 b hb o e).2
      refine thn (hG _ s7 (List.replicate xs.length none ++ σ) H7 x7 u _ I7' r7 (hg _ _ _ _ (step x7 H7 y7))) fun _ s8 ⟨σ8, H8, I8, l8, q8⟩ => ?_
      refine thn (hT _ s8 σ8 H8 _ I8 q8) fun ok s9 ⟨H9, I9, q9⟩ => ?_
      cases ok with
      | false => exact again l8 I9 q9
      | true =>
        refine thn (hE _ s9 σ8 H9 _ I9 q9) fun y s10 ⟨y10, H10, I10, r10, ys, hd, hl, n10⟩ => ?_
        refine thn (mt_append _ s10 σ8 H10 (.ref s2.heap.objs.size) [y10] (.ref s2.heap.objs.size) [y] (fun _ H' => N H') I10 rfl (.cons r10 .nil) ⟨_, ys, y10, rfl, rfl, hd, hl, n10⟩) fun _ s11 ⟨_, H11, I11, _, n11⟩ => ?_
        exact again l8 I11 n11
  refine codeAny_compStart_list (loop _) (T.self _ 0 _ _ _ st4 (loop _))
theorem pe_comp {X : Cx} {elt tg iter : Expr} {cs : List Expr} {scope : Scope} {pos : Pos} {wi : TI} {g : TG} {tc : TT} {te : TE} {xs M : List Str} (hc : X.calm = true) (S : CompScope scope X.env X.N M) (hi : PI X tg iter wi)
    (hin : ∀ (cl : List (Str × Addr)) (C : Addr) (s0 : Shared) (H0 : Hp) (fp : List Addr), PG (cxC X scope cl C s0 H0 fp (xs ++ M)) tg g ∧ PTs (cxC X scope cl C s0 H0 fp (xs ++ M)) cs tc ∧ PE (cxC X scope cl C s0 H0 fp (xs ++ M)) elt te)
    (hg : ∀ v σ H Q, g v (List.replicate xs.length none ++ σ) H Q → g v (List.replicate xs.length none ++ σ) H fun σ2 H2 => (∃ l : St, l.length = xs.length ∧ σ2 = l ++ σ) ∧ Q σ2 H2)
    (hs : ∀ x, foldedSetIterable iter X.env x = pure x := by intro _; rfl) : PE X (.ListComp elt [⟨tg, iter, cs, 0⟩] scope pos) (tComp xs.length wi g tc te) := by
  intro pins s σ H Q I h
  rw [eval_ListComp]
  exact comp_run (use := none) hc S hi (fun cl C s0 H0 fp _ _ _ => hin cl C s0 H0 fp) hg hs pins s σ H Q I h fun d C s6 H6 m q I6 hn gn => ⟨m, hn, fun h' hs' => ⟨.ref d, H6, I6.gone gn hs', rfl, q⟩⟩
theorem ps_comp {X : Cx} {elt tg iter : Expr} {cs : List Expr} {scope : Scope} {pos pos' spos : Pos} {wi : TI} {g : TG} {tc : TT} {te : TE} {xs M : List Str} {i : Nat} {x : Str} (hc : X.calm = true) (S : CompScope scope X.env X.N M) (hi : PI X tg iter wi)
    (hin : ∀ (cl : List (Str × Addr)) (C : Addr) (s0 : Shared) (H0 : Hp) (fp : List Addr), PG (cxC X scope cl C s0 H0 fp (xs ++ M)) tg g ∧ PTs (cxC X scope cl C s0 H0 fp (xs ++ M)) cs tc ∧ PE (cxC X scope cl C s0 H0 fp (xs ++ M)) elt te)
    (hg : ∀ v σ H Q, g v (List.replicate xs.length none ++ σ) H Q → g v (List.replicate xs.length none ++ σ) H fun σ2 H2 => (∃ l : St, l.length = xs.length ∧ σ2 = l ++ σ) ∧ Q σ2 H2)
    (hN : X.N.Nodup) (hix : X.N[i]? = some x) (hx : X.env.scope.names.lookup x = some .local) (hw : swapsWith (.ListComp elt [⟨tg, iter, cs, 0⟩] scope pos) (some (.Name x pos')) spos.line X.env = pure true)
    (hs : ∀ x, foldedSetIterable iter X.env x = pure x := by intro _; rfl) : PS X (.Assign [.Name x pos'] (.ListComp elt [⟨tg, iter, cs, 0⟩] scope pos) spos) (tAsg (tComp xs.length wi g tc te) (gName i)) := by
  intro pins s σ H D I h
  rw [exec_Assign_Name_used _ _ _ _ hw]
  refine wpAny_bind (wpAny_standAt (wpAny_bind ?_))
  show wpAny _ X.A (comprehension (.ListComp elt [⟨tg, iter, cs, 0⟩] scope pos) scope X.env _ (newList []) false (eval iter X.env) (some (assign (.Name x pos') X.env)) >>= fun _ => pure ()) _ _ s
  refine wpAny_bind (thn (comp_run (use := some (assign (.Name x pos') X.env)) (RR := fun _ s' => SP X pins D .next s') hc S hi (fun cl C s0 H0 fp _ _ _ => hin cl C s0 H0 fp) hg hs pins s σ H _ I h fun d C s6 H6 m q I6 hn gn => ?_) fun _ s' hq => wpAny_pure (wpAny_pure hq))
  show wpAny _ X.A (assign (.Name x pos') X.env (.ref d)) _ _ s6
  refine wpAny_assign_Name (store_ok2 I6 hN hix (.inl hx) (v := .ref d) rfl (fun s7 I7 ch => ?_) (.inr hx))
  obtain ⟨a, hsb, ha⟩ := ch
  have ne : C ≠ a := by
    rcases ha with z | z
    · rw [z]; exact gn.ne
    · exact fun z' => gn.cl x a z z'.symm
  exact ⟨m, hn.sameBut hsb ne, fun h' hs' => ⟨_, H6, I7.gone gn hs', q⟩⟩
theorem pe_compB {X : Cx} {elt tg iter : Expr} {cs : List Expr} {scope : Scope} {pos : Pos} {wi : TI} {g : TG} {tc : TT} {te : TE} {xs M : List Str} (hc : X.calm = true) (S : CompScope scope X.env X.N M) (hi : PI X tg iter wi)
    (hin : ∀ (cl : List (Str × Addr)) (C : Addr) (s0 : Shared) (H0 : Hp) (fp : List Addr) (pins : List (Addr × Obj)) (σ : St), Back X (cxC X scope cl C s0 H0 fp (xs ++ M)) pins σ fp C s0 H0 → PG (cxC X scope cl C s0 H0 fp (xs ++ M)) tg g ∧ PTs (cxC X scope cl C s0 H0 fp (xs ++ M)) cs tc ∧ PE (cxC X scope cl C s0 H0 fp (xs ++ M)) elt te)
    (hg : ∀ v σ H Q, g v (List.replicate xs.length none ++ σ) H Q → g v (List.replicate xs.length none ++ σ) H fun σ2 H2 => (∃ l : St, l.length = xs.length ∧ σ2 = l ++ σ) ∧ Q σ2 H2)
    (hs : ∀ x, foldedSetIterable iter X.env x = pure x := by intro _; rfl) : PE X (.ListComp elt [⟨tg, iter, cs, 0⟩] scope pos) (tComp xs.length wi g tc te) := by
  intro pins s σ H Q I h
  rw [eval_ListComp]
  exact comp_run (use := none) hc S hi hin hg hs pins s σ H Q I h fun d C s6 H6 m q I6 hn gn => ⟨m, hn, fun h' hs' => ⟨.ref d, H6, I6.gone gn hs', rfl, q⟩⟩
end L2
set_option Elab.async false
set_option linter.all false
set_option maxRecDepth 100000
namespace L2
open PySem PySem.Spec PyProof.Rows
structure EqK {α : Type} [DecidableEq α] (H : Hp) (s : Shared) (n : Nat) (R : V → α → Prop) : Prop where
  inj : ∀ x a b, R x a → R x b → a = b
  eq : ∀ (A : Around) (x y : V) (a b : α) (u v : Value), A.units + n < cLine → R x a → R y b → RelV x u → RelV y v → SeqAt.EqAt A s u v (decide (a = b))
def RInt (x : V) (i : Int) : Prop := x = .int i
def RBl (x : V) (b : Bool) : Prop := x = .bl b
def RTup {α : Type} (H : Hp) (R : V → α → Prop) (x : V) (ds : List α) : Prop := ∃ a xs, x = .ref a ∧ H a = some (.tup xs) ∧ Paired R xs ds
theorem all_eq {α : Type} [DecidableEq α] : ∀ (as bs : List α) (e : Nat → Bool), (∀ j x y, as[j]? = some x → bs[j]? = some y → e j = decide (x = y)) →
    ((List.range (min as.length bs.length)).all e && as.length == bs.length) = decide (as = bs) := by
  intro as bs e h
  rw [Bool.eq_iff_iff]
  simp only [Bool.and_eq_true, List.all_eq_true, List.mem_range, beq_iff_eq, decide_eq_true_eq]
  constructor
  · rintro ⟨h1, h2⟩
    refine List.ext_getElem? fun j => ?_
    by_cases hj : j < as.length
    · have e1 : as[j]? = some as[j] := List.getElem?_eq_getElem hj
      have e2 : bs[j]? = some (bs[j]'(by omega)) := List.getElem?_eq_getElem (by omega)
      have q := h1 j (by omega)
      rw [h j _ _ e1 e2] at q
      rw [e1, e2, of_decide_eq_true q]
    · rw [List.getElem?_eq_none (by omega), List.getElem?_eq_none (by omega)]
  · rintro rfl
    refine ⟨fun j hj => ?_, rfl⟩
    have hj : j < as.length := by omega
    have e1 : as[j]? = some as[j] := List.getElem?_eq_getElem hj
    rw [h j _ _ e1 e1]
    simp
theorem Paired.right_of {α β : Type} {R : α → β → Prop} : ∀ {xs : List α} {ds : List β}, Paired R xs ds → ∀ (j : Nat) (x : α), xs[j]? = some x → ∃ d, ds[j]? = some d ∧ R x d
  | _, _, .nil, j, x, e => by simp at e
  | _, _, .cons r t, 0, x, e => by simp at e; subst e; exact ⟨_, rfl, r⟩
  | _, _, .cons r t, j + 1, x, e => by
    obtain ⟨d, e1, e2⟩ := Paired.right_of t j x (by simpa using e)
    exact ⟨d, by simpa using e1, e2⟩
theorem Paired.inj {α β : Type} {R : α → β → Prop} (h : ∀ x a b, R x a → R x b → a = b) : ∀ {xs : List α} {ds es : List β}, Paired R xs ds → Paired R xs es → ds = es
  | _, _, _, .nil, .nil => rfl
  | _, _, _, .cons r t, .cons r' t' => by rw [h _ _ _ r r', Paired.inj h t t']
theorem Paired.ints : ∀ ns : List Int, Paired RInt (ns.map V.int) ns
  | [] => .nil
  | n :: ns => .cons rfl (Paired.ints ns)
theorem Paired.bls : ∀ ns : List Bool, Paired RBl (ns.map V.bl) ns
  | [] => .nil
  | n :: ns => .cons rfl (Paired.bls ns)
section
variable {α : Type} [DecidableEq α] {P : Program} {w : World} {H : Hp} {s : Shared} {n : Nat} {R : V → α → Prop} {A : Around}
theorem EqK.int : EqK H s n RInt := ⟨fun x a b h1 h2 => by unfold RInt at *; rw [h1] at h2; cases h2; rfl, fun A x y a b u v _ h1 h2 r1 r2 => by
  unfold RInt at *
  subst h1 h2
  obtain ⟨t, rfl⟩ := r1
  obtain ⟨t', rfl⟩ := r2
  have q := SeqAt.EqAt.int_int (A := A) (s := s) a t b t'
  rw [Bool.beq_eq_decide_eq] at q
  exact q⟩
theorem EqK.bl : EqK H s n RBl := ⟨fun x a b h1 h2 => by unfold RBl at *; rw [h1] at h2; cases h2; rfl, fun A x y a b u v _ h1 h2 r1 r2 => by
  unfold RBl at *
  subst h1 h2
  cases r1
  cases r2
  have q := SeqAt.EqAt.bool_bool (A := A) (s := s) a b
  rw [Bool.beq_eq_decide_eq] at q
  exact q⟩
theorem items_eq (K : EqK H s n R) {xs ys : List V} {ds es : List α} {its its2 : List Value} (p1 : Paired R xs ds) (p2 : Paired R ys es) (v1 : Vals xs its) (v2 : Vals ys its2) (hA : A.units + n < cLine) :
    ∃ e : Nat → Bool, (∀ j (h1 : j < its.toArray.size) (h2 : j < its2.toArray.size), SeqAt.EqAt A s its.toArray[j] its2.toArray[j] (e j)) ∧ ((List.range (min its.toArray.size its2.toArray.size)).all e && its.toArray.size == its2.toArray.size) = decide (ds = es) := by
  have l1 : its.toArray.size = ds.length := by rw [List.size_toArray, ← v1.length]; exact p1.length
  have l2 : its2.toArray.size = es.length := by rw [List.size_toArray, ← v2.length]; exact p2.length
  refine ⟨fun j => match ds[j]?, es[j]? with | some d, some e => decide (d = e) | _, _ => true, fun j h1 h2 => ?_, ?_⟩
  · have hx : xs[j]? = some (xs[j]'(by rw [v1.length]; simpa using h1)) := List.getElem?_eq_getElem _
    have hy : ys[j]? = some (ys[j]'(by rw [v2.length]; simpa using h2)) := List.getElem?_eq_getElem _
    obtain ⟨d, e1, r1⟩ := Paired.right_of p1 j _ hx
    obtain ⟨e, e2, r2⟩ := Paired.right_of p2 j _ hy
    obtain ⟨u, e3, r3⟩ := v1.get hx
    obtain ⟨v, e4, r4⟩ := v2.get hy
    have q3 : its.toArray[j] = u := by
      have := (List.getElem?_eq_some_iff.mp e3).2
      simpa using this
    have q4 : its2.toArray[j] = v := by
      have := (List.getElem?_eq_some_iff.mp e4).2
      simpa using this
    simp only [e1, e2, q3, q4]
    exact K.eq A _ _ d e u v hA r1 r2 r3 r4
  · rw [l1, l2]
    exact all_eq ds es _ fun j x y h1 h2 => by simp only [h1, h2]
theorem rc_tups (K : EqK H s n R) (ok : HOk P w H s.heap) {a b : Addr} {xs ys : List V} {ds es : List α} (ha : H a = some (.tup xs)) (hb : H b = some (.tup ys)) (p1 : Paired R xs ds) (p2 : Paired R ys es) (hA : A.units + (n + 1) < cLine) :
    SeqAt.RcAt A s (.ref a) (.ref b) (decide (ds = es)) := by
  obtain ⟨_, its, v1, t1⟩ := ok a _ ha
  obtain ⟨_, its2, v2, t2⟩ := ok b _ hb
  obtain ⟨e, h1, h2⟩ := items_eq (A := A.in1) K p1 p2 v1 v2 (by show A.units + 1 + n < cLine; omega)
  rw [← h2]
  exact SeqAt.RcAt.tuples t1 t2 (by omega) h1
theorem isL_of {h : Heap} {a : Addr} {its : List Value} {k : Nat} (e : h.get? a = some { cls := .type "list", data := .seq its.toArray k }) : h.IsList a its.toArray := ⟨_, e, rfl, _, rfl⟩
theorem rc_lsts (K : EqK H s n R) (ok : HOk P w H s.heap) {a b : Addr} {xs ys : List V} {ds es : List α} (ha : H a = some (.lst xs)) (hb : H b = some (.lst ys)) (p1 : Paired R xs ds) (p2 : Paired R ys es) (hA : A.units + (n + 1) < cLine) :
    SeqAt.RcAt A s (.ref a) (.ref b) (decide (ds = es)) := by
  obtain ⟨_, its, k1, v1, t1⟩ := ok a _ ha
  obtain ⟨_, its2, k2, v2, t2⟩ := ok b _ hb
  obtain ⟨e, h1, h2⟩ := items_eq (A := A.in1) K p1 p2 v1 v2 (by show A.units + 1 + n < cLine; omega)
  by_cases hz : its.toArray.size = its2.toArray.size
  · have q := SeqAt.RcAt.lists (isL_of t1) (isL_of t2) hz (show A.units < cLine by omega) h1
    have z : (List.range its.toArray.size).all e = decide (ds = es) := by
      rw [← h2, ← hz]
      simp
    rw [z] at q
    exact q
  · have q := SeqAt.RcAt.lists_lengths (A := A) (isL_of t1) (isL_of t2) (by simpa using hz) (show A.units < cLine by omega)
    have z : false = decide (ds = es) := by
      rw [← h2]
      have : (its.toArray.size == its2.toArray.size) = false := by simpa using hz
      rw [this, Bool.and_false]
    rw [z] at q
    exact q
theorem EqK.tup (K : EqK H s n R) (ok : HOk P w H s.heap) : EqK H s (n + 1) (RTup H R) := by
  refine ⟨fun x a b h1 h2 => ?_, fun A x y a b u v hA h1 h2 r1 r2 => ?_⟩
  · obtain ⟨c, xs, rfl, e1, p1⟩ := h1
    obtain ⟨c', xs', z, e2, p2⟩ := h2
    cases z
    rw [e1] at e2; cases e2
    exact Paired.inj K.inj p1 p2
  · obtain ⟨c, xs, rfl, e1, p1⟩ := h1
    obtain ⟨c', xs', rfl, e2, p2⟩ := h2
    cases r1; cases r2
    by_cases hc : c = c'
    · subst hc
      rw [e1] at e2; cases e2
      have := Paired.inj K.inj p1 p2
      subst this
      rw [decide_eq_true rfl]
      exact SeqAt.EqAt.same _
    · exact SeqAt.EqAt.of_refs hc (rc_tups K ok e1 e2 p1 p2 hA)
end
section
variable {X : Cx} {α : Type} [DecidableEq α]
end
def rIsi (K : PySem.W.Frag) : List V → Hp → VK → Prop := fun xs H Q => ∃ x t T b, xs = [x, .ty T] ∧ TyOf K H x t ∧ PySem.W.kitOne K t (.type T) = some b ∧ Q (.bl b) H
theorem call_isi {X : Cx} : CallR X (.builtin "isinstance") (rIsi X.K) := by
  intro pins s σ H xs us Q I r h
  obtain ⟨x, t, T, b, rfl, ty, e, q⟩ := h
  obtain ⟨u, v, rfl, r1, r2⟩ := r.two
  cases r2
  exact isinst_ok I r1 ty e fun tk => ⟨.bl b, H, I.tok tk, rfl, q⟩
theorem same_newO {H : Hp} {p : Addr} (h : H p = none) (o : HO) : Same H (upd H p o) := fun b u q => by rw [upd_ne (ne_of_none q h)]; exact q
def rCatG : R2 := fun x y H Q => ∃ a b xs ys, x = .ref a ∧ y = .ref b ∧ H a = some (.tup xs) ∧ H b = some (.tup ys) ∧ xs.length + ys.length ≤ sizeLine ∧ ∀ p H', Same H H' → H' p = some (.tup (xs ++ ys)) → Q (.ref p) H'
theorem op_catG {X : Cx} : OpR X (binaryOp .Add) rCatG := by
  intro pins s σ H x y v u Q I rx ry h
  obtain ⟨a, b, xs, ys, rfl, rfl, ha, hb, hz, q⟩ := h
  by_cases hx : xs = []
  · subst hx
    cases rx; cases ry
    obtain ⟨_, its, r1, p1⟩ := I.hok a _ ha
    obtain ⟨_, its2, r2, p2⟩ := I.hok b _ hb
    have e0 : its = [] := r1.nil_iff.mpr rfl
    subst e0
    obtain ⟨⟨cls, dd, data, sl⟩, ho, hc, n, hd⟩ := id (IsTp.is p1)
    obtain ⟨⟨cls2, dd2, data2, sl2⟩, ho2, hc2, n2, hd2⟩ := id (IsTp.is p2)
    simp only at hc hd hc2 hd2
    subst hc hd hc2 hd2
    exact concat_meets ⟨_, ho, rfl⟩ ⟨_, ho2, rfl⟩ noFill_tuple_add seq_tuple_add PySem.F.slot_tuple_add PySem.F.entry_tuple_add (PySem.F.args_tuple_add_2 _ _)
      (tuple_addW0 a b ([] : List Value).toArray its2.toArray n n2 dd dd2 sl sl2 (by simp)) ⟨ho, ho2, ⟨.ref b, H, I, rfl, q b H (Same.refl H) (by simpa using hb)⟩⟩
  · exact op_catT pins s σ H (.ref a) (.ref b) v u Q I rx ry ⟨a, b, xs, ys, rfl, rfl, .inl (.inl ha), .inl (.inl hb), hx, hz, fun z => q a H (Same.refl H) (by rw [z, List.append_nil]; exact ha), fun _ p hp => q p _ (same_newO hp _) upd_same⟩
def rAll : List V → Hp → VK → Prop := fun xs H Q => ∃ (a : Addr) (bs : List Bool), xs = [.ref a] ∧ H a = some (.lst (bs.map V.bl)) ∧ Q (.bl (bs.all id)) H
theorem vals_bls : ∀ {bs : List Bool} {us : List Value}, Vals (bs.map V.bl) us → us = bs.map Value.bool := by
  intro bs
  induction bs with
  | nil => intro us r; rw [List.map_nil] at r; cases r; rfl
  | cons b bs ih =>
    intro us r
    rw [List.map_cons] at r
    cases r with
    | cons r1 r2 => rw [ih r2, show _ = Value.bool b from r1]; rfl
theorem all_range (bs : List Bool) : (List.range bs.length).all (fun i => bs.getD i true) = bs.all id := by
  rw [Bool.eq_iff_iff]
  simp only [List.all_eq_true, List.mem_range, id]
  constructor
  · intro h b hb
    obtain ⟨i, hi, rfl⟩ := List.mem_iff_getElem.mp hb
    have q := h i hi
    rwa [List.getD_eq_getElem?_getD, List.getElem?_eq_getElem hi] at q
  · intro h i hi
    rw [List.getD_eq_getElem?_getD, List.getElem?_eq_getElem hi]
    exact h _ (List.getElem_mem hi)
theorem call_all {X : Cx} (hc : X.calm = true) : CallR X (.builtin "all") rAll := by
  intro pins s σ H xs us Q I r h
  obtain ⟨a, bs, rfl, ha, q⟩ := h
  obtain ⟨u, rfl, ru⟩ := vals1 r
  cases ru
  obtain ⟨hz, its, n, v, e⟩ := I.hok a _ ha
  have ei := vals_bls v
  subst ei
  refine call_all_walk (wpAny_pyIter_list (isL_of e) ?_)
  have hlt := Heap.lt_size e
  refine ⟨s.heap.objs.size, _, _, _, _, _, fun i => bs.getD i true, rfl, Walks.list (A := X.A.in1) (by show X.A.handled = none; exact I.ok.hd hc) s.heap.objs.size a (Nat.ne_of_lt hlt) (bs.map Value.bool).toArray, ⟨⟨_, Heap.get?_push_size _ rfl, rfl, rfl⟩, isL_of (Heap.get?_push_of_some _ e)⟩, ?_, fun h' tk hk => ?_⟩
  · intro i v s' Q' E' hv hq
    simp only [List.getElem?_toArray, List.getElem?_map] at hv
    cases hb : bs[i]? with
    | none => rw [hb] at hv; cases hv
    | some b =>
      rw [hb] at hv; cases hv
      have hq' : Q' (bs.getD i true) s' := hq
      rw [List.getD_eq_getElem?_getD, hb] at hq'
      exact wpAny_truthy_bool hq'
  · have e1 : (bs.map Value.bool).toArray.size = bs.length := by simp
    rw [e1, all_range]
    exact ⟨.bl _, H, I.kept (h' := h') (t' := tk) (fun b o eo => hk b o (by simp; exact Nat.ne_of_lt (Heap.lt_size eo)) (Heap.get?_push_of_some _ eo)), rfl, q⟩
end L2
set_option Elab.async false
set_option linter.all false
set_option maxRecDepth 100000
namespace L2
open PySem PySem.Spec PyProof.Rows
theorem lookup_relabel (scope : Scope) (en : Env) (y : Str) : (relabel scope en).names.lookup y = (scope.names.lookup y).map fun k => if (k == NameKind.free && en.scope.kind == .function && en.kindOf y == some .cell) = true then .cell else k := by
  show List.lookup y (scope.names.map fun (n, k) => if (k == NameKind.free && en.scope.kind == .function && en.kindOf n == some .cell) = true then (n, NameKind.cell) else (n, k)) = _
  generalize scope.names = l
  induction l with
  | nil => rfl
  | cons p r ih =>
    obtain ⟨n, k⟩ := p
    rw [List.map_cons]
    by_cases hy : y = n
    · subst hy
      show List.lookup y ((if (k == NameKind.free && en.scope.kind == .function && en.kindOf y == some .cell) = true then (y, NameKind.cell) else (y, k)) :: _) = _
      by_cases hc : (k == NameKind.free && en.scope.kind == .function && en.kindOf y == some .cell) = true
      · rw [if_pos hc, List.lookup_cons, List.lookup_cons, beq_self_eq_true]
        show some NameKind.cell = some (if _ then _ else _)
        rw [if_pos hc]
      · rw [if_neg hc, List.lookup_cons, List.lookup_cons, beq_self_eq_true]
        show some k = some (if _ then _ else _)
        rw [if_neg hc]
    · have hb : (y == n) = false := by simpa using hy
      show List.lookup y ((if (k == NameKind.free && en.scope.kind == .function && en.kindOf n == some .cell) = true then (n, NameKind.cell) else (n, k)) :: _) = _
      by_cases hc : (k == NameKind.free && en.scope.kind == .function && en.kindOf n == some .cell) = true
      · rw [if_pos hc, List.lookup_cons, List.lookup_cons, hb]; exact ih
      · rw [if_neg hc, List.lookup_cons, List.lookup_cons, hb]; exact ih
def okPair (scope : Scope) (p : Str × Str) : Bool := match scope.names.lookup p.1 with
  | none => true
  | some .free => p.1 == p.2
  | some .local => false
  | some .cell => false
  | some _ => true
theorem CompScope.of' {scope : Scope} {en : Env} {N M : List Str} (sc : Scope) (N₀ : List Str) (hsc : en.scope = sc) (hN : N = N₀) (kind : scope.kind = .function) (nocell : ∀ y ∈ scope.names, y.2 ≠ .cell) (locs : ∀ y ∈ scope.names, y.2 = .local → scope.names.lookup y.1 = some .local)
    (free : ∀ y ∈ scope.names, y.2 = .free → sc.names.lookup y.1 = some .cell ∨ sc.names.lookup y.1 = some .free) (len : M.length = N₀.length) (same : ((M.zip N₀).all (okPair scope)) = true) : CompScope scope en N M := by
  subst hsc hN
  refine ⟨kind, nocell, locs, fun y hy => free _ hy rfl, len, fun j y e v => ?_, fun y h => ?_⟩
  · have hj : j < N.length := by rw [← len]; exact (List.getElem?_eq_some_iff.mp e).1
    have e2 : N[j]? = some N[j] := List.getElem?_eq_getElem hj
    have hm : (y, N[j]) ∈ M.zip N := by
      refine List.mem_iff_getElem?.mpr ⟨j, ?_⟩
      rw [List.getElem?_zip_eq_some]
      exact ⟨e, e2⟩
    have q := List.all_eq_true.mp same _ hm
    unfold okPair at q
    unfold Vis at v
    rw [lookup_relabel] at v ⊢
    cases hl : scope.names.lookup y with
    | none => rw [hl] at v; simp at v
    | some k =>
      rw [hl] at v q
      simp only [Option.map_some] at v ⊢
      cases k with
      | free =>
        have z : y = N[j] := by simpa using q
        refine ⟨by rw [e2, ← z], PySem.mem_of_lookup hl, ?_⟩
        split <;> simp
      | «local» => simp at q
      | cell => simp at q
      | _ => simp at v
  · rw [lookup_relabel] at h
    cases hl : scope.names.lookup y with
    | none => rw [hl] at h; simp at h
    | some k =>
      rw [hl] at h
      have hm := PySem.mem_of_lookup hl
      simp only [Option.map_some] at h
      cases k with
      | free => exact hm
      | cell => exact absurd rfl (nocell _ hm)
      | _ => simp at h
theorem CompScope.of {scope : Scope} {en : Env} {N M : List Str} (sc : Scope) (N₀ : List Str) (hsc : en.scope = sc) (hN : N = N₀) (kind : scope.kind = .function) (nocell : ∀ y ∈ scope.names, y.2 ≠ .cell) (locs : ∀ y ∈ scope.names, y.2 = .local → scope.names.lookup y.1 = some .local)
    (free : ∀ y ∈ scope.names, y.2 = .free → sc.names.lookup y.1 = some .cell ∨ sc.names.lookup y.1 = some .free) (len : M.length = N₀.length) (same : ((M.zip N₀).all (okPair scope)) = true) : CompScope scope en N M := CompScope.of' sc N₀ hsc hN kind nocell locs free len same
theorem hg_one {v : V} {σ : St} {H : Hp} {Q : St → Hp → Prop} (h : gName 0 v (List.replicate 1 none ++ σ) H Q) : gName 0 v (List.replicate 1 none ++ σ) H fun σ2 H2 => (∃ l : St, l.length = 1 ∧ σ2 = l ++ σ) ∧ Q σ2 H2 :=
  ⟨⟨[some v], rfl, rfl⟩, h⟩
theorem comp_range {lo : Int} {n : Nat} {k : Nat} {g : TG} {tc : TT} {te : TE} {σ : St} {H : Hp} {Q : VK} {d : Addr} (Pv : Nat → Hp → Prop) (h0 : Pv 0 (upd H d (.lst [])))
    (hs : ∀ i H, i < n → Pv i H → g (.int (lo + i)) (List.replicate k none ++ σ) H fun σ2 H2 => tc σ2 H2 fun b H3 => if b = true then te σ2 H3 fun y H4 => ∃ ys, H4 d = some (.lst ys) ∧ ys.length < sizeLine ∧ Pv (i + 1) (upd H4 d (.lst (ys ++ [y]))) else Pv (i + 1) H3)
    (hd : ∀ H, Pv n H → Q (.ref d) H) :
    ∃ W : Nat → Nat → Hp → Prop, (∃ m, W 0 m (upd H d (.lst []))) ∧ ∀ i m H, W i m H →
      ((Itr lo n).stop i H ∧ Q (.ref d) H) ∨ ((Itr lo n).go i H ∧ ∃ N : Hp → Prop, (∀ H', N H' → ∃ m', m' < m ∧ W (i + 1) m' H') ∧ ∀ x H', (Itr lo n).yld i H x H' → g x (List.replicate k none ++ σ) H' fun σ2 H2 =>
        tc σ2 H2 fun b H3 => if b = true then te σ2 H3 fun y H4 => ∃ ys, H4 d = some (.lst ys) ∧ ys.length < sizeLine ∧ N (upd H4 d (.lst (ys ++ [y]))) else N H3) := by
  refine ⟨fun i m H => m = n - i ∧ i ≤ n ∧ Pv i H, ⟨n, by simp, Nat.zero_le _, h0⟩, ?_⟩
  rintro i m H ⟨rfl, hi, p⟩
  by_cases hlt : i < n
  · refine .inr ⟨hlt, Pv (i + 1), fun H' p' => ⟨n - (i + 1), by omega, rfl, hlt, p'⟩, fun x H' y => ?_⟩
    obtain ⟨e, y⟩ := y
    subst e y
    exact hs i _ hlt p
  · have e : i = n := by omega
    subst e
    exact .inl ⟨Nat.le_refl _, hd H p⟩
theorem comp_tup {K : PySem.W.Frag} {a : Addr} {xs : List V} {k : Nat} {g : TG} {tc : TT} {te : TE} {σ : St} {H : Hp} {Q : VK} {d : Addr} (Pv : Nat → Hp → Prop) (h0 : Pv 0 (upd H d (.lst []))) (hl : ∀ i H, i ≤ xs.length → Pv i H → SqT K H a xs)
    (hs : ∀ i x H, xs[i]? = some x → Pv i H → g x (List.replicate k none ++ σ) H fun σ2 H2 => tc σ2 H2 fun b H3 => if b = true then te σ2 H3 fun y H4 => ∃ ys, H4 d = some (.lst ys) ∧ ys.length < sizeLine ∧ Pv (i + 1) (upd H4 d (.lst (ys ++ [y]))) else Pv (i + 1) H3)
    (hd : ∀ H, Pv xs.length H → Q (.ref d) H) :
    ∃ W : Nat → Nat → Hp → Prop, (∃ m, W 0 m (upd H d (.lst []))) ∧ ∀ i m H, W i m H →
      ((Itt K a).stop i H ∧ Q (.ref d) H) ∨ ((Itt K a).go i H ∧ ∃ N : Hp → Prop, (∀ H', N H' → ∃ m', m' < m ∧ W (i + 1) m' H') ∧ ∀ x H', (Itt K a).yld i H x H' → g x (List.replicate k none ++ σ) H' fun σ2 H2 =>
        tc σ2 H2 fun b H3 => if b = true then te σ2 H3 fun y H4 => ∃ ys, H4 d = some (.lst ys) ∧ ys.length < sizeLine ∧ N (upd H4 d (.lst (ys ++ [y]))) else N H3) := by
  refine ⟨fun i m H => m = xs.length - i ∧ i ≤ xs.length ∧ Pv i H, ⟨xs.length, by simp, Nat.zero_le _, h0⟩, ?_⟩
  rintro i m H ⟨rfl, hi, p⟩
  have q := hl i H hi p
  by_cases hlt : i < xs.length
  · refine .inr ⟨⟨xs, xs[i], q, by simp [hlt]⟩, Pv (i + 1), fun H' p' => ⟨xs.length - (i + 1), by omega, rfl, hlt, p'⟩, fun x H' y => ?_⟩
    obtain ⟨e, y⟩ := y
    subst e
    exact hs i x _ (y xs q) p
  · have e : i = xs.length := by omega
    subst e
    exact .inl ⟨⟨xs, q, Nat.le_refl _⟩, hd H p⟩
theorem comp_list {K : PySem.W.Frag} {a : Addr} {xs : List V} {k : Nat} {g : TG} {tc : TT} {te : TE} {σ : St} {H : Hp} {Q : VK} {d : Addr} (Pv : Nat → Hp → Prop) (h0 : Pv 0 (upd H d (.lst []))) (hl : ∀ i H, i ≤ xs.length → Pv i H → SqL K H a xs)
    (hs : ∀ i x H, xs[i]? = some x → Pv i H → g x (List.replicate k none ++ σ) H fun σ2 H2 => tc σ2 H2 fun b H3 => if b = true then te σ2 H3 fun y H4 => ∃ ys, H4 d = some (.lst ys) ∧ ys.length < sizeLine ∧ Pv (i + 1) (upd H4 d (.lst (ys ++ [y]))) else Pv (i + 1) H3)
    (hd : ∀ H, Pv xs.length H → Q (.ref d) H) :
    ∃ W : Nat → Nat → Hp → Prop, (∃ m, W 0 m (upd H d (.lst []))) ∧ ∀ i m H, W i m H →
      ((Itl K a).stop i H ∧ Q (.ref d) H) ∨ ((Itl K a).go i H ∧ ∃ N : Hp → Prop, (∀ H', N H' → ∃ m', m' < m ∧ W (i + 1) m' H') ∧ ∀ x H', (Itl K a).yld i H x H' → g x (List.replicate k none ++ σ) H' fun σ2 H2 =>
        tc σ2 H2 fun b H3 => if b = true then te σ2 H3 fun y H4 => ∃ ys, H4 d = some (.lst ys) ∧ ys.length < sizeLine ∧ N (upd H4 d (.lst (ys ++ [y]))) else N H3) := by
  refine ⟨fun i m H => m = xs.length - i ∧ i ≤ xs.length ∧ Pv i H, ⟨xs.length, by simp, Nat.zero_le _, h0⟩, ?_⟩
  rintro i m H ⟨rfl, hi, p⟩
  have q := hl i H hi p
  by_cases hlt : i < xs.length
  · refine .inr ⟨⟨xs, xs[i], q, by simp [hlt]⟩, Pv (i + 1), fun H' p' => ⟨xs.length - (i + 1), by omega, rfl, hlt, p'⟩, fun x H' y => ?_⟩
    obtain ⟨e, y⟩ := y
    subst e
    exact hs i x _ (y xs q) p
  · have e : i = xs.length := by omega
    subst e
    exact .inl ⟨⟨xs, q, Nat.le_refl _⟩, hd H p⟩
theorem b_isi : bootBuiltins "isinstance" = some (.builtin "isinstance") := by decide +kernel
theorem b_all : bootBuiltins "all" = some (.builtin "all") := by decide +kernel
theorem b_int : bootBuiltins "int" = some (.type "int") := by decide +kernel
theorem b_bool : bootBuiltins "bool" = some (.type "bool") := by decide +kernel
theorem b_list : bootBuiltins "list" = some (.type "list") := by decide +kernel
theorem b_tuple : bootBuiltins "tuple" = some (.type "tuple") := by decide +kernel
theorem kit_int_int (K : PySem.W.Frag) : PySem.W.kitOne K (.type "int") (.type "int") = some true := by rfl
theorem kit_int_bool (K : PySem.W.Frag) : PySem.W.kitOne K (.type "int") (.type "bool") = some false := by rfl
theorem PE.imp {X : Cx} {e : Expr} {t t' : TE} (h : PE X e t) (hi : ∀ σ H Q, t' σ H Q → t σ H Q) : PE X e t' := fun pins s σ H Q I q => h pins s σ H Q I (hi σ H Q q)
def turnC (tc : TT) (te : TE) (σ : St) (d : Addr) (x : V) (H : Hp) (Z : Hp → Prop) : Prop :=
  tc (some x :: σ) H fun b H3 => if b = true then te (some x :: σ) H3 fun y H4 => ∃ ys, H4 d = some (.lst ys) ∧ ys.length < sizeLine ∧ Z (upd H4 d (.lst (ys ++ [y]))) else Z H3
def tCompR1 (ta : TA) (tc : TT) (te : TE) : TE := fun σ H Q => ta σ H fun vs H1 => ∃ j : Int, vs = [.int j] ∧ -(2 ^ 62) ≤ j ∧ j < 2 ^ 62 ∧ ∀ d, H1 d = none →
  ∃ Pv : Nat → Hp → Prop, Pv 0 (upd H1 d (.lst [])) ∧ (∀ i H, i < j.toNat → Pv i H → turnC tc te σ d (.int (0 + i)) H (Pv (i + 1))) ∧ ∀ H, Pv j.toNat H → Q (.ref d) H
def tCompL (K : PySem.W.Frag) (tl : TE) (tc : TT) (te : TE) : TE := fun σ H Q => tl σ H fun v H1 => ∃ a xs, v = .ref a ∧ SqL K H1 a xs ∧ ∀ d, H1 d = none →
  ∃ Pv : Nat → Hp → Prop, Pv 0 (upd H1 d (.lst [])) ∧ (∀ i H, i ≤ xs.length → Pv i H → SqL K H a xs) ∧ (∀ i x H, xs[i]? = some x → Pv i H → turnC tc te σ d x H (Pv (i + 1))) ∧ ∀ H, Pv xs.length H → Q (.ref d) H
def tCompT (K : PySem.W.Frag) (tl : TE) (tc : TT) (te : TE) : TE := fun σ H Q => tl σ H fun v H1 => ∃ a xs, v = .ref a ∧ SqT K H1 a xs ∧ ∀ d, H1 d = none →
  ∃ Pv : Nat → Hp → Prop, Pv 0 (upd H1 d (.lst [])) ∧ (∀ i H, i ≤ xs.length → Pv i H → SqT K H a xs) ∧ (∀ i x H, xs[i]? = some x → Pv i H → turnC tc te σ d x H (Pv (i + 1))) ∧ ∀ H, Pv xs.length H → Q (.ref d) H
def MonoE (t : TE) : Prop := ∀ σ H (Q Q' : VK), (∀ v H1, Q v H1 → Q' v H1) → t σ H Q → t σ H Q'
def MonoA (t : TA) : Prop := ∀ σ H (Q Q' : List V → Hp → Prop), (∀ v H1, Q v H1 → Q' v H1) → t σ H Q → t σ H Q'
section
variable {X : Cx} {elt iter : Expr} {tg : Str} {tp : Pos} {cs : List Expr} {scope : Scope} {pos : Pos} {tc : TT} {te : TE} {M : List Str}
abbrev Inner (X : Cx) (scope : Scope) (tg : Str) (M : List Str) (cs : List Expr) (elt : Expr) (tc : TT) (te : TE) : Prop :=
  ∀ (cl : List (Str × Addr)) (C : Addr) (s0 : Shared) (H0 : Hp) (fp : List Addr), PTs (cxC X scope cl C s0 H0 fp (tg :: M)) cs tc ∧ PE (cxC X scope cl C s0 H0 fp (tg :: M)) elt te
theorem pe_compG {wi : TI} {t : TE} (hc : X.calm = true) (S : CompScope scope X.env X.N M) (nd : (tg :: M).Nodup) (hl : scope.names.lookup tg = some .local) (hi : PI X (.Name tg tp) iter wi) (hin : Inner X scope tg M cs elt tc te)
    (ht : ∀ σ H Q, t σ H Q → tComp 1 wi (gName 0) tc te σ H Q) (hs : ∀ x, foldedSetIterable iter X.env x = pure x) : PE X (.ListComp elt [⟨.Name tg tp, iter, cs, 0⟩] scope pos) t := by
  have hx : (relabel scope X.env).names.lookup tg = some .local := by
    rw [lookup_relabel, hl]
    rfl
  exact PE.imp (pe_comp (xs := [tg]) (M := M) hc S hi (fun cl C s0 H0 fp => ⟨pg_name (i := 0) nd rfl (Or.inl hx) (Or.inr hx), hin cl C s0 H0 fp⟩) (fun v σ H Q h => hg_one h) hs) ht
theorem pe_compR1 {a : Expr} {ta : TA} {p pos' : Pos} (hc : X.calm = true) (S : CompScope scope X.env X.N M) (nd : (tg :: M).Nodup) (hl : scope.names.lookup tg = some .local) (hg : Gl X "range") (hm : X.mg "range" = none) (ha : PA X [a] ta) (mo : MonoA ta)
    (hin : Inner X scope tg M cs elt tc te) (hs : starEach [a] X.env = [(false, eval a X.env)] := by rfl) (hf : ∀ x, foldedSetIterable (.Call (.Name "range" p) [a] [] pos') X.env x = pure x := by intro _; rfl) :
    PE X (.ListComp elt [⟨.Name tg tp, .Call (.Name "range" p) [a] [] pos', cs, 0⟩] scope pos) (tCompR1 ta tc te) := by
  refine pe_compG hc S nd hl (pi_range1 hg hm ha hs) hin (fun σ H Q h => ?_) hf
  refine mo σ H _ _ (fun vs H1 q => ?_) h
  obtain ⟨j, e, j1, j2, q⟩ := q
  refine ⟨j, e, j1, j2, fun d hd => ?_⟩
  obtain ⟨Pv, h0, hs, hd⟩ := q d hd
  exact comp_range (k := 1) (g := gName 0) Pv h0 hs hd
theorem pe_compL {tl : TE} (hc : X.calm = true) (S : CompScope scope X.env X.N M) (nd : (tg :: M).Nodup) (hl : scope.names.lookup tg = some .local) (hi : PE X iter tl) (mo : MonoE tl)
    (hin : Inner X scope tg M cs elt tc te) (hf : ∀ x, foldedSetIterable iter X.env x = pure x := by intro _; rfl) : PE X (.ListComp elt [⟨.Name tg tp, iter, cs, 0⟩] scope pos) (tCompL X.K tl tc te) := by
  refine pe_compG hc S nd hl (pi_list hi) hin (fun σ H Q h => ?_) hf
  refine mo σ H _ _ (fun v H1 q => ?_) h
  obtain ⟨a, xs, e, j1, q⟩ := q
  refine ⟨a, e, ⟨xs, j1⟩, fun d hd => ?_⟩
  obtain ⟨Pv, h0, hl, hs, hd⟩ := q d hd
  exact comp_list (k := 1) (g := gName 0) Pv h0 hl hs hd
theorem pe_compT {tl : TE} (hc : X.calm = true) (S : CompScope scope X.env X.N M) (nd : (tg :: M).Nodup) (hl : scope.names.lookup tg = some .local) (hi : PE X iter tl) (mo : MonoE tl)
    (hin : Inner X scope tg M cs elt tc te) (hf : ∀ x, foldedSetIterable iter X.env x = pure x := by intro _; rfl) : PE X (.ListComp elt [⟨.Name tg tp, iter, cs, 0⟩] scope pos) (tCompT X.K tl tc te) := by
  refine pe_compG hc S nd hl (pi_tup hi) hin (fun σ H Q h => ?_) hf
  refine mo σ H _ _ (fun v H1 q => ?_) h
  obtain ⟨a, xs, e, j1, q⟩ := q
  refine ⟨a, e, ⟨xs, j1⟩, fun d hd => ?_⟩
  obtain ⟨Pv, h0, hl, hs, hd⟩ := q d hd
  exact comp_tup (k := 1) (g := gName 0) Pv h0 hl hs hd
theorem ps_compG {wi : TI} {t : TE} {i : Nat} {x : Str} {pos1 spos : Pos} (hc : X.calm = true) (S : CompScope scope X.env X.N M) (nd : (tg :: M).Nodup) (hl : scope.names.lookup tg = some .local) (hi : PI X (.Name tg tp) iter wi) (hin : Inner X scope tg M cs elt tc te)
    (ht : ∀ σ H Q, t σ H Q → tComp 1 wi (gName 0) tc te σ H Q) (hN : X.N.Nodup) (hix : X.N[i]? = some x) (hx : X.env.scope.names.lookup x = some .local) (hw : swapsWith (.ListComp elt [⟨.Name tg tp, iter, cs, 0⟩] scope pos) (some (.Name x pos1)) spos.line X.env = pure true) (hs : ∀ x, foldedSetIterable iter X.env x = pure x) :
    PS X (.Assign [.Name x pos1] (.ListComp elt [⟨.Name tg tp, iter, cs, 0⟩] scope pos) spos) (tAsg t (gName i)) := by
  have hx' : (relabel scope X.env).names.lookup tg = some .local := by
    rw [lookup_relabel, hl]
    rfl
  intro pins s σ H D I h
  exact ps_comp (xs := [tg]) (M := M) hc S hi (fun cl C s0 H0 fp => ⟨pg_name (i := 0) nd rfl (Or.inl hx') (Or.inr hx'), hin cl C s0 H0 fp⟩) (fun v σ H Q h => hg_one h) hN hix hx hw hs pins s σ H D I (ht _ _ _ h)
theorem ps_compR1 {a : Expr} {ta : TA} {p pos' pos1 spos : Pos} {i : Nat} {x : Str} (hN : X.N.Nodup) (hix : X.N[i]? = some x) (hx : X.env.scope.names.lookup x = some .local) (hc : X.calm = true) (S : CompScope scope X.env X.N M) (nd : (tg :: M).Nodup) (hl : scope.names.lookup tg = some .local) (hg : Gl X "range") (hm : X.mg "range" = none) (ha : PA X [a] ta) (mo : MonoA ta)
    (hin : Inner X scope tg M cs elt tc te) (hw : swapsWith (.ListComp elt [⟨.Name tg tp, .Call (.Name "range" p) [a] [] pos', cs, 0⟩] scope pos) (some (.Name x pos1)) spos.line X.env = pure true := by rfl)
    (hs : starEach [a] X.env = [(false, eval a X.env)] := by rfl) (hf : ∀ x, foldedSetIterable (.Call (.Name "range" p) [a] [] pos') X.env x = pure x := by intro _; rfl) :
    PS X (.Assign [.Name x pos1] (.ListComp elt [⟨.Name tg tp, .Call (.Name "range" p) [a] [] pos', cs, 0⟩] scope pos) spos) (tAsg (tCompR1 ta tc te) (gName i)) := by
  refine ps_compG hc S nd hl (pi_range1 hg hm ha hs) hin (fun σ H Q h => ?_) hN hix hx hw hf
  refine mo σ H _ _ (fun vs H1 q => ?_) h
  obtain ⟨j, e, j1, j2, q⟩ := q
  refine ⟨j, e, j1, j2, fun d hd => ?_⟩
  obtain ⟨Pv, h0, hs, hd⟩ := q d hd
  exact comp_range (k := 1) (g := gName 0) Pv h0 hs hd
end
theorem turn_all {te : TE} {σ : St} {d : Addr} {x : V} {H : Hp} {Z : Hp → Prop} (h : te (some x :: σ) H fun y H4 => ∃ ys, H4 d = some (.lst ys) ∧ ys.length < sizeLine ∧ Z (upd H4 d (.lst (ys ++ [y])))) : turnC tTrue te σ d x H Z := by
  unfold turnC tTrue
  exact iteT h
theorem mo_var {i : Nat} : MonoE (tVar i) := fun _ _ _ _ h ⟨v, e, q⟩ => ⟨v, e, h _ _ q⟩
theorem mo_nil : MonoA tNil := fun _ _ _ _ h q => h _ _ q
theorem mo_cons {te : TE} {ta : TA} (h1 : MonoE te) (h2 : MonoA ta) : MonoA (tCons te ta) := fun σ H Q Q' h q => h1 σ H _ _ (fun v H1 q1 => h2 σ H1 _ _ (fun vs H2 q2 => h _ _ q2) q1) q
end L2
set_option Elab.async false
set_option linter.all false
set_option maxRecDepth 100000
namespace L2
open PySem PySem.Spec PyProof.Rows
section
variable {α β : Type} {R : α → β → Prop}
theorem Paired.appendP : ∀ {xs ys : List α} {ds es : List β}, Paired R xs ds → Paired R ys es → Paired R (xs ++ ys) (ds ++ es)
  | _, _, _, _, .nil, s => s
  | _, _, _, _, .cons r t, s => .cons r (Paired.appendP t s)
theorem Paired.oneP {a : α} {b : β} (r : R a b) : Paired R [a] [b] := .cons r .nil
end
theorem at_int {ns : List Int} {k : Nat} {x : Int} (h : ns[k]? = some x) : atI (ns.map V.int) (k : Int) = some (.int x) := atI_nat (by rw [List.getElem?_map, h]; rfl)
theorem hu4 {A : Around} {k : Nat} (hr : Room k A) : A.units + 4 < cLine := by have := hr.units; omega
theorem small {n : Nat} (h : n ≤ 1000) : n ≤ sizeLine := Nat.le_of_lt (small1000 h)
theorem cut_to (xs : List V) (n : Nat) : cutV xs none (some (n : Int)) = xs.take n := by
  unfold cutV
  rw [HT.sIx_nat, HT.sIx_none]
  simp [List.take_eq_take_iff]
theorem cutLit (xs : List V) (i : Int) (h : 0 ≤ i) : cutV xs none (some i) = xs.take i.toNat := by
  obtain ⟨n, rfl⟩ : ∃ n : Nat, i = n := ⟨i.toNat, by omega⟩
  rw [cut_to]; rfl
theorem cut_sub (xs : List V) (lo hi : Option Int) : ∃ a b, cutV xs lo hi = (xs.drop a).take b := ⟨_, _, rfl⟩
theorem same_upd {H H1 : Hp} {d : Addr} {o : HO} (h : H d = none) (sm : Same H H1) : Same H (upd H1 d o) := fun b u q => by rw [upd_ne (ne_of_none q h)]; exact sm b u q
theorem cuts_ints (ns : List Int) (lo hi : Option Int) : ∃ ms : List Int, cutV (ns.map V.int) lo hi = ms.map V.int ∧ ms.length ≤ ns.length := by
  obtain ⟨a, b, e⟩ := cut_sub (ns.map V.int) lo hi
  exact ⟨(ns.drop a).take b, by rw [e, List.map_take, List.map_drop], by rw [List.length_take, List.length_drop]; omega⟩
structure Fns (P : Program) (w : World) (K : PySem.W.Frag) (mg : Str → Option Value) (base : Heap) (ps : List Str) (name : Str) (sp : Sp) (k : Nat) where
  g : Addr
  gd : FuncData
  ok : FnOk P w K mg base CX0 k g gd ps sp
  b : Binds K gd ps []
  kp : PySem.W.keepIn K (.ref g) = true
  m : mg name = some (.ref g)
def Fns.up {P : Program} {w : World} {K : PySem.W.Frag} {mg : Str → Option Value} {base : Heap} {ps : List Str} {name : Str} {sp : Sp} {j k : Nat} (f : Fns P w K mg base ps name sp j) (h : j ≤ k) : Fns P w K mg base ps name sp k := ⟨f.g, f.gd, f.ok.mono h, f.b, f.kp, f.m⟩
end L2
set_option Elab.async false
set_option linter.all false
set_option maxRecDepth 100000
namespace L2
open PySem PySem.Spec PyProof.Rows
def tMid (t : TS) : TS := fun D σ H => ∃ Mid : St → Hp → Prop, t { D with nx := Mid } σ H ∧ ∀ σ' H', Mid σ' H' → D.nx σ' H'
theorem ps_mid {X : Cx} {st : Stmt} {t : TS} (h : PS X st t) : PS X st (tMid t) := by
  intro pins s σ H D I ⟨Mid, h1, h2⟩
  refine thn (h pins s σ H _ I h1) fun fl s' q => ?_
  cases fl with
  | next => obtain ⟨σ', H', I', m⟩ := q; exact ⟨σ', H', I', h2 _ _ m⟩
  | brk => exact q
  | cont => exact q
  | ret u => exact q
def eMid (t : TE) : TE := fun σ H Q => ∃ Mid : V → Hp → Prop, t σ H Mid ∧ ∀ v H', Mid v H' → Q v H'
theorem pe_mid {X : Cx} {e : Expr} {t : TE} (h : PE X e t) : PE X e (eMid t) := by
  intro pins s σ H Q I ⟨Mid, h1, h2⟩
  exact thn (h pins s σ H _ I h1) fun u s' ⟨v, H', I', r, m⟩ => ⟨v, H', I', r, h2 _ _ m⟩
theorem mo_mid {t : TE} : MonoE (eMid t) := fun σ H Q Q' h ⟨Mid, h1, h2⟩ => ⟨Mid, h1, fun v H' m => h _ _ (h2 v H' m)⟩
theorem ixL {X : Cx} (K : PySem.W.Frag) (h : X.K = K := by rfl) : IxR X (rIxL K) := by subst h; exact ix_list
theorem ixT {X : Cx} (K : PySem.W.Frag) (h : X.K = K := by rfl) : IxR X (rIxT K) := by subst h; exact ix_tup
section
variable {X : Cx} {elt iter : Expr} {tg : Str} {tp : Pos} {cs : List Expr} {scope : Scope} {pos : Pos} {tc : TT} {te : TE} {M : List Str}
end
end L2
set_option Elab.async false
set_option linter.all false
set_option maxRecDepth 100000
namespace L2
open PySem PySem.Spec PyProof.Rows
def ExcAt (h : Heap) (e : Addr) (cls : Value) (od : Option Addr) (hd : Value) : Prop := ∃ oe vs, h.get? e = some oe ∧ oe.cls = cls ∧ oe.dict = od ∧ oe.data = .fields vs ∧ vs[1]? = some hd
def TbAt (h : Heap) (T : Addr) (fl : Value) : Prop := ∃ oT ts, h.get? T = some oT ∧ oT.data = .fields ts ∧ ts[3]? = some fl
def Mv (S fs : List Addr) (h h' : Heap) : Prop := ∀ b o, h.get? b = some o → b ∉ S → (b ∉ fs → h'.get? b = some o) ∧ ∃ sl, h'.get? b = some { o with slots := sl }
section
variable {S S' fs : List Addr} {h h1 h2 : Heap}
theorem Mv.trans (a : Mv S fs h h1) (b : Mv S fs h1 h2) : Mv S fs h h2 := fun c o e n => by
  obtain ⟨k, sl, e1⟩ := a c o e n
  obtain ⟨_, sl2, e2⟩ := b c _ e1 n
  exact ⟨fun nf => (b c o (k nf) n).1 nf, sl2, e2⟩
theorem Mv.mono (a : Mv S fs h h1) (hs : ∀ b ∈ S, b ∈ S') : Mv S' fs h h1 := fun b o e n => a b o e fun z => n (hs b z)
theorem Mv.frames (a : Mv S fs h h1) {base : Heap} {l : List Env} (hl : h.FunFrames base l) (hS : ∀ b ∈ S, ∀ o, h.get? b = some o → ∃ vs, o.data = .fields vs) : h1.FunFrames base l :=
  hl.of_keeps fun b o hb hn => by
    obtain ⟨_, sl, e⟩ := a b o hb fun z => by
      obtain ⟨vs, q⟩ := hS b z o hb
      exact hn vs q
    exact ⟨_, e, rfl⟩
end
theorem dict_mapFields (f : Array Value → Array Value) (o : Obj) : (Obj.mapFields f o).dict = o.dict := by
  obtain ⟨c, d, dt, sl⟩ := o
  cases dt <;> rfl
section
variable {M : Model} {A : Around} {E : Value → Shared → Prop} {s : Shared} {env : Env} {outer : List Env} {base : Heap} {L e T : Addr} {cls hd fl head : Value} {od : Option Addr} {S : List Addr} {Q : Unit → Shared → Prop}
theorem entry_add {hadNext : Bool} (hfr : A.frames = some (env :: outer)) (hl : s.heap.FunFrames base (env :: outer)) (hf : env.frame = some L) (x : ExcAt s.heap e cls od hd)
    (h : ∀ h' T, Mv [e] (frs (env :: outer)) s.heap h' → s.heap.objs.size ≤ T → T ≠ e → ExcAt h' e cls od (.ref T) → TbAt h' T (rawInt L) → Q () { s with heap := h' }) :
    wpAny M A (do let a ← frameOf env; let pl ← entryPlaceOf L hadNext; let b ← EntryCells.newEntry head a .none (rawInt L) .none pl; setField (.ref e) 1 b) Q E s := by
  obtain ⟨oe, vs, he, hc, hdd, hd1, h1⟩ := x
  have hsz : 1 < vs.size := (Array.getElem?_eq_some_iff.mp h1).1
  have ne : e ∉ frs (env :: outer) := fun hm => by
    obtain ⟨_, o, ho, hn⟩ := hl.mem hm
    rw [he] at ho
    cases ho
    exact hn vs hd1
  refine wpAny_bind (wpAny_frameOf_fun hfr hl hf fun g so => ?_)
  refine wpAny_bind (wpAny_entryPlaceOf fun pl hp => ?_)
  unfold EntryCells.newEntry newFields
  refine wpAny_bind (wpAny_newObj_type ?_ (hp.sizeOk5 _ _ _ _ _))
  have e1 : g.get? e = some oe := (so.2.1 e ne).trans he
  have hTe : g.objs.size ≠ e := Nat.ne_of_gt (Heap.lt_size e1)
  have t3 : ([head, .ref L, .none, rawInt L, .none] ++ (if pl.isEmpty then List.replicate 6 Value.none else pl)).toArray[3]? = some (rawInt L) := by simp
  generalize ([head, .ref L, .none, rawInt L, .none] ++ (if pl.isEmpty then List.replicate 6 Value.none else pl)).toArray = ts at t3 ⊢
  have e2 := Heap.get?_push_of_some (h := g) { cls := .type "traceback", dict := none, data := .fields ts } e1
  refine wpAny_setField e2 hd1 hsz (h _ g.objs.size (fun b o hb hn => ?_) (by rw [so.1]; exact Nat.le_refl _) hTe ?_ ?_)
  · have hbe : b ≠ e := fun z => hn (by rw [z]; exact List.mem_cons_self)
    have mv : ∀ o', g.get? b = some o' → ((g.push { cls := .type "traceback", dict := none, data := .fields ts }).update e (Obj.mapFields (·.setIfInBounds 1 (Value.ref g.objs.size)))).get? b = some o' := fun o' q => by
      rw [Heap.get?_update_other _ _ (Ne.symm hbe)]
      exact Heap.get?_push_of_some _ q
    obtain ⟨sl, q⟩ := so.2.2 b o hb
    exact ⟨fun nf => mv o ((so.2.1 b nf).trans hb), sl, mv _ q⟩
  · exact ⟨_, _, Heap.get?_update_self _ e2 (Obj.isFreed_of_fields (Obj.data_mapFields hd1 _)), (Obj.cls_mapFields _ _).trans hc, (dict_mapFields _ _).trans hdd, Obj.data_mapFields hd1 _, by simp [hsz]⟩
  · refine ⟨{ cls := .type "traceback", dict := none, data := .fields ts }, ts, ?_, rfl, t3⟩
    rw [Heap.get?_update_other _ _ (Ne.symm hTe)]
    exact Heap.get?_push_size g rfl
def Loose (h : Heap) (e : Addr) (cls : Value) (od : Option Addr) (S : List Addr) : Prop :=
  e ∈ S ∧ (∀ b ∈ S, ∀ o, h.get? b = some o → ∃ vs, o.data = .fields vs) ∧ ∃ hd, ExcAt h e cls od hd ∧ (hd = .none ∨ ∃ T, T ∈ S ∧ hd = .ref T ∧ T ≠ e ∧ TbAt h T .none)
theorem tb_set {x : Value} (t : TbAt s.heap T fl) (h : ∀ h', h'.objs.size = s.heap.objs.size → TbAt h' T x → (∀ b, b ≠ T → h'.get? b = s.heap.get? b) → Q () { s with heap := h' }) : wpAny M A (setField (.ref T) 3 x) Q E s := by
  obtain ⟨oT, ts, hT, hdT, h3⟩ := t
  have hsz : 3 < ts.size := (Array.getElem?_eq_some_iff.mp h3).1
  exact wpAny_setField hT hdT hsz (h _ (Heap.size_after_update ..) ⟨_, _, Heap.get?_update_self _ hT (Obj.isFreed_of_fields (Obj.data_mapFields hdT _)), Obj.data_mapFields hdT _, by simp [hsz]⟩ fun b hb => Heap.get?_update_other _ _ (Ne.symm hb))
theorem ExcAt.other {h h' : Heap} (x : ExcAt h e cls od hd) (k : h'.get? e = h.get? e) : ExcAt h' e cls od hd := by
  obtain ⟨oe, vs, he, r⟩ := x
  exact ⟨oe, vs, k.trans he, r⟩
theorem note_ex (hfr : A.frames = some (env :: outer)) (hl : s.heap.FunFrames base (env :: outer)) (hf : env.frame = some L) (lo : Loose s.heap e cls od S)
    (h : ∀ h' T, Mv S (frs (env :: outer)) s.heap h' → s.heap.objs.size ≤ T → T ≠ e → ExcAt h' e cls od (.ref T) → TbAt h' T (rawInt L) → Q () { s with heap := h' }) : wpAny M A (noteFrame (.ref e) env) Q E s := by
  obtain ⟨heS, hSf, hd, x, hh⟩ := lo
  unfold noteFrame
  simp only [hf]
  obtain ⟨oe, vs, he, hc, hdd, hd1, h1⟩ := id x
  refine wpAny_bind (wpAny_field he hd1 h1 ?_)
  rcases hh with rfl | ⟨T, hTS, rfl, hTe, tb⟩
  · rw [if_neg (by decide)]
    exact entry_add hfr hl hf x fun h' T m hs hT x' t' => h h' T (m.mono fun b hb => by rw [List.mem_singleton.mp hb]; exact heS) hs hT x' t'
  · rw [if_pos (show (Value.ref T != Value.none) = true from by simp)]
    obtain ⟨oT, ts, hT, hdT, h3⟩ := id tb
    refine wpAny_bind (wpAny_field hT hdT h3 ?_)
    rw [if_neg (show ¬ ((Value.none == rawInt L) = true) from by simp [rawInt])]
    refine wpAny_bind (tb_set tb fun g m1 t1 k1 => ?_)
    have m2 : Mv S (frs (env :: outer)) s.heap g := fun b o hb hn => by
      have hbT : b ≠ T := fun z => hn (by rw [z]; exact hTS)
      have q := (k1 b hbT).trans hb
      exact ⟨fun _ => q, o.slots, q⟩
    refine entry_add (s := { s with heap := g }) hfr (m2.frames hl hSf) hf (x.other (k1 e (Ne.symm hTe))) fun h' T' m hs hT' x' t' => ?_
    exact h h' T' (m2.trans (m.mono fun b hb => by rw [List.mem_singleton.mp hb]; exact heS)) (by rw [← m1]; exact hs) hT' x' t'
theorem flight_ex (x : ExcAt s.heap e cls od (.ref T)) (t : TbAt s.heap T fl) (hTe : T ≠ e) (h : ∀ h', h'.objs.size = s.heap.objs.size → ExcAt h' e cls od (.ref T) → TbAt h' T .none → (∀ b, b ≠ T → h'.get? b = s.heap.get? b) → Q () { s with heap := h' }) :
    wpAny M A (setFlight (.ref e) none) Q E s := by
  obtain ⟨oe, vs, he, hc, hdd, hd1, h1⟩ := id x
  unfold setFlight
  refine wpAny_bind (wpAny_field he hd1 h1 ?_)
  rw [if_pos (show (Value.ref T != Value.none) = true from by simp)]
  exact tb_set t fun g m1 t1 k1 => h g m1 (x.other (k1 e (Ne.symm hTe))) t1 k1
theorem loose_of {h : Heap} (x : ExcAt h e cls od (.ref T)) (t : TbAt h T .none) (hT : T ≠ e) : Loose h e cls od [T, e] := by
  refine ⟨List.mem_cons_of_mem _ List.mem_cons_self, fun b hb o ho => ?_, .ref T, x, .inr ⟨T, List.mem_cons_self, rfl, hT, t⟩⟩
  rcases List.mem_cons.mp hb with hb | hb
  · obtain ⟨oT, ts, q, hd, _⟩ := t
    rw [hb, q] at ho
    cases ho
    exact ⟨ts, hd⟩
  · obtain ⟨oe, vs, q, _, _, hd, _⟩ := x
    rw [List.mem_singleton.mp hb, q] at ho
    cases ho
    exact ⟨vs, hd⟩
theorem land_ex (hfr : A.frames = some (env :: outer)) (hl : s.heap.FunFrames base (env :: outer)) (hf : env.frame = some L) (lo : Loose s.heap e cls od S)
    (h : ∀ h' T, Mv S (frs (env :: outer)) s.heap h' → s.heap.objs.size ≤ T → T ≠ e → ExcAt h' e cls od (.ref T) → TbAt h' T .none → Q () { s with heap := h' }) :
    wpAny M A (noteFrame (.ref e) env) (fun _ s1 => wpAny M A (setFlight (.ref e) none) Q E s1) E s := by
  refine note_ex hfr hl hf lo fun g T m hs hT x t => ?_
  refine flight_ex (s := { s with heap := g }) x t hT fun h' m1 x' t' k1 => ?_
  have mm : Mv S (frs (env :: outer)) s.heap h' := fun b o hb hn => by
    have hbT : b ≠ T := Nat.ne_of_lt (Nat.lt_of_lt_of_le (Heap.lt_size hb) hs)
    obtain ⟨q1, sl, q2⟩ := m b o hb hn
    exact ⟨fun nf => (k1 b hbT).trans (q1 nf), sl, (k1 b hbT).trans q2⟩
  exact h h' T mm hs hT x' t'
theorem leave_ex (hfr : A.frames = some (env :: outer)) (hl : s.heap.FunFrames base (env :: outer)) (hf : env.frame = some L) (lo : Loose s.heap e cls od S)
    (h : ∀ h' T, Mv S (frs (env :: outer)) s.heap h' → s.heap.objs.size ≤ T → Loose h' e cls od [T, e] → Q () { s with heap := h' }) : wpAny M A (leaving env (.ref e)) Q E s := by
  unfold leaving
  exact wpAny_bind (land_ex hfr hl hf lo fun h' T m hs hT x t => h h' T m hs (loose_of x t hT))
end
theorem ObjOk.obj {P : Program} {w : World} {H : Hp} {h : Heap} {a : Addr} {o : HO} (x : ObjOk P w H h a o) : ∃ ob, h.get? a = some ob := by
  cases o with
  | lst xs => obtain ⟨_, _, _, _, e⟩ := x; exact ⟨_, e⟩
  | tup xs => obtain ⟨_, _, _, ob, e, _⟩ := x; exact ⟨_, e⟩
  | dK kvs => obtain ⟨_, _, _, _, ob, _, _, e, _⟩ := x; exact ⟨_, e⟩
  | dT kvs => obtain ⟨_, _, _, _, ob, _, _, e, _⟩ := x; exact ⟨_, e⟩
  | set S n => obtain ⟨ob, _, _, _, e, _⟩ := x; exact ⟨_, e⟩
  | ins C dx fs => obtain ⟨_, _, _, e, _⟩ := x; exact ⟨_, e⟩
  | own y => exact x
  | xd fs => obtain ⟨_, ⟨ob, _, _, e, _⟩, _⟩ := x; exact ⟨_, e⟩
  | rng lo hi => obtain ⟨_, _, _, e⟩ := x; exact ⟨_, e⟩
  | frz ob u => obtain ⟨e, _⟩ := x; exact ⟨_, e⟩
  | tbl ps => exact ⟨_, show h.get? a = some _ from x⟩
  | met f y => exact ⟨_, show h.get? a = some _ from x⟩
  | ext φ => obtain ⟨_, e, _⟩ := x; exact e
theorem HOk.none_of {P : Program} {w : World} {H : Hp} {h : Heap} (x : HOk P w H h) {a : Addr} (n : h.get? a = none) : H a = none := by
  cases e : H a with
  | none => rfl
  | some o =>
    obtain ⟨ob, q⟩ := (x a o e).obj
    rw [n] at q
    cases q
section
variable {X : Cx} {pins : List (Addr × Obj)} {σ : St} {H H' : Hp} {s : Shared} {h' : Heap} {b : Addr} {S : List Addr}
def Off (X : Cx) (pins : List (Addr × Obj)) (b : Addr) : Prop :=
  (∀ o, X.s₀.heap.get? b = some o → b ∈ X.ex) ∧ b ≠ X.env.locals ∧ (∀ x c, X.env.cells.lookup x = some c → c ≠ b) ∧ ∀ p ∈ X.pn ++ pins, p.1 ≠ b
theorem Inv.off (I : Inv X pins σ H s) (n : s.heap.get? b = none) : Off X pins b := by
  refine ⟨fun o e => ?_, fun z => ?_, fun x c e z => ?_, fun p hp z => ?_⟩
  · by_cases hx : b ∈ X.ex
    · exact hx
    · obtain ⟨o', e'⟩ := I.base.there b o e hx
      rw [n] at e'
      cases e'
  · obtain ⟨m, ⟨o, _, _, ho, _⟩, _⟩ := I.loc
    rw [z, ho] at n
    cases n
  · obtain ⟨v, o, ho, _⟩ := I.cell x c e
    rw [z, n] at ho
    cases ho
  · have q := (I.pin p hp).1
    rw [z, n] at q
    cases q
theorem Inv.moved {t' : Nat} (I : Inv X pins σ H s) (m : Mv S (frs X.stack) s.heap h') (hS : ∀ b ∈ S, Off X pins b ∧ H b = none) : Inv X pins σ H { s with heap := h', toks := t' } := by
  have neL : ∀ b o, X.s₀.heap.get? b = some o → b ≠ X.env.locals := fun b o e => Nat.ne_of_lt (Nat.lt_of_lt_of_le (Heap.lt_size e) I.ok.above)
  have nS : ∀ b o, X.s₀.heap.get? b = some o → b ∉ X.ex → b ∉ S := fun b o e hx z => hx ((hS b z).1.1 o e)
  have nst : ∀ b, b ≠ X.env.locals → b ∉ X.fs → b ∉ frs X.stack := fun b h1 h2 z => (List.mem_cons.mp (I.stkSub b z)).elim h1 h2
  have cellM : ∀ x c, X.env.cells.lookup x = some c → ∀ v, s.heap.IsCell c v → h'.IsCell c v := fun x c e v ⟨o, ho, hd⟩ => by
    obtain ⟨_, sl, q⟩ := m c o ho fun z => (hS c z).1.2.2.1 x c e rfl
    exact ⟨_, q, hd⟩
  refine ⟨I.ok, I.os, I.bare, ⟨fun b o e n hb hx => ?_, fun b o e n hb hx => ?_, I.base.free, fun b o e hx => ?_, I.base.tups, I.base.frzs, I.base.tbls⟩, ?_, fun x c e => ?_, I.free, I.freeC, fun p hp => ?_, fun b u e => ?_, I.len⟩
  · exact (m b o (I.base.keep b o e n hb hx) (nS b o e hx)).1 (nst b (neL b o e) hb)
  · obtain ⟨sl, e1⟩ := I.base.slot b o e n hb hx
    obtain ⟨_, sl', e2⟩ := m b _ e1 (nS b o e hx)
    exact ⟨sl', e2⟩
  · obtain ⟨o', e1⟩ := I.base.there b o e hx
    obtain ⟨_, sl, e2⟩ := m b _ e1 (nS b o e hx)
    exact ⟨_, e2⟩
  · obtain ⟨mm, hn, hl⟩ := I.loc
    refine ⟨mm, ?_, fun i x v e1 e2 e3 => ?_⟩
    · obtain ⟨o, es, ep, ho, r⟩ := hn
      obtain ⟨_, sl, q⟩ := m _ o ho fun z => (hS _ z).1.2.1 rfl
      exact ⟨_, es, ep, q, r⟩
    · obtain ⟨u, r, l⟩ := hl i x v e1 e2 e3
      refine ⟨u, r, ?_⟩
      rcases l with l | ⟨k, c, e, z⟩
      · exact .inl l
      · exact .inr ⟨k, c, e, cellM x c e _ z⟩
  · obtain ⟨v, z⟩ := I.cell x c e
    exact ⟨v, cellM x c e v z⟩
  · obtain ⟨e, n, ne, nf, d⟩ := I.pin p hp
    exact ⟨(m _ _ e fun z => (hS _ z).1.2.2.2 p hp rfl).1 (nst _ ne nf), n, ne, nf, d⟩
  · refine (I.hok b u e).stay (fun c v hc q => ?_) (fun _ q => q) fun _ _ q => q
    have ht : H c ≠ none := by
      rcases hc with rfl | hc
      · rw [e]; exact fun z => nomatch z
      · rw [hc]; exact fun z => nomatch z
    exact (m c v q fun z => ht (hS c z).2).1 fun z => ht (I.stkFree c z)
theorem Inv.track {φ : Heap → Prop} (I : Inv X pins σ H s) (ob : Off X pins b) (n : H b = none) (hφ : φ s.heap) (ho : ∃ o, s.heap.get? b = some o) (st : ∀ h1 h2 : Heap, φ h1 → (∀ o, h1.get? b = some o → h2.get? b = some o) → φ h2)
    (nf : b ∉ X.fs) : Inv X pins σ (upd H b (.ext φ)) s := by
  refine ⟨I.ok, I.os, I.bare, ⟨I.base.keep, I.base.slot, fun c o e n' hx => ?_, I.base.there, fun c xs e => ?_, fun c o u e => ?_, fun c ps e => ?_⟩, I.loc, I.cell, ?_, fun x c e => ?_, fun p hp => ?_, fun c u e => ?_, I.len⟩
  · have hcb : c ≠ b := fun z => by
      subst z
      exact hx (ob.1 o e)
    rw [upd_ne hcb]
    exact I.base.free c o e n' hx
  · rw [upd_ne (ne_of_none (I.base.tups c xs e) n)]
    exact I.base.tups c xs e
  · rw [upd_ne (ne_of_none (I.base.frzs c o u e) n)]
    exact I.base.frzs c o u e
  · obtain ⟨more, q⟩ := I.base.tbls c ps e
    exact ⟨more, by rw [upd_ne (ne_of_none q n)]; exact q⟩
  · rw [upd_ne (Ne.symm ob.2.1)]
    exact I.free
  · rw [upd_ne (ob.2.2.1 x c e)]
    exact I.freeC x c e
  · obtain ⟨e, n', ne, nf', d⟩ := I.pin p hp
    exact ⟨e, by rw [upd_ne (ob.2.2.2 p hp)]; exact n', ne, nf', d⟩
  · by_cases hc : c = b
    · subst hc
      rw [upd_same] at e
      cases e
      exact ⟨hφ, ho, st⟩
    · rw [upd_ne hc] at e
      refine (I.hok c u e).stay (fun _ _ _ q => q) (fun d r => ?_) fun d xs r => ?_
      · rw [upd_ne (ne_of_none r n)]; exact r
      · rw [upd_ne (ne_of_none r n)]; exact r
end
def CXF (P : Program) (w : World) : CXT := fun outer H s E e s' => ∃ (ea : Addr) (cls : Value) (od : Option Addr) (S : List Addr) (H' : Hp), e = .ref ea ∧ s'.os = s.os ∧ AllBare s'.gens ∧
  Un (frs outer) [] H H' s.heap s'.heap ∧ HOk P w H' s'.heap ∧ Loose s'.heap ea cls od S ∧ (∀ b ∈ S, s.heap.get? b = none ∧ H' b = none) ∧ E cls od H'
section
variable {P : Program} {w : World} {K : PySem.W.Frag} {mg : Str → Option Value} {base : Heap} {N : List Str} {qual : Str} {scope : Scope} {f : Addr} {cd : Value} {A : Around} {outer : List Env} {s₀ : Shared} {H₀ : Hp} {E : XK}
theorem takes_def : Passes (CXF P w) (cxOf (CXF P w) P w K mg base N qual scope f cd A outer s₀ H₀ E) E := by
  intro pins σ H s e s' I h
  obtain ⟨ea, cls, od, S, H', rfl, os, bare, un, hok, lo, hS, q⟩ := h
  have I1 := I.call' (ch := []) os un hok bare (fun b z => absurd z (by simp))
  show wpAny _ _ (leaving _ (.ref ea)) _ _ s'
  refine leave_ex I.ok.frames I1.stack rfl lo fun h' T m hs lo' => ?_
  have I2 : Inv _ pins σ H' { s' with heap := h', toks := s'.toks } := I1.moved (S := S) m fun b hb => ⟨I.off (hS b hb).1, (hS b hb).2⟩
  have out : ∀ b, Off (cxOf (CXF P w) P w K mg base N qual scope f cd A outer s₀ H₀ E) pins b → s₀.heap.get? b = none := fun b ob => by
    cases e : s₀.heap.get? b with
    | none => rfl
    | some o => exact absurd (ob.1 o e) (by show b ∉ ([] : List Addr); simp)
  refine ⟨ea, cls, od, [T, ea], H', rfl, I2.os, I2.bare, I2.base, I2.hok, lo', fun b hb => ?_, q⟩
  rcases List.mem_cons.mp hb with rfl | hb
  · exact ⟨out _ (I1.off (Heap.get?_none_of_le hs)), I1.hok.fresh hs⟩
  · rw [List.mem_singleton.mp hb]
    exact ⟨out _ (I.off (hS ea lo.1).1), (hS ea lo.1).2⟩
theorem Fun.okF {x qual : Str} {st : Stmt} {f : Addr} {fd : FuncData} {N ps : List Str} {k : Nat} {sp : Sp} (F : Fun K x qual st f fd) (S : FnScope N ps (defScope st)) (len : ∀ vs H Q E, sp vs H Q E → vs.length = ps.length)
    (hbody : ∀ (cdv : Value) (A : Around) (outer : List Env) (s : Shared) (H : Hp) (vs : List V) (Q : VK) (E : XK), Room k (A.deeper (envOfC qual (defScope st) s.heap.objs.size f cdv)) → sp vs H Q E →
      ∃ t, PSs (cxOf (CXF P w) P w K mg base N qual (defScope st) f cdv A outer s H E) (defBody st) t ∧ t { nx := fun _ H' => Q .non H', rt := Q } (start N vs) H) : FnOk P w K mg base (CXF P w) (k + 1) f fd ps sp := by
  obtain ⟨oc, od, kV, doc, pm, an, cdv, ct, osl, rfl, lk, hcd⟩ := F.ex
  exact fn_of lk hcd S len fun A outer s H vs Q E hr hsp => hbody cdv A outer s H vs Q E hr hsp
end
abbrev bmVE : List Value := [.type "ValueError", .type "Exception", .type "BaseException", .type "object"]
abbrev newVE : String := "ValueError.__new__"
structure Ecl (K : PySem.W.Frag) (C : Addr) : Prop where
  ex : PySem.W.excIn K C bmVE newVE = true
theorem Ecl.obj {K : PySem.W.Frag} {C : Addr} (c : Ecl K C) {h : Heap} (X : K.In h) : ∃ bm N nm q bs hdct sn sub ab col dd k0 k1 k2 k3 k5 mN, h.get? C = some (excClassObj nm q C N bs bm hdct sn sub ab col dd k0 k1 k2 k3 k5 newVE) ∧ h.Ns N mN ∧ mN "__init__" = none ∧ OwnTail h bmVE bm := by
  have q := c.ex
  unfold PySem.W.excIn at q
  split at q
  · rename_i dd cd sl ho
    split at q
    · rename_i C' bm k0 k1 k2 k3 n k5 hm hs
      simp only [Bool.and_eq_true, beq_iff_eq, Bool.not_eq_true'] at q
      obtain ⟨⟨⟨⟨⟨rfl, rfl⟩, hdel⟩, ht⟩, hok⟩, hni⟩ := q
      obtain ⟨nm, bs, mro, ns, qn, hd, sn, sub, ab, col, del⟩ := cd
      dsimp only at hm hdel hok hni
      subst hm hdel
      obtain ⟨l⟩ := sl
      have hl : l = [k0, k1, k2, k3, some (.builtin newVE), k5] := hs
      subst hl
      exact ⟨bm, ns, nm, qn, bs, hd, sn, sub, ab, col, dd, k0, k1, k2, k3, k5, _, X _ _ ho, .of_isNs (PySem.W.isNs_of_in X hok), PySem.W.nsMap_none_of_in X hok hni, PySem.W.tail_of_in X ht⟩
    · cases q
  · cases q
def tRaise (C : Addr) (E : XK) (ta : TA) : TS := fun _ σ H => ta σ H fun vs H1 => vs.length ≤ 1000 ∧ E (.ref C) none H1
theorem ps_raise {X : Cx} {E : XK} {x : Str} {C : Addr} {np cpos pos : Pos} {e : Expr} {es : List Expr} {ta : TA} (hx : Passes (CXF X.prog X.w) X E) (hc : X.calm = true) (hg : Gl X x) (hm : X.mg x = some (.ref C)) (hcl : Ecl X.K C) (ha : PA X (e :: es) ta)
    (hdb : (x == ("__debug__" : Str)) = false := by decide) (he : starEach (e :: es) X.env = (false, eval e X.env) :: starEach es X.env := by rfl) (hpl : (backTo cpos (starEach (e :: es) X.env)).any (·.1) = false := by rfl) :
    PS X (.Raise (some (.Call (.Name x np) (e :: es) [] cpos)) none pos) (tRaise C E ta) := by
  intro pins s σ H D I h
  obtain ⟨bm, N, nm, q, bs, hdct, sn, sub, ab, col, dd, k0, k1, k2, k3, k5, mN, hC, hN, hni, T⟩ := hcl.obj I.ok.mod.kin
  refine wpAny_Raise_call_subT (C := C) (nm := nm) (q := q) (N := N) (bs := bs) (bm := bm) (hdct := hdct) (sn := sn) (sub := sub) (ab := ab) (col := col) (dd := dd) (k0 := k0) (k1 := k1) (k2 := k2) (k3 := k3) (k5 := k5) PySem.F.excBase_ValueError (T.hasType (by decide +kernel)) (I.ok.hd hc) hpl hni (ld_glob I hg hm ⟨rfl, ?_⟩ hdb)
  have ha' := ha cpos pins s σ H _ I h
  rw [he] at ha' ⊢
  refine Calls.evalArgs_plain (thn ha' fun us s1 ⟨vs, H1, I1, r, hl, q⟩ => ?_)
  have kb := I1.bk
  refine ⟨rfl, ?_, kb _ _ hC, hN.keeps kb, T.keeps kb, fun h' ea me => ?_⟩
  · show us.length ≤ sizeLine
    rw [← r.length]
    exact small hl
  · refine hx pins σ H1 s1 (.ref ea) _ I1 ⟨ea, .ref C, none, [ea], H1, rfl, rfl, I1.bare, Un.kept me.keeps, I1.hok.kept me.keeps, ?_, fun b hb => ?_, q⟩
    · obtain ⟨t, ht, _, _⟩ := me.there
      refine ⟨List.mem_cons_self, fun b hb o ho => ?_, .none, ⟨_, _, ht, rfl, rfl, rfl, rfl⟩, .inl rfl⟩
      rw [List.mem_singleton.mp hb, ht] at ho
      cases ho
      exact ⟨_, rfl⟩
    · rw [List.mem_singleton.mp hb]
      exact ⟨me.new, I1.hok.none_of me.new⟩
abbrev Cx.tryx (X : Cx) (pn : List (Addr × Obj)) (xe : Value → Shared → Prop) : Cx := { X with pn := pn, xe := xe }
abbrev Cx.hand (X : Cx) (ea : Addr) : Cx := { X with A := X.A.mark (some (.ref ea)), calm := false, xe := fun _ _ => False }
section
variable {X : Cx} {pins pins' : List (Addr × Obj)} {σ : St} {H : Hp} {s : Shared} {h' : Heap} {ea : Addr} {xe : Value → Shared → Prop}
theorem Inv.tryx (I : Inv X pins σ H s) (xe : Value → Shared → Prop) : Inv (X.tryx (X.pn ++ pins) xe) [] σ H s :=
  ⟨⟨I.ok.mod, I.ok.kind, I.ok.glob, I.ok.blt, I.ok.above, I.ok.inj, I.ok.has, I.ok.cab, I.ok.hd, I.ok.frames, I.ok.stk, I.ok.exf, I.ok.bs, I.ok.bsz, I.ok.noex, I.ok.exfs, I.ok.funs, I.ok.frf⟩, I.os, I.bare, I.base, I.loc, I.cell, I.free, I.freeC,
    fun p hp => I.pin p (by rw [List.append_nil] at hp; exact hp), I.hok, I.len⟩
theorem Inv.untryx (ok : X.Ok) (I : Inv (X.tryx (X.pn ++ pins) xe) pins' σ H s) : Inv X pins σ H s :=
  ⟨ok, I.os, I.bare, I.base, I.loc, I.cell, I.free, I.freeC, fun p hp => I.pin p (List.mem_append_left _ hp), I.hok, I.len⟩
theorem Inv.hand (I : Inv X pins σ H s) (ea : Addr) : Inv (X.hand ea) pins σ H s :=
  ⟨⟨I.ok.mod, I.ok.kind, I.ok.glob, I.ok.blt, I.ok.above, I.ok.inj, I.ok.has, I.ok.cab, fun z => absurd (show false = true from z) (by decide), I.ok.frames, I.ok.stk, I.ok.exf, I.ok.bs, I.ok.bsz, I.ok.noex, I.ok.exfs, I.ok.funs, I.ok.frf⟩, I.os, I.bare, I.base, I.loc, I.cell, I.free, I.freeC, I.pin, I.hok, I.len⟩
theorem Inv.unhand (ok : X.Ok) (I : Inv (X.hand ea) pins σ H s) : Inv X pins σ H s := ⟨ok, I.os, I.bare, I.base, I.loc, I.cell, I.free, I.freeC, I.pin, I.hok, I.len⟩
theorem Inv.unbind {i : Nat} {n : Str} {m : Str → Option Value} {v : Option Value} {t' : Nat} (I : Inv X pins σ H s) (hN : X.N.Nodup) (hi : X.N[i]? = some n)
    (hm : ∀ (i : Nat) (x : Str) (v : V), X.N[i]? = some x → σ[i]? = some (some v) → Vis X.env.scope x → ∃ u, RelV v u ∧ Look X.env s.heap m x u)
    (hns : h'.Ns X.env.locals (fun x => if x = n then v else m x)) (hs : Heap.SameBut X.env.locals s.heap h') : Inv X pins (σ.set i none) H { s with heap := h', toks := t' } := by
  have k : ∀ b o, b ≠ X.env.locals → s.heap.get? b = some o → h'.get? b = some o := fun b o ne e => (hs.2 b ne).trans e
  have neL : ∀ b o, X.s₀.heap.get? b = some o → b ≠ X.env.locals := fun b o e => Nat.ne_of_lt (Nat.lt_of_lt_of_le (Heap.lt_size e) I.ok.above)
  have cellM : ∀ x c, X.env.cells.lookup x = some c → ∀ v, s.heap.IsCell c v → h'.IsCell c v := fun x c e v ⟨o, ho, hd⟩ => ⟨o, k c o (I.cne x c e) ho, hd⟩
  refine ⟨I.ok, I.os, I.bare, ⟨fun b o e n hb hx => ?_, fun b o e n hb hx => ?_, I.base.free, fun b o e hx => ?_, I.base.tups, I.base.frzs, I.base.tbls⟩, ⟨_, hns, fun j x w e1 e2 e3 => ?_⟩, fun x c e => ?_, I.free, I.freeC, fun p hp => ?_, fun b u e => ?_, ?_⟩
  · exact k b o (neL b o e) (I.base.keep b o e n hb hx)
  · obtain ⟨sl, q⟩ := I.base.slot b o e n hb hx
    exact ⟨sl, k b _ (neL b o e) q⟩
  · obtain ⟨o', q⟩ := I.base.there b o e hx
    exact ⟨o', k b _ (neL b o e) q⟩
  · have hji : j ≠ i := fun z => by
      subst z
      rw [List.getElem?_set] at e2
      split at e2
      · split at e2 <;> cases e2
      · contradiction
    rw [List.getElem?_set_ne (Ne.symm hji)] at e2
    have hxn : x ≠ n := fun z => hji (nodup_ix hN (z ▸ e1) hi)
    obtain ⟨u, r, l⟩ := hm j x w e1 e2 e3
    refine ⟨u, r, ?_⟩
    rcases l with ⟨l1, l2⟩ | ⟨l1, c, e, z⟩
    · exact .inl ⟨l1, by show (if x = n then v else m x) = some u; rw [if_neg hxn]; exact l2⟩
    · exact .inr ⟨l1, c, e, cellM x c e _ z⟩
  · obtain ⟨v, z⟩ := I.cell x c e
    exact ⟨v, cellM x c e v z⟩
  · obtain ⟨e, n', ne, nf, d⟩ := I.pin p hp
    exact ⟨k _ _ ne e, n', ne, nf, d⟩
  · refine (I.hok b u e).stay (fun c v hc q => k c v (fun z => ?_) q) (fun _ q => q) fun _ _ q => q
    rcases hc with rfl | hc
    · rw [z, I.free] at e; cases e
    · rw [z, I.free] at hc; cases hc
  · rw [List.length_set]
    exact I.len
end
def excO (ea C : Addr) (od : Option Addr) : HO := .ext fun h => ∃ oe vs, h.get? ea = some oe ∧ oe.cls = .ref C ∧ oe.dict = od ∧ oe.data = .fields vs
structure Hcl (K : PySem.W.Frag) (D : Addr) : Prop where
  ty : PySem.W.typeIn K (.ref D) = some (.type "type")
  cl : (PySem.W.clsIn K D).isSome = true
  be : PySem.W.subIn K (.ref D) (.type "BaseException") = some true
theorem exc_matches {K : PySem.W.Frag} {M : Model} {A : Around} {E : Value → Shared → Prop} {s : Shared} {ea C D : Addr} {oe : Obj} {Q : Bool → Shared → Prop} (X : K.In s.heap) (he : s.heap.get? ea = some oe) (hc : oe.cls = .ref C) (hD : Hcl K D)
    (sb : PySem.W.subIn K (.ref C) (.ref D) = some true) (h : Q true s) : wpAny M A (excMatches (.ref ea) (.ref D)) Q E s := by
  obtain ⟨hp, g, d, tk, os⟩ := s
  have L1 : PySem.W.Looks M hp (typeOf (.ref D)) (.type "type") := PySem.W.looks_typeIn X hD.ty
  have L2 : PySem.W.Looks M hp (isType (.ref D)) true := by
    have q := hD.cl
    unfold PySem.W.clsIn at q
    split at q
    · rename_i ho
      intro A' Q' E' s' k q
      unfold isType loadHead
      exact wpAny_bind (wpAny_loadPart (k _ _ (X _ _ ho)) (wpAny_pure q))
    · cases q
  have L3 : PySem.W.Looks M hp (isSubtype (.ref D) (.type "BaseException")) true := PySem.W.looks_subIn X hD.be
  have L4 : PySem.W.Looks M hp (isSubtype (.ref C) (.ref D)) true := PySem.W.looks_subIn X sb
  have L5 : PySem.W.Looks M hp (typeOf (.ref ea)) (.ref C) := hc ▸ (PySem.W.Looks.ld he).andThen .now
  have L6 : PySem.W.Looks M hp (isSubtype (.type "type") (.type "tuple")) false := .of_pure tc_notTuple
  unfold excMatches isInstance
  repeat (first | with_reducible refine PySem.W.Looks.at (by assumption) ?_ | wp_step)
  exact h
end L2
set_option Elab.async false
set_option linter.all false
set_option maxRecDepth 100000
namespace L2
open PySem PySem.Spec PyProof.Rows
def PassesS (X : Cx) (Ex : St → XK) : Prop := ∀ (pins : List (Addr × Obj)) (σ : St) (H : Hp) (s : Shared) (e : Value) (s' : Shared), Inv X pins σ H s → CXF X.prog X.w X.stack H s (Ex σ) e s' → X.xe e s'
def tCallX (sp : Sp) (Ex : St → XK) (t : TA) : TE := fun σ H Q => t σ H fun vs H1 => sp vs H1 Q (Ex σ)
theorem pe_callX {X : Cx} {k : Nat} {f : Addr} {fd : FuncData} {ps : List Str} {sp : Sp} {Ex : St → XK} {x : Str} {p pos : Pos} {e : Expr} {es : List Expr} {t : TA} (F : FnOk X.prog X.w X.K X.mg X.base (CXF X.prog X.w) k f fd ps sp) (hr : Room k X.A) (hg : Gl X x) (hm : X.mg x = some (.ref f))
    (hk : PySem.W.keepIn X.K (.ref f) = true) (hb : Binds X.K fd ps []) (hx : PassesS X Ex) (ha : PA X (e :: es) t) (hdb : (x == ("__debug__" : Str)) = false := by decide) (he : starEach (e :: es) X.env = (false, eval e X.env) :: starEach es X.env := by rfl)
    (hpl : (backTo pos (starEach es X.env)).any (·.1) = false := by rfl) : PE X (.Call (.Name x p) (e :: es) [] pos) (tCallX sp Ex t) := by
  intro pins s σ H Q I h
  refine wpAny_Call_Name_kw (ld_glob I hg hm ?_ hdb)
  refine PySem.W.callWith_K (h₀ := X.base) I.ok.mod.kin hk (thn (ha pos pins s σ H _ I h) fun us s1 ⟨vs, H1, I1, r, q⟩ => ⟨I1.kIn, ?_⟩) he hpl
  have hl : us.length = ps.length := by rw [← r.length]; exact F.len _ _ _ _ q
  have hb' := hb s1 us I1.kIn (by rw [List.append_nil]; exact hl)
  rw [List.append_nil] at hb'
  refine wpAny_call (codeAny_mono (F.run X.A X.stack s1 H1 ⟨us, []⟩ us vs Q (Ex σ) hr I1.env0 hb' r q) fun r s' hq => ?_)
  cases r with
  | error e => exact hx pins σ H1 s1 e s' I1 hq
  | ok fl =>
    cases fl with
    | ret u => exact I1.after hq
    | next => exact False.elim hq
    | brk => exact False.elim hq
    | cont => exact False.elim hq
def tTry (K : PySem.W.Frag) (D : Addr) (i : Nat) (tb : (St → XK) → TS) (ts : TS) : TS := fun G σ H => tb (fun σ' cls od H' => ∃ C, cls = .ref C ∧ PySem.W.subIn K (.ref C) (.ref D) = some true ∧
  ∀ ea, H' ea = none → ts { G with nx := fun σ2 H2 => G.nx (σ2.set i none) H2, bk := fun _ _ => False, ct := fun _ _ => False } (σ'.set i (some (.ref ea))) (upd H' ea (excO ea C od))) G σ H
theorem ps_try {X : Cx} {body suite : List Stmt} {b₀ : Stmt} {c n : Str} {D : Addr} {i : Nat} {np hpos pos : Pos} {tb : (St → XK) → TS} {ts : TS} (hc : X.calm = true) (hfrm : X.stack = X.env :: X.outer ∧ X.env.frame = some X.env.locals)
    (hb : ∀ (pn : List (Addr × Obj)) (xe : Value → Shared → Prop) (Ex : St → XK), PassesS (X.tryx pn xe) Ex → PSs (X.tryx pn xe) body (tb Ex)) (hs : ∀ ea, PSs (X.hand ea) (b₀ :: suite) ts)
    (hN : X.N.Nodup) (hi : X.N[i]? = some n) (hn : X.env.scope.names.lookup n = some .local) (hg : Gl X c) (hm : X.mg c = some (.ref D)) (hD : Hcl X.K D) (hdb : (c == ("__debug__" : Str)) = false := by decide) :
    PS X (.Try body [.ExceptHandler (some (.Name c np)) (some n) (b₀ :: suite) hpos] [] [] pos) (tTry X.K D i tb ts) := by
  intro pins s σ H G I h
  refine wpAny_Try_except ?_
  refine wpAny_mono (hb (X.pn ++ pins) (fun e s₁ => wpAny (model X.prog X.w) X.A (noteFrame e X.env) (fun _ s₂ => wpAny (model X.prog X.w) X.A (setFlight e none) (fun _ s₃ =>
      wpAny (model X.prog X.w) X.A (handleBy e X.env [.ExceptHandler (some (.Name c np)) (some n) (b₀ :: suite) hpos]) (SP X pins G) X.xe s₃) X.xe s₂) X.xe s₁) _ ?_ [] s σ H G (I.tryx _) h) (fun fl s1 q => ?_) fun _ _ z => z
  · intro pins' σ1 H1 s1 e s' I1 hx
    obtain ⟨ea, cls, od, S, H', rfl, os, bare, un, hok, lo, hS, C, rfl, sb, q⟩ := hx
    have J1 : Inv X pins σ1 H1 s1 := I1.untryx I.ok
    have J2 : Inv X pins σ1 H' s' := J1.call' (ch := []) os un hok bare (fun b z => absurd z (by simp))
    show wpAny _ _ (noteFrame (.ref ea) X.env) _ _ s'
    have st := J2.stack
    rw [hfrm.1] at st
    have hfr := I.ok.frames
    rw [hfrm.1] at hfr
    refine land_ex hfr st hfrm.2 lo fun h3 T m3 hs3 hT x3 t3 => ?_
    rw [← hfrm.1] at m3
    have J3 : Inv X pins σ1 H' { s' with heap := h3, toks := s'.toks } := J2.moved (S := S) m3 fun b hb => ⟨J1.off (hS b hb).1, (hS b hb).2⟩
    have oE := J1.off (hS ea lo.1).1
    have nE := (hS ea lo.1).2
    obtain ⟨oe, vs, he, hcls, hdd, hd1, h1⟩ := id x3
    refine wpAny_handleBy_cons (codeAny_handlers_test ?_) (by intro z; cases z)
    refine ld_glob (X := X.hand ea) (J3.hand ea) hg hm ?_ hdb
    refine exc_matches (K := X.K) J3.kIn he hcls hD sb (codeAny_handlers_suite_as ?_)
    refine flight_ex (s := { s' with heap := h3, toks := s'.toks }) x3 t3 hT fun h4 m4 x4 t4 k4 => ?_
    have J4 : Inv X pins σ1 H' { s' with heap := h4, toks := s'.toks } := J3.moved (S := [T]) (fun b o hb hn => by
      have hbT : b ≠ T := fun z => hn (by rw [z]; exact List.mem_cons_self)
      have z := (k4 b hbT).trans hb
      exact ⟨fun _ => z, o.slots, z⟩) fun b hb => by
        rw [List.mem_singleton.mp hb]
        exact ⟨J2.off (Heap.get?_none_of_le hs3), J2.hok.fresh hs3⟩
    have nf : ea ∉ X.fs := fun z => by
      obtain ⟨_, o, ho, _⟩ := I.ok.funs.mem z
      exact I.ok.exfs ea (oE.1 o ho) z
    obtain ⟨oe4, vs4, he4, hcls4, hdd4, hd14, h14⟩ := id x4
    have J5 : Inv X pins σ1 (upd H' ea (excO ea C od)) { s' with heap := h4, toks := s'.toks } := J4.track oE nE ⟨oe4, vs4, he4, hcls4, hdd4, hd14⟩ ⟨oe4, he4⟩ (fun g1 g2 ⟨o, v, q1, q2⟩ k => ⟨o, v, k o q1, q2⟩) nf
    refine store_ok2 (X := X.hand ea) (J5.hand ea) hN hi (.inl hn) (v := .ref ea) rfl (fun s6 J6 _ => ?_) (.inr hn)
    refine wpAny_mono (hs ea pins s6 _ _ _ J6 (q ea nE)) (fun f s7 z => ?_) fun _ _ z => z.elim
    have fin : ∀ {σ7 : St} {H7 : Hp} {R : Shared → Prop}, Inv (X.hand ea) pins σ7 H7 s7 → (∀ s8, Inv X pins (σ7.set i none) H7 s8 → R s8) → wpAny (model X.prog X.w) X.A (do bindName X.env n .none; unbindBehindTheSuite X.env n hpos) (fun _ s8 => R s8) X.xe s7 := fun {σ7 H7 R} J7 k => by
      have J7' := J7.unhand I.ok
      obtain ⟨m, hn7, hl7⟩ := id J7'.loc
      exact wpAny_nameGoes_keeps hn hn7 (by rw [I.ok.kind]; rfl) fun h' v hns hsb => k _ (J7'.unbind hN hi hl7 hns hsb)
    cases f with
    | next =>
      obtain ⟨σ7, H7, J7, z⟩ := z
      exact fin (R := SP X pins G .next) J7 fun s8 J8 => ⟨_, H7, J8, z⟩
    | brk =>
      obtain ⟨σ7, H7, J7, z⟩ := z
      exact z.elim
    | cont =>
      obtain ⟨σ7, H7, J7, z⟩ := z
      exact z.elim
    | ret u =>
      obtain ⟨v, σ7, H7, J7, r, z⟩ := z
      exact fin (R := SP X pins G (.ret u)) J7 fun s8 J8 => ⟨v, _, H7, J8, r, z⟩
  · cases fl with
    | next =>
      obtain ⟨σ', H', J, z⟩ := q
      exact wpAny_execs_nil ⟨σ', H', J.untryx I.ok, z⟩
    | brk =>
      obtain ⟨σ', H', J, z⟩ := q
      exact ⟨σ', H', J.untryx I.ok, z⟩
    | cont =>
      obtain ⟨σ', H', J, z⟩ := q
      exact ⟨σ', H', J.untryx I.ok, z⟩
    | ret u =>
      obtain ⟨v, σ', H', J, r, z⟩ := q
      exact ⟨v, σ', H', J.untryx I.ok, r, z⟩
end L2
set_option Elab.async false
set_option linter.all false
set_option maxRecDepth 100000
namespace L2
open PySem PySem.Spec PyProof.Rows
structure Ek (K : PySem.W.Frag) (C : Addr) : Prop where
  cl : (PySem.W.clsIn K C).isSome = true
  ga : PySem.W.findIn K (.ref C) "__getattribute__" = some (some (.builtin "BaseException.__getattribute__"))
  gt : PySem.W.findIn K (.ref C) "__getattr__" = some none
  ca : PySem.W.findIn K (.ref C) "__class__" = some (some (.builtin "object.__class__"))
  be : PySem.W.subIn K (.ref C) (.type "BaseException") = some true
  ob : PySem.W.mroIn K C (.type "object") = some true
  cg : PySem.W.specialIn K (.builtin "object.__class__") "__get__" = some (some (.builtin "getset_descriptor.__get__"))
  ct : PySem.W.takesIn K (.builtin "object.__class__") = some true
section
variable {K : PySem.W.Frag} {prog : Program} {w : World} {A : Around} {E : Value → Shared → Prop} {s : Shared} {x C : Addr} {ox : Obj} {od : Option Obj} {name : Str} {tk : Tok}
theorem exc_check {M : Model} {nv : Value} {Q : Unit → Shared → Prop} (X : K.In s.heap) (I : PySem.W.InstAt s.heap x ox C od) (G : Ek K C) (h : Q () s) : wpAny M A (checkBuiltinCall "BaseException.__getattribute__" ⟨[.ref x, nv], []⟩) Q E s := by
  obtain ⟨hp, g, d, t, os⟩ := s
  have hk : builtinKind "BaseException.__getattribute__" = some .slot := by decide +kernel
  have hsplit : splitId "BaseException.__getattribute__" = some ("BaseException", "__getattribute__") := by decide +kernel
  have L0 := I.type (M := M)
  have L1 : PySem.W.Looks M hp (isSubtype (.ref C) (.type "BaseException")) true := PySem.W.looks_subIn X G.be
  have ha := PySem.F.args_bexc_ga (.ref x) nv
  simp only [checkBuiltinCall, hk, hsplit]
  refine wpAny_bind ?_
  unfold isInstance
  repeat (first | with_reducible refine PySem.W.Looks.at (by assumption) ?_ | wp_step)
  exact h
theorem exc_by {fill expr : Bool} {Q : Value → Shared → Prop} (X : K.In s.heap) (I : PySem.W.InstAt s.heap x ox C od) (G : Ek K C)
    (h : wpAny (model prog w) A.in1 (Builtin.«object.__getattribute__» ⟨[.ref x, .str name tk], []⟩) (fun fin s' => match fin with | .done (.ret v) => PySem.W.handedIn v = true ∧ Q v s' | .again c' => c'.quiet = true ∧ codeAny (model prog w) A c' (fun r s'' => match r with | .ok (.ret v) => PySem.W.handedIn v = true ∧ Q v s'' | _ => False) s' | _ => False) (fun _ _ => False) s) :
    wpAny (model prog w) A (getAttrBy (.ref x) (.str name tk) fill expr) Q E s := by
  obtain ⟨hp, g, d, t, os⟩ := s
  have L0 := I.type (M := model prog w)
  have L1 : PySem.W.Looks (model prog w) hp (typeLookup (.ref C) "__getattribute__") (some (.builtin "BaseException.__getattribute__")) := PySem.W.looks_findIn X G.ga
  have L2 : PySem.W.Looks (model prog w) hp (typeLookup (.ref C) "__getattr__") none := PySem.W.looks_findIn X G.gt
  have f3 := PySem.F.attr_ValueError.ga.bind (.ref x)
  unfold getAttrBy
  refine wpAny_holding (wpAny_bind (L0.at (wpAny_bind (L1.at ?_))))
  show wpAny _ _ (if (onTheHeap (.ref C) && Value.builtin "BaseException.__getattribute__" == .builtin "object.__getattribute__") = true then _ else _) _ _ _
  have hb : (onTheHeap (Value.ref C) && Value.builtin "BaseException.__getattribute__" == Value.builtin "object.__getattribute__") = false := by
    show (true && Value.builtin "BaseException.__getattribute__" == Value.builtin "object.__getattribute__") = false
    decide +kernel
  rw [hb, if_neg Bool.false_ne_true]
  unfold getAttrByItsOwn
  refine wpAny_bind ?_
  show wpAny _ _ (typeLookup (.ref C) "__getattr__") _ _ _
  refine L2.at ?_
  refine wpAny_bind (wpAny_attempt (wpAny_holding ?_))
  unfold callGetattribute
  rw [if_neg (by cases expr <;> decide)]
  unfold boundAndCalled
  refine wpAny_bind (wpAny_of_eq f3 ?_)
  show wpAny _ _ (call (.builtin "BaseException.__getattribute__") [.ref x, .str name tk]) _ _ _
  refine wpAny_call (codeAny_call_builtin PySem.F.attr_ValueError.ga.plain PySem.F.entry_bexc_ga (exc_check X I G ?_))
  refine wpAny_mono h (fun fin s' z => ?_) fun _ _ z => z.elim
  rcases fin with fl | c'
  · cases fl with
    | ret v =>
      obtain ⟨z1, z2⟩ := z
      show wpAny _ _ (handedOut v) _ _ _
      exact PySem.W.handed_on z1 z2
    | _ => exact z.elim
  · refine ⟨z.1, codeAny_mono z.2 fun r s'' y => ?_⟩
    rcases r with _ | fl
    · exact y.elim
    · cases fl with
      | ret v =>
        obtain ⟨z1, z2⟩ := y
        show wpAny _ _ (handedOut v) _ _ _
        exact PySem.W.handed_on z1 z2
      | _ => exact y.elim
theorem exc_class {Q : Option Value → Shared → Prop} (X : K.In s.heap) (I : PySem.W.InstAt s.heap x ox C od) (G : Ek K C) (h : Q (some (.ref C)) { s with toks := s.toks + 1 }) : wpAny (model prog w) A (getAttr? (.ref x) "__class__") Q E s := by
  obtain ⟨hp, g, d, t, os⟩ := s
  have hf : PySem.W.findObj K C od "__class__" = some (.bind (.builtin "getset_descriptor.__get__") (.builtin "object.__class__")) := by
    obtain ⟨cd, hc⟩ := Option.isSome_iff_exists.mp G.cl
    unfold PySem.W.findObj
    rw [hc, Option.bind_some, G.ca, Option.bind_some]
    simp [G.cg, G.ct]
  have L0 := I.type (M := model prog w)
  have L1 := PySem.W.looks_find (M := model prog w) X I hf
  unfold getAttr? getAttrBy?
  refine wpAny_bind (wpAny_mkText (wpAny_bind (wpAny_attempt ?_)))
  refine exc_by (s := ⟨hp, g, d, t + 1, os⟩) X I G ?_
  unfold Builtin.«object.__getattribute__»
  repeat (first | with_reducible refine PySem.W.Looks.at (by assumption) ?_ | wp_step)
  exact PySem.W.class_get (s := ⟨hp, g, d, t + 1, os⟩) X I G.ob (wpAny_pure ⟨rfl, wpAny_pure h⟩)
end
def xcIn (K : PySem.W.Frag) (C : Addr) : Bool :=
  PySem.W.typeIn K (.ref C) == some (.type "type") && (PySem.W.clsIn K C).isSome && PySem.W.subIn K (.ref C) (.type "BaseException") == some true &&
  PySem.W.findIn K (.ref C) "__getattribute__" == some (some (.builtin "BaseException.__getattribute__")) && PySem.W.findIn K (.ref C) "__getattr__" == some none && PySem.W.findIn K (.ref C) "__class__" == some (some (.builtin "object.__class__")) &&
  PySem.W.mroIn K C (.type "object") == some true && PySem.W.specialIn K (.builtin "object.__class__") "__get__" == some (some (.builtin "getset_descriptor.__get__")) && PySem.W.takesIn K (.builtin "object.__class__") == some true &&
  PySem.W.subIn K (.ref C) (.ref C) == some true && PySem.W.subIn K (.ref C) (.type "ValueError") == some true
structure XC (K : PySem.W.Frag) (C : Addr) : Prop where
  h : Hcl K C
  e : Ek K C
  sf : PySem.W.subIn K (.ref C) (.ref C) = some true
  ve : PySem.W.subIn K (.ref C) (.type "ValueError") = some true
theorem XC.of {K : PySem.W.Frag} {C : Addr} (q : xcIn K C = true) : XC K C := by
  unfold xcIn at q
  simp only [Bool.and_eq_true, beq_iff_eq] at q
  obtain ⟨⟨⟨⟨⟨⟨⟨⟨⟨⟨q1, q2⟩, q3⟩, q4⟩, q5⟩, q6⟩, q7⟩, q8⟩, q9⟩, q10⟩, q11⟩ := q
  exact ⟨⟨q1, q2, q3⟩, ⟨q2, q4, q5, q6, q3, q7, q8, q9⟩, q10, q11⟩
section
variable {K : PySem.W.Frag} {C D : Addr}
theorem kit_t (hD : Hcl K D) (sb : PySem.W.subIn K (.ref C) (.ref D) = some true) : PySem.W.kitOne K (.ref C) (.ref D) = some true := by
  unfold PySem.W.kitOne
  split
  · rfl
  · unfold PySem.W.kitCls
    dsimp only
    rw [if_pos (by rw [hD.cl, hD.ty]; rfl)]
    exact sb
theorem kit_f (hC : XC K C) (hD : Hcl K D) (sb : PySem.W.subIn K (.ref C) (.ref D) = some false) : PySem.W.kitOne K (.ref C) (.ref D) = some false := by
  unfold PySem.W.kitOne
  split
  · rename_i z
    have z' := beq_iff_eq.mp z
    rw [← z', hC.sf] at sb
    cases sb
  · unfold PySem.W.kitCls
    dsimp only
    rw [if_pos (by rw [hD.cl, hD.ty]; rfl)]
    exact sb
theorem kit_ve (hC : XC K C) : PySem.W.kitOne K (.ref C) (.type "ValueError") = some true := by
  unfold PySem.W.kitOne
  rw [if_neg (by intro z; cases beq_iff_eq.mp z)]
  unfold PySem.W.kitCls
  dsimp only
  rw [if_pos (show PySem.W.kitMeta "ValueError" = true by decide +kernel)]
  exact hC.ve
theorem kitx_exc {x : Addr} (G : Ek K C) : PySem.W.KitX K (.ref x) (.ref C) (fun h => ∃ ox od, PySem.W.InstAt h x ox C od) where
  ty := fun _ _ _ ⟨_, _, I⟩ => I.type
  it := fun _ _ X _ => by
    have q := G.cl
    unfold PySem.W.clsIn at q
    split at q
    · rename_i ho
      intro A' Q' E' s' k q
      unfold isType loadHead
      exact wpAny_bind (wpAny_loadPart (k _ _ (X _ _ ho)) (wpAny_pure q))
    · cases q
  ne := fun h tp dd its n sl X htp => by
    refine Bool.eq_false_iff.mpr fun z => ?_
    have e : C = tp := Value.ref.inj (beq_iff_eq.mp z)
    subst e
    have q := G.cl
    unfold PySem.W.clsIn at q
    split at q
    · rename_i ho
      have z := (X _ _ ho).symm.trans htp
      cases z
    · cases q
  ca := fun X ⟨_, _, I⟩ k => exc_class X I G k
end
def rIsiE (K : PySem.W.Frag) : List V → Hp → VK → Prop := fun xs H Q => ∃ ea C od c b, xs = [.ref ea, c] ∧ H ea = some (excO ea C od) ∧ Ek K C ∧ (od = none ∨ ∃ dx fs, od = some dx ∧ H dx = some (.xd fs)) ∧
  ((∃ D, c = .ref D ∧ PySem.W.kitOne K (.ref C) (.ref D) = some b) ∨ ∃ T, c = .ty T ∧ PySem.W.kitOne K (.ref C) (.type T) = some b) ∧ Q (.bl b) H
theorem inst_of {X : Cx} {pins : List (Addr × Obj)} {σ : St} {H : Hp} {s : Shared} {ea C : Addr} {od : Option Addr} (I : Inv X pins σ H s) (h : H ea = some (excO ea C od)) (hd : od = none ∨ ∃ dx fs, od = some dx ∧ H dx = some (.xd fs)) :
    ∃ ox o, PySem.W.InstAt s.heap ea ox C o := by
  obtain ⟨⟨oe, vs, he, hc, hdd, hdt⟩, _, _⟩ := I.hok ea _ h
  rcases hd with rfl | ⟨dx, fs, rfl, hx⟩
  · exact ⟨oe, none, he, hc, by unfold PySem.W.notCls; rw [hdt], by rw [hdd]; trivial⟩
  · obtain ⟨ob, hob⟩ := (I.hok dx _ hx).obj
    exact ⟨oe, some ob, he, hc, by unfold PySem.W.notCls; rw [hdt], by rw [hdd]; exact hob⟩
theorem isiE {X : Cx} (K : PySem.W.Frag) (hK : X.K = K := by rfl) : CallR X (.builtin "isinstance") (rIsiE K) := by
  subst hK
  intro pins s σ H xs us Q I r h
  obtain ⟨ea, C, od, c, b, rfl, he, G, hd, hc, q⟩ := h
  obtain ⟨u, v, rfl, r1, r2⟩ := r.two
  cases r1
  obtain ⟨ox, o, IA⟩ := inst_of I he hd
  rcases hc with ⟨D, rfl, e⟩ | ⟨T, rfl, e⟩
  · cases r2
    exact PySem.W.kia_one (kitx_exc G) I.kIn ⟨ox, o, IA⟩ e (fun z => nomatch z) fun tk => ⟨.bl b, H, I.tok tk, rfl, q⟩
  · cases r2
    exact PySem.W.kia_one (kitx_exc G) I.kIn ⟨ox, o, IA⟩ e (fun z => nomatch z) fun tk => ⟨.bl b, H, I.tok tk, rfl, q⟩
theorem b_VE : bootBuiltins "ValueError" = some (.type "ValueError") := by decide +kernel
structure Fns' (P : Program) (w : World) (K : PySem.W.Frag) (mg : Str → Option Value) (base : Heap) (ps : List Str) (name : Str) (sp : Sp) (k : Nat) where
  g : Addr
  gd : FuncData
  ok : FnOk P w K mg base (CXF P w) k g gd ps sp
  b : Binds K gd ps []
  kp : PySem.W.keepIn K (.ref g) = true
  m : mg name = some (.ref g)
def rEqLB : R2 := fun x y H Q => ∃ (a b : Addr) (ns ms : List Bool), x = .ref a ∧ y = .ref b ∧ H a = some (.lst (ns.map V.bl)) ∧ H b = some (.lst (ms.map V.bl)) ∧ Q (.bl (decide (ns = ms))) H
theorem op_eqLB {X : Cx} (hu : X.A.units + 4 < cLine) : OpR X (compareOp .Eq) rEqLB := by
  intro pins s σ H x y v u Q I rx ry h
  obtain ⟨a, b, ns, ms, rfl, rfl, e1, e2, q⟩ := h
  cases rx; cases ry
  exact rc_lsts (A := X.A) (n := 0) EqK.bl I.hok e1 e2 (Paired.bls ns) (Paired.bls ms) (by omega) _ _ _ _ ⟨.bl _, H, I, rfl, q⟩
def Fns'.up {P : Program} {w : World} {K : PySem.W.Frag} {mg : Str → Option Value} {base : Heap} {ps : List Str} {name : Str} {sp : Sp} {j k : Nat} (f : Fns' P w K mg base ps name sp j) (h : j ≤ k) : Fns' P w K mg base ps name sp k := ⟨f.g, f.gd, f.ok.mono h, f.b, f.kp, f.m⟩
end L2
set_option Elab.async false
set_option linter.all false
set_option maxRecDepth 100000
namespace L2
open PySem PySem.Spec PyProof.Rows
theorem old_tup {P : Program} {w : World} {H : Hp} {h : Heap} {a : Addr} {xs : List V} (x : ObjOk P w H h a (.tup xs)) : xs.length ≤ sizeLine ∧ ∃ its : List Value, Vals xs its ∧ PyProof.Rows.IsTup h a its.toArray := by
  obtain ⟨z, its, r, p⟩ := x
  exact ⟨z, its, r, IsTp.is p⟩
end L2
set_option Elab.async false
set_option linter.all false
set_option maxRecDepth 100000
set_option maxHeartbeats 1000000
namespace L2
open PySem PySem.Spec PyProof.Rows
section
variable {X : Cx}
def tFmt (tv : TE) : TE := fun σ H Q => tv σ H fun v H1 => (∃ z, v = .str z ∧ z.length ≤ sizeLine ∧ Q (.str z) H1) ∨ ∃ i, v = .int i ∧ i.natAbs.log2 < 1920 ∧ Q (.str (toString i)) H1
theorem pe_fmt {value : Expr} {pos : Pos} {tv : TE} (hv : PE X value tv) : PE X (.FormattedValue value (-1) none pos) (tFmt tv) := by
  intro pins s σ H Q I h
  refine FormattedValue_plain (thn (hv pins s σ H _ I h) fun v s1 ⟨x, H1, I1, r1, q1⟩ => ?_)
  rcases q1 with ⟨z, rfl, hz, q⟩ | ⟨i, rfl, hi, q⟩
  · obtain ⟨t, rfl⟩ := r1
    exact formatField_str (fun t' tk => ⟨.str z, H1, I1.tok _, ⟨_, rfl⟩, q⟩) hz
  · obtain ⟨t, rfl⟩ := r1
    exact formatField_int_small hi ⟨.str _, H1, I1.tok _, ⟨_, rfl⟩, q⟩
abbrev TJ := Str → TE
def PJ (X : Cx) (es : List Expr) (t : TJ) : Prop := ∀ (out : Str) (pins : List (Addr × Obj)) (s : Shared) (σ : St) (H : Hp) (Q : VK), Inv X pins σ H s → t out σ H Q → wpAny (model X.prog X.w) X.A (joinParts out (evalEach es X.env)) (EP X pins σ Q) X.xe s
def tJ0 : TJ := fun out σ H Q => out.length ≤ sizeLine ∧ Q (.str out) H
def tJ1 (te : TE) (tj : TJ) : TJ := fun out σ H Q => te σ H fun v H1 => ∃ z, v = .str z ∧ (out ++ z).length ≤ sizeLine ∧ tj (out ++ z) σ H1 Q
theorem pj_nil : PJ X [] tJ0 := fun out pins s σ H Q I h => joinParts_nil ⟨.str out, H, I.tok _, ⟨_, rfl⟩, h.2⟩ h.1
theorem pj_cons {e : Expr} {es : List Expr} {te : TE} {tj : TJ} (he : PE X e te) (hj : PJ X es tj) : PJ X (e :: es) (tJ1 te tj) := by
  intro out pins s σ H Q I h
  show wpAny _ _ (joinParts out (eval e X.env :: evalEach es X.env)) _ _ _
  refine joinParts_cons (thn (he pins s σ H _ I h) fun v s1 ⟨x, H1, I1, r1, q1⟩ => ?_)
  obtain ⟨z, rfl, hz, q⟩ := q1
  obtain ⟨t, rfl⟩ := r1
  exact ⟨hz, hj _ pins s1 σ H1 Q I1 q⟩
theorem pe_joined {v1 v2 : Expr} {rest : List Expr} {pos : Pos} {t : TJ} (h : PJ X (v1 :: v2 :: rest) t) : PE X (.JoinedStr (v1 :: v2 :: rest) pos) (t Str.empty) := by
  intro pins s σ H Q I hq
  exact JoinedStr_many (h Str.empty pins s σ H Q I hq)
theorem vals_strs : ∀ {zs : List Str} {its : List Value}, Vals (zs.map V.str) its → ∃ l : List (Str × Tok), its = strValues l ∧ l.map (·.1) = zs
  | [], _, .nil => ⟨[], rfl, rfl⟩
  | z :: zs, _, .cons ⟨t, e⟩ r => by
    obtain ⟨l, e1, e2⟩ := vals_strs r
    exact ⟨(z, t) :: l, by rw [e, e1]; rfl, by rw [List.map_cons, e2]⟩
theorem strs_vals : ∀ l : List (Str × Tok), Vals ((l.map (·.1)).map V.str) (strValues l)
  | [] => .nil
  | (z, t) :: l => .cons ⟨t, rfl⟩ (strs_vals l)
def rJoin : V → List V → Hp → VK → Prop := fun x vs H Q => ∃ (sep : Str) (l : Addr) (zs : List Str) (B : Nat), x = .str sep ∧ vs = [.ref l] ∧ H l = some (.lst (zs.map V.str)) ∧ (∀ z ∈ zs, z.length ≤ B) ∧ zs.length * B + zs.length * sep.length ≤ 16777216 ∧ Q (.str (Str.join sep zs)) H
theorem mt_join : MtM X "str.join" rJoin := by
  intro pins s σ H x vs v us Q I rx rv h
  obtain ⟨sep, l, zs, B, rfl, rfl, hH, hB, hz, q⟩ := h
  obtain ⟨t, rfl⟩ := rx
  obtain ⟨u, rfl, ru⟩ := rv.one
  cases ru
  obtain ⟨z, its, n, r, hl, e⟩ := I.lstM hH
  obtain ⟨ps, rfl, hp⟩ := vals_strs r
  have fit := StrLaws.joinFits hB hz
  have fl := joinFit_length fit
  rw [← hp] at fit fl
  refine call_meets F.slot_str_join (typeIs_str _ _ _) F.entry_str_join (F.args_str_join_2 _ _) (meets_str_join_list sep t l ps fit) ⟨⟨_, e, rfl, n, rfl⟩, ?_⟩
  rw [← hp, ← StrLaws.glued_eq_join] at q
  match ps, q with
  | [], q => exact ⟨fl, .str _, H, I.tok _, ⟨_, rfl⟩, q⟩
  | [p], q =>
    have e1 : Builtin.Str.glued sep ([p].map (·.1)) = p.1 := by rw [StrLaws.glued_eq_join]; rfl
    rw [e1] at q
    exact ⟨.str p.1, H, I, ⟨_, rfl⟩, q⟩
  | p :: p2 :: r, q => exact ⟨fl, .str _, H, I.tok _, ⟨_, rfl⟩, q⟩
def rSplit : V → List V → Hp → VK → Prop := fun x vs H Q => ∃ z y : Str, x = .str z ∧ vs = [.str y] ∧ (y.length == 0) = false ∧ z.length + 2 ≤ sizeLine ∧ ∀ p, H p = none → Q (.ref p) (upd H p (.lst ((Txt.split z y).map V.str)))
theorem mt_split : MtM X "str.split" rSplit := by
  intro pins s σ H x vs v us Q I rx rv h
  obtain ⟨z, y, rfl, rfl, hy, hz, q⟩ := h
  obtain ⟨t, rfl⟩ := rx
  obtain ⟨w', rfl, ru⟩ := rv.one
  obtain ⟨u, rfl⟩ := ru
  have fin : ∀ (l : List (Str × Tok)) (k : Nat), l.map (·.1) = Txt.split z y → EP X pins σ Q (.ref s.heap.objs.size) { s with toks := k, heap := s.heap.push { cls := .type "list", data := .seq (strValues l).toArray } } := fun l k e => by
    have r := strs_vals l
    rw [e] at r
    exact ⟨.ref _, _, I.lnew (t' := k) r (by
      rw [List.length_map]
      have := split_le z y
      omega), rfl, q _ I.fresh⟩
  have hn : (Builtin.Str.partsBetween z (Builtin.Str.occurrences z y 0 z.length (z.length + 1)) y.length).length ≤ sizeLine := by
    have e1 := StrLaws.occ_length_le z y 0 z.length (z.length + 1)
    rw [length_partsBetween]; omega
  cases h1 : (decide (z.length < y.length) || decide (Builtin.Str.strKind z < Builtin.Str.strKind y))
  · cases hf : (Builtin.Str.occurrences z y 0 z.length (z.length + 1)).isEmpty
    · refine call_meets F.slot_str_split (typeIs_str _ _ _) F.entry_str_split (F.args_str_split_2 _ _) (meets_str_split_sep z y t u h1 hy hf (by omega) hn) ?_
      show wants _ _ _ { s with toks := _, heap := s.heap.push { cls := .type "list", data := .seq (strsFrom s.toks (Builtin.Str.partsBetween z (Builtin.Str.occurrences z y 0 z.length (z.length + 1)) y.length)).toArray } }
      rw [strsFrom_eq]
      exact fin (numbered s.toks _) _ ((numbered_texts _ _).trans ((if_neg (ne_true_of_eq_false h1)).trans (if_neg (ne_true_of_eq_false hf))).symm)
    · exact call_meets F.slot_str_split (typeIs_str _ _ _) F.entry_str_split (F.args_str_split_2 _ _) (meets_str_split_not_found z y t u h1 hy hf) (fin [(z, t)] s.toks ((if_neg (ne_true_of_eq_false h1)).trans (if_pos hf)).symm)
  · exact call_meets F.slot_str_split (typeIs_str _ _ _) F.entry_str_split (F.args_str_split_2 _ _) (meets_str_split_cannot_occur z y t u h1) (fin [(z, t)] s.toks (if_pos h1).symm)
def rIntS : List V → Hp → VK → Prop := fun xs H Q => ∃ (z : Str) (n : Int), xs = [.str z] ∧ PySem.intText? z = some n ∧ z.length ≤ 640 ∧ Q (.int n) H
theorem call_int_str : CallR X (.type "int") rIntS := by
  intro pins s σ H xs us Q I r h
  obtain ⟨z, n, rfl, hn, hl, q⟩ := h
  obtain ⟨u, rfl, t, rfl⟩ := vals1 r
  exact PySem.W.KIN.call_text hn hl ⟨.int n, H, I.tok _, ⟨_, rfl⟩, q⟩
end
end L2
set_option Elab.async false
set_option linter.all false
set_option maxRecDepth 100000
set_option maxHeartbeats 1000000
namespace L2
open PySem PySem.Spec PyProof.Rows
def Asc (z : Str) : Prop := z.cps.all (· < 128) = true
def Its (z : Str) : It := ⟨fun i _ => i < z.cps.size, fun i H x H' => H' = H ∧ ∃ c, z.cps[i]? = some c ∧ x = .str ⟨#[c]⟩, fun i _ => z.cps.size ≤ i⟩
theorem turn_str {P : Program} {w : World} {K : PySem.W.Frag} {tg : Expr} (z : Str) (t : Tok) (it : Addr) : Turn P w K tg (Its z) [it] it (fun i h => h.IsStrIter it "str_ascii_iterator" z t i) where
  mem := by simp
  obj := fun i h st b hb => by
    have e : b = it := by simpa using hb
    subst e
    obtain ⟨o, e, c, d⟩ := st
    exact ⟨o, e, fun v z => by rw [d] at z; cases z⟩
  keep := fun i h h' st k => let ⟨o, ho, r⟩ := st; ⟨o, k it (by simp) o ho, r⟩
  item := by
    intro X hP hw hK hc i pins s σ H E I hf st hg
    subst hP hw hK
    obtain ⟨f0, f1, f2, f3, f4, f5⟩ := hf it (by simp)
    have hg : i < z.cps.size := hg
    refine wpAny_pyNext_ascii_item st (c := z.cps[i]) (by simp [hg]) fun h' st' sb => ?_
    have I1 : Inv X pins σ H { s with heap := h', toks := s.toks + 1 } := I.turned (t' := s.toks + 1) (fun b o hb e => (sb.2 b hb).trans e) f0 f1 f3 f4 f5
    obtain ⟨o, e, c, d⟩ := id st'
    exact ⟨_, rfl, go_of (s := { s with heap := h', toks := s.toks + 1 }) e c d (by decide) ⟨.str ⟨#[z.cps[i]]⟩, H, I1, ⟨_, rfl⟩, ⟨rfl, _, by simp [hg], rfl⟩, st', fun b hb => (hf b hb).1⟩⟩
  done := by
    intro X hP hw hK hc i pins s σ H E I hf st hg
    subst hP hw hK
    obtain ⟨f0, f1, f2, f3, f4, f5⟩ := hf it (by simp)
    have hg : z.cps.size ≤ i := hg
    exact wpAny_pyNext_ascii_end (I.ok.hd hc) st (by simp [hg]) fun h' eb => ⟨rfl, I.turned (t' := s.toks) (fun b o hb e => eb b o hb e) f0 f1 f3 f4 f5⟩
  self := fun _ _ _ _ _ st h => wpAny_pyIter_striter_ascii st h
section
variable {X : Cx} {tg : Expr}
def iStr (tl : TE) : TI := fun σ H R => tl σ H fun x H1 => ∃ z, x = .str z ∧ Asc z ∧ R (Its z) H1
theorem pi_str {l : Expr} {tl : TE} (hl : PE X l tl) : PI X tg l (iStr tl) := by
  intro pins s σ H R I h
  refine thn (hl pins s σ H _ I h) fun v s1 ⟨x, H1, I1, r1, q1⟩ => ?_
  obtain ⟨z, e, ha, q⟩ := q1
  subst e
  obtain ⟨t, rfl⟩ := r1
  refine wpAny_pyIter_ascii ha ?_
  refine ⟨s1.heap.objs.size, [s1.heap.objs.size], _, _, H1, rfl, I1.kept (t' := s1.toks) fun b o e => Heap.get?_push_of_some _ e, turn_str z t _, ⟨_, Heap.get?_push_size _ rfl, rfl, rfl⟩, fun b hb => ?_, q⟩
  have e : b = s1.heap.objs.size := by simpa using hb
  subst e
  exact I1.fpOk (Nat.le_refl _) (I1.hok.fresh (Nat.le_refl _))
end
theorem comp_str {z : Str} {k : Nat} {g : TG} {tc : TT} {te : TE} {σ : St} {H : Hp} {Q : VK} {d : Addr} (Pv : Nat → Hp → Prop) (h0 : Pv 0 (upd H d (.lst [])))
    (hs : ∀ i c H, z.cps.toList[i]? = some c → Pv i H → g (.str ⟨#[c]⟩) (List.replicate k none ++ σ) H fun σ2 H2 => tc σ2 H2 fun b H3 => if b = true then te σ2 H3 fun y H4 => ∃ ys, H4 d = some (.lst ys) ∧ ys.length < sizeLine ∧ Pv (i + 1) (upd H4 d (.lst (ys ++ [y]))) else Pv (i + 1) H3)
    (hd : ∀ H, Pv z.cps.size H → Q (.ref d) H) :
    ∃ W : Nat → Nat → Hp → Prop, (∃ m, W 0 m (upd H d (.lst []))) ∧ ∀ i m H, W i m H →
      ((Its z).stop i H ∧ Q (.ref d) H) ∨ ((Its z).go i H ∧ ∃ N : Hp → Prop, (∀ H', N H' → ∃ m', m' < m ∧ W (i + 1) m' H') ∧ ∀ x H', (Its z).yld i H x H' → g x (List.replicate k none ++ σ) H' fun σ2 H2 =>
        tc σ2 H2 fun b H3 => if b = true then te σ2 H3 fun y H4 => ∃ ys, H4 d = some (.lst ys) ∧ ys.length < sizeLine ∧ N (upd H4 d (.lst (ys ++ [y]))) else N H3) := by
  refine ⟨fun i m H => m = z.cps.size - i ∧ i ≤ z.cps.size ∧ Pv i H, ⟨z.cps.size, by simp, Nat.zero_le _, h0⟩, ?_⟩
  rintro i m H ⟨rfl, hi, p⟩
  by_cases hlt : i < z.cps.size
  · refine .inr ⟨hlt, Pv (i + 1), fun H' p' => ⟨z.cps.size - (i + 1), by omega, rfl, hlt, p'⟩, fun x H' y => ?_⟩
    obtain ⟨e, c, hc, y⟩ := y
    subst e y
    exact hs i c _ (by rw [Array.getElem?_toList]; exact hc) p
  · have e : i = z.cps.size := by omega
    subst e
    exact .inl ⟨Nat.le_refl _, hd H p⟩
def tCompStr (tl : TE) (tc : TT) (te : TE) : TE := fun σ H Q => tl σ H fun v H1 => ∃ z, v = .str z ∧ Asc z ∧ ∀ d, H1 d = none →
  ∃ Pv : Nat → Hp → Prop, Pv 0 (upd H1 d (.lst [])) ∧ (∀ i c H, z.cps.toList[i]? = some c → Pv i H → turnC tc te σ d (.str ⟨#[c]⟩) H (Pv (i + 1))) ∧ ∀ H, Pv z.cps.size H → Q (.ref d) H
section
variable {X : Cx} {elt iter : Expr} {tg : Str} {tp : Pos} {cs : List Expr} {scope : Scope} {pos : Pos} {tc : TT} {te : TE} {M : List Str}
theorem pe_compStr {tl : TE} (hc : X.calm = true) (S : CompScope scope X.env X.N M) (nd : (tg :: M).Nodup) (hl : scope.names.lookup tg = some .local) (hi : PE X iter tl) (mo : MonoE tl)
    (hin : Inner X scope tg M cs elt tc te) (hf : ∀ x, foldedSetIterable iter X.env x = pure x := by intro _; rfl) : PE X (.ListComp elt [⟨.Name tg tp, iter, cs, 0⟩] scope pos) (tCompStr tl tc te) := by
  refine pe_compG hc S nd hl (pi_str hi) hin (fun σ H Q h => ?_) hf
  refine mo σ H _ _ (fun v H1 q => ?_) h
  obtain ⟨z, e, ha, q⟩ := q
  refine ⟨z, e, ha, fun d hd => ?_⟩
  obtain ⟨Pv, h0, hs, hd⟩ := q d hd
  exact comp_str (k := 1) (g := gName 0) Pv h0 hs hd
end
end L2
set_option Elab.async false
set_option linter.all false
set_option maxRecDepth 100000
namespace L2
open PySem PySem.Spec PyProof.Rows
def exiIn (K : PySem.W.Frag) (C fI : Addr) : Bool := match K.lookup C with
  | some ⟨.type "type", _, .cls k, sl⟩ => match k.mro, sl.toList with
    | .ref C' :: bm, [_, _, _, _, some (.builtin n), _] => C' == C && n == newVE && !k.hasDel && k.hasDict && PySem.W.tailIn K bmVE bm && PySem.W.nsOkIn K k.ns && PySem.W.nsIn K k.ns "__init__" == some (some (.ref fI)) && PySem.W.typeIn K (.ref fI) == some (.type "function")
    | _, _ => false
  | _ => false
structure Eci (K : PySem.W.Frag) (C fI : Addr) : Prop where
  ex : exiIn K C fI = true
theorem ns_some_of {K : PySem.W.Frag} {h : Heap} {N : Addr} {x : Str} {v : Value} (X : K.In h) (e : PySem.W.nsOkIn K N = true) (q : PySem.W.nsIn K N x = some (some v)) : h.nsMap N x = some v := by
  obtain ⟨o, es, ep, ho, hd, _, hf⟩ := Heap.Ns.of_isNs (PySem.W.isNs_of_in X e)
  unfold PySem.W.nsIn at q
  split at q
  · rename_i c d es' n' sl q'
    have z := X _ _ q'
    rw [ho] at z
    cases z
    cases hd
    split at q
    · rename_i en he
      cases q
      rw [← hf]
      unfold nsFind findBy
      rw [← Array.find?_toList, he]
      rfl
    · split at q <;> cases q
  · cases q
theorem Eci.obj {K : PySem.W.Frag} {C fI : Addr} (c : Eci K C fI) {h : Heap} (X : K.In h) : ∃ bm N nm q bs sn sub ab col dd k0 k1 k2 k3 k5 mN oI, h.get? C = some (excClassObj nm q C N bs bm true sn sub ab col dd k0 k1 k2 k3 k5 newVE) ∧ h.Ns N mN ∧ mN "__init__" = some (.ref fI) ∧ OwnTail h bmVE bm ∧
    h.get? fI = some oI ∧ oI.cls = .type "function" := by
  have q := c.ex
  unfold exiIn at q
  split at q
  · rename_i dd cd sl ho
    split at q
    · rename_i C' bm k0 k1 k2 k3 n k5 hm hs
      simp only [Bool.and_eq_true, beq_iff_eq, Bool.not_eq_true'] at q
      obtain ⟨⟨⟨⟨⟨⟨⟨e1, e2⟩, e3⟩, e4⟩, e5⟩, e6⟩, e7⟩, e8⟩ := q
      subst e1 e2
      obtain ⟨nm, bs, mro, ns, qn, hd, sn, sub, ab, col, del⟩ := cd
      dsimp only at hm e3 e4 e6 e7
      subst hm e3 e4
      obtain ⟨l⟩ := sl
      have hl : l = [k0, k1, k2, k3, some (.builtin newVE), k5] := hs
      subst hl
      obtain ⟨oI, hoI, hcI⟩ := Option.map_eq_some_iff.mp e8
      exact ⟨bm, ns, nm, qn, bs, sn, sub, ab, col, dd, k0, k1, k2, k3, k5, _, oI, X _ _ ho, .of_isNs (PySem.W.isNs_of_in X e6), ns_some_of X e6 e7, PySem.W.tail_of_in X e5, X _ _ hoI, hcI⟩
    · cases q
  · cases q
section
variable {prog : Program} {w : World} {A : Around} {E : Value → Shared → Prop} {h : Heap} {g : Array GenState} {d : Drawn} {t : Nat} {os : OsState}
variable {nm q : Str} {C N : Addr} {bs bm : List Value} {hdct : Bool} {sn : List Str} {sub : List Value} {ab : Bool} {col : Option Bool} {dd : Option Addr} {k0 k1 k2 k3 k5 : Option Value}
theorem tcall_init (T : OwnTail h bmVE bm) {mN : Str → Option Value} {us : List Value} {fI : Addr} {oI : Obj} {Q : Fin → Shared → Prop} (hC : h.get? C = some (excClassObj nm q C N bs bm hdct sn sub ab col dd k0 k1 k2 k3 k5 newVE)) (hn : h.Ns N mN)
    (hi : mN "__init__" = some (.ref fI)) (hfI : h.get? fI = some oI) (hfc : oI.cls = .type "function")
    (hq : ∀ h' e, Heap.MadeExcOf h h' e (.ref C) us → wpAny (model prog w) A (call (.ref fI) (.ref e :: us)) (fun r s' => r = .none ∧ Q (.done (.ret (.ref e))) s') E ⟨h', g, d, t, os⟩) (hus : us.length ≤ sizeLine) :
    wpAny (model prog w) A (Builtin.«type.__call__» ⟨.ref C :: us, []⟩) Q E ⟨h, g, d, t, os⟩ := by
  have F := PySem.F.excBase_ValueError
  repeat (first | with_reducible refine wpAny_loadPart_at hC ?_ | with_reducible refine wpAny_madeBy_exc hC ?_ | wp_step)
  refine codeAny_call_builtin_code (Code.quiet_builtin _ F.quiet) (wpAny_check_new_subT F T hC (codeAny_exc_new_subT F T hC ?_ hus))
  show wpAny _ _ _ _ _ _
  generalize hp : ((h.push { cls := .type "tuple", data := .seq us.toArray }).push { cls := .ref C, data := .fields #[.ref h.objs.size, .none, .none, .none, .bool false, .none] }) = h2
  have kp : ∀ b o, h.get? b = some o → h2.get? b = some o := fun b o e => by rw [← hp]; exact Heap.get?_push_of_some _ (Heap.get?_push_of_some _ e)
  have hC1 := kp _ _ hC
  have hget : h2.get? (h.objs.size + 1) = some { cls := .ref C, data := .fields #[.ref h.objs.size, .none, .none, .none, .bool false, .none] } := by rw [← hp]; heap_get
  have htup : h2.get? h.objs.size = some { cls := .type "tuple", data := .seq us.toArray } := by rw [← hp]; exact Heap.get?_push_of_some _ (Heap.get?_push_at rfl rfl)
  have hcC : (Value.ref C :: bm).contains (.ref C) = true := by simp
  unfold isInstance
  repeat (first | with_reducible refine wpAny_loadPart_at hget ?_ | (with_reducible refine wpAny_isSubtype_exc hC1 ?_; rw [hcC]) | wp_step)
  show wpAny _ _ (typeLookup (.ref C) _) _ _ _
  refine wpAny_typeLookup_tail hC1 (hn.keeps kp) (T.keeps kp) F.mroIs F.init.lookup ?_
  rw [hi]
  refine wpAny_holding (wpAny_bind ?_)
  unfold bindSpecial
  refine wpAny_bind (wpAny_typeOf (T := "function") ⟨_, kp _ _ hfI, hfc⟩ ?_)
  rw [if_pos (by decide)]
  refine wpAny_pure (wpAny_bind (wpAny_mono (hq h2 (h.objs.size + 1) ⟨kp, Heap.get?_none_of_le (Nat.le_succ _), h.objs.size, hget, Heap.get?_none_of_le (Nat.le_refl _), htup⟩) (fun r s' hr => ?_) fun _ _ x => x))
  obtain ⟨rfl, hQ⟩ := hr
  wp_walk
  exact hQ
theorem call_init (T : OwnTail h bmVE bm) {mN : Str → Option Value} {us : List Value} {fI : Addr} {oI : Obj} {Q : Value → Shared → Prop} (hC : h.get? C = some (excClassObj nm q C N bs bm hdct sn sub ab col dd k0 k1 k2 k3 k5 newVE)) (hn : h.Ns N mN)
    (hi : mN "__init__" = some (.ref fI)) (hfI : h.get? fI = some oI) (hfc : oI.cls = .type "function")
    (hq : ∀ h' e, Heap.MadeExcOf h h' e (.ref C) us → wpAny (model prog w) (A.under (.builtin "type.__call__" ⟨.ref C :: us, []⟩)) (call (.ref fI) (.ref e :: us)) (fun r s' => r = .none ∧ Q (.ref e) s') E ⟨h', g, d, t, os⟩) (hus : us.length ≤ sizeLine) :
    wpAny (model prog w) A (call (.ref C) us) Q E ⟨h, g, d, t, os⟩ := by
  have f1 := tc_lookup
  have f2 := tc_bind (.ref C)
  have hT : (⟨h, g, d, t, os⟩ : Shared).TypeIs (.ref C) "type" := ⟨_, hC, rfl⟩
  refine wpAny_call (codeAny_of_tree ?_)
  show wpAny _ _ (callAny (.ref C) _) _ _ _
  repeat (any_goals (first | assumption | with_reducible refine wpAny_loadPart_at hC ?_ | wp_step))
  exact ⟨rfl, codeAny_call_builtin_at (Code.quiet_builtin _ (by decide +kernel)) entry_typeCall (wpAny_check_type_call_sub hC (tcall_init T hC hn hi hfI hfc (fun h' e hm => hq h' e hm) hus))⟩
end
end L2
set_option Elab.async false
set_option linter.all false
set_option maxRecDepth 100000
namespace L2
open PySem PySem.Spec PyProof.Rows PySem.Calls PySem.Builtin PySem.Builtin.ObjectAttr
def excN (ea C : Addr) (od : Option Addr) : HO := .ext fun h => ∃ oe vs, h.get? ea = some oe ∧ oe.cls = .ref C ∧ oe.dict = od ∧ oe.data = .fields vs ∧ vs[1]? = some .none
def xdO (d : Addr) (fs : List (Str × V)) : HO := .ext fun h => ∃ mA, h.Ns1 d mA ∧ (∀ f, RelO (fs.lookup f) (mA f)) ∧ PySem.Within mA (fs.map (·.1))
theorem excN_stay {ea C : Addr} {od : Option Addr} : ∀ h1 h2 : Heap, (∃ oe vs, h1.get? ea = some oe ∧ oe.cls = .ref C ∧ oe.dict = od ∧ oe.data = .fields vs ∧ vs[1]? = some .none) → (∀ o, h1.get? ea = some o → h2.get? ea = some o) → ∃ oe vs, h2.get? ea = some oe ∧ oe.cls = .ref C ∧ oe.dict = od ∧ oe.data = .fields vs ∧ vs[1]? = some .none :=
  fun _ _ ⟨oe, vs, he, r⟩ k => ⟨oe, vs, k oe he, r⟩
theorem ns1_stay {d : Addr} {mA : Str → Option Value} {h1 h2 : Heap} (n : h1.Ns1 d mA) (k : ∀ o, h1.get? d = some o → h2.get? d = some o) : h2.Ns1 d mA := by
  obtain ⟨o, es, ep, ho, r⟩ := n
  exact ⟨o, es, ep, k o ho, r⟩
theorem ns1_obj {d : Addr} {mA : Str → Option Value} {h1 : Heap} (n : h1.Ns1 d mA) : ∃ o, h1.get? d = some o := by
  obtain ⟨o, es, ep, ho, r⟩ := n
  exact ⟨o, ho⟩
def estIn (K : PySem.W.Frag) (C : Addr) : Bool := PySem.W.findIn K (.ref C) "__setattr__" == some (some (.builtin "object.__setattr__")) && PySem.W.mroIn K C (.type "object") == some true &&
  (PySem.W.clsIn K C).any fun k => k.hasDict && match k.mro with
    | .ref _ :: .ref _ :: r => r == bmVE
    | _ => false
structure Est (K : PySem.W.Frag) (C : Addr) : Prop where
  sa : PySem.W.findIn K (.ref C) "__setattr__" = some (some (.builtin "object.__setattr__"))
  ob : PySem.W.mroIn K C (.type "object") = some true
  cd : ∃ k a b, PySem.W.clsIn K C = some k ∧ k.hasDict = true ∧ k.mro = .ref a :: .ref b :: bmVE
theorem Est.of {K : PySem.W.Frag} {C : Addr} (q : estIn K C = true) : Est K C := by
  unfold estIn at q
  simp only [Bool.and_eq_true, beq_iff_eq] at q
  obtain ⟨⟨q1, q2⟩, q3⟩ := q
  refine ⟨q1, q2, ?_⟩
  cases hk : PySem.W.clsIn K C with
  | none => rw [hk] at q3; cases q3
  | some k =>
    rw [hk] at q3
    have q4 : (k.hasDict && match k.mro with
      | .ref _ :: .ref _ :: r => r == bmVE
      | _ => false) = true := q3
    rw [Bool.and_eq_true] at q4
    obtain ⟨q5, q6⟩ := q4
    split at q6
    · rename_i a b r hm
      exact ⟨k, a, b, rfl, q5, by rw [hm, beq_iff_eq.mp q6]⟩
    · cases q6
section
variable {K : PySem.W.Frag} {prog : Program} {w : World} {A : Around} {E : Value → Shared → Prop} {s : Shared} {x C : Addr} {ox : Obj} {od : Option Obj} {name : Str} {tk : Tok} {v : Value}
theorem esa_open {R : Result → Shared → Prop} (X : K.In s.heap) (I : PySem.W.InstAt s.heap x ox C od) (G : Est K C) (ht : PySem.W.takerIn K C name = some none)
    (h : ∀ b, wpAny (model prog w) A.in1 (storeInOwnDict (.ref x) (.ref C) (.str name tk) name v b) (fun fin s' => match fin with | .done f => R (.ok f) s' | .again c' => c'.quiet = true ∧ codeAny (model prog w) A c' R s') (fun e s' => R (.error e) s') s) :
    codeAny (model prog w) A (.call (.builtin "object.__setattr__") ⟨[.ref x, .str name tk, v], []⟩) R s := by
  have SF := PySem.F.store_object
  obtain ⟨k, a, b, hc, hh, hm⟩ := G.cd
  have sub : PySem.W.Looks (model prog w) s.heap (isInstance (.ref x) (.type "object")) true := I.type.andThen (PySem.W.looks_mroIn X G.ob)
  refine codeAny_call_builtin SF.slot.plain SF.entry (@PySem.W.check_slot (model prog w) _ _ s "object.__setattr__" "object" "__setattr__" (.ref x) [.str name tk, v] [] _ SF.kind SF.split sub (SF.args (.ref x) (.str name tk) v) ?_)
  obtain ⟨attr, ha, hr⟩ := Option.bind_eq_some_iff.mp ht
  have hml : PySem.W.Looks (model prog w) s.heap (mroOf (.ref C)) k.mro := (PySem.W.looks_clsIn X hc).andThen .now
  have L3 : PySem.W.Looks (model prog w) s.heap (storeTaker? attr) none := by
    cases attr with
    | none => exact .now
    | some y =>
      obtain ⟨b', hb, e'⟩ := Option.map_eq_some_iff.mp hr
      refine (PySem.W.looks_takesIn X hb).andThen ?_
      cases b' with
      | true => cases e'
      | false => exact .now
  rw [PySem.W.osa_eq, refuse_eq]
  refine wpAny_bind (wpAny_bind (I.type.here (wpAny_bind (hml.here ?_))))
  rw [hm, refuseLoop_ref, refuseLoop_ref, PySem.F.store_ValueError.passes]
  exact wpAny_pure (wpAny_bind (I.type.here (wpAny_bind ((PySem.W.looks_findIn X ha).here (wpAny_bind (L3.here (h _)))))))
theorem store_first {Q : Fin → Shared → Prop} {b : Bool} (X : K.In s.heap) (G : Est K C) (hx : s.heap.get? x = some ox) (hc : ox.cls = .ref C) (hd : ox.dict = none) {vs : Array Value} (hdt : ox.data = .fields vs)
    (h : ∀ h' tk' od', h'.Ns1 s.heap.objs.size (fun y => if y = name then some v else none) → h'.get? x = some { ox with dict := some s.heap.objs.size } → h'.get? s.heap.objs.size = some od' → (∀ b o, b ≠ x → s.heap.get? b = some o → h'.get? b = some o) → Q (.done (.ret .none)) { s with heap := h', toks := tk' }) :
    wpAny (model prog w) A (storeInOwnDict (.ref x) (.ref C) (.str name tk) name v b) Q E s := by
  obtain ⟨k, a, b', hk, hh, hm⟩ := G.cd
  refine wpAny_bind (wpAny_pure (wpAny_bind (wpAny_bind (wpAny_loadPart hx ?_))))
  obtain ⟨oc, odi, oda, osl⟩ := ox
  dsimp only at hc hd hdt
  subst hc hd hdt
  refine wpAny_bind ((PySem.W.looks_clsIn X hk).here ?_)
  rw [hh]
  have hx1 : (s.heap.push { cls := .type "dict", data := .dict #[] }).get? x = some ⟨.ref C, none, .fields vs, osl⟩ := Heap.get?_push_of_some _ hx
  have hxs : x ≠ s.heap.objs.size := Nat.ne_of_lt (Heap.lt_size hx)
  refine wpAny_bind (wpAny_alloc' ?_)
  refine wpAny_bind (wpAny_update' hx1 ?_)
  refine wpAny_pure (wpAny_bind (wpAny_pure ?_))
  have e1 : ((s.heap.push { cls := .type "dict", data := .dict #[] }).update x fun o => { cls := o.cls, dict := some s.heap.objs.size, data := o.data, slots := o.slots }).get? s.heap.objs.size = some { cls := .type "dict", data := .dict #[] } :=
    (Heap.get?_update_ne _ _ _ _ hxs.symm).trans (Heap.get?_push_at rfl rfl)
  have e2 : ((s.heap.push { cls := .type "dict", data := .dict #[] }).update x fun o => { cls := o.cls, dict := some s.heap.objs.size, data := o.data, slots := o.slots }).get? x = some ⟨.ref C, some s.heap.objs.size, .fields vs, osl⟩ := Heap.get?_update_self _ hx1 rfl
  have e3 : ∀ b o, b ≠ x → s.heap.get? b = some o → ((s.heap.push { cls := .type "dict", data := .dict #[] }).update x fun o => { cls := o.cls, dict := some s.heap.objs.size, data := o.data, slots := o.slots }).get? b = some o := fun b o hb e => (Heap.get?_update_ne _ _ _ _ hb).trans (Heap.get?_push_of_some _ e)
  generalize ((s.heap.push { cls := .type "dict", data := .dict #[] }).update x fun o => { cls := o.cls, dict := some s.heap.objs.size, data := o.data, slots := o.slots }) = h1 at e1 e2 e3 ⊢
  have n0 : h1.Ns s.heap.objs.size (fun _ => none) := ⟨_, #[], _, e1, rfl, fun e he => absurd he (by simp), fun _ => rfl⟩
  refine wpAny_bind (wpAny_nsSet1 (s := { s with heap := h1 }) (Heap.Ns1.of_empty n0) fun h' hn' hs => ?_)
  obtain ⟨oD, esD, epD, hoD, hdD, hcD⟩ := hn'.count (PySem.Within.cons name v PySem.Within.nil)
  refine wpAny_bind (wpAny_lookBehind hoD (by rw [hdD]; exact pastItsLine_dict (Nat.le_trans hcD (by rw [List.length_cons, List.length_nil, sizeLine_eq]; omega))) ?_)
  exact wpAny_pure (h h' _ oD hn' ((hs.2 x hxs).trans e2) hoD fun b o hb e => (hs.2 b (Nat.ne_of_lt (Heap.lt_size e))).trans (e3 b o hb e))
theorem store_next {Q : Fin → Shared → Prop} {b : Bool} {dx : Addr} {mA : Str → Option Value} {ns : List Str} (X : K.In s.heap) (G : Est K C) (hx : s.heap.get? x = some ox) (hc : ox.cls = .ref C) (hd : ox.dict = some dx) (hn : s.heap.Ns1 dx mA) (hw : PySem.Within mA ns) (hsz : ns.length ≤ 1000)
    (h : ∀ h' tk', h'.Ns1 dx (fun y => if y = name then some v else mA y) → Heap.SameBut dx s.heap h' → Q (.done (.ret .none)) { s with heap := h', toks := tk' }) :
    wpAny (model prog w) A (storeInOwnDict (.ref x) (.ref C) (.str name tk) name v b) Q E s := by
  obtain ⟨k, a, b', hk, hh, hm⟩ := G.cd
  refine wpAny_bind (wpAny_pure (wpAny_bind (wpAny_bind (wpAny_loadPart hx ?_))))
  obtain ⟨oc, odi, oda, osl⟩ := ox
  dsimp only at hc hd
  subst hc hd
  refine wpAny_bind ((PySem.W.looks_clsIn X hk).here ?_)
  rw [hh]
  refine wpAny_pure (a := some dx) (wpAny_bind (wpAny_pure (wpAny_bind ?_)))
  refine wpAny_nsSet1 hn fun h' hn' hs => ?_
  obtain ⟨oD, esD, epD, hoD, hdD, hcD⟩ := hn'.count (PySem.Within.cons name v hw)
  refine wpAny_bind (wpAny_lookBehind hoD (by rw [hdD]; exact pastItsLine_dict (Nat.le_trans hcD (by rw [List.length_cons, sizeLine_eq]; omega))) ?_)
  exact wpAny_pure (h h' _ hn' hs)
end
theorem relO_put {fs : List (Str × V)} {mA : Str → Option Value} {f : Str} {y : V} {u : Value} (r : ∀ f, RelO (fs.lookup f) (mA f)) (ry : RelV y u) : ∀ g, RelO ((putF f y fs).lookup g) (if g = f then some u else mA g) := fun g => by
  rw [lookup_putF]
  by_cases hg : g = f
  · rw [if_pos hg, if_pos hg]; exact ry
  · rw [if_neg hg, if_neg hg]; exact r g
def sXfld (K : PySem.W.Frag) (ta tv : TE) (f : Str) : TS := fun D σ H => tv σ H fun y H1 => ta σ H1 fun x H2 => ∃ e C, x = .ref e ∧ Est K C ∧ PySem.W.takerIn K C f = some none ∧
  ((H2 e = some (excN e C none) ∧ ∀ d, H2 d = none → d ≠ e → D.nx σ (upd (upd H2 d (xdO d [(f, y)])) e (excN e C (some d)))) ∨
   (∃ dx fs, H2 e = some (excN e C (some dx)) ∧ H2 dx = some (xdO dx fs) ∧ dx ≠ e ∧ fs.length ≤ 100 ∧ D.nx σ (upd H2 dx (xdO dx (putF f y fs)))))
theorem ps_xfld {X : Cx} {o value : Expr} {f : Str} {pos pos' : Pos} {ta tv : TE} (ha : PE X o ta) (hv : PE X value tv) (hs : swapsWith value (some (.Attribute o f pos')) pos.line X.env = pure false := by rfl) : PS X (.Assign [.Attribute o f pos'] value pos) (sXfld X.K ta tv f) := by
  intro pins s σ H D I h
  refine plainObj_wpAny_Assign_Attribute (thn (hv pins s σ H _ I h) fun u s1 ⟨y, H1, I1, ry, q⟩ => thn (ha pins s1 σ H1 _ I1 q) fun ov s2 ⟨x, H2, I2, rx, e, C, ex, G, ht, hcase⟩ => ?_) hs
  subst ex
  obtain rfl : ov = Value.ref e := rx
  rcases hcase with ⟨he, q⟩ | ⟨dx, fs, he, hdx, hne, hl, q⟩
  · obtain ⟨⟨oe, vs, ho, hc, hd, hdt, h1⟩, _, _⟩ := I2.hok e _ he
    have IA : PySem.W.InstAt s2.heap e oe C none := ⟨ho, hc, by unfold PySem.W.notCls; rw [hdt], by rw [hd]; trivial⟩
    refine PySem.W.set_plain I2.kIn IA G.sa (esa_open (s := { s2 with toks := s2.toks + 1 }) I2.kIn IA G ht fun b => ?_)
    refine store_first (s := { s2 with toks := s2.toks + 1 }) I2.kIn G ho hc hd hdt fun h' tk' od' hns hx' hod kp => ?_
    have nd : H2 s2.heap.objs.size = none := I2.hok.fresh (Nat.le_refl _)
    have dne : s2.heap.objs.size ≠ e := Nat.ne_of_gt (Heap.lt_size ho)
    have e1 : (h'.update e fun _ => oe).get? e = some oe := Heap.get?_update_self _ hx' (Heap.get?_some_iff.mp ho).2
    have e2 : ∀ b, b ≠ e → (h'.update e fun _ => oe).get? b = h'.get? b := fun b hb => Heap.get?_update_other _ _ (Ne.symm hb)
    have I3 : Inv X pins σ (upd H2 s2.heap.objs.size (xdO s2.heap.objs.size [(f, y)])) { s2 with heap := h'.update e fun _ => oe, toks := tk' } := I2.laid (fun b v eb => by
        by_cases hb : b = e
        · subst hb
          rw [ho] at eb
          cases eb
          exact e1
        · exact (e2 b hb).trans (kp b v hb eb)) (Nat.le_refl _) (by
        have hns' : (h'.update e fun _ => oe).Ns1 s2.heap.objs.size (fun z => if z = f then some u else none) := ns1_stay hns fun o eo => (e2 _ dne).trans eo
        refine ⟨⟨_, hns', fun g => ?_, fun g hg => ?_⟩, ns1_obj hns', fun g1 g2 ⟨mA, z1, z2, z3⟩ k => ⟨mA, ns1_stay z1 k, z2, z3⟩⟩
        · show RelO (List.lookup g [(f, y)]) (if g = f then some u else none)
          by_cases hg : g = f
          · rw [if_pos hg, hg]
            show RelO (List.lookup f [(f, y)]) _
            rw [List.lookup_cons, beq_self_eq_true]
            exact ry
          · rw [if_neg hg]
            have : (g == f) = false := by simpa using hg
            rw [List.lookup_cons, this]
            trivial
        · by_cases hgf : g = f
          · rw [hgf]; exact List.mem_cons_self
          · exact absurd (if_neg hgf) hg)
    have I4 : Inv X pins σ (upd (upd H2 s2.heap.objs.size (xdO s2.heap.objs.size [(f, y)])) e (excN e C (some s2.heap.objs.size))) { s2 with heap := h', toks := tk' } :=
      I3.write (x := e) (e := e) (by rw [upd_ne (Ne.symm dne), he]; trivial) (.inl rfl) (fun b v hb eb => (e2 b hb).symm.trans eb) ⟨_, hx'⟩ ⟨⟨_, vs, hx', hc, rfl, hdt, h1⟩, ⟨_, hx'⟩, excN_stay⟩
    exact ⟨σ, _, I4, q _ nd dne⟩
  · obtain ⟨⟨oe, vs, ho, hc, hd, hdt, h1⟩, _, _⟩ := I2.hok e _ he
    obtain ⟨⟨mA, hn, hr, hw⟩, ⟨obd, hobd⟩, _⟩ := I2.hok dx _ hdx
    have IA : PySem.W.InstAt s2.heap e oe C (some obd) := ⟨ho, hc, by unfold PySem.W.notCls; rw [hdt], by rw [hd]; exact hobd⟩
    refine PySem.W.set_plain I2.kIn IA G.sa (esa_open (s := { s2 with toks := s2.toks + 1 }) I2.kIn IA G ht fun b => ?_)
    refine store_next (s := { s2 with toks := s2.toks + 1 }) I2.kIn G ho hc hd hn hw (by rw [List.length_map]; omega) fun h' tk' hns hsb => ?_
    have I4 : Inv X pins σ (upd H2 dx (xdO dx (putF f y fs))) { s2 with heap := h', toks := tk' } :=
      I2.write (x := dx) (e := dx) (by rw [hdx]; trivial) (.inl rfl) (fun b v hb eb => (hsb.2 b hb).trans eb) (ns1_obj hns) ⟨⟨_, hns, relO_put hr ry, fun g hg => by
        by_cases hgf : g = f
        · rw [hgf]; exact (keys_putF f y fs).1
        · refine (keys_putF f y fs).2 g (hw g fun z => hg ?_)
          show (if g = f then some u else mA g) = none
          rw [if_neg hgf]; exact z⟩, ns1_obj hns, fun g1 g2 ⟨mA, z1, z2, z3⟩ k => ⟨mA, ns1_stay z1 k, z2, z3⟩⟩
    exact ⟨σ, _, I4, q⟩
end L2
set_option Elab.async false
set_option linter.all false
set_option maxRecDepth 100000
namespace L2
open PySem PySem.Spec PyProof.Rows
theorem Inv.nfs {X : Cx} {pins : List (Addr × Obj)} {σ : St} {H : Hp} {s : Shared} {b : Addr} (I : Inv X pins σ H s) (ob : Off X pins b) : b ∉ X.fs := fun z => by
  obtain ⟨_, o, ho, _⟩ := I.ok.funs.mem z
  exact I.ok.exfs b (ob.1 o ho) z
theorem Inv.newExc {X : Cx} {pins : List (Addr × Obj)} {σ : St} {H : Hp} {s : Shared} {h' : Heap} {ea C : Addr} {us : List Value} {t' : Nat} (I : Inv X pins σ H s) (me : Heap.MadeExcOf s.heap h' ea (.ref C) us) : Inv X pins σ (upd H ea (excN ea C none)) { s with heap := h', toks := t' } := by
  obtain ⟨t, ht, _, _⟩ := me.there
  have ob := I.off me.new
  exact (I.kept (h' := h') (t' := t') me.keeps).track ob (I.hok.none_of me.new) ⟨_, _, ht, rfl, rfl, rfl, rfl⟩ ⟨_, ht⟩ excN_stay (I.nfs ob)
theorem run_init {X : Cx} {C fI : Addr} {k : Nat} {fd : FuncData} {ps : List Str} {sp : Sp} {pins : List (Addr × Obj)} {σ : St} {H : Hp} {s : Shared} {QQ : Value → Shared → Prop} {EE : Value → Shared → Prop} {us : List Value} {vs : List V} {Q : Addr → VK} (hcl : Eci X.K C fI) (F : FnOk X.prog X.w X.K X.mg X.base CX0 k fI fd ps sp) (hr : Room (k + 1) X.A) (hb : Binds X.K fd ps [])
    (I : Inv X pins σ H s) (r : Vals vs us) (hl : vs.length ≤ 1000) (h : ∀ ea, H ea = none → sp (.ref ea :: vs) (upd H ea (excN ea C none)) (Q ea) E0)
    (fin : ∀ ea h' s' u, Heap.MadeExcOf s.heap h' ea (.ref C) us → CE X.stack X.prog X.w (upd H ea (excN ea C none)) { s with heap := h' } (Q ea) u s' → u = .none ∧ QQ (.ref ea) s') :
    wpAny (model X.prog X.w) X.A (call (.ref C) us) QQ EE s := by
  obtain ⟨bm, N, nm, qq, bs, sn, sub, ab, col, dd, k0, k1, k2, k3, k5, mN, oI, hC, hN, hi, T, hfI, hfc⟩ := hcl.obj I.kIn
  obtain ⟨hp, g, d, t, os⟩ := s
  refine call_init T hC hN hi hfI hfc (fun h' ea me => ?_) (by rw [← r.length]; exact small hl)
  have I2 : Inv X pins σ (upd H ea (excN ea C none)) ⟨h', g, d, t, os⟩ := I.newExc (t' := t) me
  have hq := h ea (I.hok.none_of me.new)
  have r2 : Vals (V.ref ea :: vs) (Value.ref ea :: us) := .cons rfl r
  have hl2 : (Value.ref ea :: us).length = ps.length := by
    have e := r2.length
    rw [F.len _ _ _ _ hq] at e
    exact e.symm
  have hb' := hb ⟨h', g, d, t, os⟩ (Value.ref ea :: us) I2.kIn (by rw [List.append_nil]; exact hl2)
  rw [List.append_nil] at hb'
  refine wpAny_call (codeAny_mono (F.run _ X.stack _ _ ⟨Value.ref ea :: us, []⟩ (Value.ref ea :: us) _ _ E0 (hr.make C us []) (I2.env0.make C us []) hb' r2 hq) fun rr s' hq' => ?_)
  cases rr with
  | error e => exact False.elim hq'
  | ok fl =>
    cases fl with
    | ret u => exact fin ea h' s' u me hq'
    | next => exact False.elim hq'
    | brk => exact False.elim hq'
    | cont => exact False.elim hq'
end L2
set_option Elab.async false
set_option linter.all false
set_option maxRecDepth 100000
namespace L2
open PySem PySem.Spec PyProof.Rows
theorem exc_get {K : PySem.W.Frag} {prog : Program} {w : World} {A : Around} {E : Value → Shared → Prop} {s : Shared} {x C : Addr} {ox : Obj} {od : Option Obj} {name : Str} {expr : Bool} {v : Value} {Q : Value → Shared → Prop} (X : K.In s.heap) (I : PySem.W.InstAt s.heap x ox C od) (G : Ek K C)
    (hf : PySem.W.findObj K C od name = some (.value v)) (hv : PySem.W.handedIn v = true) (h : Q v { s with toks := s.toks + 1 }) : wpAny (model prog w) A (getAttr (.ref x) name expr) Q E s := by
  obtain ⟨hp, g, d, t, os⟩ := s
  have L0 := I.type (M := model prog w)
  have L1 := PySem.W.looks_find (M := model prog w) X I hf
  unfold getAttr
  refine wpAny_bind (wpAny_mkText ?_)
  refine exc_by (s := ⟨hp, g, d, t + 1, os⟩) X I G ?_
  unfold Builtin.«object.__getattribute__»
  repeat (first | with_reducible refine PySem.W.Looks.at (by assumption) ?_ | wp_step)
  exact ⟨hv, h⟩
end L2
set_option Elab.async false
set_option linter.all false
set_option maxRecDepth 100000
namespace L2
open PySem PySem.Spec PyProof.Rows
def SIt : Bool → Heap → Addr → Addr → Nat → Prop
  | true, h, i, l, n => h.IsTupleIter i l n
  | false, h, i, l, n => h.IsListIter i l n
def SAt : Bool → Heap → Addr → Array Value → Prop
  | true, h, l, xs => h.IsTuple l xs
  | false, h, l, xs => h.IsList l xs
theorem SIt.at {k : Bool} {h h' : Heap} {i l : Addr} {n : Nat} (x : SIt k h i l n) (e : ∀ o, h.get? i = some o → h'.get? i = some o) : SIt k h' i l n := by
  cases k with
  | true => obtain ⟨o, ho, r⟩ := x; exact ⟨o, e o ho, r⟩
  | false => obtain ⟨o, ho, r⟩ := x; exact ⟨o, e o ho, r⟩
theorem SIt.obj {k : Bool} {h : Heap} {i l : Addr} {n : Nat} (x : SIt k h i l n) : ∃ o, h.get? i = some o ∧ ∀ v, o.data ≠ .cell v := by
  cases k with
  | true => obtain ⟨o, ho, _, d⟩ := x; exact ⟨o, ho, fun v z => by rw [d] at z; cases z⟩
  | false => obtain ⟨o, ho, _, d⟩ := x; exact ⟨o, ho, fun v z => by rw [d] at z; cases z⟩
theorem SAt.at {k : Bool} {h h' : Heap} {l : Addr} {xs : Array Value} (x : SAt k h l xs) (e : ∀ o, h.get? l = some o → h'.get? l = some o) : SAt k h' l xs := by
  cases k with
  | true => obtain ⟨o, ho, r⟩ := x; exact ⟨o, e o ho, r⟩
  | false => obtain ⟨o, ho, r⟩ := x; exact ⟨o, e o ho, r⟩
section
variable {prog : Program} {w : World} {A : Around} {E : Value → Shared → Prop} {s : Shared} {k : Bool} {it l : Addr} {i : Nat} {xs : Array Value} {x : Value} {Q : Value → Shared → Prop}
theorem nextS (hit : SIt k s.heap it l i) (hl : SAt k s.heap l xs) (hx : xs[i]? = some x) (hQ : ∀ h', SIt k h' it l (i + 1) → Heap.SameBut it s.heap h' → Q x { s with heap := h' }) :
    wpAny (model prog w) A (Builtin.SmallTypes.nextOf (.ref it)) Q E s := by
  cases k with
  | false => exact wpAny_nextOf_list_item hit hl hx hQ
  | true =>
    have hit' : s.heap.IsTupleIter it l i := hit
    obtain ⟨o, ho, hc, hd⟩ := id hit'
    obtain ⟨ol, hol, _, nl, hdl⟩ := hl
    unfold Builtin.SmallTypes.nextOf
    refine wpAny_bind (wpAny_callSpecial?_slot (name := Str.ofString "__next__") hit'.typeIs F.slot_tuple_iterator_next (wpAny_call_entry F.slot_tuple_iterator_next hit'.typeIs F.entry_tuple_iterator_next ?_ (F.args_tuple_iterator_next_1 _)))
    show wpAny _ _ (field (.ref it) 0 >>= _) _ _ s
    refine wpAny_bind (wpAny_field ho hd (x := .ref l) rfl ?_)
    show wpAny _ _ (if (Value.ref l == Value.none) = true then _ else _) _ _ s
    rw [if_neg (show ¬ ((Value.ref l == Value.none) = true) from Bool.false_ne_true)]
    show wpAny _ _ (field (.ref it) 1 >>= _) _ _ s
    refine wpAny_bind (wpAny_field ho hd (x := .int i 0) rfl (show wpAny _ _ (seqItems? (.ref l) >>= _) _ _ s from wpAny_bind (wpAny_seqItems hol hdl ?_)))
    simp only [Int.toNat_natCast, hx]
    refine wpAny_bind (wpAny_setField ho hd (by simp) (wpAny_pure ⟨x, rfl, wpAny_pure (hQ _ ?_ (Heap.SameBut.update ..))⟩))
    exact ⟨_, Heap.get?_update_self _ ho (Obj.isFreed_of_fields (Obj.data_mapFields hd _)), (Obj.cls_mapFields ..).trans hc, by rw [Obj.data_mapFields hd]; simp [rawInt]⟩
theorem endS (hh : A.handled = none) (hit : SIt k s.heap it l i) (hl : SAt k s.heap l xs) (hx : xs[i]? = none) (hE : ∀ h' e, Heap.ExtBut it s.heap h' → (∃ o, h'.get? e = some o ∧ o.cls = .type "StopIteration") → E (.ref e) { s with heap := h' }) :
    wpAny (model prog w) A (Builtin.SmallTypes.nextOf (.ref it)) Q E s := by
  cases k with
  | false => exact wpAny_nextOf_list_end hh hit hl hx hE
  | true =>
    have hit' : s.heap.IsTupleIter it l i := hit
    obtain ⟨o, ho, hc, hd⟩ := id hit'
    obtain ⟨ol, hol, _, nl, hdl⟩ := hl
    unfold Builtin.SmallTypes.nextOf
    refine wpAny_bind (wpAny_callSpecial?_slot (name := Str.ofString "__next__") hit'.typeIs F.slot_tuple_iterator_next (wpAny_call_entry F.slot_tuple_iterator_next hit'.typeIs F.entry_tuple_iterator_next ?_ (F.args_tuple_iterator_next_1 _)))
    show wpAny _ _ (field (.ref it) 0 >>= _) _ _ s
    refine wpAny_bind (wpAny_field ho hd (x := .ref l) rfl ?_)
    show wpAny _ _ (if (Value.ref l == Value.none) = true then _ else _) _ _ s
    rw [if_neg (show ¬ ((Value.ref l == Value.none) = true) from Bool.false_ne_true)]
    show wpAny _ _ (field (.ref it) 1 >>= _) _ _ s
    refine wpAny_bind (wpAny_field ho hd (x := .int i 0) rfl (show wpAny _ _ (seqItems? (.ref l) >>= _) _ _ s from wpAny_bind (wpAny_seqItems hol hdl ?_)))
    simp only [Int.toNat_natCast, hx]
    refine wpAny_bind (wpAny_rule (wpAny_bind (wpAny_setField ho hd (by simp) ?_)))
    show wpAny _ _ (newExc (.type "StopIteration") [] >>= _) _ _ _
    refine wpAny_bind ?_
    simp only [newExc, newTuple]
    refine wpAny_bind (wpAny_newObj_type ?_ (by size_fits))
    refine wpAny_bind (m := firstArgMember _ _) (wpAny_of_eq (a := Value.none) (by first | rfl | (simp only [firstArgMember]; rfl)) ?_)
    refine wpAny_newObj_type ?_ (by size_fits)
    simp only [raiseNew]
    refine wpAny_bind (wpAny_handled ?_)
    rw [show A.in1.handled = none from hh]
    refine wpAny_bind (wpAny_pure (wpAny_throw ?_))
    exact hE _ _ (((Heap.SameBut.update ..).extBut.push _).push _) ⟨_, Heap.get?_push_size _ rfl, rfl⟩
end
structure ZAt (ka kb : Bool) (z TI TO i1 i2 l1 l2 : Addr) (n : Nat) (h : Heap) : Prop where
  zp : IsZip h z TI TO .none
  ti : IsPair h TI (.ref i1) (.ref i2)
  to_ : ∃ a b, IsPair h TO a b
  a1 : SIt ka h i1 l1 n
  a2 : SIt kb h i2 l2 n
section
variable {prog : Program} {w : World} {A : Around} {E : Value → Shared → Prop} {s : Shared} {ka kb : Bool} {z TI TO i1 i2 l1 l2 : Addr} {n : Nat} {xs ys : Array Value} {x y : Value}
theorem zipS_item {Q : Value → Shared → Prop} (D : ZipApart z TI TO i1 i2 l1 l2) (Z : ZAt ka kb z TI TO i1 i2 l1 l2 n s.heap) (hl1 : SAt ka s.heap l1 xs) (hl2 : SAt kb s.heap l2 ys) (hx : xs[n]? = some x) (hy : ys[n]? = some y)
    (hQ : ∀ h', IsZip h' z TI TO (rawInt s.heap.objs.size) → IsPair h' TO x y → SIt ka h' i1 l1 (n + 1) → SIt kb h' i2 l2 (n + 1) → IsPair h' s.heap.objs.size x y →
      (∀ c o, c ≠ z → c ≠ TO → c ≠ i1 → c ≠ i2 → s.heap.get? c = some o → h'.get? c = some o) → Q (.ref s.heap.objs.size) { s with heap := h' }) :
    wpAny (model prog w) A (Builtin.«zip.__next__» ⟨[.ref z], []⟩) (fun fin s' => ∃ v, fin = .done (.ret v) ∧ Q v s') E s := by
  obtain ⟨hz, hTI, ⟨a, b, hTO⟩, h1, h2⟩ := Z
  show wpAny _ _ (field (.ref z) 2 >>= _) _ _ _
  refine wpAny_bind (wpAny_field hz rfl (x := .bool false) rfl ?_)
  show wpAny _ _ (field (.ref z) 3 >>= _) _ _ _
  refine wpAny_bind (wpAny_field hz rfl (x := .ref TI) rfl (wpAny_bind (wpAny_seqItems hTI rfl ?_)))
  show wpAny _ _ (Builtin.SmallTypes.ownedTupleIsFree (.ref z) >>= _) _ _ _
  refine wpAny_bind ?_
  unfold Builtin.SmallTypes.ownedTupleIsFree
  refine wpAny_bind (wpAny_field hz rfl (x := .none) rfl (wpAny_pure ?_))
  simp only [if_true]
  refine wpAny_bind (wpAny_rule (wpAny_bind (wpAny_field hz rfl (x := .ref TO) rfl (wpAny_bind (wpAny_setField_rec hz (by simp) fun g1 z1 b1 => ?_)))))
  have z1' : IsZip g1 z TI TO .ellipsis := z1
  have k1 : ∀ c o, c ≠ z → s.heap.get? c = some o → g1.get? c = some o := fun c o hc e => b1.extBut _ _ hc e
  refine wpAny_bind ?_
  simp only [List.zipIdx_cons, List.zipIdx_nil, List.forIn_cons, List.forIn_nil]
  refine wpAny_bind (wpAny_bind (wpAny_onRaise ?_))
  show wpAny _ _ (Builtin.SmallTypes.nextOf (.ref i1) >>= _) _ _ _
  refine wpAny_bind (nextS (s := { s with heap := g1 }) (h1.at fun o e => k1 _ o D.i1z e) (hl1.at fun o e => k1 _ o D.l1z e) hx fun g2 h12 b2 => wpAny_pure ?_)
  have k2 : ∀ c o, c ≠ z → c ≠ i1 → s.heap.get? c = some o → g2.get? c = some o := fun c o hc hd e => b2.extBut _ _ hd (k1 c o hc e)
  have o2 : IsPair g2 TO a b := k2 _ _ D.TOz D.TOi1 hTO
  refine wpAny_bind (wpAny_seqItems o2 rfl (wpAny_bind (wpAny_updateSeq_pair (s := { s with heap := g2 }) o2 fun g3 o3 b3 => ?_)))
  have o3' : IsPair g3 TO x b := o3
  refine wpAny_bind (wpAny_letGo (wpAny_pure ?_))
  refine wpAny_bind (wpAny_bind (wpAny_onRaise ?_))
  show wpAny _ _ (Builtin.SmallTypes.nextOf (.ref i2) >>= _) _ _ _
  have k3 : ∀ c o, c ≠ z → c ≠ i1 → c ≠ TO → s.heap.get? c = some o → g3.get? c = some o := fun c o hc hd he e => b3.extBut _ _ he (k2 c o hc hd e)
  refine wpAny_bind (nextS (s := { s with heap := g3 }) (h2.at fun o e => k3 _ o D.i2z D.i12.symm D.TOi2.symm e) (hl2.at fun o e => k3 _ o D.l2z D.l2i1 D.l2TO e) hy fun g4 h24 b4 => wpAny_pure ?_)
  have o4 : IsPair g4 TO x b := b4.extBut _ _ D.TOi2 o3'
  refine wpAny_bind (wpAny_seqItems o4 rfl (wpAny_bind (wpAny_updateSeq_pair (s := { s with heap := g4 }) o4 fun g5 o5 b5 => ?_)))
  have o5' : IsPair g5 TO x y := o5
  refine wpAny_bind (wpAny_letGo (wpAny_pure (wpAny_pure ?_)))
  refine wpAny_bind (wpAny_seqItems o5' rfl (wpAny_bind (wpAny_newTuple ?_)))
  have sz : g5.objs.size = s.heap.objs.size := by rw [b5.1, b4.1, b3.1, b2.1, b1.1]
  have z5 : IsZip g5 z TI TO .ellipsis := b5.extBut _ _ D.TOz.symm (b4.extBut _ _ D.i2z.symm (b3.extBut _ _ D.TOz.symm (b2.extBut _ _ D.i1z.symm z1')))
  have k5 : ∀ c o, c ≠ z → c ≠ TO → c ≠ i1 → c ≠ i2 → s.heap.get? c = some o → g5.get? c = some o := fun c o c1 c2 c3 c4 e => b5.extBut _ _ c2 (b4.extBut _ _ c4 (k3 c o c1 c3 c2 e))
  have h15 : SIt ka g5 i1 l1 (n + 1) := h12.at fun o e => b5.extBut _ _ D.TOi1.symm (b4.extBut _ _ D.i12 (b3.extBut _ _ D.TOi1.symm e))
  have h25 : SIt kb g5 i2 l2 (n + 1) := h24.at fun o e => b5.extBut _ _ D.TOi2.symm e
  have zl : z < g5.objs.size := Heap.lt_size z5
  show wpAny _ _ (Builtin.SmallTypes.ownedTupleHandOut (.ref z) (.ref g5.objs.size) >>= _) _ _ _
  refine wpAny_bind ?_
  unfold Builtin.SmallTypes.ownedTupleHandOut
  have z6 : IsZip (g5.push { cls := .type "tuple", data := .seq #[x, y] }) z TI TO .ellipsis := Heap.get?_push_of_some _ z5
  refine wpAny_bind (wpAny_setField_rec z6 (by simp) fun g7 z7 b7 => ?_)
  replace z7 : IsZip g7 z TI TO (rawInt g5.objs.size) := z7
  refine wpAny_setField_rec z7 (by simp) fun g8 z8 b8 => ?_
  replace z8 : IsZip g8 z TI TO (rawInt g5.objs.size) := z8
  have up : ∀ c o, c ≠ z → g5.get? c = some o → g8.get? c = some o := fun c o c1 e => b8.extBut _ _ c1 (b7.extBut _ _ c1 (Heap.get?_push_of_some _ e))
  have p8 : IsPair g8 g5.objs.size x y := b8.extBut _ _ (Nat.ne_of_gt zl) (b7.extBut _ _ (Nat.ne_of_gt zl) (Heap.get?_push_size _ rfl))
  rw [sz] at z8 p8
  refine wpAny_pure ⟨_, rfl, ?_⟩
  show Q (.ref g5.objs.size) _
  rw [sz]
  exact hQ g8 z8 (up _ _ D.TOz o5') (h15.at fun o e => up _ o D.i1z e) (h25.at fun o e => up _ o D.i2z e) p8 fun c o c1 c2 c3 c4 e => up c o c1 (k5 c o c1 c2 c3 c4 e)
theorem zipS_end {Q : Fin → Shared → Prop} (hh : A.handled = none) (D : ZipApart z TI TO i1 i2 l1 l2) (Z : ZAt ka kb z TI TO i1 i2 l1 l2 n s.heap) (hl1 : SAt ka s.heap l1 xs) (hl2 : SAt kb s.heap l2 ys) (hend : xs[n]? = none ∨ ys[n]? = none)
    (hE : ∀ h' e, (∀ c o, c ≠ z → c ≠ TO → c ≠ i1 → c ≠ i2 → s.heap.get? c = some o → h'.get? c = some o) → (∃ o, h'.get? e = some o ∧ o.cls = .type "StopIteration") → E (.ref e) { s with heap := h' }) :
    wpAny (model prog w) A (Builtin.«zip.__next__» ⟨[.ref z], []⟩) Q E s := by
  obtain ⟨hz, hTI, ⟨a, b, hTO⟩, h1, h2⟩ := Z
  show wpAny _ _ (field (.ref z) 2 >>= _) _ _ _
  refine wpAny_bind (wpAny_field hz rfl (x := .bool false) rfl ?_)
  show wpAny _ _ (field (.ref z) 3 >>= _) _ _ _
  refine wpAny_bind (wpAny_field hz rfl (x := .ref TI) rfl (wpAny_bind (wpAny_seqItems hTI rfl ?_)))
  show wpAny _ _ (Builtin.SmallTypes.ownedTupleIsFree (.ref z) >>= _) _ _ _
  refine wpAny_bind ?_
  unfold Builtin.SmallTypes.ownedTupleIsFree
  refine wpAny_bind (wpAny_field hz rfl (x := .none) rfl (wpAny_pure ?_))
  simp only [if_true]
  refine wpAny_bind (wpAny_rule (wpAny_bind (wpAny_field hz rfl (x := .ref TO) rfl (wpAny_bind (wpAny_setField_rec hz (by simp) fun g1 z1 b1 => ?_)))))
  have z1' : IsZip g1 z TI TO .ellipsis := z1
  have k1 : ∀ c o, c ≠ z → s.heap.get? c = some o → g1.get? c = some o := fun c o hc e => b1.extBut _ _ hc e
  refine wpAny_bind ?_
  simp only [List.zipIdx_cons, List.zipIdx_nil, List.forIn_cons, List.forIn_nil]
  refine wpAny_bind (wpAny_bind (wpAny_onRaise ?_))
  show wpAny _ _ (Builtin.SmallTypes.nextOf (.ref i1) >>= _) _ _ _
  cases hx : xs[n]? with
  | none =>
    refine wpAny_bind (endS (s := { s with heap := g1 }) hh (h1.at fun o e => k1 _ o D.i1z e) (hl1.at fun o e => k1 _ o D.l1z e) hx fun g2 e b2 ⟨oe, he, ce⟩ => ?_)
    have z2 : IsZip g2 z TI TO .ellipsis := b2 _ _ D.i1z.symm z1'
    have ez : e ≠ z := fun q => by subst q; rw [z2] at he; cases he; simp at ce
    exact wpAny_setField_rec z2 (by simp) fun g3 _ b3 => hE g3 e (fun c o c1 _ c3 _ q => b3.extBut _ _ c1 (b2 _ _ c3 (k1 c o c1 q))) ⟨oe, b3.extBut _ _ ez he, ce⟩
  | some x =>
    have hy : ys[n]? = none := hend.resolve_left fun q => by rw [hx] at q; cases q
    refine wpAny_bind (nextS (s := { s with heap := g1 }) (h1.at fun o e => k1 _ o D.i1z e) (hl1.at fun o e => k1 _ o D.l1z e) hx fun g2 h12 b2 => wpAny_pure ?_)
    have k2 : ∀ c o, c ≠ z → c ≠ i1 → s.heap.get? c = some o → g2.get? c = some o := fun c o hc hd e => b2.extBut _ _ hd (k1 c o hc e)
    have o2 : IsPair g2 TO a b := k2 _ _ D.TOz D.TOi1 hTO
    refine wpAny_bind (wpAny_seqItems o2 rfl (wpAny_bind (wpAny_updateSeq_pair (s := { s with heap := g2 }) o2 fun g3 o3 b3 => ?_)))
    refine wpAny_bind (wpAny_letGo (wpAny_pure ?_))
    refine wpAny_bind (wpAny_bind (wpAny_onRaise ?_))
    show wpAny _ _ (Builtin.SmallTypes.nextOf (.ref i2) >>= _) _ _ _
    have k3 : ∀ c o, c ≠ z → c ≠ i1 → c ≠ TO → s.heap.get? c = some o → g3.get? c = some o := fun c o hc hd he e => b3.extBut _ _ he (k2 c o hc hd e)
    refine wpAny_bind (endS (s := { s with heap := g3 }) hh (h2.at fun o e => k3 _ o D.i2z D.i12.symm D.TOi2.symm e) (hl2.at fun o e => k3 _ o D.l2z D.l2i1 D.l2TO e) hy fun g4 e b4 ⟨oe, he, ce⟩ => ?_)
    have z4 : IsZip g4 z TI TO .ellipsis := b4 _ _ D.i2z.symm (b3.extBut _ _ D.TOz.symm (b2.extBut _ _ D.i1z.symm z1'))
    have ez : e ≠ z := fun q => by subst q; rw [z4] at he; cases he; simp at ce
    exact wpAny_setField_rec z4 (by simp) fun g5 _ b5 => hE g5 e (fun c o c1 c2 c3 c4 q => b5.extBut _ _ c1 (b4 _ _ c4 (k3 c o c1 c3 c2 q))) ⟨oe, b5.extBut _ _ ez he, ce⟩
theorem zipS_next {Q : Option Value → Shared → Prop} (D : ZipApart z TI TO i1 i2 l1 l2) (Z : ZAt ka kb z TI TO i1 i2 l1 l2 n s.heap) (hl1 : SAt ka s.heap l1 xs) (hl2 : SAt kb s.heap l2 ys) (hx : xs[n]? = some x) (hy : ys[n]? = some y)
    (hQ : ∀ h', IsZip h' z TI TO (rawInt s.heap.objs.size) → IsPair h' TO x y → SIt ka h' i1 l1 (n + 1) → SIt kb h' i2 l2 (n + 1) → IsPair h' s.heap.objs.size x y →
      (∀ c o, c ≠ z → c ≠ TO → c ≠ i1 → c ≠ i2 → s.heap.get? c = some o → h'.get? c = some o) → Q (some (.ref s.heap.objs.size)) { s with heap := h' }) : wpAny (model prog w) A (pyNext (.ref z)) Q E s := by
  have hT : s.TypeIs (.ref z) "zip" := ⟨_, Z.zp, rfl⟩
  unfold pyNext
  exact wpAny_bind (wpAny_attempt (wpAny_callSpecial?_slot (name := Str.ofString "__next__") hT F.slot_zip_next (wpAny_call_entry F.slot_zip_next hT F.entry_zip_next
    (zipS_item D Z hl1 hl2 hx hy fun h' a1 a2 a3 a4 a5 a7 => wpAny_pure (hQ h' a1 a2 a3 a4 a5 a7)) (F.args_zip_next_1 _))))
theorem zipS_stop {Q : Option Value → Shared → Prop} (hh : A.handled = none) (D : ZipApart z TI TO i1 i2 l1 l2) (Z : ZAt ka kb z TI TO i1 i2 l1 l2 n s.heap) (hl1 : SAt ka s.heap l1 xs) (hl2 : SAt kb s.heap l2 ys) (hend : xs[n]? = none ∨ ys[n]? = none)
    (hQ : ∀ h', (∀ c o, c ≠ z → c ≠ TO → c ≠ i1 → c ≠ i2 → s.heap.get? c = some o → h'.get? c = some o) → Q none { s with heap := h' }) : wpAny (model prog w) A (pyNext (.ref z)) Q E s := by
  have hT : s.TypeIs (.ref z) "zip" := ⟨_, Z.zp, rfl⟩
  unfold pyNext
  refine wpAny_bind (wpAny_attempt (wpAny_callSpecial?_slot (name := Str.ofString "__next__") hT F.slot_zip_next (wpAny_call_entry F.slot_zip_next hT F.entry_zip_next (zipS_end hh D Z hl1 hl2 hend fun h' e hk he => ?_) (F.args_zip_next_1 _))))
  obtain ⟨o, ho, hc⟩ := he
  exact wpAny_bind (wpAny_isInstance (T := "StopIteration") (b := true) ⟨o, ho, hc⟩ isSubtype_stop (wpAny_pure (hQ _ hk)))
end
end L2
set_option Elab.async false
set_option linter.all false
set_option maxRecDepth 100000
namespace L2
open PySem PySem.Spec PyProof.Rows
def SqK (K : PySem.W.Frag) : Bool → Hp → Addr → List V → Prop
  | true, H, a, xs => SqT K H a xs
  | false, H, a, xs => SqL K H a xs
theorem seqK {X : Cx} {pins : List (Addr × Obj)} {σ : St} {H : Hp} {s : Shared} {k : Bool} {a : Addr} {xs : List V} (I : Inv X pins σ H s) (h : SqK X.K k H a xs) : ∃ us, Vals xs us ∧ SAt k s.heap a us.toArray := by
  cases k with
  | true =>
    obtain ⟨its, rv, p, hz⟩ := I.tuple h
    exact ⟨its, rv, p⟩
  | false =>
    obtain ⟨its, rv, p, hz⟩ := I.list h
    exact ⟨its, rv, p.isList⟩
theorem seqK_inj {X : Cx} {pins : List (Addr × Obj)} {σ : St} {H : Hp} {s : Shared} {k : Bool} {a : Addr} {xs ys : List V} (I : Inv X pins σ H s) (h : SqK X.K k H a xs) (h2 : SqK X.K k H a ys) : xs = ys := by
  cases k with
  | true => exact I.tuple_inj h h2
  | false => exact I.list_inj h h2
theorem Inv.turnedL {X : Cx} {pins : List (Addr × Obj)} {σ : St} {H : Hp} {s : Shared} {h' : Heap} {t' : Nat} {L : List Addr} (I : Inv X pins σ H s) (k : ∀ b o, b ∉ L → s.heap.get? b = some o → h'.get? b = some o) (hf : ∀ b ∈ L, FpOk X pins H b) : Inv X pins σ H { s with heap := h', toks := t' } := by
  have nit : ∀ b u, H b = some u → b ∉ L := fun b u e z => by rw [(hf b z).1] at e; cases e
  have nl : X.env.locals ∉ L := fun z => (hf _ z).2.1 rfl
  refine I.step (g' := s.gens) (d' := s.drawn) (ch := L) (fun b hb => ?_) (fun b o _ _ hc e _ => k b o hc e) (fun b o _ _ hc e _ => ⟨o.slots, k b o hc e⟩) (fun _ _ _ _ n => n)
    (fun b o hc e => ⟨o, k b o hc e⟩) (fun _ _ e => e) (fun _ _ _ e => e) (fun b ps e => ⟨#[], by rw [e]; simp⟩) (fun m hm => ?_) (fun b u e => ?_) I.bare
  · obtain ⟨f0, f1, f2, f3, f4, f5⟩ := hf b hb
    exact ⟨f3, f1, f4, f5⟩
  · obtain ⟨o, es, ep, ho, r⟩ := hm
    exact ⟨o, es, ep, k _ o nl ho, r⟩
  · refine (I.hok b u e).stay (fun c v hc q => k c v ?_ q) (fun _ q => q) fun _ _ q => q
    rcases hc with z | z
    · rw [z]; exact nit b u e
    · exact nit c _ z
def Itz (K : PySem.W.Frag) (ka kb : Bool) (a b : Addr) : It :=
  ⟨fun i H => ∃ xs ys x y, SqK K ka H a xs ∧ SqK K kb H b ys ∧ xs[i]? = some x ∧ ys[i]? = some y,
   fun i H v H' => ∃ p x y, v = .ref p ∧ H p = none ∧ (∀ xs, SqK K ka H a xs → xs[i]? = some x) ∧ (∀ ys, SqK K kb H b ys → ys[i]? = some y) ∧ H' = upd H p (.tup [x, y]),
   fun i H => ∃ xs ys, SqK K ka H a xs ∧ SqK K kb H b ys ∧ (xs.length ≤ i ∨ ys.length ≤ i)⟩
theorem ZAt.obj {ka kb : Bool} {z TI TO i1 i2 l1 l2 : Addr} {n : Nat} {h : Heap} (Z : ZAt ka kb z TI TO i1 i2 l1 l2 n h) : ∀ b ∈ [z, TI, TO, i1, i2], ∃ o, h.get? b = some o ∧ ∀ v, o.data ≠ .cell v := fun b hb => by
  obtain ⟨hz, hTI, ⟨x, y, hTO⟩, h1, h2⟩ := Z
  simp only [List.mem_cons, List.not_mem_nil, or_false] at hb
  rcases hb with rfl | rfl | rfl | rfl | rfl
  · exact ⟨_, hz, fun v z => by cases z⟩
  · exact ⟨_, hTI, fun v z => by cases z⟩
  · exact ⟨_, hTO, fun v z => by cases z⟩
  · exact h1.obj
  · exact h2.obj
theorem turn_zip {P : Program} {w : World} {K : PySem.W.Frag} {elts : List Expr} {x1} {pos : Pos} {ka kb : Bool} {z TI TO i1 i2 a b : Addr} (D : ZipApart z TI TO i1 i2 a b) : Turn P w K (.Tuple elts x1 pos) (Itz K ka kb a b) [z, TI, TO, i1, i2] z (fun n h => ZAt ka kb z TI TO i1 i2 a b n h) where
  mem := by simp
  obj := fun i h st => st.obj
  keep := fun i h h' ⟨hz, hTI, ⟨x, y, hTO⟩, h1, h2⟩ k => ⟨k z (by simp) _ hz, k TI (by simp) _ hTI, ⟨x, y, k TO (by simp) _ hTO⟩, h1.at fun o e => k i1 (by simp) o e, h2.at fun o e => k i2 (by simp) o e⟩
  item := by
    intro X hP hw hK hc i pins s σ H E I hf st hg
    subst hP hw hK
    obtain ⟨xs, ys, x, y, q1, q2, hx, hy⟩ := hg
    obtain ⟨us, r1, p1⟩ := seqK I q1
    obtain ⟨vs, r2, p2⟩ := seqK I q2
    obtain ⟨u, hu, ru⟩ := r1.get hx
    obtain ⟨v, hv, rv⟩ := r2.get hy
    have lt : ∀ b ∈ [z, TI, TO, i1, i2], b < s.heap.objs.size := fun b hb => by
      obtain ⟨o, ho, _⟩ := st.obj b hb
      exact Heap.lt_size ho
    refine zipS_next D st p1 p2 (x := u) (y := v) (by simpa using hu) (by simpa using hv) fun h' z1 o1 a1 a2 pr kk => ?_
    refine ⟨_, rfl, wpAny_letOwnedTupleGo_zip (s := { s with heap := h' }) z1 fun h2 z2 b2 => ?_⟩
    have hT : H s.heap.objs.size = none := I.hok.fresh (Nat.le_refl _)
    have I1 : Inv X pins σ (upd H s.heap.objs.size (.tup [x, y])) { s with heap := s.heap.push { cls := .type "tuple", data := .seq #[u, v] } } := I.laid (t' := s.toks) (fun b u e => Heap.get?_push_of_some _ e) (Nat.le_refl _) ⟨by show 2 ≤ sizeLine; decide, [u, v], .cons ru (.cons rv .nil), ⟨_, Heap.get?_push_size _ rfl, _, rfl⟩⟩
    have Tz : s.heap.objs.size ≠ z := Nat.ne_of_gt (lt z (by simp))
    have fp : ∀ b ∈ [z, TI, TO, i1, i2], FpOk X pins (upd H s.heap.objs.size (.tup [x, y])) b := fun b hb => by
      obtain ⟨f0, f1, f2, f3, f4, f5⟩ := hf b hb
      exact ⟨by rw [upd_ne (Nat.ne_of_lt (lt b hb))]; exact f0, f1, f2, f3, f4, f5⟩
    have I2 := I1.turnedL (h' := h2) (t' := s.toks) (fun c o hc e => by
      simp only [List.mem_cons, List.not_mem_nil, or_false, not_or] at hc
      by_cases zc : c = s.heap.objs.size
      · subst zc
        rw [Heap.get?_push_size _ rfl] at e
        cases e
        exact b2.extBut _ _ Tz pr
      · have e' : s.heap.get? c = some o := by rw [← e]; exact (Heap.get?_push_ne _ _ _ zc).symm
        exact b2.extBut _ _ hc.1 (kk c o hc.1 hc.2.2.1 hc.2.2.2.1 hc.2.2.2.2 e')) fp
    refine ⟨.ref s.heap.objs.size, _, I2, rfl, ⟨_, x, y, rfl, hT, fun zs hz => ?_, fun zs hz => ?_, rfl⟩, ⟨z2, b2.extBut _ _ D.TIz (kk _ _ D.TIz D.TITO D.TIi1 D.TIi2 st.ti), ⟨u, v, b2.extBut _ _ D.TOz o1⟩, a1.at fun o e => b2.extBut _ _ D.i1z e, a2.at fun o e => b2.extBut _ _ D.i2z e⟩, fun b hb => (fp b hb).1⟩
    · rw [seqK_inj I hz q1]; exact hx
    · rw [seqK_inj I hz q2]; exact hy
  done := by
    intro X hP hw hK hc i pins s σ H E I hf st hg
    subst hP hw hK
    obtain ⟨xs, ys, q1, q2, hl⟩ := hg
    obtain ⟨us, r1, p1⟩ := seqK I q1
    obtain ⟨vs, r2, p2⟩ := seqK I q2
    have e1 := r1.length
    have e2 := r2.length
    refine zipS_stop (I.ok.hd hc) D st p1 p2 (hl.elim (fun q => .inl (by simp; omega)) fun q => .inr (by simp; omega)) fun h' kk => ⟨rfl, I.turnedL (t' := s.toks) (fun c o hc e => ?_) hf⟩
    simp only [List.mem_cons, List.not_mem_nil, or_false, not_or] at hc
    exact kk c o hc.1 hc.2.2.1 hc.2.2.2.1 hc.2.2.2.2 e
  self := fun _ _ _ _ _ st h => wpAny_pyIter_zip st.zp h
end L2
set_option Elab.async false
set_option linter.all false
set_option maxRecDepth 100000
namespace L2
open PySem PySem.Spec PyProof.Rows
def itO (k : Bool) (l : Addr) : Obj := match k with
  | true => { cls := .type "tuple_iterator", data := .fields #[.ref l, .int 0 0] }
  | false => { cls := .type "list_iterator", data := .fields #[.ref l, .int 0 0] }
theorem pyIterS {prog : Program} {w : World} {A : Around} {E : Value → Shared → Prop} {s : Shared} {k : Bool} {l : Addr} {xs : Array Value} {Q : Value → Shared → Prop} (h : SAt k s.heap l xs) (hQ : Q (.ref s.heap.objs.size) { s with heap := s.heap.push (itO k l) }) :
    wpAny (model prog w) A (pyIter (.ref l)) Q E s := by
  cases k with
  | true => exact wpAny_pyIter_tuple h hQ
  | false => exact wpAny_pyIter_list h hQ
theorem itO_free {k : Bool} {l : Addr} : (itO k l).isFreed = false := by cases k <;> rfl
theorem SIt.new {k : Bool} {l i : Addr} {h : Heap} (e : h.get? i = some (itO k l)) : SIt k h i l 0 := by
  cases k with
  | true => exact ⟨_, e, rfl, rfl⟩
  | false => exact ⟨_, e, rfl, rfl⟩
def zip5 (h : Heap) (ka kb : Bool) (l1 l2 : Addr) : Heap := ((((h.push (itO ka l1)).push (itO kb l2)).push { cls := .type "tuple", data := .seq #[.ref h.objs.size, .ref (h.push (itO ka l1)).objs.size] }).push { cls := .type "tuple", data := .seq #[.none, .none] }).push
  { cls := .type "zip", data := .fields #[.none, .bool false, .bool false, .ref ((h.push (itO ka l1)).push (itO kb l2)).objs.size, .ref (((h.push (itO ka l1)).push (itO kb l2)).push { cls := .type "tuple", data := .seq #[.ref h.objs.size, .ref (h.push (itO ka l1)).objs.size] }).objs.size] }
theorem meetsS (ka kb : Bool) (l1 l2 : Addr) (xs ys : Array Value) :
    Meets (Builtin.«zip.__new__» ⟨[.type "zip", .ref l1, .ref l2], []⟩) (fun _ R s => SAt ka s.heap l1 xs ∧ SAt kb s.heap l2 ys ∧ R (.ok (.ret (.ref (s.heap.objs.size + 4)))) { s with heap := zip5 s.heap ka kb l1 l2 }) :=
  .of_wp fun prog w A R s h => by
    obtain ⟨hp, g, d, tk, os⟩ := s
    obtain ⟨hl1, hl2, h⟩ := h
    have hsub := sub_zip
    have hL1 : SAt ka (Shared.heap ⟨hp, g, d, tk, os⟩) l1 xs := hl1
    have hL2 : SAt kb (Shared.heap ⟨hp.push (itO ka l1), g, d, tk, os⟩) l2 ys := hl2.at fun o e => Heap.get?_push_of_some _ e
    wp_walk using pyIterS hL1, pyIterS hL2
    refine ⟨_, rfl, ?_⟩
    have z : ((((hp.push (itO ka l1)).push (itO kb l2)).push { cls := .type "tuple", data := .seq #[.ref hp.objs.size, .ref (hp.push (itO ka l1)).objs.size] }).push { cls := .type "tuple", data := .seq #[.none, .none] }).objs.size = hp.objs.size + 4 := by
      rw [Heap.size_push, Heap.size_push, Heap.size_push, Heap.size_push]
    rw [← z] at h
    exact h
theorem callS {prog : Program} {w : World} {A : Around} {E : Value → Shared → Prop} {s : Shared} {ka kb : Bool} {l1 l2 : Addr} {xs ys : Array Value} {Q : Value → Shared → Prop} (h1 : SAt ka s.heap l1 xs) (h2 : SAt kb s.heap l2 ys)
    (h : ∀ h', ZAt ka kb (s.heap.objs.size + 4) (s.heap.objs.size + 2) (s.heap.objs.size + 3) s.heap.objs.size (s.heap.objs.size + 1) l1 l2 0 h' → (∀ c o, s.heap.get? c = some o → h'.get? c = some o) → Q (.ref (s.heap.objs.size + 4)) { s with heap := h' }) :
    wpAny (model prog w) A (call (.type "zip") [.ref l1, .ref l2]) Q E s := by
  refine callType_new F.called_zip (by decide) (F.typeCall_zip_2 _ _) (F.newCall_zip_2 _ _) (fun obj => F.args_object_init_3 obj _ _) F.entry_zip_new (meetsS ka kb l1 l2 xs ys) ⟨h1, h2, ?_⟩
  have kp : ∀ c o, s.heap.get? c = some o → (zip5 s.heap ka kb l1 l2).get? c = some o := fun c o x => Heap.get?_push_of_some _ (Heap.get?_push_of_some _ (Heap.get?_push_of_some _ (Heap.get?_push_of_some _ (Heap.get?_push_of_some _ x))))
  have z1 : (s.heap.push (itO ka l1)).objs.size = s.heap.objs.size + 1 := Heap.size_push ..
  have z2 : ((s.heap.push (itO ka l1)).push (itO kb l2)).objs.size = s.heap.objs.size + 2 := by rw [Heap.size_push, z1]
  have z3 : (((s.heap.push (itO ka l1)).push (itO kb l2)).push { cls := .type "tuple", data := .seq #[.ref s.heap.objs.size, .ref (s.heap.push (itO ka l1)).objs.size] }).objs.size = s.heap.objs.size + 3 := by rw [Heap.size_push, z2]
  have z4 : ((((s.heap.push (itO ka l1)).push (itO kb l2)).push { cls := .type "tuple", data := .seq #[.ref s.heap.objs.size, .ref (s.heap.push (itO ka l1)).objs.size] }).push { cls := .type "tuple", data := .seq #[.none, .none] }).objs.size = s.heap.objs.size + 4 := by rw [Heap.size_push, z3]
  have g1 : (zip5 s.heap ka kb l1 l2).get? s.heap.objs.size = some (itO ka l1) := Heap.get?_push_of_some _ (Heap.get?_push_of_some _ (Heap.get?_push_of_some _ (Heap.get?_push_of_some _ (Heap.get?_push_size _ itO_free))))
  have g2 : (zip5 s.heap ka kb l1 l2).get? (s.heap.objs.size + 1) = some (itO kb l2) := by rw [← z1]; exact Heap.get?_push_of_some _ (Heap.get?_push_of_some _ (Heap.get?_push_of_some _ (Heap.get?_push_size _ itO_free)))
  have g3 : (zip5 s.heap ka kb l1 l2).get? (s.heap.objs.size + 2) = some { cls := .type "tuple", data := .seq #[.ref s.heap.objs.size, .ref (s.heap.objs.size + 1)] } := by
    rw [← z2]
    have q : (zip5 s.heap ka kb l1 l2).get? ((s.heap.push (itO ka l1)).push (itO kb l2)).objs.size = some { cls := .type "tuple", data := .seq #[.ref s.heap.objs.size, .ref (s.heap.push (itO ka l1)).objs.size] } := Heap.get?_push_of_some _ (Heap.get?_push_of_some _ (Heap.get?_push_size _ rfl))
    rw [z1] at q
    exact q
  have g4 : (zip5 s.heap ka kb l1 l2).get? (s.heap.objs.size + 3) = some { cls := .type "tuple", data := .seq #[.none, .none] } := by rw [← z3]; exact Heap.get?_push_of_some _ (Heap.get?_push_size _ rfl)
  have g5 : (zip5 s.heap ka kb l1 l2).get? (s.heap.objs.size + 4) = some { cls := .type "zip", data := .fields #[.none, .bool false, .bool false, .ref (s.heap.objs.size + 2), .ref (s.heap.objs.size + 3)] } := by
    rw [← z4]
    have q : (zip5 s.heap ka kb l1 l2).get? ((((s.heap.push (itO ka l1)).push (itO kb l2)).push { cls := .type "tuple", data := .seq #[.ref s.heap.objs.size, .ref (s.heap.push (itO ka l1)).objs.size] }).push { cls := .type "tuple", data := .seq #[.none, .none] }).objs.size = some { cls := .type "zip", data := .fields #[.none, .bool false, .bool false, .ref ((s.heap.push (itO ka l1)).push (itO kb l2)).objs.size, .ref (((s.heap.push (itO ka l1)).push (itO kb l2)).push { cls := .type "tuple", data := .seq #[.ref s.heap.objs.size, .ref (s.heap.push (itO ka l1)).objs.size] }).objs.size] } := Heap.get?_push_size _ rfl
    rw [z2, z3] at q
    exact q
  show _ ∧ _
  exact ⟨⟨_, g5, rfl⟩, h _ ⟨g5, g3, ⟨_, _, g4⟩, .new g1, .new g2⟩ kp⟩
theorem b_zip : bootBuiltins "zip" = some (.type "zip") := by decide +kernel
def iZip (K : PySem.W.Frag) (ka kb : Bool) (ta : TA) : TI := fun σ H R => ta σ H fun vs H1 => ∃ a b xs ys, vs = [.ref a, .ref b] ∧ SqK K ka H1 a xs ∧ SqK K kb H1 b ys ∧ R (Itz K ka kb a b) H1
theorem pi_zip {X : Cx} {elts : List Expr} {x1} {tp : Pos} {a b : Expr} {ta : TA} {p pos : Pos} (ka kb : Bool) (hg : Gl X "zip") (hm : X.mg "zip" = none) (ha : PA X [a, b] ta) (hs : starEach [a, b] X.env = [(false, eval a X.env), (false, eval b X.env)] := by rfl) (hs2 : starEach [b] X.env = [(false, eval b X.env)] := by rfl) :
    PI X (.Tuple elts x1 tp) (.Call (.Name "zip" p) [a, b] [] pos) (iZip X.K ka kb ta) := by
  intro pins s σ H R I h
  refine Call_ (ld_blt I hg hm b_zip (PyProof.Rows.callWith_type1 (thn (ha pos pins s σ H _ I h) fun us s1 ⟨vs, H1, I1, r1, q1⟩ => ?_) (by rw [hs, hs2]) (by rw [hs2]; rfl)))
  obtain ⟨a', b', xs, ys, e, q1, q2, q⟩ := q1
  subst e
  obtain ⟨u, v, rfl, r1, r2⟩ := r1.two
  cases r1
  cases r2
  obtain ⟨us, e1, p1⟩ := seqK I1 q1
  obtain ⟨vs, e2, p2⟩ := seqK I1 q2
  have lt : ∀ {k : Bool} {l : Addr} {zs : Array Value}, SAt k s1.heap l zs → l < s1.heap.objs.size := fun {k l zs} x => by
    cases k with
    | true => obtain ⟨o, ho, _⟩ := x; exact Heap.lt_size ho
    | false => obtain ⟨o, ho, _⟩ := x; exact Heap.lt_size ho
  have t1 := lt p1
  have t2 := lt p2
  refine callS p1 p2 fun h' Z kp => wpAny_pyIter_zip (s := { s1 with heap := h' }) Z.zp ?_
  have D : ZipApart (s1.heap.objs.size + 4) (s1.heap.objs.size + 2) (s1.heap.objs.size + 3) s1.heap.objs.size (s1.heap.objs.size + 1) a' b' := by
    have t1' : @LT.lt Nat _ a' s1.heap.objs.size := t1
    have t2' : @LT.lt Nat _ b' s1.heap.objs.size := t2
    constructor <;> (show ¬ (@Eq Nat _ _); omega)
  refine ⟨_, [s1.heap.objs.size + 4, s1.heap.objs.size + 2, s1.heap.objs.size + 3, s1.heap.objs.size, s1.heap.objs.size + 1], _, _, H1, rfl, I1.kept (t' := s1.toks) kp, turn_zip D, Z, fun c hc => ?_, q⟩
  have ge : s1.heap.objs.size ≤ c := by
    simp only [List.mem_cons, List.not_mem_nil, or_false] at hc
    rcases hc with rfl | rfl | rfl | rfl | rfl <;> omega
  exact I1.fpOk ge (I1.hok.fresh ge)
end L2
set_option Elab.async false
set_option linter.all false
set_option maxRecDepth 100000
namespace L2
open PySem PySem.Spec PyProof.Rows
def turnZ (tc : TT) (te : TE) (σ : St) (d : Addr) (x y : V) (H : Hp) (Z : Hp → Prop) : Prop :=
  tc (some x :: some y :: σ) H fun b H3 => if b = true then te (some x :: some y :: σ) H3 fun v H4 => ∃ ys, H4 d = some (.lst ys) ∧ ys.length < sizeLine ∧ Z (upd H4 d (.lst (ys ++ [v]))) else Z H3
def tCompZ (K : PySem.W.Frag) (ka kb : Bool) (ta : TA) (tc : TT) (te : TE) : TE := fun σ H Q => ta σ H fun vs H1 => ∃ a b xs ys, vs = [.ref a, .ref b] ∧ SqK K ka H1 a xs ∧ SqK K kb H1 b ys ∧ xs.length = ys.length ∧ ∀ d, H1 d = none →
  ∃ Pv : Nat → Hp → Prop, Pv 0 (upd H1 d (.lst [])) ∧ (∀ i H, i ≤ xs.length → Pv i H → SqK K ka H a xs ∧ SqK K kb H b ys) ∧ (∀ i x y p H, xs[i]? = some x → ys[i]? = some y → Pv i H → H p = none → turnZ tc te σ d x y (upd H p (.tup [x, y])) (Pv (i + 1))) ∧ ∀ H, Pv xs.length H → Q (.ref d) H
def gPair (K : PySem.W.Frag) : TG := gTup K 2 (gCons (gName 0) (gCons (gName 1) gNil))
theorem gPair_two {K : PySem.W.Frag} {v : V} {σ : St} {H : Hp} {Q : St → Hp → Prop} (h : gPair K v (List.replicate 2 none ++ σ) H Q) : gPair K v (List.replicate 2 none ++ σ) H fun σ2 H2 => (∃ l : St, l.length = 2 ∧ σ2 = l ++ σ) ∧ Q σ2 H2 := by
  obtain ⟨a, xs, e, hq, hl, v1, r1, e1, v2, r2, e2, e3, q⟩ := h
  exact ⟨a, xs, e, hq, hl, v1, r1, e1, v2, r2, e2, e3, ⟨[some v1, some v2], rfl, rfl⟩, q⟩
theorem comp_zip {K : PySem.W.Frag} {ka kb : Bool} {a b : Addr} {xs ys : List V} {tc : TT} {te : TE} {σ : St} {H : Hp} {Q : VK} {d : Addr} (hlen : xs.length = ys.length) (Pv : Nat → Hp → Prop) (h0 : Pv 0 (upd H d (.lst []))) (hl : ∀ i H, i ≤ xs.length → Pv i H → SqK K ka H a xs ∧ SqK K kb H b ys)
    (hs : ∀ i x y p H, xs[i]? = some x → ys[i]? = some y → Pv i H → H p = none → turnZ tc te σ d x y (upd H p (.tup [x, y])) (Pv (i + 1)))
    (hd : ∀ H, Pv xs.length H → Q (.ref d) H) :
    ∃ W : Nat → Nat → Hp → Prop, (∃ m, W 0 m (upd H d (.lst []))) ∧ ∀ i m H, W i m H →
      ((Itz K ka kb a b).stop i H ∧ Q (.ref d) H) ∨ ((Itz K ka kb a b).go i H ∧ ∃ N : Hp → Prop, (∀ H', N H' → ∃ m', m' < m ∧ W (i + 1) m' H') ∧ ∀ x H', (Itz K ka kb a b).yld i H x H' → gPair K x (List.replicate 2 none ++ σ) H' fun σ2 H2 =>
        tc σ2 H2 fun b H3 => if b = true then te σ2 H3 fun y H4 => ∃ ys, H4 d = some (.lst ys) ∧ ys.length < sizeLine ∧ N (upd H4 d (.lst (ys ++ [y]))) else N H3) := by
  refine ⟨fun i m H => m = xs.length - i ∧ i ≤ xs.length ∧ Pv i H, ⟨xs.length, by simp, Nat.zero_le _, h0⟩, ?_⟩
  rintro i m H ⟨rfl, hi, p⟩
  obtain ⟨q1, q2⟩ := hl i H hi p
  by_cases hlt : i < xs.length
  · refine .inr ⟨⟨xs, ys, _, _, q1, q2, List.getElem?_eq_getElem hlt, List.getElem?_eq_getElem (by omega)⟩, Pv (i + 1), fun H' n => ⟨xs.length - (i + 1), by omega, rfl, by omega, n⟩, ?_⟩
    rintro v H' ⟨p', x, y, rfl, hn, e1, e2, rfl⟩
    exact ⟨p', [x, y], rfl, SqT.of upd_same, rfl, x, [y], rfl, y, [], rfl, rfl, hs i x y p' H (e1 _ q1) (e2 _ q2) p hn⟩
  · have e : i = xs.length := by omega
    subst e
    exact .inl ⟨⟨xs, ys, q1, q2, .inl (Nat.le_refl _)⟩, hd H p⟩
theorem pe_compZ {X : Cx} (K : PySem.W.Frag) (ka kb : Bool) {elt a b : Expr} {t1 t2 : Str} {p1 p2 tp p pos pos' : Pos} {k : Nat} {cs : List Expr} {scope : Scope} {tc : TT} {te : TE} {ta : TA} {M : List Str} (hc : X.calm = true) (S : CompScope scope X.env X.N M) (nd : (t1 :: t2 :: M).Nodup) (hl1 : scope.names.lookup t1 = some .local) (hl2 : scope.names.lookup t2 = some .local)
    (hg : Gl X "zip") (hm : X.mg "zip" = none) (ha : PA X [a, b] ta) (mo : MonoA ta)
    (hin : ∀ (cl : List (Str × Addr)) (C : Addr) (s0 : Shared) (H0 : Hp) (fp : List Addr) (pins : List (Addr × Obj)) (σ : St), Back X (cxC X scope cl C s0 H0 fp (t1 :: t2 :: M)) pins σ fp C s0 H0 → PTs (cxC X scope cl C s0 H0 fp (t1 :: t2 :: M)) cs tc ∧ PE (cxC X scope cl C s0 H0 fp (t1 :: t2 :: M)) elt te)
    (hs : starEach [a, b] X.env = [(false, eval a X.env), (false, eval b X.env)] := by rfl) (hs2 : starEach [b] X.env = [(false, eval b X.env)] := by rfl) (hf : ∀ x, foldedSetIterable (.Call (.Name "zip" p) [a, b] [] pos') X.env x = pure x := by intro _; rfl) (hK : X.K = K := by rfl) :
    PE X (.ListComp elt [⟨.Tuple [.Name t1 p1, .Name t2 p2] k tp, .Call (.Name "zip" p) [a, b] [] pos', cs, 0⟩] scope pos) (tCompZ K ka kb ta tc te) := by
  subst hK
  have hx1 : (relabel scope X.env).names.lookup t1 = some .local := by rw [lookup_relabel, hl1]; rfl
  have hx2 : (relabel scope X.env).names.lookup t2 = some .local := by rw [lookup_relabel, hl2]; rfl
  refine PE.imp (pe_compB (xs := [t1, t2]) (M := M) (g := gPair X.K) hc S (pi_zip ka kb hg hm ha hs hs2) (fun cl C s0 H0 fp pins σ bk => ⟨pg_tup hc (pgs_cons (pg_name (i := 0) nd rfl (Or.inl hx1) (Or.inr hx1)) (pgs_cons (pg_name (i := 1) nd rfl (Or.inl hx2) (Or.inr hx2)) pgs_nil)), hin cl C s0 H0 fp pins σ bk⟩) (fun v σ H Q h => gPair_two h) hf) (fun σ H Q h => ?_)
  refine mo σ H _ _ (fun vs H1 q => ?_) h
  obtain ⟨a', b', xs, ys, e, q1, q2, hlen, q⟩ := q
  refine ⟨a', b', xs, ys, e, q1, q2, fun d hd => ?_⟩
  obtain ⟨Pv, h0, hl, hs, hd⟩ := q d hd
  exact comp_zip hlen Pv h0 hl hs hd
end L2
set_option Elab.async false
set_option linter.all false
set_option maxRecDepth 100000
namespace L2
open PySem PySem.Spec PyProof.Rows
def untr (H : Hp) (e : Addr) : Hp := fun b => if b = e then none else H b
theorem untr_ne {H : Hp} {e b : Addr} (h : b ≠ e) : untr H e b = H b := by unfold untr; rw [if_neg h]
theorem untr_self {H : Hp} {e : Addr} : untr H e e = none := by unfold untr; rw [if_pos rfl]
theorem raise_any {M : Model} {A : Around} {E : Value → Shared → Prop} {K : PySem.W.Frag} {env : Env} {s : Shared} {x : Sem Value} {Q : Flow → Shared → Prop} (hh : A.handled = none)
    (h : wpAny M A x (fun v s₁ => ∃ e C oe vs, v = .ref e ∧ K.In s₁.heap ∧ Hcl K C ∧ s₁.heap.get? e = some oe ∧ oe.cls = .ref C ∧ oe.data = .fields vs ∧ vs[1]? = some .none ∧ E (.ref e) s₁) E s) :
    wpAny M A (raiseStmt env (some x) none) Q E s := by
  unfold raiseStmt
  refine wpAny_bind (wpAny_mono h (fun v s₁ h₁ => ?_) fun _ _ z => z)
  obtain ⟨e, C, oe, vs, rfl, X, hC, he, hc, hd, h1, hE⟩ := h₁
  obtain ⟨hp, g, d, tk, os⟩ := s₁
  have L1 : PySem.W.Looks M hp (typeOf (.ref e)) (.ref C) := hc ▸ (PySem.W.Looks.ld he).andThen .now
  have L2 : PySem.W.Looks M hp (isSubtype (.ref C) (.type "BaseException")) true := PySem.W.looks_subIn X hC.be
  have L3 : PySem.W.Looks M hp (typeOf (.ref C)) (.type "type") := PySem.W.looks_typeIn X hC.ty
  have L4 : PySem.W.Looks M hp (isType (.ref e)) false := by
    unfold isType
    intro A' Q' E' s' k q
    unfold loadHead
    refine wpAny_bind (wpAny_loadPart (k _ _ he) (wpAny_pure ?_))
    show Q' (match oe.data with | .cls _ => true | _ => false) s'
    rw [hd]
    exact q
  unfold excFromValue isExcClass raisedInstance setFlight
  repeat (first | with_reducible refine PySem.W.Looks.at (by assumption) ?_ | with_reducible refine wpAny_field he hd h1 ?_ | with_reducible refine wpAny_raiseNew_none hh hE | wp_step)
def tRaiseI (C : Addr) (sp : Sp) (E : XK) (ta : TA) : TS := fun _ σ H => ta σ H fun vs H1 => vs.length ≤ 1000 ∧ ∀ ea, H1 ea = none → sp (.ref ea :: vs) (upd H1 ea (excN ea C none)) (fun v H2 => v = .non ∧ ∃ od, H2 ea = some (excN ea C od) ∧ E (.ref C) od (untr H2 ea)) E0
theorem HOk.untr {P : Program} {w : World} {H : Hp} {h : Heap} {ea C : Addr} {od : Option Addr} (x : HOk P w H h) (e : H ea = some (excN ea C od)) : HOk P w (untr H ea) h := fun b u hb => by
  have ne : b ≠ ea := fun z => by rw [z, untr_self] at hb; cases hb
  rw [untr_ne ne] at hb
  refine (x b u hb).stay (fun _ _ _ q => q) (fun c q => ?_) fun c xs q => ?_
  · rw [untr_ne (fun z => by rw [z, e] at q; cases q)]; exact q
  · rw [untr_ne (fun z => by rw [z, e] at q; cases q)]; exact q
theorem ps_raiseI {X : Cx} {E : XK} {x : Str} {C fI : Addr} {k : Nat} {fd : FuncData} {ps : List Str} {sp : Sp} {np cpos pos : Pos} {e : Expr} {es : List Expr} {ta : TA} (hx : Passes (CXF X.prog X.w) X E) (hc : X.calm = true) (hg : Gl X x) (hm : X.mg x = some (.ref C)) (hcl : Eci X.K C fI) (hH : Hcl X.K C) (hk : PySem.W.keepIn X.K (.ref C) = true)
    (F : FnOk X.prog X.w X.K X.mg X.base CX0 k fI fd ps sp) (hr : Room (k + 1) X.A) (hb : Binds X.K fd ps []) (ha : PA X (e :: es) ta)
    (hdb : (x == ("__debug__" : Str)) = false := by decide) (he : starEach (e :: es) X.env = (false, eval e X.env) :: starEach es X.env := by rfl) (hpl : (backTo cpos (starEach es X.env)).any (·.1) = false := by rfl) :
    PS X (.Raise (some (.Call (.Name x np) (e :: es) [] cpos)) none pos) (tRaiseI C sp E ta) := by
  intro pins s σ H D I h
  rw [arm_exec_Raise]
  refine wpAny_bind (wpAny_standAt ?_)
  show wpAny (model X.prog X.w) X.A (raiseStmt X.env (some (do let v ← eval (.Call (.Name x np) (e :: es) [] cpos) X.env; standAt pos; pure v)) none) _ _ _
  refine raise_any (K := X.K) (I.ok.hd hc) (wpAny_bind (wpAny_mono ?_ (fun v s' hv => wpAny_bind (wpAny_standAt (wpAny_pure hv))) fun _ _ z => z))
  refine wpAny_Call_Name_kw (ld_glob I hg hm ?_ hdb)
  refine PySem.W.callWith_K (h₀ := X.base) I.ok.mod.kin hk (thn (ha cpos pins s σ H _ I h) fun us s1 ⟨vs, H1, I1, r, hl, q⟩ => ⟨I1.kIn, ?_⟩) he hpl
  refine run_init hcl F hr hb I1 r hl q fun ea h' s' u me ce => ?_
  obtain ⟨v, H2, I3, rv, ⟨rfl, od, hE, q3⟩⟩ := (I1.newExc (t' := s1.toks) me).after ce
  obtain ⟨v', H2', os, bare, un, hok, rv', ⟨e1, od', hE', q'⟩⟩ := ce
  subst e1
  refine ⟨rv', ea, C, ?_⟩
  obtain ⟨⟨oe, ws, ho, hcl', hdd, hdt, h1⟩, _, _⟩ := hok ea _ hE'
  have kin : X.K.In s'.heap := I3.kIn
  refine ⟨oe, ws, rfl, kin, hH, ho, hcl', hdt, h1, ?_⟩
  have nea : ∀ b o, s1.heap.get? b = some o → b ≠ ea := fun b o q z => by rw [z, me.new] at q; cases q
  have nH := I1.hok.none_of me.new
  have tne : ∀ b o, H1 b = some o → b ≠ ea := fun b o q z => by rw [z, nH] at q; cases q
  refine hx pins σ H1 s1 (.ref ea) s' I1 ⟨ea, .ref C, od', [ea], untr H2' ea, rfl, os, bare, ⟨fun b o g n hb hx => ?_, fun b o g n hb hx => ?_, fun b o g n hx => ?_, fun b o g hx => ?_, fun b xs g => ?_, fun b o u g => ?_, fun b ps g => ?_⟩, HOk.untr hok hE', ?_, fun b hb => ?_, q'⟩
  · exact un.keep b o (me.keeps b o g) (by rw [upd_ne (nea b o g)]; exact n) hb hx
  · exact un.slot b o (me.keeps b o g) (by rw [upd_ne (nea b o g)]; exact n) hb hx
  · rw [untr_ne (nea b o g)]
    exact un.free b o (me.keeps b o g) (by rw [upd_ne (nea b o g)]; exact n) hx
  · exact un.there b o (me.keeps b o g) hx
  · rw [untr_ne (tne b _ g)]
    exact un.tups b xs (by rw [upd_ne (tne b _ g)]; exact g)
  · rw [untr_ne (tne b _ g)]
    exact un.frzs b o u (by rw [upd_ne (tne b _ g)]; exact g)
  · obtain ⟨more, z⟩ := un.tbls b ps (by rw [upd_ne (tne b _ g)]; exact g)
    exact ⟨more, by rw [untr_ne (tne b _ g)]; exact z⟩
  · refine ⟨List.mem_cons_self, fun b hb o ho' => ?_, .none, ⟨oe, ws, ho, hcl', hdd, hdt, h1⟩, .inl rfl⟩
    rw [List.mem_singleton.mp hb, ho] at ho'
    cases ho'
    exact ⟨ws, hdt⟩
  · rw [List.mem_singleton.mp hb]
    exact ⟨me.new, untr_self⟩
end L2
set_option Elab.async false
set_option linter.all false
set_option maxRecDepth 100000
namespace L2
open PySem PySem.Spec PyProof.Rows
def Exo (H : Hp) (e C : Addr) (fs : List (Str × V)) : Prop := ∃ dx, H e = some (excO e C (some dx)) ∧ H dx = some (xdO dx fs)
theorem Exo.same {H H' : Hp} {e C : Addr} {fs : List (Str × V)} (h : Exo H e C fs) (s : Same H H') : Exo H' e C fs := by
  obtain ⟨dx, h1, h2⟩ := h
  exact ⟨dx, s _ _ h1, s _ _ h2⟩
theorem inst_ofO {X : Cx} {pins : List (Addr × Obj)} {σ : St} {H : Hp} {s : Shared} {ea C : Addr} {fs : List (Str × V)} (I : Inv X pins σ H s) (h : Exo H ea C fs) : ∃ (ox : Obj) (mA : Str → Option Value) (od : Obj), PySem.W.InstAt s.heap ea ox C (some od) ∧ (∀ name, PySem.W.lookIn name od = some (mA name)) ∧ ∀ f, RelO (fs.lookup f) (mA f) := by
  obtain ⟨dx, h1, h2⟩ := h
  obtain ⟨⟨oe, vs, ho, hc, hd, hdt⟩, _, _⟩ := I.hok ea _ h1
  obtain ⟨⟨mA, hn, hr, hw⟩, _, _⟩ := I.hok dx _ h2
  obtain ⟨od, hod, hl⟩ := lookIn_ns hn
  exact ⟨oe, mA, od, ⟨ho, hc, by unfold PySem.W.notCls; rw [hdt], by rw [hd]; exact hod⟩, hl, hr⟩
def rIsiO (K : PySem.W.Frag) : List V → Hp → VK → Prop := fun xs H Q => ∃ ea C fs c b, xs = [.ref ea, c] ∧ Exo H ea C fs ∧ Ek K C ∧
  ((∃ D, c = .ref D ∧ PySem.W.kitOne K (.ref C) (.ref D) = some b) ∨ ∃ T, c = .ty T ∧ PySem.W.kitOne K (.ref C) (.type T) = some b) ∧ Q (.bl b) H
theorem isiO {X : Cx} (K : PySem.W.Frag) (hK : X.K = K := by rfl) : CallR X (.builtin "isinstance") (rIsiO K) := by
  subst hK
  intro pins s σ H xs us Q I r h
  obtain ⟨ea, C, fs, c, b, rfl, he, G, hc, q⟩ := h
  obtain ⟨u, v, rfl, r1, r2⟩ := r.two
  cases r1
  obtain ⟨ox, mA, o, IA, _, _⟩ := inst_ofO I he
  rcases hc with ⟨D, rfl, e⟩ | ⟨T, rfl, e⟩
  · cases r2
    exact PySem.W.kia_one (kitx_exc G) I.kIn ⟨ox, _, IA⟩ e (fun z => nomatch z) fun tk => ⟨.bl b, H, I.tok tk, rfl, q⟩
  · cases r2
    exact PySem.W.kia_one (kitx_exc G) I.kIn ⟨ox, _, IA⟩ e (fun z => nomatch z) fun tk => ⟨.bl b, H, I.tok tk, rfl, q⟩
def tXo (K : PySem.W.Frag) (ta : TE) (f : Str) : TE := fun σ H Q => ta σ H fun x H1 => ∃ e C fs v, x = .ref e ∧ Exo H1 e C fs ∧ Ek K C ∧ Est K C ∧ NoAttr K C f ∧ fs.lookup f = some v ∧ Q v H1
theorem pe_xo {X : Cx} (K : PySem.W.Frag) {e : Expr} {f : Str} {pos : Pos} {ta : TE} (he : PE X e ta) (hb : attributeBase e f X.env (eval e X.env) = eval e X.env := by rfl) (hK : X.K = K := by rfl) : PE X (.Attribute e f pos) (tXo K ta f) := by
  subst hK
  intro pins s σ H Q I h
  refine attr_of hb (thn (he pins s σ H _ I h) fun u s1 ⟨x, H1, I1, rx, ea, C, fs, v, ex, h1, G, S, n, l, q⟩ => ?_)
  subst ex
  obtain rfl : u = Value.ref ea := rx
  obtain ⟨oe, mA, od, IA, hl, hr⟩ := inst_ofO I1 h1
  obtain ⟨u, hu, ru⟩ := RelO.some_of (v := v) (o := mA f) (by rw [← l]; exact hr f)
  have hh : PySem.W.hasDictIn X.K C = true := by
    obtain ⟨k, a, b, hk, hh, _⟩ := S.cd
    unfold PySem.W.hasDictIn
    rw [hk]
    exact hh
  exact exc_get I1.kIn IA G (PySem.W.findObj_own hh n rfl (by rw [hl, hu])) (handed_of ru) ⟨v, H1, I1.tok _, ru, q⟩
theorem untr_same {H0 H2 : Hp} {e : Addr} {o : HO} (hn : H0 e = none) (h : ∀ a o', a ≠ e → upd H0 e o a = some o' → H2 a = some o') : Same H0 (untr H2 e) := fun a o' ho => by
  have ne : a ≠ e := fun z => by rw [z, hn] at ho; cases ho
  rw [untr_ne ne]
  exact h a o' ne (by rw [upd_ne ne]; exact ho)
def Exg (H : Hp) (e C : Addr) (fs : List (Str × V)) : Prop := ∃ dx, dx ≠ e ∧ H e = some (excN e C (some dx)) ∧ H dx = some (xdO dx fs)
def spJ1 (C : Addr) (f : Str) : Sp := fun vs H Q _ => ∃ e v, vs = [.ref e, v] ∧ H e = some (excN e C none) ∧ ∀ H', (∀ a o, a ≠ e → H a = some o → H' a = some o) → Exg H' e C [(f, v)] → Q .non H'
theorem raised_of {H1 H2 : Hp} {ea C : Addr} {fs : List (Str × V)} {E : XK} (hn : H1 ea = none) (kp : ∀ a o, a ≠ ea → upd H1 ea (excN ea C none) a = some o → H2 a = some o) (x : Exg H2 ea C fs) (h : ∀ dx H', Same H1 H' → H' dx = some (xdO dx fs) → E (.ref C) (some dx) H') :
    ∃ od, H2 ea = some (excN ea C od) ∧ E (.ref C) od (untr H2 ea) := by
  obtain ⟨dx, ne, h1, h2⟩ := x
  exact ⟨some dx, h1, h dx _ (untr_same hn kp) (by rw [untr_ne ne]; exact h2)⟩
theorem caught_of {H : Hp} {ea C dx : Addr} {fs : List (Str × V)} (hn : H ea = none) (h : H dx = some (xdO dx fs)) : Exo (upd H ea (excO ea C (some dx))) ea C fs :=
  ⟨dx, upd_same, by rw [upd_ne (ne_of_none h hn)]; exact h⟩
end L2
set_option Elab.async false
set_option linter.all false
set_option maxRecDepth 100000
namespace L2
open PySem PySem.Spec PyProof.Rows
section
variable {κ : Type} [DecidableEq κ]
def valV (kvs : List (κ × V)) (k : κ) : Option V := (kvs.find? fun kv => decide (kv.1 = k)).map (·.2)
def putK (kvs : List (κ × V)) (k : κ) (v : V) : List (κ × V) :=
  if (kvs.any fun kv => decide (kv.1 = k)) = true then kvs.map (fun kv => if kv.1 = k then (kv.1, v) else kv) else kvs ++ [(k, v)]
def dropK (kvs : List (κ × V)) (k : κ) : List (κ × V) := kvs.filter fun kv => decide (kv.1 ≠ k)
end
abbrev KT (H : Hp) : List (List Key × V) → List (List Key × Addr × Value) → Prop := Paired fun p q => p.1 = q.1 ∧ H q.2.1 = some (.tup (p.1.map kV)) ∧ RelV p.2 q.2.2
section
variable {P : Program} {w : World} {H : Hp} {h : Heap} {a : Addr}
end
def DGet (H : Hp) (a : Addr) (y : V) (r : Option V) : Prop :=
  (∃ kvs k, Rd H a (.dK kvs) ∧ y = kV k ∧ r = valV kvs k) ∨ ∃ kvs k b, Rd H a (.dT kvs) ∧ y = .ref b ∧ H b = some (.tup (k.map kV)) ∧ r = valV kvs k
def DPut (H : Hp) (a : Addr) (y v : V) (H' : Hp) : Prop :=
  (∃ kvs k, H a = some (.dK kvs) ∧ y = kV k ∧ kvs.length < sizeLine ∧ H' = upd H a (.dK (putK kvs k v))) ∨
  ∃ kvs k b, H a = some (.dT kvs) ∧ y = .ref b ∧ H b = some (.tup (k.map kV)) ∧ kvs.length < sizeLine ∧ H' = upd H a (.dT (putK kvs k v))
section
variable {X : Cx} {pins : List (Addr × Obj)} {σ : St} {H : Hp} {s : Shared} {a : Addr} {y v : V} {u r : Value} {o : Option V} {A : Around} {E : Value → Shared → Prop}
end
section
variable {X : Cx} {pins : List (Addr × Obj)} {σ : St} {H : Hp} {s : Shared} {a : Addr} {kvs : List (Key × V)} {k : Key} {u : Value} {A : Around} {E : Value → Shared → Prop}
end
def NoSl (i : Expr) : Prop := ∀ ov iv, subscripted i false ov iv = operate [ov, iv] (getItem ov iv)
def tDGet (td ty : TE) : TE := fun σ H Q => td σ H fun x H1 => ty σ H1 fun y H2 => ∃ a v, x = .ref a ∧ DGet H2 a y (some v) ∧ Q v H2
def tDIn (ty td : TE) : TE := fun σ H Q => ty σ H fun y H1 => td σ H1 fun x H2 => ∃ a o, x = .ref a ∧ DGet H2 a y o ∧ Q (.bl o.isSome) H2
def sDPut (td ty tv : TE) : TS := fun D σ H => tv σ H fun v H1 => td σ H1 fun x H2 => ty σ H2 fun y H3 => ∃ a H4, x = .ref a ∧ DPut H3 a y v H4 ∧ D.nx σ H4
def sDAug (td ty tv : TE) (rd : V → V → Hp → VK → Prop) : TS := fun D σ H => td σ H fun x H1 => ty σ H1 fun y H2 => ∃ a v, x = .ref a ∧ DGet H2 a y (some v) ∧
  tv σ H2 fun y2 H3 => rd v y2 H3 fun z H4 => ∃ H5, DPut H4 a y z H5 ∧ D.nx σ H5
def sDDel (td ty : TE) : TS := fun D σ H => td σ H fun x H1 => ty σ H1 fun y H2 => ∃ a kvs k, x = .ref a ∧ H2 a = some (.dK kvs) ∧ y = kV k ∧ (valV kvs k).isSome = true ∧ D.nx σ (upd H2 a (.dK (dropK kvs k)))
section
variable {X : Cx} {o i e value : Expr} {pos pos' tpos : Pos} {td ty tv : TE}
end
def tDNewK : TE := fun _ H Q => ∀ p, H p = none → Q (.ref p) (upd H p (.dK []))
section
variable {X : Cx} {pos : Pos}
end
def tPairs : List (TE × TE) → St → Hp → (List (V × V) → Hp → Prop) → Prop
  | [], _, H, Q => Q [] H
  | (tk, tv) :: r, σ, H, Q => tk σ H fun x H1 => tv σ H1 fun y H2 => tPairs r σ H2 fun ps H3 => Q ((x, y) :: ps) H3
def mergeK (kvs more : List (Key × V)) : List (Key × V) := more.foldl (fun acc kv => putK acc kv.1 kv.2) kvs
def tDisp (trs : List (TE × TE)) : TE := fun σ H Q => ∀ p, H p = none → tPairs trs σ (upd H p (.dK [])) fun ps H2 => H2 p = some (.dK []) ∧ ∃ kvs : List (Key × V), ps = kvs.map (fun kv => (kV kv.1, kv.2)) ∧ kvs.length ≤ 15 ∧ Q (.ref p) (upd H2 p (.dK (mergeK [] kvs)))
structure M1 (X : Cx) (o : Expr) (m : Str) (apos : Pos) (e : Expr) (cpos : Pos) : Prop where
  base : attributeBase o m X.env (eval o X.env) = eval o X.env
  few : ((backTo cpos (starEach [e] X.env)).all (fun x => !x.1) && (backToKw cpos (keywordEach [] X.env)).all (fun x => x.1.isSome)
    && decide (([e] : List Expr).length + ([] : List Keyword).length + (if ([] : List Keyword).isEmpty then 0 else 1) < 30)) = true
  line : (apos.endLine == cpos.line) = true
  trees : backTo cpos (starEach [e] X.env) = [(false, eval e X.env)]
def IsD (H : Hp) (a : Addr) : Prop := (∃ kvs, Rd H a (.dK kvs)) ∨ ∃ kvs, Rd H a (.dT kvs)
section
variable {X : Cx} {pins : List (Addr × Obj)} {σ : St} {H : Hp} {s : Shared} {a : Addr} {y d : V} {u r : Value} {o : Option V} {A : Around} {E : Value → Shared → Prop}
end
def tDPop1 (td ty : TE) : TE := fun σ H Q => td σ H fun x H1 => ∃ a, x = .ref a ∧ IsD H1 a ∧ ty σ H1 fun y H2 => ∃ kvs k v, H2 a = some (.dK kvs) ∧ y = kV k ∧ valV kvs k = some v ∧ Q v (upd H2 a (.dK (dropK kvs k)))
section
variable {X : Cx} {o e f : Expr} {apos cpos : Pos} {td ty tx : TE}
end
section
variable {X : Cx} {pins : List (Addr × Obj)} {σ : St} {H : Hp} {s : Shared} {a : Addr} {kvs : List (Key × V)} {A : Around} {E : Value → Shared → Prop}
end
section
variable {X : Cx} {pins : List (Addr × Obj)} {σ : St} {H : Hp} {s : Shared} {a : Addr} {y : V} {u : Value} {A : Around} {E : Value → Shared → Prop}
end
end L2
set_option Elab.async false
set_option linter.all false
set_option maxRecDepth 100000
namespace L2
open PySem PySem.Spec PyProof.Rows
section
variable {prog : Program} {w : World} {A : Around} {E : Value → Shared → Prop} {s : Shared} {k : Bool} {ee it l : Addr} {n : Nat} {xs : Array Value} {x old : Value}
theorem enumS_item {Q : Value → Shared → Prop} (he : IsEnum s.heap ee it n old) (hi : SIt k s.heap it l n) (hl : SAt k s.heap l xs) (hx : xs[n]? = some x) (hne : ee ≠ it)
    (hQ : ∀ h', IsEnumOut h' ee it ((n : Int) + 1) x s.heap.objs.size → SIt k h' it l (n + 1) → h'.get? s.heap.objs.size = some { cls := .type "tuple", data := .seq #[.int n s.toks, x] } →
      (∀ b o, b ≠ ee → b ≠ it → s.heap.get? b = some o → h'.get? b = some o) → Q (.ref s.heap.objs.size) { s with heap := h', toks := s.toks + 1 }) :
    wpAny (model prog w) A (Builtin.«enumerate.__next__» ⟨[.ref ee], []⟩) (fun fin s' => ∃ v, fin = .done (.ret v) ∧ Q v s') E s := by
  obtain ⟨hp, g, d, tk, os⟩ := s
  show wpAny _ _ (field (.ref ee) 2 >>= _) _ _ _
  refine wpAny_bind (wpAny_field he rfl (x := .ref it) rfl (wpAny_bind (nextS hi hl hx fun g1 i1 b1 => ?_)))
  replace b1 : Heap.SameBut it hp g1 := b1
  have e1 : IsEnum g1 ee it n old := (b1.2 ee hne).trans he
  show wpAny _ _ (field (.ref ee) 3 >>= _) _ _ ⟨g1, g, d, tk, os⟩
  refine wpAny_bind (wpAny_field e1 rfl (x := rawInt n) rfl ?_)
  show wpAny _ _ (field (.ref ee) 4 >>= _) _ _ ⟨g1, g, d, tk, os⟩
  refine wpAny_bind (wpAny_field e1 rfl (x := .none) rfl ?_)
  show wpAny _ _ (mkInt n >>= _) _ _ ⟨g1, g, d, tk, os⟩
  refine wpAny_bind (wpAny_mkInt ?_)
  show wpAny _ _ (setField (.ref ee) 3 (rawInt ((n : Int) + 1)) >>= _) _ _ ⟨g1, g, d, tk + 1, os⟩
  refine wpAny_bind (wpAny_setField_rec e1 (by simp) fun g2 e2 b2 => ?_)
  replace b2 : Heap.SameBut ee g1 g2 := b2
  replace e2 : IsEnum g2 ee it ((n : Int) + 1) old := e2
  show wpAny _ _ (setField (.ref ee) 4 .none >>= _) _ _ ⟨g2, g, d, tk + 1, os⟩
  refine wpAny_bind (wpAny_setField_rec e2 (by simp) fun g3 e3 b3 => ?_)
  replace b3 : Heap.SameBut ee g2 g3 := b3
  replace e3 : IsEnum g3 ee it ((n : Int) + 1) old := e3
  show wpAny _ _ (newTuple [.int n tk, x] >>= _) _ _ ⟨g3, g, d, tk + 1, os⟩
  refine wpAny_bind (wpAny_newTuple ?_)
  have e4 : IsEnum (g3.push { cls := .type "tuple", data := .seq #[.int n tk, x] }) ee it ((n : Int) + 1) old := Heap.get?_push_of_some _ e3
  generalize q4 : g3.push { cls := .type "tuple", data := .seq #[.int n tk, x] } = g4 at e4
  have sz : g3.objs.size = hp.objs.size := by rw [b3.1, b2.1, b1.1]
  have lt : ee < hp.objs.size := Heap.lt_size he
  have t4 : g4.get? hp.objs.size = some { cls := .type "tuple", data := .seq #[.int n tk, x] } := by rw [← q4, ← sz]; exact Heap.get?_push_size _ rfl
  have k4 : ∀ b o, b ≠ ee → b ≠ it → hp.get? b = some o → g4.get? b = some o := fun b o c1 c2 hb => by
    rw [← q4]; exact Heap.get?_push_of_some _ (b3.extBut b o c1 (b2.extBut b o c1 (b1.extBut b o c2 hb)))
  have i4 : SIt k g4 it l (n + 1) := i1.at fun o e => by
    rw [← q4]; exact Heap.get?_push_of_some _ (b3.extBut _ _ (Ne.symm hne) (b2.extBut _ _ (Ne.symm hne) e))
  show wpAny _ _ (Builtin.SmallTypes.ownedTupleIsFree (.ref ee) >>= _) _ _ ⟨g4, g, d, tk + 1, os⟩
  rw [sz]
  clear q4 e3 b3 e2 b2 e1 b1 i1 sz g3 g2 g1
  refine wpAny_bind ?_
  unfold Builtin.SmallTypes.ownedTupleIsFree
  refine wpAny_bind (wpAny_field e4 rfl (x := .none) rfl (wpAny_pure ?_))
  simp only [if_true]
  refine wpAny_bind (wpAny_rule (wpAny_bind (wpAny_field e4 rfl (x := old) rfl (wpAny_bind (wpAny_setField_rec e4 (by simp) fun g5 e5 b5 => ?_)))))
  replace b5 : Heap.SameBut ee g4 g5 := b5
  replace e5 : IsEnum g5 ee it ((n : Int) + 1) x := e5
  show wpAny _ _ (Builtin.SmallTypes.ownedTupleHandOut (.ref ee) (.ref hp.objs.size) >>= _) _ _ ⟨g5, g, d, tk + 1, os⟩
  refine wpAny_bind ?_
  unfold Builtin.SmallTypes.ownedTupleHandOut
  refine wpAny_bind (wpAny_setField_rec e5 (by simp) fun g6 e6 b6 => ?_)
  replace b6 : Heap.SameBut ee g5 g6 := b6
  replace e6 : IsEnumOut g6 ee it ((n : Int) + 1) x hp.objs.size := e6
  refine wpAny_setField_rec e6 (by simp) fun g7 e7 b7 => ?_
  replace b7 : Heap.SameBut ee g6 g7 := b7
  replace e7 : IsEnumOut g7 ee it ((n : Int) + 1) x hp.objs.size := e7
  have up : ∀ b o, b ≠ ee → g4.get? b = some o → g7.get? b = some o := fun b o c1 e => b7.extBut b o c1 (b6.extBut b o c1 (b5.extBut b o c1 e))
  exact wpAny_bind (wpAny_letGo (wpAny_pure ⟨_, rfl, hQ g7 e7 (i4.at fun o e => up _ o (Ne.symm hne) e) (up _ _ (Nat.ne_of_gt lt) t4) fun b o c1 c2 e => up b o c1 (k4 b o c1 c2 e)⟩))
theorem enumS_next {Q : Option Value → Shared → Prop} (he : IsEnum s.heap ee it n old) (hi : SIt k s.heap it l n) (hl : SAt k s.heap l xs) (hx : xs[n]? = some x) (hne : ee ≠ it)
    (hQ : ∀ h', IsEnumOut h' ee it ((n : Int) + 1) x s.heap.objs.size → SIt k h' it l (n + 1) → h'.get? s.heap.objs.size = some { cls := .type "tuple", data := .seq #[.int n s.toks, x] } →
      (∀ b o, b ≠ ee → b ≠ it → s.heap.get? b = some o → h'.get? b = some o) → Q (some (.ref s.heap.objs.size)) { s with heap := h', toks := s.toks + 1 }) : wpAny (model prog w) A (pyNext (.ref ee)) Q E s := by
  have hT : s.TypeIs (.ref ee) "enumerate" := ⟨_, he, rfl⟩
  unfold pyNext
  exact wpAny_bind (wpAny_attempt (wpAny_callSpecial?_slot (name := Str.ofString "__next__") hT F.slot_enumerate_next (wpAny_call_entry F.slot_enumerate_next hT F.entry_enumerate_next
    (enumS_item he hi hl hx hne fun h' a b c d => wpAny_pure (hQ h' a b c d)) (F.args_enumerate_next_1 _))))
theorem enumS_stop {Q : Option Value → Shared → Prop} (hh : A.handled = none) (he : IsEnum s.heap ee it n old) (hi : SIt k s.heap it l n) (hl : SAt k s.heap l xs) (hx : xs[n]? = none)
    (hQ : ∀ h', Heap.ExtBut it s.heap h' → Q none { s with heap := h' }) : wpAny (model prog w) A (pyNext (.ref ee)) Q E s := by
  have hT : s.TypeIs (.ref ee) "enumerate" := ⟨_, he, rfl⟩
  unfold pyNext
  refine wpAny_bind (wpAny_attempt (wpAny_callSpecial?_slot (name := Str.ofString "__next__") hT F.slot_enumerate_next (wpAny_call_entry F.slot_enumerate_next hT F.entry_enumerate_next ?_ (F.args_enumerate_next_1 _))))
  show wpAny _ _ (field (.ref ee) 2 >>= _) _ _ _
  refine wpAny_bind (wpAny_field he rfl (x := .ref it) rfl (wpAny_bind (endS hh hi hl hx fun h' e b he' => ?_)))
  obtain ⟨o, ho, hc⟩ := he'
  exact wpAny_bind (wpAny_isInstance (T := "StopIteration") (b := true) ⟨o, ho, hc⟩ isSubtype_stop (wpAny_pure (hQ _ b)))
theorem meetsE (l : Addr) (xs : Array Value) (n : Nat) (dct : Option Addr) (sl : Array (Option Value)) :
    Meets (Builtin.«enumerate.__new__» ⟨[.type "enumerate", .ref l], []⟩) (fun _ R s => s.heap.get? l = some { cls := .type "tuple", dict := dct, data := .seq xs n, slots := sl } ∧
      R (.ok (.ret (.ref (s.heap.push (itO true l)).objs.size))) { s with heap := (s.heap.push (itO true l)).push { cls := .type "enumerate", data := .fields #[.none, .bool false, .ref s.heap.objs.size, rawInt 0, .none, .none] } }) :=
  .of_wp fun prog w A R s h => by
    obtain ⟨hp, g, d, tk, os⟩ := s
    obtain ⟨hl, h⟩ := h
    have hsub := sub_enumerate
    have hL : Heap.IsTuple (Shared.heap ⟨hp, g, d, tk, os⟩) l xs := ⟨_, hl, rfl, n, rfl⟩
    wp_walk using AutoSeq1.wpAny_loadPart' hl
    refine wpAny_stack_any fun st => wpAny_pure ?_
    split
    · rename_i c _ _ _ _ _
      cases (c == Value.type "enumerate") <;> (wp_walk using AutoSeq1.wpAny_loadPart' hl, wpAny_pyIter_tuple hL) <;> exact ⟨_, rfl, h⟩
    · wp_walk using AutoSeq1.wpAny_loadPart' hl, wpAny_pyIter_tuple hL
      exact ⟨_, rfl, h⟩
structure EAt (k : Bool) (ee it l : Addr) (n : Nat) (h : Heap) : Prop where
  en : ∃ old, IsEnum h ee it n old
  a1 : SIt k h it l n
theorem callE {Q : Value → Shared → Prop} (h1 : SAt k s.heap l xs) (h : ∀ h', EAt k (s.heap.objs.size + 1) s.heap.objs.size l 0 h' → (∀ c o, s.heap.get? c = some o → h'.get? c = some o) → Q (.ref (s.heap.objs.size + 1)) { s with heap := h' }) :
    wpAny (model prog w) A (call (.type "enumerate") [.ref l]) Q E s := by
  cases k with
  | false => exact call_enumerate_list h1 fun h' he hi _ kp => h h' ⟨⟨_, he⟩, hi⟩ kp
  | true =>
    obtain ⟨⟨c, dct, dt, sl⟩, hl, hc, n, hd⟩ := h1
    replace hc : c = .type "tuple" := hc
    replace hd : dt = .seq xs n := hd
    subst hc hd
    refine callType_new F.called_enumerate (by decide) (F.typeCall_enumerate_1 _) (F.newCall_enumerate_1 _) (fun obj => F.args_object_init_2 obj _) F.entry_enumerate_new (meetsE l xs n dct sl) ⟨hl, ?_⟩
    have z1 : (s.heap.push (itO true l)).objs.size = s.heap.objs.size + 1 := Heap.size_push ..
    show _ ∧ _
    rw [z1]
    have g1 : IsEnum ((s.heap.push (itO true l)).push { cls := .type "enumerate", data := .fields #[.none, .bool false, .ref s.heap.objs.size, rawInt 0, .none, .none] }) (s.heap.objs.size + 1) s.heap.objs.size 0 .none := by
      have q := Heap.get?_push_size (s.heap.push (itO true l)) (o := { cls := .type "enumerate", data := .fields #[.none, .bool false, .ref s.heap.objs.size, rawInt 0, .none, .none] }) rfl
      rw [z1] at q
      exact q
    exact ⟨⟨_, g1, rfl⟩, h _ ⟨⟨_, g1⟩, .new (Heap.get?_push_of_some _ (Heap.get?_push_size _ itO_free))⟩ fun c o e => Heap.get?_push_of_some _ (Heap.get?_push_of_some _ e)⟩
end
def Ite (K : PySem.W.Frag) (k : Bool) (a : Addr) : It :=
  ⟨fun i H => ∃ xs x, SqK K k H a xs ∧ xs[i]? = some x,
   fun i H v H' => ∃ p x, v = .ref p ∧ H p = none ∧ (∀ xs, SqK K k H a xs → xs[i]? = some x) ∧ H' = upd H p (.tup [.int i, x]),
   fun i H => ∃ xs, SqK K k H a xs ∧ xs.length ≤ i⟩
theorem EAt.obj {k : Bool} {ee it l : Addr} {n : Nat} {h : Heap} (Z : EAt k ee it l n h) : ∀ b ∈ [ee, it], ∃ o, h.get? b = some o ∧ ∀ v, o.data ≠ .cell v := fun b hb => by
  obtain ⟨⟨old, he⟩, h1⟩ := Z
  simp only [List.mem_cons, List.not_mem_nil, or_false] at hb
  rcases hb with rfl | rfl
  · exact ⟨_, he, fun v z => by cases z⟩
  · exact h1.obj
theorem turn_enum {P : Program} {w : World} {K : PySem.W.Frag} {elts : List Expr} {x1} {pos : Pos} {k : Bool} {ee it a : Addr} (hne : ee ≠ it) : Turn P w K (.Tuple elts x1 pos) (Ite K k a) [ee, it] ee (fun n h => EAt k ee it a n h) where
  mem := by simp
  obj := fun i h st => st.obj
  keep := fun i h h' ⟨⟨old, he⟩, h1⟩ kp => ⟨⟨old, kp ee (by simp) _ he⟩, h1.at fun o e => kp it (by simp) o e⟩
  item := by
    intro X hP hw hK hc i pins s σ H E I hf st hg
    subst hP hw hK
    obtain ⟨xs, x, q1, hx⟩ := hg
    obtain ⟨us, r1, p1⟩ := seqK I q1
    obtain ⟨u, hu, ru⟩ := r1.get hx
    have lt : ∀ b ∈ [ee, it], b < s.heap.objs.size := fun b hb => by
      obtain ⟨o, ho, _⟩ := st.obj b hb
      exact Heap.lt_size ho
    obtain ⟨⟨old, he⟩, h1⟩ := st
    refine enumS_next he h1 p1 (x := u) (by simpa using hu) hne fun h' z1 a1 pr kk => ?_
    refine ⟨_, rfl, wpAny_letOwnedTupleGo_enum (s := { s with heap := h', toks := s.toks + 1 }) z1 fun h2 z2 b2 => ?_⟩
    replace b2 : Heap.SameBut ee h' h2 := b2
    have hT : H s.heap.objs.size = none := I.hok.fresh (Nat.le_refl _)
    have I1 : Inv X pins σ (upd H s.heap.objs.size (.tup [.int i, x])) { s with heap := s.heap.push { cls := .type "tuple", data := .seq #[.int i s.toks, u] }, toks := s.toks + 1 } := I.laid (t' := s.toks + 1) (fun b u e => Heap.get?_push_of_some _ e) (Nat.le_refl _) ⟨by show 2 ≤ sizeLine; decide, [.int i s.toks, u], .cons ⟨_, rfl⟩ (.cons ru .nil), ⟨_, Heap.get?_push_size _ rfl, _, rfl⟩⟩
    have Tz : s.heap.objs.size ≠ ee := Nat.ne_of_gt (lt ee (by simp))
    have fp : ∀ b ∈ [ee, it], FpOk X pins (upd H s.heap.objs.size (.tup [.int i, x])) b := fun b hb => by
      obtain ⟨f0, f1, f2, f3, f4, f5⟩ := hf b hb
      exact ⟨by rw [upd_ne (Nat.ne_of_lt (lt b hb))]; exact f0, f1, f2, f3, f4, f5⟩
    have I2 := I1.turnedL (h' := h2) (t' := s.toks + 1) (fun c o hc e => by
      simp only [List.mem_cons, List.not_mem_nil, or_false, not_or] at hc
      by_cases zc : c = s.heap.objs.size
      · subst zc
        rw [Heap.get?_push_size _ rfl] at e
        cases e
        exact b2.extBut _ _ Tz pr
      · have e' : s.heap.get? c = some o := by rw [← e]; exact (Heap.get?_push_ne _ _ _ zc).symm
        exact b2.extBut _ _ hc.1 (kk c o hc.1 hc.2 e')) fp
    refine ⟨.ref s.heap.objs.size, _, I2, rfl, ⟨_, x, rfl, hT, fun zs hz => ?_, rfl⟩, ⟨⟨_, z2⟩, a1.at fun o e => b2.extBut _ _ (Ne.symm hne) e⟩, fun b hb => (fp b hb).1⟩
    rw [seqK_inj I hz q1]; exact hx
  done := by
    intro X hP hw hK hc i pins s σ H E I hf st hg
    subst hP hw hK
    obtain ⟨xs, q1, hl⟩ := hg
    obtain ⟨us, r1, p1⟩ := seqK I q1
    have e1 := r1.length
    obtain ⟨⟨old, he⟩, h1⟩ := st
    refine enumS_stop (I.ok.hd hc) he h1 p1 (by simp; omega) fun h' kk => ⟨rfl, I.turnedL (t' := s.toks) (fun c o hc e => ?_) hf⟩
    simp only [List.mem_cons, List.not_mem_nil, or_false, not_or] at hc
    exact kk c o hc.2 e
  self := fun _ _ _ _ _ ⟨⟨_, he⟩, _⟩ h => wpAny_pyIter_enum he h
theorem b_enum : bootBuiltins "enumerate" = some (.type "enumerate") := by decide +kernel
def iEnum (K : PySem.W.Frag) (k : Bool) (ta : TA) : TI := fun σ H R => ta σ H fun vs H1 => ∃ a xs, vs = [.ref a] ∧ SqK K k H1 a xs ∧ R (Ite K k a) H1
theorem pi_enum {X : Cx} {elts : List Expr} {x1} {tp : Pos} {a : Expr} {ta : TA} {p pos : Pos} (k : Bool) (hg : Gl X "enumerate") (hm : X.mg "enumerate" = none) (ha : PA X [a] ta) (hs : starEach [a] X.env = [(false, eval a X.env)] := by rfl) :
    PI X (.Tuple elts x1 tp) (.Call (.Name "enumerate" p) [a] [] pos) (iEnum X.K k ta) := by
  intro pins s σ H R I h
  refine Call_ (ld_blt I hg hm b_enum (PyProof.Rows.callWith_type1 (thn (ha pos pins s σ H _ I h) fun us s1 ⟨vs, H1, I1, r1, q1⟩ => ?_) (by rw [hs]; rfl) rfl))
  obtain ⟨a', xs, e, q1, q⟩ := q1
  subst e
  obtain ⟨u, rfl, ru⟩ := r1.one
  cases ru
  obtain ⟨us, e1, p1⟩ := seqK I1 q1
  refine callE p1 fun h' Z kp => ?_
  obtain ⟨old, he⟩ := Z.en
  refine wpAny_pyIter_enum (s := { s1 with heap := h' }) he ?_
  refine ⟨_, [s1.heap.objs.size + 1, s1.heap.objs.size], _, _, H1, rfl, I1.kept (t' := s1.toks) kp, turn_enum (Nat.succ_ne_self _), Z, fun c hc => ?_, q⟩
  have ge : s1.heap.objs.size ≤ c := by
    simp only [List.mem_cons, List.not_mem_nil, or_false] at hc
    rcases hc with rfl | rfl <;> omega
  exact I1.fpOk ge (I1.hok.fresh ge)
theorem for_enum {K : PySem.W.Frag} {k : Bool} {a : Addr} {xs : List V} {g : TG} {tb : TS} {D : Ends} {σ : St} {H : Hp} (Pv : Nat → St → Hp → Prop) (h0 : Pv 0 σ H) (hl : ∀ i σ H, i ≤ xs.length → Pv i σ H → SqK K k H a xs)
    (hs : ∀ i x p σ H, xs[i]? = some x → Pv i σ H → H p = none → g (.ref p) σ (upd H p (.tup [.int i, x])) fun σ2 H2 => tb { D with nx := Pv (i + 1), ct := Pv (i + 1), bk := D.nx } σ2 H2) (hd : ∀ σ H, Pv xs.length σ H → D.nx σ H) :
    ∃ W : Nat → Nat → St → Hp → Prop, (∃ m, W 0 m σ H) ∧ ∀ i m σ H, W i m σ H →
      ((Ite K k a).stop i H ∧ D.nx σ H) ∨ ((Ite K k a).go i H ∧ ∃ N : St → Hp → Prop, (∀ σ' H', N σ' H' → ∃ m', m' < m ∧ W (i + 1) m' σ' H') ∧ ∀ x H', (Ite K k a).yld i H x H' → g x σ H' fun σ2 H2 => tb { D with nx := N, ct := N, bk := D.nx } σ2 H2) := by
  refine ⟨fun i m σ H => m = xs.length - i ∧ i ≤ xs.length ∧ Pv i σ H, ⟨xs.length, by simp, Nat.zero_le _, h0⟩, ?_⟩
  rintro i m σ H ⟨rfl, hi, p⟩
  have q1 := hl i σ H hi p
  by_cases hlt : i < xs.length
  · refine .inr ⟨⟨xs, _, q1, List.getElem?_eq_getElem hlt⟩, Pv (i + 1), fun σ' H' n => ⟨xs.length - (i + 1), by omega, rfl, by omega, n⟩, ?_⟩
    rintro v H' ⟨p', x, rfl, hn, e1, rfl⟩
    exact hs i x p' σ H (e1 _ q1) p hn
  · have e : i = xs.length := by omega
    subst e
    exact .inl ⟨⟨xs, q1, Nat.le_refl _⟩, hd σ H p⟩
end L2
set_option Elab.async false
set_option linter.all false
set_option maxRecDepth 100000
namespace L2
open PySem PySem.Spec PyProof.Rows
abbrev B30 : Int := 1000000000000000000000000000000
end L2
set_option Elab.async false
set_option linter.all false
set_option maxRecDepth 100000
namespace L2
open PySem PySem.Spec PyProof.Rows
def rOr (r1 r2 : List V → Hp → VK → Prop) : List V → Hp → VK → Prop := fun xs H Q => r1 xs H Q ∨ r2 xs H Q
theorem call_or {X : Cx} {v : Value} {r1 r2 : List V → Hp → VK → Prop} (h1 : CallR X v r1) (h2 : CallR X v r2) : CallR X v (rOr r1 r2) := by
  intro pins s σ H xs us Q I r h
  rcases h with h | h
  · exact h1 pins s σ H xs us Q I r h
  · exact h2 pins s σ H xs us Q I r h
end L2
set_option Elab.async false
set_option linter.all false
set_option maxRecDepth 100000
namespace L2
open PySem PySem.Spec PyProof.Rows
def rEqS2 : R2 := fun x y H Q => ∃ (a b : Addr) (u : Str) (z : V), x = .ref a ∧ y = .ref b ∧ H a = some (.tup [.str u, z]) ∧ H b = some (.tup [.str u, z]) ∧ (z = .non ∨ ∃ i, z = .int i) ∧ Q (.bl true) H
theorem op_eqS2 {X : Cx} (hu : X.A.units + 4 < cLine) : OpR X (compareOp .Eq) rEqS2 := by
  intro pins s σ H x y v w' Q I rx ry h
  obtain ⟨a, b, u, z, rfl, rfl, ha, hb, hz, q⟩ := h
  cases rx; cases ry
  obtain ⟨_, its, v1, p1⟩ := old_tup (I.hok a _ ha)
  obtain ⟨_, its2, v2, p2⟩ := old_tup (I.hok b _ hb)
  obtain ⟨u1, u2, rfl, r1, r2⟩ := v1.two
  obtain ⟨w1, w2, rfl, r3, r4⟩ := v2.two
  obtain ⟨t1, rfl⟩ := r1
  obtain ⟨t3, rfl⟩ := r3
  have q1 : SeqAt.EqAt X.A.in1 s (.str u t1) (.str u t3) true := by
    have := SeqAt.EqAt.str_str (A := X.A.in1) (s := s) u t1 u t3
    simpa using this
  have q2 : SeqAt.EqAt X.A.in1 s u2 w2 true := by
    rcases hz with rfl | ⟨i, rfl⟩
    · cases r2; cases r4
      exact SeqAt.EqAt.same _
    · obtain ⟨t2, rfl⟩ := r2
      obtain ⟨t4, rfl⟩ := r4
      have := SeqAt.EqAt.int_int (A := X.A.in1) (s := s) i t2 i t4
      simpa using this
  have z := SeqAt.RcAt.tuples (A := X.A) (e := fun _ => true) p1 p2 (by omega) (fun j h1 h2 => by
    match j, h1, h2 with
    | 0, _, _ => exact q1
    | 1, _, _ => exact q2
    | j + 2, h1, _ => exact absurd (show j + 2 < 2 from h1) (by omega))
  refine z _ _ _ _ ⟨.bl _, H, I, rfl, ?_⟩
  have ez : ((List.range (min [Value.str u t1, u2].toArray.size [Value.str u t3, w2].toArray.size)).all (fun _ => true) && [Value.str u t1, u2].toArray.size == [Value.str u t3, w2].toArray.size) = true := by
    show ((List.range 2).all (fun _ => true) && true) = true
    decide
  rw [ez]
  exact q
end L2
set_option Elab.async false
set_option linter.all false
set_option maxRecDepth 100000
namespace L2
open PySem PySem.Spec PyProof.Rows
section
variable {X : Cx} {elt iter : Expr} {tg : Str} {tp : Pos} {cs : List Expr} {scope : Scope} {pos : Pos} {tc : TT} {te : TE} {M : List Str}
theorem ps_compL {tl : TE} {pos1 spos : Pos} {i : Nat} {x : Str} (hN : X.N.Nodup) (hix : X.N[i]? = some x) (hx : X.env.scope.names.lookup x = some .local) (hc : X.calm = true) (S : CompScope scope X.env X.N M) (nd : (tg :: M).Nodup) (hl : scope.names.lookup tg = some .local) (hi : PE X iter tl) (mo : MonoE tl)
    (hin : Inner X scope tg M cs elt tc te) (hw : swapsWith (.ListComp elt [⟨.Name tg tp, iter, cs, 0⟩] scope pos) (some (.Name x pos1)) spos.line X.env = pure true := by rfl) (hf : ∀ x, foldedSetIterable iter X.env x = pure x := by intro _; rfl) :
    PS X (.Assign [.Name x pos1] (.ListComp elt [⟨.Name tg tp, iter, cs, 0⟩] scope pos) spos) (tAsg (tCompL X.K tl tc te) (gName i)) := by
  refine ps_compG hc S nd hl (pi_list hi) hin (fun σ H Q h => ?_) hN hix hx hw hf
  refine mo σ H _ _ (fun v H1 q => ?_) h
  obtain ⟨a, xs, e, j1, q⟩ := q
  refine ⟨a, e, ⟨xs, j1⟩, fun d hd => ?_⟩
  obtain ⟨Pv, h0, hl, hs, hd⟩ := q d hd
  exact comp_list (k := 1) (g := gName 0) Pv h0 hl hs hd
end
end L2
set_option Elab.async false
set_option linter.all false
set_option maxRecDepth 100000
set_option maxHeartbeats 1000000
namespace L2
open PySem PySem.Spec PyProof.Rows
section
variable {P : Program} {w : World} {A : Around} {H : Hp} {s : Shared} {n : Nat} {α β γ : Type} [DecidableEq α] [DecidableEq β] [DecidableEq γ]
theorem Vals.three {x y z : V} {us : List Value} (h : Vals [x, y, z] us) : ∃ u v t, us = [u, v, t] ∧ RelV x u ∧ RelV y v ∧ RelV z t := by
  cases h with
  | cons a h => cases h with
    | cons b h => cases h with
      | cons c h => cases h; exact ⟨_, _, _, rfl, a, b, c⟩
variable {R1 : V → α → Prop} {R2 : V → β → Prop} {R3 : V → γ → Prop}
end
def SqI (H : Hp) (a : Addr) (ns : List Int) : Prop := H a = some (.lst (ns.map V.int)) ∨ H a = some (.tup (ns.map V.int))
end L2
set_option Elab.async false
set_option linter.all false
set_option maxRecDepth 100000
set_option maxHeartbeats 1000000
namespace L2
open PySem PySem.Spec PyProof.Rows
section
variable {X : Cx} {pins : List (Addr × Obj)} {σ : St} {H : Hp} {s : Shared}
theorem Inv.tup0 {a : Addr} {xs : List V} (I : Inv X pins σ H s) (e : H a = some (.tup xs)) : xs.length ≤ sizeLine ∧ ∃ (its : List Value) (n : Nat), Vals xs its ∧ s.heap.get? a = some { cls := .type "tuple", data := .seq its.toArray n } := by
  obtain ⟨z, its, r, o, e1, n, rfl⟩ := (show ObjOk X.prog X.w H s.heap a (.tup xs) from I.hok a _ e)
  exact ⟨z, its, n, r, e1⟩
end
def rNeS2 : R2 := fun x y H Q => ∃ (a b : Addr) (u : Str) (z : V), x = .ref a ∧ y = .ref b ∧ H a = some (.tup [.str u, z]) ∧ H b = some (.tup [.str u, z]) ∧ (z = .non ∨ ∃ i, z = .int i) ∧ Q (.bl false) H
theorem op_neS2 {X : Cx} (hu : X.A.units + 4 < cLine) : OpR X (compareOp .NotEq) rNeS2 := by
  intro pins s σ H x y v w' Q I rx ry h
  obtain ⟨a, b, u, z, rfl, rfl, ha, hb, hz, q⟩ := h
  cases rx; cases ry
  obtain ⟨_, its, v1, p1⟩ := old_tup (I.hok a _ ha)
  obtain ⟨_, its2, v2, p2⟩ := old_tup (I.hok b _ hb)
  obtain ⟨u1, u2, rfl, r1, r2⟩ := v1.two
  obtain ⟨w1, w2, rfl, r3, r4⟩ := v2.two
  obtain ⟨t1, rfl⟩ := r1
  obtain ⟨t3, rfl⟩ := r3
  have q1 : SeqAt.EqAt X.A.in1 s (.str u t1) (.str u t3) true := by
    have := SeqAt.EqAt.str_str (A := X.A.in1) (s := s) u t1 u t3
    simpa using this
  have q2 : SeqAt.EqAt X.A.in1 s u2 w2 true := by
    rcases hz with rfl | ⟨i, rfl⟩
    · cases r2; cases r4
      exact SeqAt.EqAt.same _
    · obtain ⟨t2, rfl⟩ := r2
      obtain ⟨t4, rfl⟩ := r4
      have := SeqAt.EqAt.int_int (A := X.A.in1) (s := s) i t2 i t4
      simpa using this
  have z := SeqAt.RcNeAt.tuples (A := X.A) (e := fun _ => true) p1 p2 (by omega) (fun j h1 h2 => by
    match j, h1, h2 with
    | 0, _, _ => exact q1
    | 1, _, _ => exact q2
    | j + 2, h1, _ => exact absurd (show j + 2 < 2 from h1) (by omega))
  refine z _ _ _ _ ⟨.bl _, H, I, rfl, ?_⟩
  have ez : (!((List.range (min [Value.str u t1, u2].toArray.size [Value.str u t3, w2].toArray.size)).all (fun _ => true) && [Value.str u t1, u2].toArray.size == [Value.str u t3, w2].toArray.size)) = false := by
    show (!((List.range 2).all (fun _ => true) && true)) = false
    decide
  rw [ez]
  exact q
end L2
set_option Elab.async false
set_option linter.all false
set_option maxRecDepth 100000
set_option maxHeartbeats 3200000
namespace L2
open PySem PySem.Spec PyProof.Rows PySem.W
section
variable {prog : Program} {w : World} {A : Around} {E : Value → Shared → Prop} {s : Shared} {b : Bool}
def newS (w : World) : Obj := { cls := .type "set", dict := none, data := .set #[] 0 (.fresh 0 0 (!w.params.followText "set-order")) }
theorem new_sm (a : Value) {Q1 : Value → Shared → Prop} (h : Q1 (.ref s.heap.objs.size) { s with heap := s.heap.push (newS w) }) :
    codeAny (model prog w) A (.call (.builtin "set.__new__") ⟨[.type "set", a], []⟩) (wants Q1 E) s := by
  refine codeAny_of_tree (A := A) ?_
  show wpAny _ A.in1 (checkBuiltinCall "set.__new__" ⟨[.type "set", a], []⟩ >>= fun _ => again (.builtin "set.__new__" ⟨[.type "set", a], []⟩)) _ _ s
  refine wpAny_bind (wpAny_of_eq (PySem.F.newCall_set_1 a) (wpAny_pure ⟨plainId_quiet PySem.F.plain_set_new _, codeAny_builtin PySem.F.entry_set_new ?_⟩))
  rw [Around.under_plainId PySem.F.plain_set_new _]
  unfold Builtin.«set.__new__» Builtin.Frozenset.newClass
  have sbs := PySem.sub_set_self
  obtain ⟨hp, g, d, tk, os⟩ := s
  dsimp only; wp_walk
  refine wpAny_askSetting (wpAny_pure ?_)
  dsimp only; simp only [newObj]
  exact wpAny_bind (wpAny_alloc (wpAny_pure (wpAny_pure h)))
end
end L2
set_option Elab.async false
set_option linter.all false
set_option maxRecDepth 100000
set_option maxHeartbeats 3200000
namespace L2
open PySem PySem.Spec PyProof.Rows PySem.W
section
variable {prog : Program} {w : World} {A : Around} {E : Value → Shared → Prop} {s : Shared}
theorem str_is (z : Str) (t : Tok) : (PySem.strKind prog w).is z (.str z t) = true := by
  show Value.isStrOf z (.str z t) = true
  simp [Value.isStrOf]
theorem sub_tuple_set : isSubtype (.type "tuple") (.type "set") = pure false := by rw [isSubtype_type]; kernel_rfl
theorem sub_tuple_frozenset : isSubtype (.type "tuple") (.type "frozenset") = pure false := by rw [isSubtype_type]; kernel_rfl
end
end L2
set_option Elab.async false
set_option linter.all false
set_option maxRecDepth 100000
set_option maxHeartbeats 1000000
namespace L2
open PySem PySem.Spec PyProof.Rows
def RStr (x : V) (z : Str) : Prop := x = .str z
section
variable {H : Hp} {s : Shared} {n : Nat}
theorem EqK.str : EqK H s n RStr := ⟨fun x a b h1 h2 => by unfold RStr at *; rw [h1] at h2; cases h2; rfl, fun A x y a b u v _ h1 h2 r1 r2 => by
  unfold RStr at *
  subst h1 h2
  obtain ⟨t, rfl⟩ := r1
  obtain ⟨t', rfl⟩ := r2
  have q := SeqAt.EqAt.str_str (A := A) (s := s) a t b t'
  rw [Bool.beq_eq_decide_eq] at q
  exact q⟩
theorem Paired.strs : ∀ zs : List Str, Paired RStr (zs.map V.str) zs
  | [] => .nil
  | z :: zs => .cons rfl (Paired.strs zs)
end
theorem vals4 {a b c d : V} {us : List Value} (h : Vals [a, b, c, d] us) : ∃ p q r t, us = [p, q, r, t] ∧ RelV a p ∧ RelV b q ∧ RelV c r ∧ RelV d t := by
  cases h with
  | cons r1 h =>
    obtain ⟨q, r, t, rfl, r2, r3, r4⟩ := Vals.three h
    exact ⟨_, q, r, t, rfl, r1, r2, r3, r4⟩
def BkAt (H : Hp) (a : Addr) (sg : List Str) (ps : List Int) (nm : List Str) (ws : List Int) : Prop := ∃ b1 b2 b3 b4, H a = some (.tup [.ref b1, .ref b2, .ref b3, .ref b4]) ∧ H b1 = some (.tup (sg.map V.str)) ∧ H b2 = some (.tup (ps.map V.int)) ∧ H b3 = some (.tup (nm.map V.str)) ∧ H b4 = some (.tup (ws.map V.int))
def rSlLast : V → Option Int → Option Int → Hp → VK → Prop := fun x lo hi H Q => ∃ z : Str, x = .str z ∧ lo = none ∧ hi = some (-1) ∧ 1 ≤ z.length ∧ z.length ≤ sizeLine ∧ Q (.str ⟨z.cps.toList.dropLast.toArray⟩) H
theorem picked_last {n : Nat} (h : 1 ≤ n) : Builtin.Str.strSliceIndices none (some (-1)) 1 n = List.range (n - 1) := by
  have e : (max 0 (min ((if (-1 : Int) < 0 then -1 + (n : Int) else -1)) (n : Int))) = ((n - 1 : Nat) : Int) := by
    rw [if_pos (by decide)]
    omega
  show sliceRange 0 (max 0 (min ((if (-1 : Int) < 0 then -1 + (n : Int) else -1)) (n : Int))) 1 = _
  rw [e]
  have := sliceRange_one 0 (n - 1)
  simpa using this
theorem fm_congr {α β : Type} {f g : α → Option β} : ∀ {l : List α}, (∀ x ∈ l, f x = g x) → l.filterMap f = l.filterMap g
  | [], _ => rfl
  | x :: l, h => by
    rw [List.filterMap_cons, List.filterMap_cons, h x (.head _), fm_congr fun y hy => h y (.tail _ hy)]
theorem sl_last {X : Cx} : SlR X rSlLast := by
  intro pins s σ H x v vl vu lo hi sl Q I rx hs pl pu h
  obtain ⟨z, rfl, rfl, rfl, h1, hz, q⟩ := h
  obtain ⟨t, rfl⟩ := rx
  cases pl
  cases pu with
  | int i tk =>
  refine ⟨"str", _, F.slot_str_getitem.lookup, typeIs_str _ _ _, ?_⟩
  refine wpAny_getItem_str_slice (l := none) (u := some (-1, tk)) (st := none) hs rfl ?_
  have e1 : slicePicked z none (some (-1, tk)) none = List.range (z.length - 1) := picked_last h1
  have e2 : (z.length - 1 == z.length) = false := by simp; omega
  unfold sliceMade
  rw [e1, List.length_range, e2, Bool.and_false, if_neg Bool.false_ne_true]
  have e3 : (List.range (z.length - 1)).filterMap (z.cps[·]?) = z.cps.toList.dropLast := by
    have hl : z.length - 1 = z.cps.toList.dropLast.length := by rw [List.length_dropLast]; rfl
    have hc : ∀ i ∈ List.range (z.length - 1), z.cps[i]? = z.cps.toList.dropLast[i]? := fun i hi => by
      have := List.mem_range.mp hi
      rw [List.getElem?_dropLast, if_pos (by rw [Array.length_toList]; exact this), Array.getElem?_toList]
    rw [fm_congr hc, hl]
    exact List.filterMap_getElem?_range_length _
  rw [e3]
  refine ⟨?_, .str _, H, I.tok _, ⟨_, rfl⟩, q⟩
  show z.cps.toList.dropLast.toArray.size ≤ _
  rw [List.size_toArray, List.length_dropLast, Array.length_toList]
  exact Nat.le_trans (Nat.sub_le _ _) hz
end L2
set_option Elab.async false
set_option linter.all false
set_option maxRecDepth 100000
namespace K92
open PySem PySem.NumText L2 PyProof.Rows
def S (l : List Nat) : Str := ⟨l.toArray⟩
theorem S_cps (l : List Nat) : (S l).cps.toList = l := List.toList_toArray
theorem S_len (l : List Nat) : (S l).length = l.length := List.size_toArray
theorem S_of (z : Str) : S z.cps.toList = z := rfl
theorem S_app (a b : List Nat) : S a ++ S b = S (a ++ b) := by
  show (⟨a.toArray ++ b.toArray⟩ : Str) = ⟨(a ++ b).toArray⟩
  rw [List.append_toArray]
theorem S_inj {a b : List Nat} (h : S a = S b) : a = b := by
  have := congrArg (fun z : Str => z.cps.toList) h
  simpa [S] using this
def jn (c : Nat) : List (List Nat) → List Nat
  | [] => []
  | [a] => a
  | a :: b :: r => a ++ c :: jn c (b :: r)
theorem jn_is (c : Nat) : ∀ zs : List Str, (Str.join ⟨#[c]⟩ zs).cps.toList = jn c (zs.map fun z => z.cps.toList)
  | [] => rfl
  | [a] => rfl
  | a :: b :: r => by
    have ih := jn_is c (b :: r)
    show (a ++ (⟨#[c]⟩ : Str) ++ Str.join ⟨#[c]⟩ (b :: r)).cps.toList = _
    show ((a.cps ++ #[c]) ++ (Str.join ⟨#[c]⟩ (b :: r)).cps).toList = _
    rw [Array.toList_append, Array.toList_append, ih]
    simp [jn]
def dg (n : Int) : List Nat := (Nat.toDigits 10 n.toNat).map Char.toNat
def nS (n : Int) : Str := S (dg n)
theorem nS_is {n : Int} (h : 0 ≤ n) : (Str.ofString (toString n)) = nS n := by
  obtain ⟨m, rfl⟩ : ∃ m : Nat, n = m := ⟨n.toNat, by omega⟩
  have := PySem.W.KIN.signs_num m
  show _ = S (dg m)
  rw [← S_of (Str.ofString (toString (m : Int))), this]
  rfl
theorem dg_len {n : Int} (h1 : n ≤ B30) : (dg n).length ≤ 31 := by
  unfold dg
  rw [List.length_map]
  refine toDigits_len_pow (by decide) (by decide) ?_
  have : B30 < 10 ^ 31 := by unfold B30; decide
  omega
theorem dg_all (n : Int) : ∀ c ∈ dg n, 48 ≤ c ∧ c ≤ 57 := fun c hc => by
  obtain ⟨ch, hch, rfl⟩ := List.mem_map.mp hc
  exact digit_range (Nat.isDigit_of_mem_toDigits (by decide) (by decide) hch)
def top (i : Nat) : Stmt := PySem.Challenge.pw_lettertoll_k92_texts_that_are_no_books.main.body.getD i (.Pass ⟨0, 0, 0, 0⟩)
abbrev sIsAm : Stmt := top 9
abbrev sAre : Stmt := top 10
abbrev sMP : Stmt := top 11
abbrev sMW : Stmt := top 12
abbrev sAlone : Stmt := top 13
abbrev sBT : Stmt := top 18
abbrev sRB : Stmt := top 19
abbrev sRO : Stmt := top 20
abbrev sILR : Stmt := top 21
abbrev sITR : Stmt := top 22
abbrev sIN : Stmt := top 23
abbrev sINu : Stmt := top 24
abbrev sWT : Stmt := top 25
abbrev sRW : Stmt := top 26
abbrev sCell : Stmt := top 30
abbrev sWhole : Stmt := top 31
abbrev sAmount : Stmt := top 32
abbrev sSigns : Stmt := top 33
abbrev sNames : Stmt := top 34
abbrev sOdd : Stmt := top 35
abbrev sSpoilt : Stmt := top 36
abbrev sRG : Stmt := top 37
abbrev sDue : Stmt := top 38
abbrev sAsked : Stmt := top 39
abbrev sFound : Stmt := top 40
abbrev sWR : Stmt := top 41
abbrev sRight : Stmt := top 42
abbrev sLaw : Stmt := top 43
theorem ps_dead {X : Cx} {st : Stmt} : PS X st (fun _ _ _ => False) := fun _ _ _ _ _ _ h => h.elim
end K92
set_option Elab.async false
set_option linter.all false
set_option maxRecDepth 100000
namespace K92
open PySem PySem.NumText L2 PyProof.Rows
def Lo (l : List Nat) : Prop := ∀ c ∈ l, 97 ≤ c ∧ c ≤ 122
def tL : Str := Str.ofString "letter"
def tT : Str := Str.ofString "thing"
def sp : Str := Str.ofString " "
def nl : Str := Str.ofString "\n"
def loB (l : List Nat) : Bool := l.all fun c => decide (97 ≤ c ∧ c ≤ 122)
def dgB (l : List Nat) : Bool := l.all fun c => decide (48 ≤ c ∧ c ≤ 57)
def nmB (m : Nat) (z : Str) : Bool := decide (1 ≤ z.length) && (decide (z.length ≤ m) && loB z.cps.toList)
def nuB (z : Str) : Bool := decide (1 ≤ z.length) && (decide (z.length ≤ 40) && (dgB z.cps.toList && (decide (z = Str.ofString "0") || decide (z.cps.toList.getD 0 0 ≠ 48))))
def rwB (k : Str) (m : Nat) : List Str → Bool
  | [a, b, c] => decide (a = k) && (nmB m b && nuB c)
  | _ => false
def lB (r : List Str) : Bool := rwB tL 1 r
def tB (r : List Str) : Bool := rwB tT 8 r
def k0 (r : List Str) : Str := r.getD 0 Str.empty
def k1 (r : List Str) : Str := r.getD 1 Str.empty
def k2 (r : List Str) : Str := r.getD 2 Str.empty
def badAt : Bool → List (List Str) → Nat → Option Nat
  | _, [], _ => none
  | b, r :: rs, i => if tB r = true then badAt true rs (i + 1) else if b = false ∧ lB r = true then badAt false rs (i + 1) else some (i + 1)
def rowsZ (z : Str) : List (List Str) := (Txt.split z nl).dropLast.map fun p => Txt.split p sp
def lastZ (z : Str) : Str := (Txt.split z nl).getLastD Str.empty
def badRow (z : Str) : Option Nat := match badAt false (rowsZ z) 0 with
  | some k => some k
  | none => if 0 < (lastZ z).length then some ((rowsZ z).length + 1) else none
def lettersZ (z : Str) : List (List Str) := (rowsZ z).filter fun r => decide (k0 r = tL)
def thingsZ (z : Str) : List (List Str) := (rowsZ z).filter fun r => decide (k0 r = tT)
def num (z : Str) : Int := (digitsVal z.cps.toList : Nat)
def amB (n : Int) : Bool := decide (1 ≤ n) && decide (n ≤ B30)
def amsB (lo hi : Nat) (ns : List Int) : Bool := decide (lo ≤ ns.length) && (decide (ns.length ≤ hi) && ns.all amB)
inductive Res
  | row (k : Nat)
  | name
  | prices
  | weights
  | book (sg : List Str) (ps : List Int) (nm : List Str) (ws : List Int)
def res (z : Str) : Res := match badRow z with
  | some k => .row k
  | none => if (((lettersZ z).map k1).Nodup ∧ ((thingsZ z).map k1).Nodup) then
      (if amsB 2 6 ((lettersZ z).map fun r => num (k2 r)) = true then
        (if amsB 1 24 ((thingsZ z).map fun r => num (k2 r)) = true then .book ((lettersZ z).map k1) ((lettersZ z).map fun r => num (k2 r)) ((thingsZ z).map k1) ((thingsZ z).map fun r => num (k2 r)) else .weights)
      else .prices) else .name
theorem nuB_reads {z : Str} (h : nuB z = true) : PySem.intText? z = some (num z) ∧ z.length ≤ 40 := by
  unfold nuB at h
  simp only [Bool.and_eq_true, decide_eq_true_eq] at h
  obtain ⟨h1, h2, h3, _⟩ := h
  refine ⟨intText_digits (x := z) (fun c hc => of_decide_eq_true (List.all_eq_true.mp h3 c hc)) (fun e => ?_) (by omega), h2⟩
  have : z.cps.toList.length = z.length := Array.length_toList
  rw [e] at this
  exact absurd this.symm (by show ¬ z.length = 0; omega)
theorem nuB_back {z : Str} (h : nuB z = true) : dg (num z) = z.cps.toList := by
  unfold nuB at h
  simp only [Bool.and_eq_true, Bool.or_eq_true, decide_eq_true_eq] at h
  obtain ⟨h1, h2, h3, h4⟩ := h
  have e : z.cps.toList.length = z.length := Array.length_toList
  have ad : AllDigits z.cps.toList := fun c hc => of_decide_eq_true (List.all_eq_true.mp h3 c hc)
  have key : Nat.toDigits 10 (digitsVal z.cps.toList) = z.cps.toList.map Char.ofNat := by
    refine toDigits_digitsVal (z.length - 1) _ (by omega) ad ?_
    rcases h4 with h4 | h4
    · left
      rw [h4]
      decide +kernel
    · right
      match hz : z.cps.toList, ad, h4 with
      | [], _, _ => rw [hz] at e; simp at e; omega
      | c :: r, ad, h4 =>
        refine ⟨c, r, rfl, ?_⟩
        have := ad c (.head _)
        have : c ≠ 48 := h4
        omega
  unfold dg num
  rw [Int.toNat_natCast, key, List.map_map]
  refine (List.map_congr_left fun c hc => ?_).trans (List.map_id _)
  have := ad c hc
  show (Char.ofNat c).toNat = c
  have : ∀ c : Nat, 48 ≤ c ∧ c ≤ 57 → (Char.ofNat c).toNat = c := by
    intro c hc
    have : c = 48 ∨ c = 49 ∨ c = 50 ∨ c = 51 ∨ c = 52 ∨ c = 53 ∨ c = 54 ∨ c = 55 ∨ c = 56 ∨ c = 57 := by omega
    rcases this with h | h | h | h | h | h | h | h | h | h <;> rw [h] <;> decide
  exact this c (ad c hc)
end K92
set_option Elab.async false
set_option linter.all false
set_option maxRecDepth 100000
namespace K92
open PySem L2
theorem e30 : (10 : Int) ^ (30 : Int).toNat = B30 := by unfold B30; decide
def alpha : Str := Str.ofString "abcdefghijklmnopqrstuvwxyz"
theorem alpha_l : alpha.cps.toList = (List.range 26).map (97 + ·) := by decide +kernel
theorem alpha_at {i : Int} (h0 : 0 ≤ i) (h1 : i < 26) : atI alpha.cps.toList i = some (97 + i.toNat) := by
  obtain ⟨k, rfl⟩ : ∃ k : Nat, i = k := ⟨i.toNat, by omega⟩
  refine atI_nat ?_
  rw [alpha_l, List.getElem?_map, List.getElem?_range (by omega)]
  rfl
theorem alpha_len : alpha.length ≤ sizeLine := by decide +kernel
section
variable {P : Program} {w : World} {K : PySem.W.Frag} {mg : Str → Option Value} {base : Heap} {f : Addr} {fd : FuncData}
def spCell (K : PySem.W.Frag) : Sp := fun vs H Q _ => ∃ (a : Addr) (ns : List Int) (k : Int), vs = [.ref a, .int k] ∧ SqL K H a (ns.map V.int) ∧ 0 ≤ k ∧ ∀ i, Q (.int i) H
theorem scCell : FnScope ["script", "k"] ["script", "k"] (defScope sCell) := ⟨rfl, rfl, rfl, by decide +kernel, rfl, by decide +kernel, by decide +kernel⟩
theorem ok_cell (F : Fun K "_law_cell_at" "_law_cell_at" sCell f fd) (ml : mg "len" = none) : FnOk P w K mg base CX0 1 f fd ["script", "k"] (spCell K) := by
  refine F.ok (k := 0) scCell (fun vs H Q E h => ?_) (fun cdv A outer s H vs Q E hr h => ?_)
  · obtain ⟨a, ns, k, rfl, _⟩ := h
    rfl
  obtain ⟨a, ns, k, rfl, hS, h0, q⟩ := h
  refine ⟨_, pss_cons (ps_if (pt_cmpR op_lt (pv 1) (pe_callB call_len_seq (by rfl) ml PySem.boot_len (pa_cons (pv 0) pa_nil)) (nomark _)) (pss_one (ps_ret (pe_ix ix_list (pv 0) (pv 1) (fun _ _ => rfl)))) pss_nil) (pss_one (ps_ret pe_int)), ?_⟩
  refine ⟨_, rfl, _, rfl, a, _, rfl, .inl hS, _, _, rfl, rfl, _, rfl, ?_⟩
  refine ite2 (fun c => ?_) (fun c => q 0)
  have c1 : k < ((ns.map V.int).length : Int) := of_decide_eq_true c
  obtain ⟨n, rfl⟩ : ∃ n : Nat, k = n := ⟨k.toNat, by omega⟩
  have hn : n < ns.length := by rw [List.length_map] at c1; omega
  exact ⟨_, rfl, _, rfl, a, _, _, _, rfl, rfl, hS, at_int (List.getElem?_eq_getElem hn), q _⟩
def spWhole : Sp := fun vs H Q _ => ∃ i, vs = [.int i] ∧ Q (.bl true) H
theorem scWhole : FnScope ["found"] ["found"] (defScope sWhole) := ⟨rfl, rfl, rfl, by decide +kernel, rfl, by decide +kernel, by decide +kernel⟩
theorem ok_whole (F : Fun K "_law_whole" "_law_whole" sWhole f fd) (mi : mg "isinstance" = none) (m1 : mg "int" = none) (m2 : mg "bool" = none) : FnOk P w K mg base CX0 1 f fd ["found"] spWhole := by
  refine F.ok (k := 0) scWhole (fun vs H Q E h => ?_) (fun cdv A outer s H vs Q E hr h => ?_)
  · obtain ⟨i, rfl, _⟩ := h
    rfl
  obtain ⟨i, rfl, q⟩ := h
  refine ⟨_, pss_one (ps_ret (pe_and (pe_callB call_isi (by rfl) mi b_isi (pa_cons (pv 0) (pa_cons (pe_bltn (v := .ty "int") (by rfl) m1 b_int rfl) pa_nil)))
    (pe_one (pe_not (pe_callB call_isi (by rfl) mi b_isi (pa_cons (pv 0) (pa_cons (pe_bltn (v := .ty "bool") (by rfl) m2 b_bool rfl) pa_nil))))))), ?_⟩
  exact ⟨_, rfl, _, _, _, _, rfl, .int i, kit_int_int _, _, rfl, iteT ⟨_, rfl, _, _, _, _, rfl, .int i, kit_int_bool _, _, rfl, q⟩⟩
def spAmount : Sp := fun vs H Q _ => ∃ c : Int, vs = [.int c] ∧ ∀ i, 1 ≤ i → i ≤ B30 → Q (.int i) H
theorem scAmount : FnScope ["cell", "rest"] ["cell"] (defScope sAmount) := ⟨rfl, rfl, rfl, by decide +kernel, rfl, by decide +kernel, by decide +kernel⟩
theorem ok_amount (F : Fun K "_law_amount" "_law_amount" sAmount f fd) : FnOk P w K mg base CX0 1 f fd ["cell"] spAmount := by
  refine F.ok (k := 0) scAmount (fun vs H Q E h => ?_) (fun cdv A outer s H vs Q E hr h => ?_)
  · obtain ⟨c, rfl, _⟩ := h
    rfl
  obtain ⟨c, rfl, q⟩ := h
  refine ⟨_, pss_cons (ps_set (i := 1) scAmount.nd rfl (Or.inl rfl) (pe_op op_fdiv (pv 0) pe_int))
    (pss_cons (ps_if (pt_cmpR op_eq (pe_op op_mod (pv 0) pe_int) pe_int (nomark _)) (pss_one (ps_ret (pe_op op_add pe_int (pe_op op_mod (pv 1) (pe_op op_pow pe_int pe_int))))) pss_nil)
    (pss_cons (ps_if (pt_cmpR op_eq (pe_op op_mod (pv 0) pe_int) pe_int (nomark _)) (pss_one (ps_ret (pe_op op_sub (pe_op op_pow pe_int pe_int) (pe_op op_mod (pv 1) pe_int)))) pss_nil)
    (pss_cons (ps_if (pt_cmpR op_eq (pe_op op_mod (pv 0) pe_int) pe_int (nomark _)) (pss_one (ps_ret (pe_op op_add pe_int (pe_op op_mod (pv 1) pe_int)))) pss_nil)
    (pss_one (ps_ret (pe_op op_add pe_int (pe_op op_mod (pv 1) pe_int))))))), ?_⟩
  refine ⟨_, rfl, _, _, rfl, rfl, ⟨by decide, by decide⟩, ?_⟩
  refine ⟨_, rfl, _, _, rfl, rfl, (by show (0 : Int) < _; decide), rfl, _, rfl, ?_⟩
  refine ite2 (fun _ => ⟨_, rfl, _, _, rfl, rfl, ⟨by decide, by decide, by decide⟩, _, _, rfl, rfl, (by show (0 : Int) < _; decide), _, _, rfl, rfl, q _ (by rw [e30]; unfold B30; omega) (by rw [e30]; unfold B30; omega)⟩) (fun _ => ?_)
  refine ⟨_, rfl, _, _, rfl, rfl, (by show (0 : Int) < _; decide), rfl, _, rfl, ?_⟩
  refine ite2 (fun _ => ⟨_, _, rfl, rfl, ⟨by decide, by decide, by decide⟩, _, rfl, _, _, rfl, rfl, (by show (0 : Int) < _; decide), _, _, rfl, rfl, q _ (by rw [e30]; unfold B30; omega) (by rw [e30]; unfold B30; omega)⟩) (fun _ => ?_)
  refine ⟨_, rfl, _, _, rfl, rfl, (by show (0 : Int) < _; decide), rfl, _, rfl, ?_⟩
  refine ite2 (fun _ => ⟨_, rfl, _, _, rfl, rfl, (by show (0 : Int) < _; decide), _, _, rfl, rfl, q _ (by omega) (by unfold B30; omega)⟩) (fun _ => ?_)
  exact ⟨_, rfl, _, _, rfl, rfl, (by show (0 : Int) < _; decide), _, _, rfl, rfl, q _ (by omega) (by unfold B30; omega)⟩
def sgL (c : Int) (n : Nat) : List Str := (List.range n).map fun k : Nat => S [97 + ((c + 5 * (k : Int)) % 26).toNat]
abbrev NSg : List Str := ["cell", "many", "letters"]
abbrev PSg : List Str := ["cell", "many"]
def spSg : Sp := fun vs H Q _ => ∃ (c : Int) (n : Nat), vs = [.int c, .int n] ∧ n ≤ 30 ∧ ∀ d H', Same H H' → H d = none → H' d = some (.lst ((sgL c n).map V.str)) → Q (.ref d) H'
theorem scSg : FnScope NSg PSg (defScope sSigns) := ⟨rfl, rfl, rfl, by decide +kernel, rfl, by decide +kernel, by decide +kernel⟩
theorem ndSg : (("k" : Str) :: NSg).Nodup := by decide +kernel
theorem ok_sg (F : Fun K "_law_signs" "_law_signs" sSigns f fd) (mr : mg "range" = none) : FnOk P w K mg base CX0 1 f fd PSg spSg := by
  refine F.ok (k := 0) scSg (fun vs H Q E h => ?_) (fun cdv A outer s H vs Q E hr h => ?_)
  · obtain ⟨c, n, rfl, _⟩ := h
    rfl
  obtain ⟨c, n, rfl, n30, q⟩ := h
  refine ⟨_, pss_cons (ps_set (i := 2) scSg.nd rfl (Or.inr rfl) pe_str)
    (pss_one (ps_ret (pe_compR1 (M := NSg) rfl (CompScope.of (defScope sSigns) NSg rfl rfl rfl (by decide +kernel) (by decide +kernel) (by decide +kernel) rfl (by decide +kernel)) ndSg rfl (by rfl) mr (pa_cons (pv 1) pa_nil) (mo_cons mo_var mo_nil)
      (fun cl C s0 H0 fp => ⟨pts_nil, pe_ix ix_str (pv 3) (pe_op op_mod (pe_op op_add (pv 1) (pe_op op_mul pe_int (pv 0))) pe_int) (fun _ _ => rfl)⟩)))), ?_⟩
  refine ⟨_, rfl, _, rfl, by omega, by omega, fun d hd => ?_⟩
  have en : ((n : Int)).toNat = n := Int.toNat_natCast n
  rw [en]
  refine ⟨fun i H' => Same H H' ∧ H' d = some (.lst ((sgL c i).map V.str)), ⟨same_newO hd _, upd_same⟩, fun i H' hi hP => ?_, fun H' hP => q d H' hP.1 hd hP.2⟩
  obtain ⟨s1, hz⟩ := hP
  have ei : (0 : Int) + (i : Int) = (i : Int) := by omega
  rw [ei]
  have h0 := Int.emod_nonneg (c + 5 * (i : Int)) (show (26 : Int) ≠ 0 by decide)
  have h1 := Int.emod_lt_of_pos (c + 5 * (i : Int)) (show (0 : Int) < 26 by decide)
  refine turn_all ⟨_, rfl, _, rfl, _, rfl, _, _, rfl, rfl, .inl ⟨by decide, by decide⟩, _, _, rfl, rfl, _, _, rfl, rfl, (by show (0 : Int) < _; decide), alpha, _, _, rfl, rfl, alpha_len, alpha_at h0 h1, _, hz, ?_, same_upd hd s1, ?_⟩
  · rw [List.length_map]; unfold sgL; rw [List.length_map, List.length_range]; exact small1000 (by omega)
  · rw [upd_same]; unfold sgL; rw [List.range_succ, List.map_append, List.map_append]; rfl
end
end K92
set_option Elab.async false
set_option linter.all false
set_option maxRecDepth 100000
namespace K92
open PySem L2
def figs : Str := Str.ofString "0123456789"
theorem figs_l : figs.cps.toList = (List.range 10).map (48 + ·) := by decide +kernel
theorem in_alpha (c : Nat) : (!(Builtin.Str.occurrences alpha ⟨#[c]⟩ 0 alpha.length 1).isEmpty) = decide (97 ≤ c ∧ c ≤ 122) := by
  rw [StrLaws.found_one, alpha_l]
  refine decide_eq_decide.mpr ⟨fun h => ?_, fun h => List.mem_map.mpr ⟨c - 97, List.mem_range.mpr (by omega), by omega⟩⟩
  obtain ⟨k, hk, rfl⟩ := List.mem_map.mp h
  have := List.mem_range.mp hk
  omega
theorem in_figs (c : Nat) : (!(Builtin.Str.occurrences figs ⟨#[c]⟩ 0 figs.length 1).isEmpty) = decide (48 ≤ c ∧ c ≤ 57) := by
  rw [StrLaws.found_one, figs_l]
  refine decide_eq_decide.mpr ⟨fun h => ?_, fun h => List.mem_map.mpr ⟨c - 48, List.mem_range.mpr (by omega), by omega⟩⟩
  obtain ⟨k, hk, rfl⟩ := List.mem_map.mp h
  have := List.mem_range.mp hk
  omega
theorem asc_is {z : Str} (h : ∀ c ∈ z.cps.toList, c < 128) : Asc z := by
  unfold Asc
  rw [Array.all_eq_true']
  intro c hc
  exact decide_eq_true (h c (by simpa using hc))
theorem asc_of {z : Str} (h : Asc z) : ∀ c ∈ z.cps.toList, c < 128 := by
  unfold Asc at h
  rw [Array.all_eq_true'] at h
  intro c hc
  exact of_decide_eq_true (h c (by simpa using hc))
theorem big5 {n : Nat} (h : n ≤ 5000) : n ≤ sizeLine := Nat.le_trans h (by decide)
theorem lt5 {n : Nat} (h : n ≤ 5000) : n < sizeLine := Nat.lt_of_le_of_lt h (by decide)
section
variable {P : Program} {w : World} {K : PySem.W.Frag} {mg : Str → Option Value} {base : Heap} {f : Addr} {fd : FuncData}
abbrev NIn : List Str := ["text", "most"]
def spIn : Sp := fun vs H Q _ => ∃ (z : Str) (m : Nat), vs = [.str z, .int m] ∧ Asc z ∧ z.length ≤ 4500 ∧ ∀ H', Same H H' → Q (.bl (nmB m z)) H'
theorem scIn : FnScope NIn NIn (defScope sIN) := ⟨rfl, rfl, rfl, by decide +kernel, rfl, by decide +kernel, by decide +kernel⟩
theorem ndIn : (("sign" : Str) :: NIn).Nodup := by decide +kernel
theorem ok_in {tS : Tok} (F : Fun K "is_name" "is_name" sIN f fd) (gS : mg "SIGNS" = some (.str alpha tS)) (ml : mg "len" = none) (ma : mg "all" = none) : FnOk P w K mg base CX0 1 f fd NIn spIn := by
  refine F.ok (k := 0) scIn (fun vs H Q E h => ?_) (fun cdv A outer s H vs Q E hr h => ?_)
  · obtain ⟨z, m, rfl, _⟩ := h
    rfl
  obtain ⟨z, m, rfl, as, l5, qq⟩ := h
  refine ⟨_, pss_one (ps_ret (pe_and (pe_mid (pe_chain op_le op_le pe_int (pe_callB call_len_str (by rfl) ml PySem.boot_len (pa_cons (pv 0) (pa_nil))) (pv 1))) (pe_one (pe_callB (call_all rfl) (by rfl) ma b_all (pa_cons (pe_compStr (M := NIn) rfl (CompScope.of (defScope sIN) NIn rfl rfl rfl (by decide +kernel) (by decide +kernel) (by decide +kernel) rfl (by decide +kernel)) ndIn rfl (pv 0) mo_var (fun cl C s0 H0 fp => ⟨pts_nil, pe_cmpR op_in_str (pv 0) (pe_glob (v := .str alpha) (by rfl) gS ⟨_, rfl⟩) rfl⟩)) (pa_nil)))))), ?_⟩
  unfold nmB at qq
  refine ⟨fun v H' => H = H' ∧ v = .bl (decide (1 ≤ z.length) && decide (z.length ≤ m)), ?_, ?_⟩
  · refine ⟨_, rfl, z, rfl, big5 (by omega), _, _, rfl, rfl, _, rfl, ite2 (fun c => ?_) (fun c => ?_)⟩
    · have c := of_decide_eq_true c
      refine ⟨_, rfl, _, _, rfl, rfl, rfl, ?_⟩
      rw [decide_eq_true (show 1 ≤ z.length by omega), Bool.true_and]
      exact congrArg V.bl (decide_eq_decide.mpr (by omega))
    · refine ⟨rfl, ?_⟩
      rw [decide_eq_false (show ¬ 1 ≤ z.length by intro h; exact c (decide_eq_true (by omega))), Bool.false_and]
  rintro v H' ⟨rfl, rfl⟩
  rw [← Bool.and_assoc] at qq
  refine ⟨_, rfl, ite2 (fun c => ?_) (fun c => ?_)⟩
  · rw [c, Bool.true_and] at qq
    refine ⟨_, rfl, z, rfl, as, fun d hd => ?_⟩
    refine ⟨fun i H' => Same H H' ∧ H' d = some (.lst (((z.cps.toList.take i).map fun c => decide (97 ≤ c ∧ c ≤ 122)).map V.bl)), ⟨same_newO hd _, upd_same⟩, fun i c H' hc hP => ?_, fun H' hP => ?_⟩
    · obtain ⟨s5, hz⟩ := hP
      have il := (List.getElem?_eq_some_iff.mp hc).1
      have e : z.cps.toList.length = z.length := Array.length_toList
      refine turn_all ⟨_, rfl, _, _, rfl, rfl, _, hz, ?_, same_upd hd s5, ?_⟩
      · rw [List.length_map, List.length_map, List.length_take]; exact lt5 (by omega)
      · rw [upd_same, in_alpha, List.take_add_one, hc, List.map_append, List.map_append]; rfl
    · obtain ⟨s5, hz⟩ := hP
      rw [show z.cps.size = z.cps.toList.length from Array.length_toList.symm, List.take_length] at hz
      refine ⟨d, _, rfl, hz, ?_⟩
      rw [List.all_map]
      exact qq H' s5
  · rw [Bool.eq_false_iff.mpr c, Bool.false_and] at qq
    exact qq H (Same.refl _)
abbrev NNu : List Str := ["text"]
def spNu : Sp := fun vs H Q _ => ∃ z : Str, vs = [.str z] ∧ Asc z ∧ z.length ≤ 4500 ∧ ∀ H', Same H H' → Q (.bl (nuB z)) H'
theorem scNu : FnScope NNu NNu (defScope sINu) := ⟨rfl, rfl, rfl, by decide +kernel, rfl, by decide +kernel, by decide +kernel⟩
theorem ndNu : (("figure" : Str) :: NNu).Nodup := by decide +kernel
theorem ok_nu {tF : Tok} (F : Fun K "is_number" "is_number" sINu f fd) (gF : mg "FIGURES" = some (.str figs tF)) (ml : mg "len" = none) (ma : mg "all" = none) : FnOk P w K mg base CX0 1 f fd NNu spNu := by
  refine F.ok (k := 0) scNu (fun vs H Q E h => ?_) (fun cdv A outer s H vs Q E hr h => ?_)
  · obtain ⟨z, rfl, _⟩ := h
    rfl
  obtain ⟨z, rfl, as, l5, qq⟩ := h
  refine ⟨_, pss_cons (ps_if (PW.pt (pw_or (pt_not (pt_chain op_le op_le pe_int (pe_callB call_len_str (by rfl) ml PySem.boot_len (pa_cons (pv 0) (pa_nil))) pe_int)) (pw_or1 (pt_not (pt_val (pe_callB (call_all rfl) (by rfl) ma b_all (pa_cons (pe_compStr (M := NNu) rfl (CompScope.of (defScope sINu) NNu rfl rfl rfl (by decide +kernel) (by decide +kernel) (by decide +kernel) rfl (by decide +kernel)) ndNu rfl (pv 0) mo_var (fun cl C s0 H0 fp => ⟨pts_nil, pe_cmpR op_in_str (pv 0) (pe_glob (v := .str figs) (by rfl) gF ⟨_, rfl⟩) rfl⟩)) (pa_nil)))))))) (pss_one (ps_ret pe_bl)) (pss_nil))
      (pss_one (ps_ret (pe_or (pe_cmpR op_eq (pv 0) pe_str (nomark _)) (pe_one (pe_cmpR op_ne (pe_ix ix_str (pv 0) (pe_int) (fun _ _ => rfl)) pe_str (nomark _)))))), ?_⟩
  unfold nuB at qq
  have e : z.cps.toList.length = z.length := Array.length_toList
  refine ⟨_, rfl, z, rfl, big5 (by omega), _, _, rfl, rfl, _, rfl, ite2 (fun c => ?_) (fun c => ?_)⟩
  case' refine_2 =>
    rw [decide_eq_false (show ¬ 1 ≤ z.length by intro h; exact c (decide_eq_true (by omega))), Bool.false_and] at qq
    exact ⟨_, rfl, iteT (qq H (Same.refl _))⟩
  have c := of_decide_eq_true c
  rw [decide_eq_true (show 1 ≤ z.length by omega), Bool.true_and] at qq
  refine ⟨_, _, rfl, rfl, _, rfl, ?_⟩
  by_cases c40 : z.length ≤ 40
  case neg =>
    rw [decide_eq_false c40, Bool.false_and] at qq
    rw [decide_eq_false (by omega)]
    exact iteT (qq H (Same.refl _))
  rw [decide_eq_true c40, Bool.true_and] at qq
  rw [decide_eq_true (by omega)]
  refine iteF ?_
  refine ⟨_, rfl, z, rfl, as, fun d hd => ?_⟩
  refine ⟨fun i H' => Same H H' ∧ H' d = some (.lst (((z.cps.toList.take i).map fun c => decide (48 ≤ c ∧ c ≤ 57)).map V.bl)), ⟨same_newO hd _, upd_same⟩, fun i c H' hc hP => ?_, fun H' hP => ?_⟩
  · obtain ⟨s5, hz⟩ := hP
    have il := (List.getElem?_eq_some_iff.mp hc).1
    refine turn_all ⟨_, rfl, _, _, rfl, rfl, _, hz, ?_, same_upd hd s5, ?_⟩
    · rw [List.length_map, List.length_map, List.length_take]; exact lt5 (by omega)
    · rw [upd_same, in_figs, List.take_add_one, hc, List.map_append, List.map_append]; rfl
  · obtain ⟨s5, hz⟩ := hP
    rw [show z.cps.size = z.cps.toList.length from Array.length_toList.symm, List.take_length] at hz
    refine ⟨d, _, rfl, hz, _, rfl, ?_⟩
    have ed : (z.cps.toList.map fun c => decide (48 ≤ c ∧ c ≤ 57)).all id = dgB z.cps.toList := by rw [List.all_map]; rfl
    rw [ed]
    cases hD : dgB z.cps.toList with
    | false =>
      rw [hD, Bool.false_and] at qq
      exact iteT (qq H' s5)
    | true =>
    rw [hD, Bool.true_and] at qq
    refine iteF ?_
    refine ⟨_, rfl, rfl, _, rfl, ite2 (fun c0 => ?_) (fun c0 => ?_)⟩
    · have c0 : z = Str.ofString "0" := V.str.inj (of_decide_eq_true c0)
      rw [decide_eq_true c0, Bool.true_or] at qq
      exact qq H' s5
    · have c1 : ¬ z = Str.ofString "0" := fun h => c0 (decide_eq_true (congrArg V.str h))
      rw [decide_eq_false c1, Bool.false_or] at qq
      obtain ⟨x0, h0⟩ : ∃ x0, z.cps.toList[0]? = some x0 := ⟨z.cps.toList[0]'(by omega), List.getElem?_eq_getElem _⟩
      rw [List.getD_eq_getElem?_getD, h0] at qq
      refine ⟨_, rfl, z, _, x0, rfl, rfl, big5 (by omega), atI_nat (j := 0) h0, rfl, ?_⟩
      have e2 : (!decide (V.str ⟨#[x0]⟩ = V.str (Str.ofString "0"))) = decide ((some x0).getD 0 ≠ 48) := by
        by_cases e3 : x0 = 48
        · subst e3; decide +kernel
        · have : ¬ V.str ⟨#[x0]⟩ = V.str (Str.ofString "0") := fun h => e3 (List.cons.inj (congrArg (fun z : Str => z.cps.toList) (V.str.inj h))).1
          rw [decide_eq_false this]
          exact (decide_eq_true (show (some x0).getD 0 ≠ 48 from e3)).symm
      show Q (.bl (!decide (V.str ⟨#[x0]⟩ = V.str (Str.ofString "0")))) H'
      rw [e2]
      exact qq H' s5
abbrev NRr : List Str := ["row"]
def spRr (k : Str) (m : Nat) : Sp := fun vs H Q _ => ∃ (l : Addr) (rs : List Str), vs = [.ref l] ∧ H l = some (.lst (rs.map V.str)) ∧ (∀ z ∈ rs, Asc z ∧ z.length ≤ 4500) ∧ rs.length ≤ 5000 ∧ ∀ H', Same H H' → Q (.bl (rwB k m rs)) H'
theorem scLr : FnScope NRr NRr (defScope sILR) := ⟨rfl, rfl, rfl, by decide +kernel, rfl, by decide +kernel, by decide +kernel⟩
theorem scTr : FnScope NRr NRr (defScope sITR) := ⟨rfl, rfl, rfl, by decide +kernel, rfl, by decide +kernel, by decide +kernel⟩
theorem ok_lr (F : Fun K "is_letter_row" "is_letter_row" sILR f fd) (GN : Fns P w K mg base NIn "is_name" spIn 1) (GU : Fns P w K mg base NNu "is_number" spNu 1) (ml : mg "len" = none) : FnOk P w K mg base CX0 2 f fd NRr (spRr tL 1) := by
  refine F.ok (k := 1) scLr (fun vs H Q E h => ?_) (fun cdv A outer s H vs Q E hr h => ?_)
  · obtain ⟨l, rs, rfl, _⟩ := h
    rfl
  obtain ⟨l, rs, rfl, hl, as, ln, qq⟩ := h
  refine ⟨_, pss_one (ps_ret (pe_and (pe_cmpR op_eq (pe_callB call_len_seq (by rfl) ml PySem.boot_len (pa_cons (pv 0) (pa_nil))) pe_int (nomark _)) (pe_and (pe_cmpR op_eq (pe_ix ix_list (pv 0) (pe_int) (fun _ _ => rfl)) pe_str (nomark _)) (pe_and (pe_call GN.ok hr (by rfl) GN.m GN.kp GN.b .nil pass0 (pa_cons (pe_ix ix_list (pv 0) (pe_int) (fun _ _ => rfl)) (pa_cons (pe_int) (pa_nil)))) (pe_one (pe_call GU.ok hr (by rfl) GU.m GU.kp GU.b .nil pass0 (pa_cons (pe_ix ix_list (pv 0) (pe_int) (fun _ _ => rfl)) (pa_nil)))))))), ?_⟩
  refine ⟨_, rfl, l, _, rfl, .inl (SqL.of hl), rfl, _, rfl, ite2 (fun c => ?_) (fun c => ?_)⟩
  case' refine_2 =>
    have n3 : ¬ rs.length = 3 := fun h => c (decide_eq_true (by rw [List.length_map, h]; rfl))
    have e : rwB tL 1 rs = false := by
      unfold rwB
      split
      · exact absurd rfl n3
      · rfl
    rw [e] at qq
    exact qq H (Same.refl _)
  have n3 : rs.length = 3 := by
    have := V.int.inj (of_decide_eq_true c)
    rw [List.length_map] at this
    omega
  obtain ⟨a, b, cc, rfl⟩ : ∃ a b cc, rs = [a, b, cc] := by
    match rs, n3 with
    | [a, b, cc], _ => exact ⟨a, b, cc, rfl⟩
  have i0 : atI [V.str a, .str b, .str cc] 0 = some (.str a) := rfl
  have i1 : atI [V.str a, .str b, .str cc] 1 = some (.str b) := rfl
  have i2 : atI [V.str a, .str b, .str cc] 2 = some (.str cc) := rfl
  have hl : H l = some (.lst [V.str a, .str b, .str cc]) := hl
  have qq : ∀ H', Same H H' → Q (.bl (decide (a = tL) && (nmB 1 b && nuB cc))) H' := qq
  refine ⟨_, rfl, l, _, _, _, rfl, rfl, SqL.of hl, i0, rfl, _, rfl, ite2 (fun c => ?_) (fun c => ?_)⟩
  · have e : a = tL := V.str.inj (of_decide_eq_true c)
    rw [decide_eq_true e, Bool.true_and] at qq
    refine ⟨_, rfl, l, _, _, _, rfl, rfl, SqL.of hl, i1, b, 1, rfl, (as b (by simp)).1, (as b (by simp)).2, fun H1 s1 => ?_⟩
    refine ⟨_, rfl, ite2 (fun c2 => ?_) (fun c2 => ?_)⟩
    · rw [c2, Bool.true_and] at qq
      exact ⟨_, rfl, l, _, _, _, rfl, rfl, SqL.of (s1 _ _ hl), i2, cc, rfl, (as cc (by simp)).1, (as cc (by simp)).2, fun H2 s2 => qq H2 (s1.trans s2)⟩
    · rw [Bool.eq_false_iff.mpr c2, Bool.false_and] at qq
      exact qq H1 s1
  · have e0 : ¬ a = tL := fun z => c (decide_eq_true (congrArg V.str z))
    rw [decide_eq_false e0, Bool.false_and] at qq
    exact qq H (Same.refl _)
theorem ok_tr (F : Fun K "is_thing_row" "is_thing_row" sITR f fd) (GN : Fns P w K mg base NIn "is_name" spIn 1) (GU : Fns P w K mg base NNu "is_number" spNu 1) (ml : mg "len" = none) : FnOk P w K mg base CX0 2 f fd NRr (spRr tT 8) := by
  refine F.ok (k := 1) scTr (fun vs H Q E h => ?_) (fun cdv A outer s H vs Q E hr h => ?_)
  · obtain ⟨l, rs, rfl, _⟩ := h
    rfl
  obtain ⟨l, rs, rfl, hl, as, ln, qq⟩ := h
  refine ⟨_, pss_one (ps_ret (pe_and (pe_cmpR op_eq (pe_callB call_len_seq (by rfl) ml PySem.boot_len (pa_cons (pv 0) (pa_nil))) pe_int (nomark _)) (pe_and (pe_cmpR op_eq (pe_ix ix_list (pv 0) (pe_int) (fun _ _ => rfl)) pe_str (nomark _)) (pe_and (pe_call GN.ok hr (by rfl) GN.m GN.kp GN.b .nil pass0 (pa_cons (pe_ix ix_list (pv 0) (pe_int) (fun _ _ => rfl)) (pa_cons (pe_int) (pa_nil)))) (pe_one (pe_call GU.ok hr (by rfl) GU.m GU.kp GU.b .nil pass0 (pa_cons (pe_ix ix_list (pv 0) (pe_int) (fun _ _ => rfl)) (pa_nil)))))))), ?_⟩
  refine ⟨_, rfl, l, _, rfl, .inl (SqL.of hl), rfl, _, rfl, ite2 (fun c => ?_) (fun c => ?_)⟩
  case' refine_2 =>
    have n3 : ¬ rs.length = 3 := fun h => c (decide_eq_true (by rw [List.length_map, h]; rfl))
    have e : rwB tT 8 rs = false := by
      unfold rwB
      split
      · exact absurd rfl n3
      · rfl
    rw [e] at qq
    exact qq H (Same.refl _)
  have n3 : rs.length = 3 := by
    have := V.int.inj (of_decide_eq_true c)
    rw [List.length_map] at this
    omega
  obtain ⟨a, b, cc, rfl⟩ : ∃ a b cc, rs = [a, b, cc] := by
    match rs, n3 with
    | [a, b, cc], _ => exact ⟨a, b, cc, rfl⟩
  have i0 : atI [V.str a, .str b, .str cc] 0 = some (.str a) := rfl
  have i1 : atI [V.str a, .str b, .str cc] 1 = some (.str b) := rfl
  have i2 : atI [V.str a, .str b, .str cc] 2 = some (.str cc) := rfl
  have hl : H l = some (.lst [V.str a, .str b, .str cc]) := hl
  have qq : ∀ H', Same H H' → Q (.bl (decide (a = tT) && (nmB 8 b && nuB cc))) H' := qq
  refine ⟨_, rfl, l, _, _, _, rfl, rfl, SqL.of hl, i0, rfl, _, rfl, ite2 (fun c => ?_) (fun c => ?_)⟩
  · have e : a = tT := V.str.inj (of_decide_eq_true c)
    rw [decide_eq_true e, Bool.true_and] at qq
    refine ⟨_, rfl, l, _, _, _, rfl, rfl, SqL.of hl, i1, b, 8, rfl, (as b (by simp)).1, (as b (by simp)).2, fun H1 s1 => ?_⟩
    refine ⟨_, rfl, ite2 (fun c2 => ?_) (fun c2 => ?_)⟩
    · rw [c2, Bool.true_and] at qq
      exact ⟨_, rfl, l, _, _, _, rfl, rfl, SqL.of (s1 _ _ hl), i2, cc, rfl, (as cc (by simp)).1, (as cc (by simp)).2, fun H2 s2 => qq H2 (s1.trans s2)⟩
    · rw [Bool.eq_false_iff.mpr c2, Bool.false_and] at qq
      exact qq H1 s1
  · have e0 : ¬ a = tT := fun z => c (decide_eq_true (congrArg V.str z))
    rw [decide_eq_false e0, Bool.false_and] at qq
    exact qq H (Same.refl _)
end
end K92
set_option Elab.async false
set_option linter.all false
set_option maxRecDepth 100000
namespace L2
open PySem PySem.Spec PyProof.Rows
section
variable {X : Cx}
def strsOf : List Expr → Option (List Str)
  | [] => some []
  | .Constant (.str i) _ _ :: es => (strsOf es).map fun qs => i :: qs
  | _ :: _ => none
def tSs : List Str → TA
  | [] => tNil
  | q :: qs => tCons (tC (.str q)) (tSs qs)
theorem strs_cons {e : Expr} {es : List Expr} {qs : List Str} (h : strsOf (e :: es) = some qs) : ∃ i k p qs', e = .Constant (.str i) k p ∧ strsOf es = some qs' ∧ qs = i :: qs' := by
  unfold strsOf at h
  split at h
  · rename_i heq
    cases heq
  · rename_i heq
    cases heq
    cases hq : strsOf es with
    | none => rw [hq] at h; cases h
    | some qs' => rw [hq] at h; cases h; exact ⟨_, _, _, qs', rfl, rfl, rfl⟩
  · cases h
theorem pa_strs : ∀ {es : List Expr} {qs : List Str}, strsOf es = some qs → PA X es (tSs qs)
  | [], qs, h => by cases h; exact pa_nil
  | e :: es, qs, h => by
    obtain ⟨i, k, p, qs', rfl, h2, rfl⟩ := strs_cons h
    exact pa_cons pe_str (pa_strs h2) (by rfl)
theorem tSs_of : ∀ (qs : List Str) {σ : St} {H : Hp} {Q : List V → Hp → Prop}, Q (qs.map V.str) H → tSs qs σ H Q
  | [], σ, H, Q, h => h
  | q :: qs, σ, H, Q, h => tSs_of qs h
def tStrs (qs : List Str) : TE := fun _ H Q => qs.length ≤ 1000 ∧ ∀ d H', Same H H' → H d = none → H' d = some (.lst (qs.map V.str)) → Q (.ref d) H'
theorem pe_strs {es : List Expr} {pos : Pos} {qs : List Str} (h : strsOf es = some qs := by rfl) : PE X (.List es pos) (tStrs qs) := by
  refine (pe_lst (pa_strs h)).imp fun σ H Q q => ?_
  obtain ⟨l, q⟩ := q
  refine tSs_of qs ⟨Nat.le_of_lt (small1000 (by rw [List.length_map]; exact l)), fun d hd => ?_⟩
  exact q d _ (same_newO hd _) hd upd_same
theorem ps_strs (i : Nat) {x : Str} {pos' lp pos : Pos} {es : List Expr} (qs : List Str) (h : strsOf es = some qs) (hN : X.N.Nodup) (hi : X.N[i]? = some x) (hx : Loc X.env.scope x) (hf : X.fn x = true ∨ X.env.scope.names.lookup x = some .local) :
    PS X (.Assign [.Name x pos'] (.List es lp) pos) (tAsg (tStrs qs) (gName i)) := ps_set hN hi hx (pe_strs h) (by rfl) hf
def strsAsg : Stmt → Option (Str × List Str)
  | .Assign [.Name x _] (.List es _) _ => (strsOf es).map fun q => (x, q)
  | _ => none
theorem ps_sts (i : Nat) (st : Stmt) {x : Str} (qs : List Str) (h : strsAsg st = some (x, qs)) (hN : X.N.Nodup) (hi : X.N[i]? = some x) (hx : Loc X.env.scope x) (hf : X.fn x = true ∨ X.env.scope.names.lookup x = some .local) : PS X st (tAsg (tStrs qs) (gName i)) := by
  unfold strsAsg at h
  split at h
  · rename_i y p0 es lp pos
    cases hq : strsOf es with
    | none => rw [hq] at h; cases h
    | some q => rw [hq] at h; cases h; exact ps_strs i qs hq hN hi hx hf
  · cases h
end
end L2
set_option Elab.async false
set_option linter.all false
set_option maxRecDepth 100000
namespace L2
open PySem PySem.Spec PyProof.Rows
theorem ps_compZ {X : Cx} (K : PySem.W.Frag) (ka kb : Bool) {elt a b : Expr} {t1 t2 x : Str} {p1 p2 tp p pos pos' pos1 spos : Pos} {k i : Nat} {cs : List Expr} {scope : Scope} {tc : TT} {te : TE} {ta : TA} {M : List Str} (hN : X.N.Nodup) (hix : X.N[i]? = some x) (hx : X.env.scope.names.lookup x = some .local) (hc : X.calm = true) (S : CompScope scope X.env X.N M) (nd : (t1 :: t2 :: M).Nodup) (hl1 : scope.names.lookup t1 = some .local) (hl2 : scope.names.lookup t2 = some .local)
    (hg : Gl X "zip") (hm : X.mg "zip" = none) (ha : PA X [a, b] ta) (mo : MonoA ta)
    (hin : ∀ (cl : List (Str × Addr)) (C : Addr) (s0 : Shared) (H0 : Hp) (fp : List Addr), PTs (cxC X scope cl C s0 H0 fp (t1 :: t2 :: M)) cs tc ∧ PE (cxC X scope cl C s0 H0 fp (t1 :: t2 :: M)) elt te)
    (hw : swapsWith (.ListComp elt [⟨.Tuple [.Name t1 p1, .Name t2 p2] k tp, .Call (.Name "zip" p) [a, b] [] pos', cs, 0⟩] scope pos) (some (.Name x pos1)) spos.line X.env = pure true := by rfl)
    (hs : starEach [a, b] X.env = [(false, eval a X.env), (false, eval b X.env)] := by rfl) (hs2 : starEach [b] X.env = [(false, eval b X.env)] := by rfl) (hf : ∀ x, foldedSetIterable (.Call (.Name "zip" p) [a, b] [] pos') X.env x = pure x := by intro _; rfl) (hK : X.K = K := by rfl) :
    PS X (.Assign [.Name x pos1] (.ListComp elt [⟨.Tuple [.Name t1 p1, .Name t2 p2] k tp, .Call (.Name "zip" p) [a, b] [] pos', cs, 0⟩] scope pos) spos) (tAsg (tCompZ K ka kb ta tc te) (gName i)) := by
  subst hK
  have hx1 : (relabel scope X.env).names.lookup t1 = some .local := by rw [lookup_relabel, hl1]; rfl
  have hx2 : (relabel scope X.env).names.lookup t2 = some .local := by rw [lookup_relabel, hl2]; rfl
  intro pins s σ H D I h
  refine ps_comp (xs := [t1, t2]) (M := M) (g := gPair X.K) hc S (pi_zip ka kb hg hm ha hs hs2) (fun cl C s0 H0 fp => ⟨pg_tup hc (pgs_cons (pg_name (i := 0) nd rfl (Or.inl hx1) (Or.inr hx1)) (pgs_cons (pg_name (i := 1) nd rfl (Or.inl hx2) (Or.inr hx2)) pgs_nil)), hin cl C s0 H0 fp⟩) (fun v σ H Q h => gPair_two h) hN hix hx hw hf pins s σ H D I ?_
  refine mo σ H _ _ (fun vs H1 q => ?_) h
  obtain ⟨a', b', xs, ys, e, q1, q2, hlen, q⟩ := q
  refine ⟨a', b', xs, ys, e, q1, q2, fun d hd => ?_⟩
  obtain ⟨Pv, h0, hl, hs, hd⟩ := q d hd
  exact comp_zip (Q := fun x H1 => gName i x σ H1 D.nx) hlen Pv h0 hl hs hd
section
variable {X : Cx} {o e : Expr} {es : List Expr} {to : TE} {t : TA} {name : Str} {apos cpos : Pos} {id : String} {r : V → List V → Hp → VK → Prop}
def tBMS (r : V → List V → Hp → VK → Prop) (to : TE) (t : TA) : TE := fun σ H Q => to σ H fun x H1 => (∃ z, x = .str z) ∧ t σ H1 fun xs H2 => r x xs H2 Q
theorem pe_bmS (slot : Slot "str" name id) (hty : typeOf (.builtin id) = pure (.type "method_descriptor")) (hm : MtR X id r) (ho : PE X o to) (ha : PA X (e :: es) t)
    (hbase : attributeBase o name X.env (eval o X.env) = eval o X.env := by rfl)
    (hfew : ((backTo cpos (starEach (e :: es) X.env)).all (fun x => !x.1) && (backToKw cpos (keywordEach [] X.env)).all (fun x => x.1.isSome)
      && decide ((e :: es).length + ([] : List Keyword).length + (if ([] : List Keyword).isEmpty then 0 else 1) < 30)) = true := by rfl)
    (hline : (apos.endLine == cpos.line) = true := by rfl) (hs : starEach (e :: es) X.env = (false, eval e X.env) :: starEach es X.env := by rfl) (hplain : (backTo cpos (starEach es X.env)).any (·.1) = false := by rfl) :
    PE X (.Call (.Attribute o name apos) (e :: es) [] cpos) (tBMS r to t) := by
  intro pins s σ H Q I h
  refine wpAny_Call_method_late hbase hfew hline rfl (thn (ho pins s σ H _ I h) fun v s1 ⟨x, H1, I1, r1, ty, q1⟩ => ?_)
  obtain ⟨z, rfl⟩ := ty
  obtain ⟨h1, h2⟩ := tyV_is I1 r1 (show tyV X.K "str" (.str z) H1 from rfl)
  refine ⟨"str", id, PySem.F.plainAttrs_str, slot, hty, h1, h2, ?_⟩
  have hA := ha cpos pins s1 σ H1 _ I1 q1
  rw [hs] at hA ⊢
  refine Calls.callWith_builtin (by show (false || (backTo cpos (starEach es X.env)).any (·.1)) = false; rw [hplain] <;> rfl) (Calls.evalArgs_plain ?_)
  exact thn hA fun us s2 ⟨vs, H2, I2, r2, q2⟩ => hm pins s2 σ H2 _ vs v us Q I2 r1 r2 q2
end
end L2
set_option Elab.async false
set_option linter.all false
set_option maxRecDepth 100000
namespace K92
open PySem L2
theorem jn_mem {c : Nat} : ∀ {A : List (List Nat)} {a : List Nat} {x : Nat}, a ∈ A → x ∈ a → x ∈ jn c A
  | [b], a, x, h, hx => by
    rw [List.mem_singleton.mp h] at hx
    exact hx
  | b :: b2 :: r, a, x, h, hx => by
    show x ∈ b ++ c :: jn c (b2 :: r)
    rcases List.mem_cons.mp h with rfl | h
    · exact List.mem_append_left _ hx
    · exact List.mem_append_right _ (.tail _ (jn_mem h hx))
theorem nl_is : nl = ⟨#[10]⟩ := by decide +kernel
theorem sp_is : sp = ⟨#[32]⟩ := by decide +kernel
theorem part_asc {c : Nat} {z p : Str} (h : Asc z) (hp : p ∈ Txt.split z ⟨#[c]⟩) : Asc p := by
  refine asc_is fun x hx => ?_
  refine asc_of h x ?_
  have e := jn_is c (Txt.split z ⟨#[c]⟩)
  rw [StrLaws.join_split] at e
  rw [e]
  exact jn_mem (List.mem_map.mpr ⟨p, hp, rfl⟩) hx
structure Pt (z : Str) (ps : List Str) : Prop where
  ne : ps ≠ []
  le : ps.length ≤ z.length + 2
  as : ∀ p ∈ ps, Asc p ∧ p.length ≤ z.length
theorem split_pt {c : Nat} {z : Str} (h : Asc z) : Pt z (Txt.split z ⟨#[c]⟩) := ⟨fun e => by
  have := PyProof.Rows.split_pos z ⟨#[c]⟩
  rw [e] at this
  exact absurd this (by decide), PyProof.Rows.split_le z _, fun p hp => ⟨part_asc h hp, PyProof.Rows.part_short hp⟩⟩
theorem getLast_is {ps : List Str} (h : ps ≠ []) : ps = ps.dropLast ++ [ps.getLastD Str.empty] := by
  obtain ⟨init, x, rfl⟩ : ∃ init x, ps = init ++ [x] := ⟨ps.dropLast, ps.getLast h, (List.dropLast_concat_getLast h).symm⟩
  simp
def RowL (H : Hp) (x : V) (r : List Str) : Prop := ∃ l, x = .ref l ∧ H l = some (.lst (r.map V.str))
theorem RowL.same {H H' : Hp} {xs : List V} {ts : List (List Str)} (s : Same H H') (h : Paired (RowL H) xs ts) : Paired (RowL H') xs ts := Paired.mapP h fun _ _ ⟨l, e, hl⟩ => ⟨l, e, s _ _ hl⟩
theorem none_bk {H H' : Hp} {d : Addr} (s : Same H H') (h : H' d = none) : H d = none := by
  cases e : H d with
  | none => rfl
  | some o => rw [s _ _ e] at h; cases h
structure Rz (rs : List (List Str)) : Prop where
  le : rs.length ≤ 4001
  ok : ∀ r ∈ rs, r ≠ [] ∧ r.length ≤ 4002 ∧ ∀ z ∈ r, Asc z ∧ z.length ≤ 4000
theorem rz_of {z : Str} (h : Asc z) (l : z.length ≤ 4000) : Rz (rowsZ z) := by
  have P := split_pt (c := 10) h
  rw [← nl_is] at P
  refine ⟨?_, fun r hr => ?_⟩
  · unfold rowsZ
    rw [List.length_map, List.length_dropLast]
    have := P.le
    omega
  · obtain ⟨p, hp, rfl⟩ := List.mem_map.mp hr
    obtain ⟨as, lp⟩ := P.as p (List.dropLast_subset _ hp)
    have P2 := split_pt (c := 32) as
    rw [← sp_is] at P2
    refine ⟨P2.ne, by have := P2.le; omega, fun q hq => ⟨(P2.as q hq).1, by have := (P2.as q hq).2; omega⟩⟩
theorem tLT : tL ≠ tT := by decide +kernel
theorem rwB_k {k : Str} {m : Nat} {r : List Str} (h : rwB k m r = true) : k0 r = k := by
  unfold rwB at h
  split at h
  · rw [Bool.and_eq_true] at h
    exact of_decide_eq_true h.1
  · cases h
def prevT (rs : List (List Str)) (i : Nat) : Bool := decide (0 < i) && decide (k0 (rs.getD (i - 1) []) = tT)
def kid : Stmt → Stmt
  | .ClassDef _ _ _ b .. => b.getD 0 (.Pass ⟨0, 0, 0, 0⟩)
  | s => s
section
variable {P : Program} {w : World} {K : PySem.W.Frag} {mg : Str → Option Value} {base : Heap} {f : Addr} {fd : FuncData}
abbrev iBad : Stmt := kid (top 7)
theorem scBad : FnScope ["self", "at"] ["self", "at"] (defScope iBad) := ⟨rfl, rfl, rfl, by decide +kernel, rfl, by decide +kernel, by decide +kernel⟩
theorem ok_binit {C : Addr} (F : Fun K "__init__" "BadRow.__init__" iBad f fd) (es : Est K C) (n1 : NoAttr K C "at") : FnOk P w K mg base CX0 1 f fd ["self", "at"] (spJ1 C "at") := by
  refine F.ok (k := 0) scBad (fun vs H Q E h => ?_) (fun cdv A outer s H vs Q E hr h => ?_)
  · obtain ⟨e, v, rfl, _⟩ := h
    rfl
  obtain ⟨e, v, rfl, he, q⟩ := h
  refine ⟨_, pss_one (ps_xfld (pv 0) (pv 1)), ?_⟩
  refine ⟨_, rfl, _, rfl, e, C, rfl, es, n1.taker, .inl ⟨he, fun d hd hne => ?_⟩⟩
  refine q _ (fun a o ne ho => ?_) ⟨d, hne, upd_same, ?_⟩
  · have nd : a ≠ d := fun z => by rw [z, hd] at ho; cases ho
    rw [upd_ne ne, upd_ne nd]; exact ho
  · rw [upd_ne hne, upd_same]
structure ClB (P : Program) (w : World) (K : PySem.W.Frag) (mg : Str → Option Value) (base : Heap) (C : Addr) : Prop where
  g : mg "BadRow" = some (.ref C)
  h : Hcl K C
  kp : PySem.W.keepIn K (.ref C) = true
  i : ∃ fI fd, Eci K C fI ∧ FnOk P w K mg base CX0 1 fI fd ["self", "at"] (spJ1 C "at") ∧ Binds K fd ["self", "at"] []
abbrev NRo : List Str := ["text", "pieces", "last", "rows", "at", "row", "behind_a_thing"]
def spRo (CR : Addr) : Sp := fun vs H Q E => ∃ z : Str, vs = [.str z] ∧ Asc z ∧ z.length ≤ 4000 ∧
  (badRow z = none → ∀ (d : Addr) xs H', Same H H' → H' d = some (.lst xs) → Paired (RowL H') xs (rowsZ z) → Q (.ref d) H') ∧
  ∀ k, badRow z = some k → ∀ dx H', Same H H' → H' dx = some (xdO dx [("at", .int ((k : Nat) : Int))]) → E (.ref CR) (some dx) H'
theorem scRo : FnScope NRo ["text"] (defScope sRO) := ⟨rfl, rfl, rfl, by decide +kernel, rfl, by decide +kernel, by decide +kernel⟩
theorem ndRo : (("piece" : Str) :: NRo).Nodup := by decide +kernel
set_option maxHeartbeats 16000000 in
theorem ok_ro {CR : Addr} (F : Fun K "rows_of" "rows_of" sRO f fd) (cb : ClB P w K mg base CR) (GT : Fns P w K mg base NRr "is_thing_row" (spRr tT 8) 2) (GL : Fns P w K mg base NRr "is_letter_row" (spRr tL 1) 2) (ml : mg "len" = none) (me : mg "enumerate" = none) : FnOk P w K mg base (CXF P w) 3 f fd ["text"] (spRo CR) := by
  obtain ⟨fI, fdI, eI, okI, bI⟩ := cb.i
  refine F.okF (k := 2) scRo (fun vs H Q E h => ?_) (fun cdv A outer s H vs Q E hr h => ?_)
  · obtain ⟨z, rfl, _⟩ := h
    rfl
  obtain ⟨z, rfl, as, l4, q1, q2⟩ := h
  refine ⟨_, pss_cons (ps_set (i := 1) scRo.nd rfl (Or.inl rfl) (pe_bmS PySem.F.slot_str_split PySem.F.type_str_split mt_split (pv 0) (pa_cons (pe_str) (pa_nil))))
      (pss_cons (ps_set (i := 2) scRo.nd rfl (Or.inl rfl) (pe_bm0 PySem.F.plainAttrs_list PySem.F.slot_list_pop PySem.F.type_list_pop mt_pop (pv 1)))
      (pss_cons (ps_compL (i := 3) (M := NRo) scRo.nd rfl rfl rfl (CompScope.of (defScope sRO) NRo rfl rfl rfl (by decide +kernel) (by decide +kernel) (by decide +kernel) rfl (by decide +kernel)) ndRo rfl (pv 1) mo_var (fun cl C s0 H0 fp => ⟨pts_nil, pe_bmS PySem.F.slot_str_split PySem.F.type_str_split mt_split (pv 0) (pa_cons (pe_str) (pa_nil))⟩))
      (pss_cons (ps_for PassesOwn.leaving rfl (pi_enum false (by rfl) me (pa_cons (pv 3) (pa_nil))) (pg_tup rfl (pgs_cons (pg_name (i := 4) scRo.nd rfl (Or.inl rfl)) (pgs_cons (pg_name (i := 5) scRo.nd rfl (Or.inl rfl)) (pgs_nil)))) (pss_cons (ps_set (i := 6) scRo.nd rfl (Or.inl rfl) (pe_mid (pe_and (pe_cmpR op_gt (pv 4) pe_int (nomark _)) (pe_one (pe_cmpR op_eq (pe_ix ix_list (pe_ix ix_list (pv 3) (pe_op op_sub (pv 4) (pe_int)) (fun _ _ => rfl)) (pe_int) (fun _ _ => rfl)) pe_str (nomark _))))))
      (pss_one (ps_if (PW.pt (pw_and (pt_not (pt_val (pe_call GT.ok hr (by rfl) GT.m GT.kp GT.b .nil pass0 (pa_cons (pv 5) (pa_nil))))) (pw_and1 (PW.pt (pw_or (pt_val (pv 6)) (pw_or1 (pt_not (pt_val (pe_call GL.ok hr (by rfl) GL.m GL.kp GL.b .nil pass0 (pa_cons (pv 5) (pa_nil))))))))))) (pss_one (ps_raiseI takes_def rfl (by rfl) cb.g eI cb.h cb.kp okI hr bI (pa_cons (pe_op op_add (pv 4) (pe_int)) (pa_nil)))) (pss_nil)))))
      (pss_cons (ps_if (pt_cmpR op_gt (pe_callB call_len_str (by rfl) ml PySem.boot_len (pa_cons (pv 2) (pa_nil))) (pe_int) (nomark _)) (pss_one (ps_raiseI takes_def rfl (by rfl) cb.g eI cb.h cb.kp okI hr bI (pa_cons (pe_op op_add (pe_callB call_len_seq (by rfl) ml PySem.boot_len (pa_cons (pv 3) (pa_nil))) (pe_int)) (pa_nil)))) (pss_nil))
      (pss_one (ps_ret (pv 3))))))), ?_⟩
  have Pz := split_pt (c := 10) as
  rw [← nl_is] at Pz
  have Z := rz_of as l4
  have gl := getLast_is Pz.ne
  have er : rowsZ z = (Txt.split z nl).dropLast.map fun p => Txt.split p sp := rfl
  have el : lastZ z = (Txt.split z nl).getLastD Str.empty := rfl
  have br : badRow z = (match badAt false (rowsZ z) 0 with | some k => some k | none => if 0 < (lastZ z).length then some ((rowsZ z).length + 1) else none) := rfl
  have la : Asc (lastZ z) ∧ (lastZ z).length ≤ z.length := Pz.as _ (by rw [gl]; exact List.mem_append_right _ (.head _))
  have pa : ∀ p ∈ (Txt.split z nl).dropLast, Asc p ∧ p.length ≤ z.length := fun p hp => Pz.as p (List.dropLast_subset _ hp)
  rw [← el] at gl
  generalize (Txt.split z nl).dropLast = pcs at gl er pa
  generalize lastZ z = lst at gl br la
  refine ⟨_, rfl, ⟨_, rfl⟩, z, nl, rfl, rfl, (by decide +kernel), big5 (by omega), fun p hp => ?_⟩
  rw [gl]
  have ple := Pz.le
  rw [gl, List.length_append] at ple
  have ple : pcs.length + 1 ≤ z.length + 2 := ple
  have s1 := same_newO hp (.lst ((pcs ++ [lst]).map V.str))
  have g1 : upd H p (.lst ((pcs ++ [lst]).map V.str)) p = some (.lst (pcs.map V.str ++ [.str lst])) := by rw [upd_same, List.map_append]; rfl
  generalize upd H p (.lst ((pcs ++ [lst]).map V.str)) = H1 at s1 g1 ⊢
  refine ⟨_, rfl, .inl ⟨rfl, _, SqL.of g1⟩, p, _, .str lst, rfl, rfl, g1, ?_, ?_⟩
  · rw [List.length_append, List.getElem?_append_right (by simp)]
    simp
  rw [List.dropLast_concat]
  have s2 := same_upd (o := .lst (pcs.map V.str)) hp s1
  have g2 : upd H1 p (.lst (pcs.map V.str)) p = some (.lst (pcs.map V.str)) := upd_same
  generalize upd H1 p (.lst (pcs.map V.str)) = H2 at s2 g2 ⊢
  refine ⟨_, rfl, p, _, rfl, SqL.of g2, fun d hd => ?_⟩
  refine ⟨fun i H' => Same H2 H' ∧ ∃ xs, H' d = some (.lst xs) ∧ Paired (fun x t => RowL H' x t ∧ x ≠ .ref d) xs ((pcs.take i).map fun p => Txt.split p sp), ⟨same_newO hd _, [], upd_same, .nil⟩, fun i H' _ hP => SqL.of (hP.1 _ _ g2), fun i x H' hx hP => ?_, fun H3 hP => ?_⟩
  · obtain ⟨s3, xs, hz, px⟩ := hP
    rw [List.getElem?_map] at hx
    obtain ⟨t, ht, rfl⟩ := Option.map_eq_some_iff.mp hx
    have il := (List.getElem?_eq_some_iff.mp ht).1
    have lx : xs.length = _ := px.length
    rw [List.length_map, List.length_take] at lx
    have Gt := pa t (List.mem_of_getElem? ht)
    refine turn_all ⟨_, rfl, ⟨_, rfl⟩, t, sp, rfl, rfl, (by decide +kernel), big5 (by omega), fun q hq => ?_⟩
    have nq : q ≠ d := fun e => by rw [e, hz] at hq; cases hq
    have s4 := same_newO hq (.lst ((Txt.split t sp).map V.str))
    refine ⟨_, s4 _ _ hz, lt5 (by omega), same_upd hd (s3.trans s4), xs ++ [.ref q], upd_same, ?_⟩
    rw [List.take_add_one, ht, List.map_append]
    refine Paired.appendP (Paired.mapP px fun v t' ⟨⟨l, e, hl⟩, nd⟩ => ⟨⟨l, e, ?_⟩, nd⟩) (Paired.oneP ⟨⟨q, rfl, ?_⟩, fun e => nq (V.ref.inj e)⟩)
    · have nl : l ≠ d := fun e2 => nd (by rw [e, e2])
      rw [upd_ne nl]
      exact s4 _ _ hl
    · rw [upd_ne nq, upd_same]
  obtain ⟨s3, xs, g3, px⟩ := hP
  rw [List.length_map, List.take_length, ← er] at px
  have px : Paired (RowL H3) xs (rowsZ z) := Paired.mapP px fun _ _ h => h.1
  clear er
  generalize rowsZ z = rs at px br q1 Z
  have s03 := s2.trans s3
  have lx : xs.length = rs.length := px.length
  refine ⟨_, rfl, d, xs, rfl, SqL.of g3, ?_⟩
  refine for_enum (k := false) (xs := xs) (fun i σ H' => Same H3 H' ∧ badAt false rs 0 = badAt (prevT rs i) (rs.drop i) i ∧ ∃ x4 x5 x6 : Option V, σ = [some (.str z), some (.ref p), some (.str lst), some (.ref d), x4, x5, x6]) ⟨Same.refl _, rfl, _, _, _, rfl⟩ (fun i σ H' _ hP => SqL.of (hP.1 _ _ g3)) (fun i x q σ H4 hx hP hq => ?_) (fun σ H4 hP => ?_)
  · obtain ⟨s4, eb, x4, x5, x6, rfl⟩ := hP
    obtain ⟨t, ht, l, rfl, hl⟩ := Paired.right_of px i x hx
    obtain ⟨tne, tl, tas⟩ := Z.ok t (List.mem_of_getElem? ht)
    have il := (List.getElem?_eq_some_iff.mp ht).1
    have ed : rs.drop i = t :: rs.drop (i + 1) := by
      rw [List.drop_eq_getElem_cons il, (List.getElem?_eq_some_iff.mp ht).2]
    rw [ed] at eb
    have ep : prevT rs (i + 1) = decide (k0 t = tT) := by
      unfold prevT
      rw [decide_eq_true (show 0 < i + 1 by omega), Bool.true_and, Nat.add_sub_cancel, List.getD_eq_getElem?_getD, ht]
      rfl
    have s5 := s4.trans (same_newO hq (.tup [.int i, .ref l]))
    have gq : upd H4 q (.tup [.int i, .ref l]) q = some (.tup [.int i, .ref l]) := upd_same
    generalize upd H4 q (.tup [.int i, .ref l]) = H5 at s5 gq ⊢
    refine ⟨q, _, rfl, SqT.of gq, rfl, _, _, rfl, _, _, rfl, rfl, ?_⟩
    refine ⟨fun v H' => H5 = H' ∧ v = .bl (prevT rs i), ?_, fun v H' hv => ?_⟩
    · refine ⟨_, rfl, _, _, rfl, rfl, _, rfl, ite2 (fun c => ?_) (fun c => ⟨rfl, ?_⟩)⟩
      · have i0 : 0 < (i : Int) := of_decide_eq_true c
        obtain ⟨j, rfl⟩ : ∃ j, i = j + 1 := ⟨i - 1, by omega⟩
        have lj : j < xs.length := by omega
        have hj : xs[j]? = some (xs[j]'lj) := List.getElem?_eq_getElem lj
        obtain ⟨u, hu, l', e', hl'⟩ := Paired.right_of px j _ hj
        obtain ⟨une, _⟩ := Z.ok u (List.mem_of_getElem? hu)
        have aj : atI xs (((j + 1 : Nat) : Int) - 1) = some (.ref l') := by
          rw [show ((j + 1 : Nat) : Int) - 1 = (j : Int) by omega]
          exact atI_nat (by rw [hj, e'])
        have a0 : atI (u.map V.str) 0 = some (.str (k0 u)) := by
          cases u with
          | nil => exact absurd rfl une
          | cons a r => exact atI_nat (j := 0) rfl
        refine ⟨_, rfl, _, rfl, _, _, rfl, rfl, d, _, _, _, rfl, rfl, SqL.of (s5 _ _ g3), aj, l', _, _, _, rfl, rfl, SqL.of (s5 _ _ hl'), a0, rfl, rfl, ?_⟩
        have : prevT rs (j + 1) = decide (k0 u = tT) := by
          unfold prevT
          rw [decide_eq_true (show 0 < j + 1 by omega), Bool.true_and, Nat.add_sub_cancel, List.getD_eq_getElem?_getD, hu]
          rfl
        rw [this]
        exact congrArg V.bl (decide_eq_decide.mpr ⟨fun h => V.str.inj h, fun h => congrArg V.str h⟩)
      · have : prevT rs i = false := by
          unfold prevT
          rw [decide_eq_false (show ¬ 0 < i by intro h; exact c (decide_eq_true (by show (0 : Int) < i; omega))), Bool.false_and]
        rw [this]
    obtain ⟨rfl, rfl⟩ := hv
    have raise : (tB t = false ∧ (prevT rs i = true ∨ lB t = false)) → ∀ H6, Same H5 H6 → ∀ dx H', Same H6 H' → H' dx = some (xdO dx [("at", .int ((i : Int) + 1))]) → E (.ref CR) (some dx) H' := fun hc H6 s6 dx H' s7 hx => by
      refine q2 (i + 1) ?_ dx H' (((s03.trans s5).trans s6).trans s7) (by rw [hx]; rfl)
      rw [br, eb]
      have : badAt (prevT rs i) (t :: rs.drop (i + 1)) i = some (i + 1) := by
        show (if tB t = true then _ else if prevT rs i = false ∧ lB t = true then _ else some (i + 1)) = _
        rw [if_neg (by rw [hc.1]; exact Bool.false_ne_true), if_neg (fun h => by
          rcases hc.2 with x | x
          · rw [x] at h; exact absurd h.1 (by decide)
          · rw [x] at h; exact absurd h.2 (by decide))]
      rw [this]
    have next : ∀ H6, Same H5 H6 → (tB t = true ∨ (prevT rs i = false ∧ lB t = true)) → Same H3 H6 ∧ badAt false rs 0 = badAt (prevT rs (i + 1)) (rs.drop (i + 1)) (i + 1) := fun H6 s6 hc => by
      refine ⟨s5.trans s6, ?_⟩
      rw [eb, ep]
      show (if tB t = true then _ else if prevT rs i = false ∧ lB t = true then _ else some (i + 1)) = _
      by_cases c : tB t = true
      · rw [if_pos c, decide_eq_true (rwB_k c)]
      · rw [if_neg c]
        rcases hc with x | x
        · exact absurd x c
        · rw [if_pos x, decide_eq_false (by rw [rwB_k x.2]; exact tLT)]
    refine ⟨_, rfl, l, t, rfl, s5 _ _ hl, (fun z hz => ⟨(tas z hz).1, by have := (tas z hz).2; omega⟩), by omega, fun H6 s6 => ⟨_, rfl, ?_⟩⟩
    cases hT : rwB tT 8 t with
    | true =>
      obtain ⟨n1, n2⟩ := next H6 s6 (.inl hT)
      exact iteF ⟨n1, n2, _, _, _, rfl⟩
    | false =>
    refine iteT ?_
    refine ⟨_, rfl, _, rfl, ite2 (fun c => ?_) (fun c => ?_)⟩
    · refine ⟨_, rfl, _, _, rfl, rfl, (by show 1 ≤ 1000; decide), fun ea hea => ?_⟩
      exact ⟨ea, _, rfl, upd_same, fun H7 kp7 x7 => ⟨rfl, raised_of hea kp7 x7 fun dy H' sm hdy => raise ⟨hT, .inl c⟩ H6 s6 dy H' sm hdy⟩⟩
    refine ⟨_, rfl, l, t, rfl, s6 _ _ (s5 _ _ hl), (fun z hz => ⟨(tas z hz).1, by have := (tas z hz).2; omega⟩), by omega, fun H7 s7 => ⟨_, rfl, ?_⟩⟩
    have s67 := s6.trans s7
    cases hL : rwB tL 1 t with
    | true =>
      obtain ⟨n1, n2⟩ := next H7 s67 (.inr ⟨Bool.eq_false_iff.mpr c, hL⟩)
      exact iteF ⟨n1, n2, _, _, _, rfl⟩
    | false =>
      refine iteT ?_
      refine ⟨_, rfl, _, _, rfl, rfl, (by show 1 ≤ 1000; decide), fun ea hea => ?_⟩
      exact ⟨ea, _, rfl, upd_same, fun H8 kp8 x8 => ⟨rfl, raised_of hea kp8 x8 fun dy H' sm hdy => raise ⟨hT, .inr hL⟩ H7 s67 dy H' sm hdy⟩⟩
  obtain ⟨s4, eb, x4, x5, x6, rfl⟩ := hP
  rw [lx, List.drop_length] at eb
  have eb : badAt false rs 0 = none := eb
  rw [eb] at br
  have br : badRow z = if 0 < lst.length then some (rs.length + 1) else none := br
  refine ⟨_, rfl, lst, rfl, big5 (by omega), _, _, rfl, rfl, _, rfl, ite2 (fun c => ?_) (fun c => ?_)⟩
  · have c : 0 < lst.length := by have := of_decide_eq_true c; omega
    rw [if_pos c] at br
    refine ⟨_, rfl, d, _, rfl, .inl (SqL.of (s4 _ _ g3)), _, _, rfl, rfl, (by show 1 ≤ 1000; decide), fun ea hea => ?_⟩
    exact ⟨ea, _, rfl, upd_same, fun H7 kp7 x7 => ⟨rfl, raised_of hea kp7 x7 fun dy H' sm hdy => q2 _ br dy H' ((s03.trans s4).trans sm) (by rw [hdy, lx]; rfl)⟩⟩
  · rw [if_neg (fun h => c (decide_eq_true (by show (0 : Int) < _; omega)))] at br
    exact ⟨_, rfl, q1 br d xs H4 (s03.trans s4) (s4 _ _ g3) (RowL.same s4 px)⟩
end
end K92
set_option Elab.async false
set_option linter.all false
set_option maxRecDepth 100000
set_option maxHeartbeats 3200000
namespace L2
open PySem PySem.Spec PyProof.Rows PySem.W
def dd (zs : List Str) : List Str := zs.foldl (fun acc z => if z ∈ acc then acc else acc ++ [z]) []
theorem dd_app (zs : List Str) (z : Str) : dd (zs ++ [z]) = if z ∈ dd zs then dd zs else dd zs ++ [z] := by
  unfold dd
  rw [List.foldl_append]
  rfl
theorem dd_mem : ∀ n (zs : List Str), zs.length = n → ∀ k, k ∈ dd zs ↔ k ∈ zs
  | 0, zs, h, k => by rw [List.length_eq_zero_iff.mp h]; exact Iff.rfl
  | n + 1, zs, h, k => by
    obtain ⟨ys, z, rfl⟩ : ∃ ys z, zs = ys ++ [z] := ⟨zs.dropLast, zs.getLast (by intro e; rw [e] at h; cases h), (List.dropLast_concat_getLast _).symm⟩
    rw [List.length_append] at h
    have ih := dd_mem n ys (Nat.succ.inj h)
    rw [dd_app]
    split
    · rename_i c
      rw [ih k, List.mem_append]
      refine ⟨.inl, fun x => x.elim id fun e => ?_⟩
      rw [List.mem_singleton.mp e]
      exact (ih z).mp c
    · rw [List.mem_append, List.mem_append, ih k]
theorem dd_snoc (zs : List Str) (z : Str) : dd (zs ++ [z]) = if z ∈ zs then dd zs else dd zs ++ [z] := by
  rw [dd_app]
  by_cases c : z ∈ zs
  · rw [if_pos c, if_pos ((dd_mem _ zs rfl z).mpr c)]
  · rw [if_neg c, if_neg fun x => c ((dd_mem _ zs rfl z).mp x)]
theorem dd_len : ∀ n (zs : List Str), zs.length = n → (dd zs).length ≤ zs.length ∧ ((dd zs).length = zs.length ↔ zs.Nodup)
  | 0, zs, h => by
    rw [List.length_eq_zero_iff.mp h]
    exact ⟨Nat.le_refl _, ⟨fun _ => .nil, fun _ => rfl⟩⟩
  | n + 1, zs, h => by
    obtain ⟨ys, z, rfl⟩ : ∃ ys z, zs = ys ++ [z] := ⟨zs.dropLast, zs.getLast (by intro e; rw [e] at h; cases h), (List.dropLast_concat_getLast _).symm⟩
    have hl : (ys ++ [z]).length = ys.length + 1 := by rw [List.length_append]; rfl
    obtain ⟨i1, i2⟩ := dd_len n ys (by omega)
    rw [dd_snoc, hl]
    have ndi : (ys ++ [z]).Nodup ↔ ys.Nodup ∧ z ∉ ys := by
      rw [List.nodup_append]
      refine ⟨fun ⟨a, _, b⟩ => ⟨a, fun x => b z x z (.head _) rfl⟩, fun ⟨a, b⟩ => ⟨a, by simp, fun x hx y hy e => b (by rw [List.mem_singleton.mp hy] at e; rw [← e]; exact hx)⟩⟩
    split
    · rename_i c
      refine ⟨by omega, ⟨fun e => by omega, fun e => absurd c (ndi.mp e).2⟩⟩
    · rename_i c
      rw [List.length_append]
      show (dd ys).length + 1 ≤ _ ∧ ((dd ys).length + 1 = _ ↔ _)
      refine ⟨by omega, ?_⟩
      rw [ndi]
      refine ⟨fun e => ⟨i2.mp (by omega), c⟩, fun e => by rw [i2.mpr e.1]⟩
theorem dd_le (zs : List Str) : (dd zs).length ≤ zs.length := (dd_len _ zs rfl).1
theorem dd_lt (zs : List Str) : decide (((dd zs).length : Int) < (zs.length : Int)) = !decide zs.Nodup := by
  obtain ⟨h1, h2⟩ := dd_len _ zs rfl
  by_cases c : zs.Nodup
  · have := h2.mpr c
    rw [decide_eq_true c, decide_eq_false (by omega)]
    rfl
  · have : (dd zs).length ≠ zs.length := fun e => c (h2.mp e)
    rw [decide_eq_false c, decide_eq_true (by omega)]
    rfl
section
variable {prog : Program} {w : World} {A : Around} {E : Value → Shared → Prop} {s : Shared}
def StD (prog : Program) (w : World) (zs : List Str) (h : Heap) (a : Addr) : Prop := h.SetOf (PySem.strKind prog w) a (fun k => decide (k ∈ zs)) (dd zs).length
theorem StD.at {zs : List Str} {h h' : Heap} {a : Addr} (x : StD prog w zs h a) (e : ∀ o, h.get? a = some o → h'.get? a = some o) : StD prog w zs h' a := by
  obtain ⟨o, es, ep, t, ho, r⟩ := x
  exact ⟨o, es, ep, t, e o ho, r⟩
theorem loop_sd {R : Result → Shared → Prop} {I S : Addr} {fp wr : List Addr} {n : Nat} {P : Nat → Value → Prop} {St : Nat → Heap → Prop} (W : Walks prog w A.in1 I fp wr n P St) (hSf : S ∉ fp) (zs : List Str) (hn : n = zs.length) (h4 : n < 4050)
    (hval : ∀ i v, i < n → P i v → ∃ z tk, zs[i]? = some z ∧ v = .str z tk) : ∀ (k i : Nat) (s : Shared), n - i = k → i ≤ n → St i s.heap → StD prog w (zs.take i) s.heap S →
      (∀ h' tk, (∀ c o, c ∉ S :: wr → s.heap.get? c = some o → h'.get? c = some o) → StD prog w zs h' S → R (.ok (.ret .none)) { s with heap := h', toks := tk }) →
      codeAny (model prog w) A (.builtin "set.update.loop" ⟨[.ref S, .ref I], []⟩) R s := by
  have hSw : S ∉ wr := fun z => hSf (W.sub _ z)
  intro k
  induction k with
  | zero =>
    intro i s hk hi st hS hR
    obtain rfl : i = n := by omega
    refine codeAny_builtin F.entry_set_update_loop ?_
    rw [Around.under_plainId F.plain_set_update_loop _]
    show wpAny _ A.in1 (pyNext (.ref I) >>= fun _ => _) _ _ s
    refine wpAny_bind (W.done s _ _ st fun h' tk kp => ?_)
    show wpAny _ A.in1 (ret Value.none) _ _ _
    rw [hn, List.take_length] at hS
    exact wpAny_pure (hR h' tk (fun c o hc e => kp c o (fun z => hc (List.mem_cons_of_mem _ z)) e) (hS.at fun o e => kp S o hSw e))
  | succ k ih =>
    intro i s hk hi st hS hR
    have hlt : i < n := by omega
    refine codeAny_builtin F.entry_set_update_loop ?_
    rw [Around.under_plainId F.plain_set_update_loop _]
    show wpAny _ A.in1 (pyNext (.ref I) >>= fun _ => _) _ _ s
    refine wpAny_bind (W.item i s _ _ hlt st fun v h1 tk1 hP st1 kp => ?_)
    obtain ⟨z, tk, hz, rfl⟩ := hval i v hlt hP
    have hS1 : StD prog w (zs.take i) h1 S := hS.at fun o e => kp S o hSw e
    have li : i < zs.length := by omega
    show wpAny _ A.in1 (holding [Value.str z tk] (setAdd S (.str z tk)) >>= fun _ => _) _ _ _
    unfold setAdd
    refine wpAny_bind (wpAny_holding (wpAny_holding (wpAny_bind ((PySem.strKind prog w).pyHash (k := z) (str_is z tk) ?_))))
    refine wpAny_setAddHashed_of (knd := PySem.strKind prog w) (s := { s with heap := h1, toks := tk1 + 1 }) (str_is z tk) rfl hS1 (by have := dd_le (zs.take i); rw [List.length_take] at this; unfold scanBound; omega) fun h2 sb hS2 => ?_
    have hS3 : StD prog w (zs.take (i + 1)) h2 S := by
      refine SetOf_congr hS2 (fun k' => ?_) ?_
      · rw [List.take_add_one, hz]
        simp [List.mem_append, Bool.decide_or]
      · rw [List.take_add_one, hz]
        show _ = (dd (zs.take i ++ [z])).length
        rw [dd_snoc]
        by_cases c : z ∈ zs.take i
        · rw [if_pos (decide_eq_true c), if_pos c]
        · rw [if_neg (by simp [c]), if_neg c, List.length_append]
          rfl
    refine wpAny_pure ⟨plainId_quiet F.plain_set_update_loop _, ih (i + 1) _ (by omega) hlt (W.frame _ _ _ st1 fun c hc o e => ?_) hS3 fun h' tk' kp' hS' => ?_⟩
    · rw [sb.2 c (fun z => hSf (z ▸ hc))]
      exact e
    · refine hR h' tk' (fun c o hc e => kp' c o hc ?_) hS'
      show h2.get? c = some o
      rw [sb.2 c (fun z => hc (by rw [z]; exact List.mem_cons_self))]
      exact kp c o (fun z => hc (List.mem_cons_of_mem _ z)) e
theorem newS_sd {h : Heap} {a : Addr} (e : h.get? a = some (newS w)) : StD prog w [] h a :=
  ⟨_, #[], 0, _, e, ⟨rfl, rfl, rfl⟩, rfl, fun e he => by simp at he, fun k => by simp, by unfold scanBound; decide, rfl, rfl⟩
theorem call_setD {l : Addr} {items : Array Value} {zs : List Str} {Q : Value → Shared → Prop} (hh : A.handled = none) (hl : s.heap.IsTuple l items) (hi : Vals (zs.map V.str) items.toList) (h4 : zs.length < 4050)
    (h : ∀ h' tk, StD prog w zs h' s.heap.objs.size → (∀ c o, s.heap.get? c = some o → h'.get? c = some o) → Q (.ref s.heap.objs.size) { s with heap := h', toks := tk }) :
    wpAny (model prog w) A (call (.type "set") [.ref l]) Q E s := by
  obtain ⟨c, tl, hmro⟩ := PySem.F.called_set.mro
  have hmade := PySem.F.called_set.made
  have hsub := PySem.F.called_set.sub
  refine wpAny_call (codeAny_of_tree (A := A) ?_)
  show wpAny _ _ (callAny (.type "set") _) _ _ _
  refine wpAny_pure ⟨Code.quiet_builtin _ (by decide +kernel), codeAny_builtin PySem.F.entry_type_call ?_⟩
  rw [Around.under_plain (weight_type_call_type "set" [.ref l] []) rfl]
  have h1 := PySem.F.called_set.notType
  have h2 := PySem.F.called_set.canCreate
  have hct := PySem.F.typeCall_set_1 (.ref l)
  repeat (any_goals (first | assumption | wp_step))
  refine codeAny_mono (new_sm (.ref l) (E := E) (Q1 := fun obj s1 => obj = .ref s.heap.objs.size ∧ s1 = { s with heap := s.heap.push (newS w) }) ⟨rfl, rfl⟩) fun r s1 hr => ?_
  cases r with
  | error e => exact hr
  | ok fl =>
    cases fl with
    | ret obj =>
      obtain ⟨rfl, rfl⟩ := hr
      have hS : (s.heap.push (newS w)).get? s.heap.objs.size = some (newS w) := Heap.get?_push_size _ rfl
      have hT : Shared.TypeIs { s with heap := s.heap.push (newS w) } (.ref s.heap.objs.size) "set" := ⟨_, hS, rfl⟩
      have hli := PySem.F.called_set.init.lookup
      have hbi := PySem.F.called_set.init.bind (.ref s.heap.objs.size)
      repeat (any_goals (first | assumption | wp_step))
      refine codeAny_mono (codeAny_call_builtin (R := wants (fun r s2 => r = .none ∧ ∃ h' tk, s2 = { s with heap := h', toks := tk } ∧ StD prog w zs h' s.heap.objs.size ∧ (∀ c o, s.heap.get? c = some o → h'.get? c = some o)) E) PySem.F.called_set.init.plain PySem.F.entry_set_init (check_set_init_1 hT ?_)) fun r2 s2 hr2 => ?_
      · obtain ⟨ol, hol, hcl, nl, hdl⟩ := hl
        obtain ⟨ocls, odict, odata, oslots⟩ := ol
        simp only at hcl hdl
        subst hcl hdl
        have hol1 : (s.heap.push (newS w)).get? l = some { cls := .type "tuple", dict := odict, data := .seq items nl, slots := oslots } := Heap.get?_push_of_some _ hol
        have q1 := sub_tuple_set
        have q2 := sub_tuple_frozenset
        have q3 : (Value.type "tuple" == Value.type "dict") = false := by decide
        have hl1 : (s.heap.push (newS w)).IsTuple l items := ⟨_, hol1, rfl, nl, rfl⟩
        unfold Builtin.«set.__init__» noKeywords Builtin.Frozenset.updateFrom
        generalize hPI : pyIter = PI
        wp_walk
        subst hPI
        refine wpAny_pyIter_tuple hl1 (wpAny_bind (wpAny_runValue ?_))
        have lS : l < s.heap.objs.size := Heap.lt_size hol
        have ne : l ≠ (s.heap.push (newS w)).objs.size := by rw [Heap.size_push]; exact Nat.ne_of_lt (Nat.lt_succ_of_lt lS)
        have nf : s.heap.objs.size ∉ [(s.heap.push (newS w)).objs.size, l] := by
          rw [Heap.size_push]
          intro z
          rcases List.mem_cons.mp z with z | z
          · exact absurd z (Nat.ne_of_lt (Nat.lt_succ_self _))
          · exact absurd (List.mem_singleton.mp z) (Nat.ne_of_gt lS)
        have len : items.size = zs.length := by
          have := hi.length
          simpa using this.symm
        refine loop_sd (Walks.tuple (by simp [hh]) _ l ne items) nf zs len (by omega) (fun i v hlt hv => ?_) (items.size - 0) 0 _ rfl (Nat.zero_le _) ⟨⟨_, Heap.get?_push_size _ rfl, rfl, rfl⟩, hl1.at fun o e => Heap.get?_push_of_some _ e⟩ (newS_sd (Heap.get?_push_of_some _ hS)) fun h' tk kp hS' => ?_
        · have hl : i < zs.length := by rw [← len]; exact hlt
          obtain ⟨u, hu, ru⟩ := hi.get (show (zs.map V.str)[i]? = some (.str zs[i]) by rw [List.getElem?_map, List.getElem?_eq_getElem hl]; rfl)
          rw [Array.getElem?_toList] at hu
          have hv : items[i]? = some v := hv
          rw [hu] at hv
          obtain ⟨tk, e⟩ := ru
          exact ⟨zs[i], tk, List.getElem?_eq_getElem hl, by rw [← Option.some.inj hv, e]⟩
        · show wpAny _ _ _ _ _ _
          refine wpAny_pure (show wpAny _ _ (ret Value.none) _ _ _ from wpAny_pure ⟨rfl, h', tk, rfl, hS', fun c o e => kp c o (fun z => ?_) (Heap.get?_push_of_some _ (Heap.get?_push_of_some _ e))⟩)
          have lc := Heap.lt_size e
          rcases List.mem_cons.mp z with z | z
          · exact absurd z (Nat.ne_of_lt lc)
          · have := List.mem_singleton.mp z
            rw [Heap.size_push] at this
            exact absurd this (Nat.ne_of_lt (Nat.lt_succ_of_lt lc))
      · cases r2 with
        | error e => exact hr2
        | ok fl2 =>
          cases fl2 with
          | ret r =>
            obtain ⟨rfl, h', tk, rfl, hS', hk'⟩ := hr2
            repeat (any_goals (first | assumption | wp_step))
            exact h _ _ hS' hk'
          | _ => exact hr2.elim
    | _ => exact hr.elim
end
def SetD (P : Program) (w : World) (a : Addr) (zs : List Str) : HO := .ext fun h => StD P w zs h a
def rSetDd (P : Program) (w : World) (K : PySem.W.Frag) : List V → Hp → VK → Prop := fun xs H Q => ∃ (l : Addr) (zs : List Str), xs = [.ref l] ∧ SqT K H l (zs.map V.str) ∧ zs.length < 4050 ∧
  ∀ p H', Same H H' → H p = none → H' p = some (SetD P w p zs) → Q (.ref p) H'
theorem call_setDs {X : Cx} (hc : X.calm = true) : CallR X (.type "set") (rSetDd X.prog X.w X.K) := by
  intro pins s σ H xs us Q I r h
  obtain ⟨l, zs, rfl, e, h4, q⟩ := h
  obtain ⟨u, rfl, rx⟩ := vals1 r
  cases rx
  obtain ⟨its, rv, ht, hz⟩ := I.tuple e
  have hLn : H s.heap.objs.size = none := I.hok.fresh (Nat.le_refl _)
  refine call_setD (I.ok.hd hc) (show s.heap.IsTuple l its.toArray from ht) (by rw [List.toList_toArray]; exact rv) h4 fun h' tk hS kp => ?_
  have I2 : Inv X pins σ (upd H s.heap.objs.size (SetD X.prog X.w s.heap.objs.size zs)) { s with heap := h', toks := tk } := I.laid (t' := tk) kp (Nat.le_refl _) ⟨hS, by obtain ⟨o, _, _, _, ho, _⟩ := hS; exact ⟨o, ho⟩, fun h1 h2 z k => z.at k⟩
  exact ⟨.ref s.heap.objs.size, _, I2, rfl, q _ _ (same_newO hLn _) hLn upd_same⟩
def rLenSd (P : Program) (w : World) : List V → Hp → VK → Prop := fun xs H Q => ∃ d zs, xs = [.ref d] ∧ H d = some (SetD P w d zs) ∧ zs.length < 4050 ∧ Q (.int (dd zs).length) H
theorem call_lenSd {X : Cx} : CallR X (.builtin "len") (rLenSd X.prog X.w) := by
  intro pins s σ H xs us Q I r h
  obtain ⟨d, zs, rfl, e, h4, q⟩ := h
  obtain ⟨u, rfl, rx⟩ := vals1 r
  cases rx
  obtain ⟨⟨o, es, ep, t, ho, hex, hd, _, _, _, hf, hn⟩, _⟩ := (show ObjOk X.prog X.w H s.heap d (SetD X.prog X.w d zs) from I.hok d _ e)
  refine call_len_set ho hex hd hf (by have := dd_le zs; rw [hn]; omega) ?_
  rw [hn]
  exact ⟨.int _, H, I.tok _, ⟨_, rfl⟩, q⟩
end L2
set_option Elab.async false
set_option linter.all false
set_option maxRecDepth 100000
namespace K92
open PySem L2
theorem rwB_is {k : Str} {m : Nat} {r : List Str} (h : rwB k m r = true) : ∃ b c, r = [k, b, c] ∧ nmB m b = true ∧ nuB c = true := by
  unfold rwB at h
  split at h
  · rename_i a b c
    simp only [Bool.and_eq_true] at h
    exact ⟨b, c, by rw [of_decide_eq_true h.1], h.2.1, h.2.2⟩
  · cases h
theorem badT : ∀ {rs : List (List Str)} {i : Nat}, badAt true rs i = none → ∀ r ∈ rs, tB r = true
  | [], _, _, r, hr => by cases hr
  | t :: rs, i, h, r, hr => by
    have h : (if tB t = true then badAt true rs (i + 1) else if true = false ∧ lB t = true then badAt false rs (i + 1) else some (i + 1)) = none := h
    by_cases c : tB t = true
    · rw [if_pos c] at h
      rcases List.mem_cons.mp hr with rfl | hr
      · exact c
      · exact badT h r hr
    · rw [if_neg c, if_neg (fun x => by cases x.1)] at h
      cases h
theorem badF : ∀ {rs : List (List Str)} {i : Nat}, badAt false rs i = none → ∃ ls ts, rs = ls ++ ts ∧ (∀ r ∈ ls, lB r = true) ∧ ∀ r ∈ ts, tB r = true
  | [], _, _ => ⟨[], [], rfl, (fun r hr => by cases hr), (fun r hr => by cases hr)⟩
  | t :: rs, i, h => by
    have h : (if tB t = true then badAt true rs (i + 1) else if false = false ∧ lB t = true then badAt false rs (i + 1) else some (i + 1)) = none := h
    by_cases c : tB t = true
    · rw [if_pos c] at h
      refine ⟨[], t :: rs, rfl, (fun r hr => by cases hr), fun r hr => ?_⟩
      rcases List.mem_cons.mp hr with rfl | hr
      · exact c
      · exact badT h r hr
    · rw [if_neg c] at h
      by_cases c2 : lB t = true
      · rw [if_pos ⟨rfl, c2⟩] at h
        obtain ⟨ls, ts, e, h1, h2⟩ := badF h
        refine ⟨t :: ls, ts, by rw [e]; rfl, fun r hr => ?_, h2⟩
        rcases List.mem_cons.mp hr with rfl | hr
        · exact c2
        · exact h1 r hr
      · rw [if_neg (fun x => c2 x.2)] at h
        cases h
theorem flt_two {ls ts : List (List Str)} (h1 : ∀ r ∈ ls, lB r = true) (h2 : ∀ r ∈ ts, tB r = true) : (ls ++ ts).filter (fun r => decide (k0 r = tL)) = ls ∧ (ls ++ ts).filter (fun r => decide (k0 r = tT)) = ts := by
  rw [List.filter_append, List.filter_append]
  constructor
  · rw [List.filter_eq_self.mpr (fun r hr => decide_eq_true (rwB_k (h1 r hr))), List.filter_eq_nil_iff.mpr (fun r hr => by rw [rwB_k (h2 r hr)]; exact fun h => tLT (of_decide_eq_true h).symm), List.append_nil]
  · rw [List.filter_eq_nil_iff.mpr (fun r hr => by rw [rwB_k (h1 r hr)]; exact fun h => tLT (of_decide_eq_true h)), List.filter_eq_self.mpr (fun r hr => decide_eq_true (rwB_k (h2 r hr))), List.nil_append]
theorem badRow_none {z : Str} (h : badRow z = none) : badAt false (rowsZ z) 0 = none ∧ lastZ z = Str.empty := by
  unfold badRow at h
  split at h
  · cases h
  · rename_i e
    refine ⟨e, ?_⟩
    by_cases c : 0 < (lastZ z).length
    · rw [if_pos c] at h; cases h
    · have : (lastZ z).cps.size = 0 := by have : (lastZ z).length = (lastZ z).cps.size := rfl; omega
      show lastZ z = ⟨#[]⟩
      rw [← Array.eq_empty_of_size_eq_zero this]
theorem b_setT : bootBuiltins "set" = some (.type "set") := by decide +kernel
section
variable {P : Program} {w : World} {K : PySem.W.Frag} {mg : Str → Option Value} {base : Heap} {f : Addr} {fd : FuncData}
def spIs : Sp := fun vs H Q _ => ∃ n : Int, vs = [.int n] ∧ Q (.bl (amB n)) H
theorem scIs : FnScope ["number"] ["number"] (defScope sIsAm) := ⟨rfl, rfl, rfl, by decide +kernel, rfl, by decide +kernel, by decide +kernel⟩
theorem ok_is (F : Fun K "is_amount" "is_amount" sIsAm f fd) : FnOk P w K mg base CX0 1 f fd ["number"] spIs := by
  refine F.ok (k := 0) scIs (fun vs H Q E h => ?_) (fun cdv A outer s H vs Q E hr h => ?_)
  · obtain ⟨n, rfl, _⟩ := h
    rfl
  obtain ⟨n, rfl, q⟩ := h
  refine ⟨_, pss_one (ps_ret (pe_mid (pe_chain op_le op_le pe_int (pv 0) (pe_op op_pow pe_int pe_int)))), ?_⟩
  unfold amB at q
  refine ⟨fun v H' => H = H' ∧ v = .bl (decide (1 ≤ n) && decide (n ≤ B30)), ?_, ?_⟩
  · refine ⟨_, rfl, _, _, rfl, rfl, _, rfl, ite2 (fun c => ?_) (fun c => ?_)⟩
    · refine ⟨_, _, rfl, rfl, ⟨by decide, by decide, by decide⟩, _, _, rfl, rfl, rfl, ?_⟩
      rw [decide_eq_true (of_decide_eq_true c), Bool.true_and]
      show V.bl (decide (n ≤ 10 ^ (30 : Int).toNat)) = _
      rw [e30]
    · refine ⟨rfl, ?_⟩
      rw [Bool.eq_false_iff.mpr c, Bool.false_and]
  rintro v H' ⟨rfl, rfl⟩
  exact q
abbrev NAr : List Str := ["numbers", "fewest", "most"]
def spAr : Sp := fun vs H Q _ => ∃ (l : Addr) (ns : List Int) (lo hi : Nat), vs = [.ref l, .int lo, .int hi] ∧ H l = some (.lst (ns.map V.int)) ∧ ns.length ≤ 4900 ∧ ∀ H', Same H H' → Q (.bl (amsB lo hi ns)) H'
theorem scAr : FnScope NAr NAr (defScope sAre) := ⟨rfl, rfl, rfl, by decide +kernel, rfl, by decide +kernel, by decide +kernel⟩
theorem ndAr : (("number" : Str) :: NAr).Nodup := by decide +kernel
theorem ok_ar (F : Fun K "are_amounts" "are_amounts" sAre f fd) (GA : Fns P w K mg base ["number"] "is_amount" spIs 1) (ml : mg "len" = none) (ma : mg "all" = none) : FnOk P w K mg base CX0 2 f fd NAr spAr := by
  refine F.ok (k := 1) scAr (fun vs H Q E h => ?_) (fun cdv A outer s H vs Q E hr h => ?_)
  · obtain ⟨l, ns, lo, hi, rfl, _⟩ := h
    rfl
  obtain ⟨l, ns, lo, hi, rfl, hl, l5, qq⟩ := h
  refine ⟨_, pss_one (ps_ret (pe_and (pe_mid (pe_chain op_le op_le (pv 1) (pe_callB call_len_seq (by rfl) ml PySem.boot_len (pa_cons (pv 0) (pa_nil))) (pv 2))) (pe_one (pe_callB (call_all rfl) (by rfl) ma b_all (pa_cons (pe_compL (M := NAr) rfl (CompScope.of (defScope sAre) NAr rfl rfl rfl (by decide +kernel) (by decide +kernel) (by decide +kernel) rfl (by decide +kernel)) ndAr rfl (pv 0) mo_var (fun cl C s0 H0 fp => ⟨pts_nil, pe_call GA.ok hr (by rfl) GA.m GA.kp GA.b .nil pass0 (pa_cons (pv 0) (pa_nil))⟩)) (pa_nil)))))), ?_⟩
  unfold amsB at qq
  refine ⟨fun v H' => H = H' ∧ v = .bl (decide (lo ≤ ns.length) && decide (ns.length ≤ hi)), ?_, ?_⟩
  · refine ⟨_, rfl, _, rfl, l, _, rfl, .inl (SqL.of hl), _, _, rfl, rfl, _, rfl, ?_⟩
    rw [List.length_map]
    refine ite2 (fun c => ?_) (fun c => ?_)
    · have c := of_decide_eq_true c
      refine ⟨_, rfl, _, _, rfl, rfl, rfl, ?_⟩
      rw [decide_eq_true (show lo ≤ ns.length by omega), Bool.true_and]
      exact congrArg V.bl (decide_eq_decide.mpr (by omega))
    · refine ⟨rfl, ?_⟩
      rw [decide_eq_false (show ¬ lo ≤ ns.length by intro h; exact c (decide_eq_true (by omega))), Bool.false_and]
  rintro v H' ⟨rfl, rfl⟩
  rw [← Bool.and_assoc] at qq
  refine ⟨_, rfl, ite2 (fun c => ?_) (fun c => ?_)⟩
  · rw [c, Bool.true_and] at qq
    refine ⟨_, rfl, l, _, rfl, SqL.of hl, fun d hd => ?_⟩
    refine ⟨fun i H' => Same H H' ∧ H' d = some (.lst (((ns.take i).map amB).map V.bl)), ⟨same_newO hd _, upd_same⟩, fun i H' _ hP => SqL.of (hP.1 _ _ hl), fun i x H' hx hP => ?_, fun H' hP => ?_⟩
    · obtain ⟨s5, hz⟩ := hP
      rw [List.getElem?_map] at hx
      obtain ⟨n, hn, rfl⟩ := Option.map_eq_some_iff.mp hx
      have il := (List.getElem?_eq_some_iff.mp hn).1
      refine turn_all ⟨_, rfl, n, rfl, _, hz, ?_, same_upd hd s5, ?_⟩
      · rw [List.length_map, List.length_map, List.length_take]; exact lt5 (by omega)
      · rw [upd_same, List.take_add_one, hn, List.map_append, List.map_append]; rfl
    · obtain ⟨s5, hz⟩ := hP
      rw [List.length_map, List.take_length] at hz
      refine ⟨d, _, rfl, hz, ?_⟩
      rw [List.all_map]
      exact qq H' s5
  · rw [Bool.eq_false_iff.mpr c, Bool.false_and] at qq
    exact qq H (Same.refl _)
def spMk (C : Addr) (lo hi : Nat) : Sp := fun vs H Q E => ∃ (l : Addr) (ns : List Int), vs = [.ref l] ∧ H l = some (.lst (ns.map V.int)) ∧ ns.length ≤ 4900 ∧ (amsB lo hi ns = true → ∀ p H', Same H H' → H' p = some (.tup (ns.map V.int)) → Q (.ref p) H') ∧ (amsB lo hi ns = false → ∀ H', Same H H' → E (.ref C) none H')
theorem scMP : FnScope ["prices"] ["prices"] (defScope sMP) := ⟨rfl, rfl, rfl, by decide +kernel, rfl, by decide +kernel, by decide +kernel⟩
theorem scMW : FnScope ["weights"] ["weights"] (defScope sMW) := ⟨rfl, rfl, rfl, by decide +kernel, rfl, by decide +kernel, by decide +kernel⟩
theorem ok_mp {C : Addr} (F : Fun K "made_prices" "made_prices" sMP f fd) (GA : Fns P w K mg base NAr "are_amounts" spAr 2) (mt : mg "tuple" = none) (mC : mg "BadPrices" = some (.ref C)) (eC : Ecl K C) : FnOk P w K mg base (CXF P w) 3 f fd ["prices"] (spMk C 2 6) := by
  refine F.okF (k := 2) scMP (fun vs H Q E h => ?_) (fun cdv A outer s H vs Q E hr h => ?_)
  · obtain ⟨l, ns, rfl, _⟩ := h
    rfl
  obtain ⟨l, ns, rfl, hl, l5, q1, q2⟩ := h
  refine ⟨_, pss_cons (ps_if (pt_not (pt_val (pe_call GA.ok hr (by rfl) GA.m GA.kp GA.b .nil pass0 (pa_cons (pv 0) (pa_cons (pe_int) (pa_cons (pe_int) (pa_nil))))))) (pss_one (ps_raise takes_def rfl (by rfl) mC eC (pa_cons pe_str pa_nil))) (pss_nil))
      (pss_one (ps_ret (pe_callTy call_tuple_of (by rfl) mt b_tuple (pa_cons (pv 0) (pa_nil))))), ?_⟩
  refine ⟨_, rfl, l, ns, 2, 6, rfl, hl, l5, fun H1 s1 => ⟨_, rfl, ?_⟩⟩
  cases hA : amsB 2 6 ns with
  | false => exact iteT ⟨by decide, q2 hA H1 s1⟩
  | true => exact iteF ⟨_, rfl, l, _, rfl, .inl ⟨SqL.of (s1 _ _ hl), fun p hp => q1 hA p _ (s1.trans (same_newO hp _)) upd_same⟩⟩
theorem ok_mw {C : Addr} (F : Fun K "made_weights" "made_weights" sMW f fd) (GA : Fns P w K mg base NAr "are_amounts" spAr 2) (mt : mg "tuple" = none) (mC : mg "BadWeights" = some (.ref C)) (eC : Ecl K C) : FnOk P w K mg base (CXF P w) 3 f fd ["weights"] (spMk C 1 24) := by
  refine F.okF (k := 2) scMW (fun vs H Q E h => ?_) (fun cdv A outer s H vs Q E hr h => ?_)
  · obtain ⟨l, ns, rfl, _⟩ := h
    rfl
  obtain ⟨l, ns, rfl, hl, l5, q1, q2⟩ := h
  refine ⟨_, pss_cons (ps_if (pt_not (pt_val (pe_call GA.ok hr (by rfl) GA.m GA.kp GA.b .nil pass0 (pa_cons (pv 0) (pa_cons (pe_int) (pa_cons (pe_int) (pa_nil))))))) (pss_one (ps_raise takes_def rfl (by rfl) mC eC (pa_cons pe_str pa_nil))) (pss_nil))
      (pss_one (ps_ret (pe_callTy call_tuple_of (by rfl) mt b_tuple (pa_cons (pv 0) (pa_nil))))), ?_⟩
  refine ⟨_, rfl, l, ns, 1, 24, rfl, hl, l5, fun H1 s1 => ⟨_, rfl, ?_⟩⟩
  cases hA : amsB 1 24 ns with
  | false => exact iteT ⟨by decide, q2 hA H1 s1⟩
  | true => exact iteF ⟨_, rfl, l, _, rfl, .inl ⟨SqL.of (s1 _ _ hl), fun p hp => q1 hA p _ (s1.trans (same_newO hp _)) upd_same⟩⟩
abbrev NRb : List Str := ["text", "rows", "letters", "things", "signs", "names", "prices", "weights"]
def spRb (CR CN CP CW : Addr) : Sp := fun vs H Q E => ∃ z : Str, vs = [.str z] ∧ Asc z ∧ z.length ≤ 4000 ∧
  (∀ k, res z = .row k → ∀ dx H', Same H H' → H' dx = some (xdO dx [("at", .int ((k : Nat) : Int))]) → E (.ref CR) (some dx) H') ∧
  (res z = .name → ∀ H', Same H H' → E (.ref CN) none H') ∧ (res z = .prices → ∀ H', Same H H' → E (.ref CP) none H') ∧ (res z = .weights → ∀ H', Same H H' → E (.ref CW) none H') ∧
  ∀ sg ps nm ws, res z = .book sg ps nm ws → ∀ (p : Addr) H', Same H H' → BkAt H' p sg ps nm ws → Q (.ref p) H'
theorem scRb : FnScope NRb ["text"] (defScope sRB) := ⟨rfl, rfl, rfl, by decide +kernel, rfl, by decide +kernel, by decide +kernel⟩
theorem ndRb : (("row" : Str) :: NRb).Nodup := by decide +kernel
set_option maxHeartbeats 16000000 in
theorem ok_rb {CR CN CP CW : Addr} (F : Fun K "read_book" "read_book" sRB f fd) (GR : Fns' P w K mg base ["text"] "rows_of" (spRo CR) 3) (GP : Fns' P w K mg base ["prices"] "made_prices" (spMk CP 2 6) 3) (GW : Fns' P w K mg base ["weights"] "made_weights" (spMk CW 1 24) 3) (mN : mg "BadName" = some (.ref CN)) (eN : Ecl K CN) (ml : mg "len" = none) (mt : mg "tuple" = none) (mse : mg "set" = none) (mI : mg "int" = none) : FnOk P w K mg base (CXF P w) 4 f fd ["text"] (spRb CR CN CP CW) := by
  refine F.okF (k := 3) scRb (fun vs H Q E h => ?_) (fun cdv A outer s H vs Q E hr h => ?_)
  · obtain ⟨z, rfl, _⟩ := h
    rfl
  obtain ⟨z, rfl, as, l4, qr, qn, qp, qw, qb⟩ := h
  refine ⟨_, pss_cons (ps_set (i := 1) scRb.nd rfl (Or.inl rfl) (pe_call GR.ok hr (by rfl) GR.m GR.kp GR.b .nil takes_def (pa_cons (pv 0) (pa_nil))))
      (pss_cons (ps_compL (i := 2) (M := NRb) scRb.nd rfl rfl rfl (CompScope.of (defScope sRB) NRb rfl rfl rfl (by decide +kernel) (by decide +kernel) (by decide +kernel) rfl (by decide +kernel)) ndRb rfl (pv 1) mo_var (fun cl C s0 H0 fp => ⟨pts_one (pt_cmpR op_eq (pe_ix (ixL K) (pv 0) (pe_int) (fun _ _ => rfl)) pe_str (nomark _)), pv 0⟩))
      (pss_cons (ps_compL (i := 3) (M := NRb) scRb.nd rfl rfl rfl (CompScope.of (defScope sRB) NRb rfl rfl rfl (by decide +kernel) (by decide +kernel) (by decide +kernel) rfl (by decide +kernel)) ndRb rfl (pv 1) mo_var (fun cl C s0 H0 fp => ⟨pts_one (pt_cmpR op_eq (pe_ix (ixL K) (pv 0) (pe_int) (fun _ _ => rfl)) pe_str (nomark _)), pv 0⟩))
      (pss_cons (ps_set (i := 4) scRb.nd rfl (Or.inl rfl) (pe_callTy call_tuple_of (by rfl) mt b_tuple (pa_cons (pe_compL (M := NRb) rfl (CompScope.of (defScope sRB) NRb rfl rfl rfl (by decide +kernel) (by decide +kernel) (by decide +kernel) rfl (by decide +kernel)) ndRb rfl (pv 2) mo_var (fun cl C s0 H0 fp => ⟨pts_nil, pe_ix (ixL K) (pv 0) (pe_int) (fun _ _ => rfl)⟩)) (pa_nil))))
      (pss_cons (ps_set (i := 5) scRb.nd rfl (Or.inl rfl) (pe_callTy call_tuple_of (by rfl) mt b_tuple (pa_cons (pe_compL (M := NRb) rfl (CompScope.of (defScope sRB) NRb rfl rfl rfl (by decide +kernel) (by decide +kernel) (by decide +kernel) rfl (by decide +kernel)) ndRb rfl (pv 3) mo_var (fun cl C s0 H0 fp => ⟨pts_nil, pe_ix (ixL K) (pv 0) (pe_int) (fun _ _ => rfl)⟩)) (pa_nil))))
      (pss_cons (ps_if (PW.pt (pw_or (pt_cmpR op_lt (pe_callB call_lenSd (by rfl) ml PySem.boot_len (pa_cons (pe_callTy (call_setDs rfl) (by rfl) mse b_setT (pa_cons (pv 4) (pa_nil))) (pa_nil))) (pe_callB call_len_seq (by rfl) ml PySem.boot_len (pa_cons (pv 4) (pa_nil))) (nomark _)) (pw_or1 (pt_cmpR op_lt (pe_callB call_lenSd (by rfl) ml PySem.boot_len (pa_cons (pe_callTy (call_setDs rfl) (by rfl) mse b_setT (pa_cons (pv 5) (pa_nil))) (pa_nil))) (pe_callB call_len_seq (by rfl) ml PySem.boot_len (pa_cons (pv 5) (pa_nil))) (nomark _))))) (pss_one (ps_raise takes_def rfl (by rfl) mN eN (pa_cons pe_str pa_nil))) (pss_nil))
      (pss_cons (ps_set (i := 6) scRb.nd rfl (Or.inl rfl) (pe_call GP.ok hr (by rfl) GP.m GP.kp GP.b .nil takes_def (pa_cons (pe_compL (M := NRb) rfl (CompScope.of (defScope sRB) NRb rfl rfl rfl (by decide +kernel) (by decide +kernel) (by decide +kernel) rfl (by decide +kernel)) ndRb rfl (pv 2) mo_var (fun cl C s0 H0 fp => ⟨pts_nil, pe_callTy call_int_str (by rfl) mI b_int (pa_cons (pe_ix (ixL K) (pv 0) (pe_int) (fun _ _ => rfl)) (pa_nil))⟩)) (pa_nil))))
      (pss_cons (ps_set (i := 7) scRb.nd rfl (Or.inl rfl) (pe_call GW.ok hr (by rfl) GW.m GW.kp GW.b .nil takes_def (pa_cons (pe_compL (M := NRb) rfl (CompScope.of (defScope sRB) NRb rfl rfl rfl (by decide +kernel) (by decide +kernel) (by decide +kernel) rfl (by decide +kernel)) ndRb rfl (pv 3) mo_var (fun cl C s0 H0 fp => ⟨pts_nil, pe_callTy call_int_str (by rfl) mI b_int (pa_cons (pe_ix (ixL K) (pv 0) (pe_int) (fun _ _ => rfl)) (pa_nil))⟩)) (pa_nil))))
      (pss_one (ps_ret (pe_tup (pa_cons (pv 4) (pa_cons (pv 6) (pa_cons (pv 5) (pa_cons (pv 7) (pa_nil))))))))))))))), ?_⟩
  refine ⟨_, rfl, z, rfl, as, l4, fun bn r xs H1 s1 hr1 px => ?_, fun k bk dx H1 s1 hx => qr k (by unfold res; rw [bk]) dx H1 s1 hx⟩
  have Z := rz_of as l4
  obtain ⟨b1, _⟩ := badRow_none bn
  obtain ⟨ls, ts, ers, hls, hts⟩ := badF b1
  have er : res z = if (((lettersZ z).map k1).Nodup ∧ ((thingsZ z).map k1).Nodup) then (if amsB 2 6 ((lettersZ z).map fun r => num (k2 r)) = true then (if amsB 1 24 ((thingsZ z).map fun r => num (k2 r)) = true then .book ((lettersZ z).map k1) ((lettersZ z).map fun r => num (k2 r)) ((thingsZ z).map k1) ((thingsZ z).map fun r => num (k2 r)) else .weights) else .prices) else .name := by unfold res; rw [bn]
  have eL : lettersZ z = ls := by unfold lettersZ; rw [ers]; exact (flt_two hls hts).1
  have eT : thingsZ z = ts := by unfold thingsZ; rw [ers]; exact (flt_two hls hts).2
  rw [eL, eT] at er
  have fL : (rowsZ z).filter (fun t => decide (k0 t = tL)) = ls := eL
  have fT : (rowsZ z).filter (fun t => decide (k0 t = tT)) = ts := eT
  have lL : ls.length ≤ 4001 := by have := Z.le; rw [ers, List.length_append] at this; omega
  have lT : ts.length ≤ 4001 := by have := Z.le; rw [ers, List.length_append] at this; omega
  have lx : xs.length = (rowsZ z).length := px.length
  have zle := Z.le
  clear eL eT ers b1
  generalize rowsZ z = rs at px fL fT Z lx zle
  refine ⟨_, rfl, r, xs, rfl, SqL.of ((Same.refl H1) _ _ hr1), fun d1 hd1 => ?_⟩
  refine ⟨fun i H' => Same H1 H' ∧ ∃ ys, H' d1 = some (.lst ys) ∧ Paired (RowL H1) ys ((rs.take i).filter fun t => decide (k0 t = tL)), ⟨same_newO hd1 _, [], upd_same, .nil⟩, fun i H' _ hP => SqL.of (hP.1 _ _ ((Same.refl H1) _ _ hr1)), fun i x H' hx hP => ?_, fun H2 hP => ?_⟩
  · obtain ⟨s2, ys, hz, py⟩ := hP
    obtain ⟨t, ht, l, rfl, hl⟩ := Paired.right_of px i x hx
    have il := (List.getElem?_eq_some_iff.mp ht).1
    have ly : ys.length = _ := py.length
    have ly2 := List.length_filter_le (fun t : List Str => decide (k0 t = tL)) (rs.take i)
    rw [List.length_take] at ly2
    obtain ⟨tne, _⟩ := Z.ok t (List.mem_of_getElem? ht)
    have a0 : atI (t.map V.str) 0 = some (.str (k0 t)) := by
      cases t with
      | nil => exact absurd rfl tne
      | cons a r => exact atI_nat (j := 0) rfl
    refine ⟨_, rfl, l, _, _, _, rfl, rfl, SqL.of (s2 _ _ ((Same.refl H1) _ _ hl)), a0, rfl, _, rfl, ite2 (fun c => ?_) (fun c => ?_)⟩
    · have c : decide (k0 t = tL) = true := decide_eq_true (V.str.inj (of_decide_eq_true c))
      refine ⟨_, rfl, ys, hz, lt5 (by omega), same_upd hd1 s2, ys ++ [.ref l], upd_same, ?_⟩
      rw [List.take_add_one, ht, List.filter_append]
      refine Paired.appendP py ?_
      show Paired _ _ (List.filter _ [t])
      rw [show List.filter (fun t : List Str => decide (k0 t = tL)) [t] = [t] from List.filter_cons_of_pos c]
      exact Paired.oneP ⟨l, rfl, hl⟩
    · have c : ¬ decide (k0 t = tL) = true := fun h => c (decide_eq_true (congrArg V.str (of_decide_eq_true h)))
      refine ⟨s2, ys, hz, ?_⟩
      rw [List.take_add_one, ht, List.filter_append]
      show Paired _ _ (_ ++ List.filter _ [t])
      rw [show List.filter (fun t : List Str => decide (k0 t = tL)) [t] = [] from List.filter_cons_of_neg c, List.append_nil]
      exact py
  obtain ⟨sya, ya, gya, pya⟩ := hP
  rw [lx, List.take_length] at pya
  have s12 : Same H1 H2 := sya
  refine ⟨_, rfl, r, xs, rfl, SqL.of (s12 _ _ hr1), fun d2 hd2 => ?_⟩
  refine ⟨fun i H' => Same H2 H' ∧ ∃ ys, H' d2 = some (.lst ys) ∧ Paired (RowL H1) ys ((rs.take i).filter fun t => decide (k0 t = tT)), ⟨same_newO hd2 _, [], upd_same, .nil⟩, fun i H' _ hP => SqL.of (hP.1 _ _ (s12 _ _ hr1)), fun i x H' hx hP => ?_, fun H3 hP => ?_⟩
  · obtain ⟨s2, ys, hz, py⟩ := hP
    obtain ⟨t, ht, l, rfl, hl⟩ := Paired.right_of px i x hx
    have il := (List.getElem?_eq_some_iff.mp ht).1
    have ly : ys.length = _ := py.length
    have ly2 := List.length_filter_le (fun t : List Str => decide (k0 t = tT)) (rs.take i)
    rw [List.length_take] at ly2
    obtain ⟨tne, _⟩ := Z.ok t (List.mem_of_getElem? ht)
    have a0 : atI (t.map V.str) 0 = some (.str (k0 t)) := by
      cases t with
      | nil => exact absurd rfl tne
      | cons a r => exact atI_nat (j := 0) rfl
    refine ⟨_, rfl, l, _, _, _, rfl, rfl, SqL.of (s2 _ _ (s12 _ _ hl)), a0, rfl, _, rfl, ite2 (fun c => ?_) (fun c => ?_)⟩
    · have c : decide (k0 t = tT) = true := decide_eq_true (V.str.inj (of_decide_eq_true c))
      refine ⟨_, rfl, ys, hz, lt5 (by omega), same_upd hd2 s2, ys ++ [.ref l], upd_same, ?_⟩
      rw [List.take_add_one, ht, List.filter_append]
      refine Paired.appendP py ?_
      show Paired _ _ (List.filter _ [t])
      rw [show List.filter (fun t : List Str => decide (k0 t = tT)) [t] = [t] from List.filter_cons_of_pos c]
      exact Paired.oneP ⟨l, rfl, hl⟩
    · have c : ¬ decide (k0 t = tT) = true := fun h => c (decide_eq_true (congrArg V.str (of_decide_eq_true h)))
      refine ⟨s2, ys, hz, ?_⟩
      rw [List.take_add_one, ht, List.filter_append]
      show Paired _ _ (_ ++ List.filter _ [t])
      rw [show List.filter (fun t : List Str => decide (k0 t = tT)) [t] = [] from List.filter_cons_of_neg c, List.append_nil]
      exact py
  obtain ⟨syb, yb, gyb, pyb⟩ := hP
  rw [lx, List.take_length] at pyb
  have s13 := s12.trans syb
  rw [fL] at pya
  rw [fT] at pyb
  have gya3 := syb _ _ gya
  refine ⟨_, rfl, d1, ya, rfl, SqL.of gya3, fun d3 hd3 => ?_⟩
  refine ⟨fun i H' => Same H3 H' ∧ H' d3 = some (.lst (((ls.take i).map k1).map V.str)), ⟨same_newO hd3 _, upd_same⟩, fun i H' _ hP => SqL.of (hP.1 _ _ gya3), fun i x H' hx hP => ?_, fun H4 hP => ?_⟩
  · obtain ⟨s2, hz⟩ := hP
    obtain ⟨t, ht, l, rfl, hl⟩ := Paired.right_of pya i x hx
    have il := (List.getElem?_eq_some_iff.mp ht).1
    obtain ⟨bb, cc, et, _, nuc⟩ := rwB_is (hls t (List.mem_of_getElem? ht))
    subst et
    refine turn_all ⟨_, rfl, l, _, _, _, rfl, rfl, SqL.of (s2 _ _ (s13 _ _ hl)), (rfl : atI [V.str _, .str bb, .str cc] 1 = _), _, hz, ?_, same_upd hd3 s2, ?_⟩
    · rw [List.length_map, List.length_map, List.length_take]; exact lt5 (by omega)
    · rw [upd_same, List.take_add_one, ht, List.map_append, List.map_append]; rfl
  obtain ⟨sd3, gd3⟩ := hP
  rw [pya.length, List.take_length] at gd3
  refine ⟨d3, _, rfl, .inl ⟨SqL.of gd3, fun p1 hp1 => ?_⟩⟩
  have sp1 := same_newO hp1 (.tup ((ls.map k1).map V.str))
  have gp1 : upd H4 p1 (.tup ((ls.map k1).map V.str)) p1 = some (.tup ((ls.map k1).map V.str)) := upd_same
  generalize upd H4 p1 (.tup ((ls.map k1).map V.str)) = H5 at sp1 gp1 ⊢
  have s35 := sd3.trans sp1
  have s15 := s13.trans s35
  have gyb5 := s35 _ _ gyb
  refine ⟨_, rfl, d2, yb, rfl, SqL.of gyb5, fun d4 hd4 => ?_⟩
  refine ⟨fun i H' => Same H5 H' ∧ H' d4 = some (.lst (((ts.take i).map k1).map V.str)), ⟨same_newO hd4 _, upd_same⟩, fun i H' _ hP => SqL.of (hP.1 _ _ gyb5), fun i x H' hx hP => ?_, fun H6 hP => ?_⟩
  · obtain ⟨s2, hz⟩ := hP
    obtain ⟨t, ht, l, rfl, hl⟩ := Paired.right_of pyb i x hx
    have il := (List.getElem?_eq_some_iff.mp ht).1
    obtain ⟨bb, cc, et, _, nuc⟩ := rwB_is (hts t (List.mem_of_getElem? ht))
    subst et
    refine turn_all ⟨_, rfl, l, _, _, _, rfl, rfl, SqL.of (s2 _ _ (s15 _ _ hl)), (rfl : atI [V.str _, .str bb, .str cc] 1 = _), _, hz, ?_, same_upd hd4 s2, ?_⟩
    · rw [List.length_map, List.length_map, List.length_take]; exact lt5 (by omega)
    · rw [upd_same, List.take_add_one, ht, List.map_append, List.map_append]; rfl
  obtain ⟨sd4, gd4⟩ := hP
  rw [pyb.length, List.take_length] at gd4
  refine ⟨d4, _, rfl, .inl ⟨SqL.of gd4, fun p2 hp2 => ?_⟩⟩
  have sp2 := same_newO hp2 (.tup ((ts.map k1).map V.str))
  have gp2 : upd H6 p2 (.tup ((ts.map k1).map V.str)) p2 = some (.tup ((ts.map k1).map V.str)) := upd_same
  generalize upd H6 p2 (.tup ((ts.map k1).map V.str)) = H7 at sp2 gp2 ⊢
  have s57 := sd4.trans sp2
  have s17 := s15.trans s57
  have gp1' := s57 _ _ gp1
  have nmr : ∀ H', Same H7 H' → (¬ ((ls.map k1).Nodup ∧ (ts.map k1).Nodup)) → E (.ref CN) none H' := fun H' s' c => qn (by rw [er, if_neg c]) H' ((s1.trans s17).trans s')
  refine ⟨_, rfl, p1, ls.map k1, rfl, SqT.of gp1', by rw [List.length_map]; omega, fun e1 H8 s8 he1 ge1 => ?_⟩
  refine ⟨e1, ls.map k1, rfl, ge1, by rw [List.length_map]; omega, _, rfl, p1, _, rfl, .inr (SqT.of (s8 _ _ gp1')), _, _, rfl, rfl, _, rfl, ?_⟩
  rw [List.length_map (f := V.str), dd_lt]
  by_cases n1 : (ls.map k1).Nodup
  case neg =>
    rw [decide_eq_false n1]
    exact iteT ⟨by decide, nmr H8 s8 (fun h => n1 h.1)⟩
  rw [decide_eq_true n1]
  refine iteF ?_
  refine ⟨_, rfl, p2, ts.map k1, rfl, SqT.of (s8 _ _ gp2), by rw [List.length_map]; omega, fun e2 H9 s9 he2 ge2 => ?_⟩
  refine ⟨e2, ts.map k1, rfl, ge2, by rw [List.length_map]; omega, _, rfl, p2, _, rfl, .inr (SqT.of (s9 _ _ (s8 _ _ gp2))), _, _, rfl, rfl, _, rfl, ?_⟩
  rw [List.length_map (f := V.str), dd_lt]
  by_cases n2 : (ts.map k1).Nodup
  case neg =>
    rw [decide_eq_false n2]
    exact iteT ⟨by decide, nmr H9 (s8.trans s9) (fun h => n2 h.2)⟩
  rw [decide_eq_true n2]
  refine iteF ?_
  rw [if_pos ⟨n1, n2⟩] at er
  have s79 := s8.trans s9
  have s19 := s17.trans s79
  have gya9 := s79 _ _ (s57 _ _ (s35 _ _ gya3))
  refine ⟨_, rfl, d1, ya, rfl, SqL.of gya9, fun d5 hd5 => ?_⟩
  refine ⟨fun i H' => Same H9 H' ∧ H' d5 = some (.lst (((ls.take i).map (fun r => num (k2 r))).map V.int)), ⟨same_newO hd5 _, upd_same⟩, fun i H' _ hP => SqL.of (hP.1 _ _ gya9), fun i x H' hx hP => ?_, fun H10 hP => ?_⟩
  · obtain ⟨s2, hz⟩ := hP
    obtain ⟨t, ht, l, rfl, hl⟩ := Paired.right_of pya i x hx
    have il := (List.getElem?_eq_some_iff.mp ht).1
    obtain ⟨bb, cc, et, _, nuc⟩ := rwB_is (hls t (List.mem_of_getElem? ht))
    subst et
    refine turn_all ⟨_, rfl, l, _, _, _, rfl, rfl, SqL.of (s2 _ _ (s19 _ _ hl)), (rfl : atI [V.str _, .str bb, .str cc] 2 = _), _, _, rfl, (nuB_reads nuc).1, by have := (nuB_reads nuc).2; omega, _, hz, ?_, same_upd hd5 s2, ?_⟩
    · rw [List.length_map, List.length_map, List.length_take]; exact lt5 (by omega)
    · rw [upd_same, List.take_add_one, ht, List.map_append, List.map_append]; rfl
  obtain ⟨sd5, gd5⟩ := hP
  rw [pya.length, List.take_length] at gd5
  have s110 := s19.trans sd5
  refine ⟨d5, ls.map fun r => num (k2 r), rfl, gd5, by rw [List.length_map]; omega, fun a1 p3 H11 s11 gp3 => ?_, fun a1 H11 s11 => qp (by rw [er, if_neg (by rw [a1]; exact Bool.false_ne_true)]) H11 ((s1.trans s110).trans s11)⟩
  rw [if_pos a1] at er
  have s911 := sd5.trans s11
  have s1b := s19.trans s911
  have gybb := s911 _ _ (s79 _ _ (s57 _ _ gyb5))
  refine ⟨_, rfl, d2, yb, rfl, SqL.of gybb, fun d6 hd6 => ?_⟩
  refine ⟨fun i H' => Same H11 H' ∧ H' d6 = some (.lst (((ts.take i).map (fun r => num (k2 r))).map V.int)), ⟨same_newO hd6 _, upd_same⟩, fun i H' _ hP => SqL.of (hP.1 _ _ gybb), fun i x H' hx hP => ?_, fun H12 hP => ?_⟩
  · obtain ⟨s2, hz⟩ := hP
    obtain ⟨t, ht, l, rfl, hl⟩ := Paired.right_of pyb i x hx
    have il := (List.getElem?_eq_some_iff.mp ht).1
    obtain ⟨bb, cc, et, _, nuc⟩ := rwB_is (hts t (List.mem_of_getElem? ht))
    subst et
    refine turn_all ⟨_, rfl, l, _, _, _, rfl, rfl, SqL.of (s2 _ _ (s1b _ _ hl)), (rfl : atI [V.str _, .str bb, .str cc] 2 = _), _, _, rfl, (nuB_reads nuc).1, by have := (nuB_reads nuc).2; omega, _, hz, ?_, same_upd hd6 s2, ?_⟩
    · rw [List.length_map, List.length_map, List.length_take]; exact lt5 (by omega)
    · rw [upd_same, List.take_add_one, ht, List.map_append, List.map_append]; rfl
  obtain ⟨sd6, gd6⟩ := hP
  rw [pyb.length, List.take_length] at gd6
  have s112 := s1b.trans sd6
  refine ⟨d6, ts.map fun r => num (k2 r), rfl, gd6, by rw [List.length_map]; omega, fun a2 p4 H13 s13' gp4 => ?_, fun a2 H13 s13' => qw (by rw [er, if_neg (by rw [a2]; exact Bool.false_ne_true)]) H13 ((s1.trans s112).trans s13')⟩
  rw [if_pos a2] at er
  have sE := sd6.trans s13'
  refine ⟨_, rfl, _, rfl, _, rfl, _, rfl, (by show 4 ≤ sizeLine; decide), fun q hq => ?_⟩
  have sq := same_newO hq (.tup [.ref p1, .ref p3, .ref p2, .ref p4])
  have k1' := sq _ _ (sE _ _ (s911 _ _ (s79 _ _ gp1')))
  have k2' := sq _ _ (sE _ _ gp3)
  have k3' := sq _ _ (sE _ _ (s911 _ _ (s79 _ _ gp2)))
  have k4' := sq _ _ gp4
  exact qb _ _ _ _ er q _ ((s1.trans s1b).trans (sE.trans sq)) ⟨p1, p3, p2, p4, upd_same, k1', k2', k3', k4'⟩
end
end K92
set_option Elab.async false
set_option linter.all false
set_option maxRecDepth 100000
namespace K92
open PySem L2
structure Nm (m : Nat) (z : Str) : Prop where
  l1 : 1 ≤ z.cps.toList.length
  l8 : z.cps.toList.length ≤ m
  lo : Lo z.cps.toList
theorem nd_set {α : Type} {w : α} : ∀ {zs : List α} {i : Nat}, zs.Nodup → w ∉ zs → (zs.set i w).Nodup
  | [], _, h, _ => h
  | z :: zs, 0, h, hw => List.nodup_cons.mpr ⟨fun x => hw (.tail _ x), (List.nodup_cons.mp h).2⟩
  | z :: zs, i + 1, h, hw => by
    refine List.nodup_cons.mpr ⟨fun x => ?_, nd_set (List.nodup_cons.mp h).2 (fun x => hw (.tail _ x))⟩
    rcases List.mem_or_eq_of_mem_set x with y | y
    · exact (List.nodup_cons.mp h).1 y
    · exact hw (y ▸ .head _)
theorem in_strs {w : Str} {zs : List Str} : inV (.str w) (zs.map V.str) = decide (w ∈ zs) := by
  unfold inV
  rw [List.any_map]
  induction zs with
  | nil => rfl
  | cons z zs ih =>
    rw [List.any_cons, ih]
    show (z == w || _) = _
    by_cases e : z = w
    · subst e; simp
    · have : ¬ w = z := fun x => e x.symm
      simp [e, this]
theorem flat_strs (zs : List Str) : (zs.map V.str).all flatV = true := by
  rw [List.all_map, List.all_eq_true]
  intro z _
  rfl
def hd (r : Int) (k : Nat) : Nat := 97 + ((r + 7 * (k : Int)) % 26).toNat
theorem hd_lo (r : Int) (k : Nat) : 97 ≤ hd r k ∧ hd r k ≤ 122 := by unfold hd; omega
theorem hd_inj {r : Int} {i j : Nat} (hi : i < 26) (hj : j < 26) (h : hd r i = hd r j) : i = j := by unfold hd at h; omega
def nm1 (b : Bool) (t : List Nat) (h : Nat) : List Nat := if b then t ++ [h] else h :: t
def nms (b : Bool) (t : List Nat) (r : Int) (n : Nat) : List Str := (List.range n).map fun k => S (nm1 b t (hd r k))
theorem nm1_inj {b : Bool} {t : List Nat} {h h' : Nat} (e : nm1 b t h = nm1 b t h') : h = h' := by
  unfold nm1 at e
  split at e
  · exact List.head_eq_of_cons_eq (List.append_cancel_left e)
  · exact (List.cons.inj e).1
theorem nms_nd {b : Bool} {t : List Nat} {r : Int} {n : Nat} (h : n ≤ 26) : (nms b t r n).Nodup := by
  unfold nms List.Nodup
  rw [List.pairwise_map]
  refine List.Pairwise.imp_of_mem ?_ (List.nodup_range (n := n))
  intro i j hi hj ne e
  exact ne (hd_inj (by have := List.mem_range.mp hi; omega) (by have := List.mem_range.mp hj; omega) (nm1_inj (S_inj e)))
theorem nms_ok {b : Bool} {t : List Nat} {r : Int} {n : Nat} (h : t.length ≤ 7) (lo : Lo t) : ∀ z ∈ nms b t r n, Nm 8 z := fun z hz => by
  obtain ⟨k, _, rfl⟩ := List.mem_map.mp hz
  have := hd_lo r k
  refine ⟨?_, ?_, ?_⟩ <;> rw [S_cps] <;> unfold nm1 <;> split
  · simp
  · simp
  · rw [List.length_append]; exact Nat.succ_le_succ h
  · exact Nat.succ_le_succ h
  · intro c hc
    rcases List.mem_append.mp hc with x | x
    · exact lo c x
    · rw [List.mem_singleton.mp x]; exact this
  · intro c hc
    rcases List.mem_cons.mp hc with x | x
    · rw [x]; exact this
    · exact lo c x
def wds : List Str := [Str.ofString "cost", Str.ofString "many", Str.ofString "free", Str.ofString "code", Str.ofString "sure", Str.ofString "bounded", Str.ofString "price", Str.ofString "weight", Str.ofString "write", Str.ofString "read", Str.ofString "none", Str.ofString "thing"]
theorem wds_ok : ∀ z ∈ wds, Nm 8 z := by
  have h : ∀ z ∈ wds, 1 ≤ z.cps.toList.length ∧ z.cps.toList.length ≤ 8 ∧ ∀ c ∈ z.cps.toList, 97 ≤ c ∧ c ≤ 122 := by decide +kernel
  exact fun z hz => ⟨(h z hz).1, (h z hz).2.1, (h z hz).2.2⟩
section
variable {P : Program} {w : World} {K : PySem.W.Frag} {mg : Str → Option Value} {base : Heap} {f : Addr} {fd : FuncData}
abbrev NNm : List Str := ["cell", "many", "letters", "rest", "tail", "k", "heads", "names", "words", "word"]
abbrev MNm : List Str := ["cell", "many", "letters", "rest", "tail", "-", "heads", "names", "words", "word"]
abbrev PNm : List Str := ["cell", "many"]
def spNm : Sp := fun vs H Q _ => ∃ (c : Int) (n : Nat), vs = [.int c, .int n] ∧ 1 ≤ n ∧ n ≤ 26 ∧ ∀ (d : Addr) (zs : List Str) H', Same H H' → H d = none → H' d = some (.lst (zs.map V.str)) → zs.length = n → zs.Nodup → (∀ z ∈ zs, Nm 8 z) → Q (.ref d) H'
theorem scNm : FnScope NNm PNm (defScope sNames) := ⟨rfl, rfl, rfl, by decide +kernel, rfl, by decide +kernel, by decide +kernel⟩
theorem ndNm1 : (("k" : Str) :: MNm).Nodup := by decide +kernel
theorem ndNm2 : (("head" : Str) :: MNm).Nodup := by decide +kernel
abbrev stW : Stmt := (defBody sNames).getD 6 (.Pass ⟨0, 0, 0, 0⟩)
set_option maxHeartbeats 16000000 in
theorem ok_nm (F : Fun K "_law_names" "_law_names" sNames f fd) (mr : mg "range" = none) : FnOk P w K mg base CX0 1 f fd PNm spNm := by
  refine F.ok (k := 0) scNm (fun vs H Q E h => ?_) (fun cdv A outer s H vs Q E hr h => ?_)
  · obtain ⟨c, n, rfl, _⟩ := h
    rfl
  obtain ⟨c, n, rfl, n1, n24, qq⟩ := h
  have key : ∀ st2 : Stmt, strsAsg st2 = some (("words" : Str), wds) → ∃ t, PSs (cxOf CX0 P w K mg base NNm (Str.ofString "_law_names") (defScope sNames) f cdv A outer s H E).nox ((defBody sNames).getD 0 (.Pass ⟨0, 0, 0, 0⟩) :: (defBody sNames).getD 1 (.Pass ⟨0, 0, 0, 0⟩) :: (defBody sNames).getD 2 (.Pass ⟨0, 0, 0, 0⟩) :: (defBody sNames).getD 3 (.Pass ⟨0, 0, 0, 0⟩) :: (defBody sNames).getD 4 (.Pass ⟨0, 0, 0, 0⟩) :: (defBody sNames).getD 5 (.Pass ⟨0, 0, 0, 0⟩) :: st2 :: (defBody sNames).drop 7) t ∧ t { nx := fun x H' => Q V.non H', rt := Q } (L2.start NNm [V.int c, V.int n]) H := by
   intro st2 hst2
   refine ⟨_, pss_cons (ps_set (i := 2) scNm.nd rfl (Or.inr rfl) (pe_str))
      (pss_cons (ps_set (i := 3) scNm.nd rfl (Or.inr rfl) (pe_op op_fdiv (pv 0) (pe_int)))
      (pss_cons (ps_set (i := 4) scNm.nd rfl (Or.inr rfl) (pe_str))
      (pss_cons (ps_for PassesOwn.never rfl (pi_range1 (by rfl) mr (pa_cons (pe_op op_mod (pe_op op_fdiv (pv 0) (pe_int)) (pe_int)) (pa_nil))) (pg_name (i := 5) scNm.nd rfl (Or.inl rfl)) (pss_cons (ps_set (i := 4) scNm.nd rfl (Or.inr rfl) (pe_op op_add_str (pv 4) (pe_ix ix_str (pv 2) (pe_op op_mod (pv 3) (pe_int)) (fun _ _ => rfl))))
      (pss_one (ps_set (i := 3) scNm.nd rfl (Or.inr rfl) (pe_op op_fdiv (pv 3) (pe_int))))))
      (pss_cons (ps_compR1 (i := 6) (M := MNm) scNm.nd rfl rfl rfl (CompScope.of (defScope sNames) NNm rfl rfl rfl (by decide +kernel) (by decide +kernel) (by decide +kernel) rfl (by decide +kernel)) ndNm1 rfl (by rfl) mr (pa_cons (pv 1) pa_nil) (mo_cons mo_var mo_nil)
      (fun cl C s0 H0 fp => ⟨pts_nil, pe_ix ix_str (pv 3) (pe_op op_mod (pe_op op_add (pv 4) (pe_op op_mul (pe_int) (pv 0))) (pe_int)) (fun _ _ => rfl)⟩))
      (pss_cons (ps_compL (i := 7) (M := MNm) scNm.nd rfl rfl rfl (CompScope.of (defScope sNames) NNm rfl rfl rfl (by decide +kernel) (by decide +kernel) (by decide +kernel) rfl (by decide +kernel)) ndNm2 rfl (pv 6) mo_var
      (fun cl C s0 H0 fp => ⟨pts_nil, pe_ix (ixL K) (pe_lst (pa_cons (pe_op op_add_str (pv 0) (pv 5)) (pa_cons (pe_op op_add_str (pv 5) (pv 0)) (pa_nil)))) (pe_op op_mod (pv 1) (pe_int)) (fun _ _ => rfl)⟩))
      (pss_cons (ps_sts 8 _ wds hst2 scNm.nd rfl (Or.inl rfl) (Or.inl rfl))
      (pss_cons (ps_set (i := 9) scNm.nd rfl (Or.inl rfl) (pe_ix ix_list (pv 8) (pe_op op_mod (pe_op op_fdiv (pv 0) (pe_int)) (pe_int)) (fun _ _ => rfl)))
      (pss_cons (ps_mid (ps_if (PW.pt (pw_and (pt_cmpR op_eq (pe_op op_mod (pv 0) (pe_int)) (pe_int) (nomark _)) (pw_and1 (pt_cmpR op_notIn_seq (pv 9) (pv 7) rfl)))) (pss_one (ps_asg (pv 9) (pg_sub (pv 7) (pe_int) set_list))) (pss_nil)))
      (pss_cons (ps_mid (ps_if (PW.pt (pw_and (pt_cmpR op_gt (pv 1) (pe_int) (nomark _)) (pw_and (pt_cmpR op_eq (pe_op op_mod (pv 0) (pe_int)) (pe_int) (nomark _)) (pw_and1 (pt_cmpR op_notIn_seq (pe_slice sl_last (pe_ix ix_list (pv 7) (pe_int) (fun _ _ => rfl)) po_none (po_some (pe_un un_neg pe_int))) (pe_op op_cat (pv 7) (pe_lst (pa_cons (pe_str) (pa_nil)))) rfl))))) (pss_one (ps_asg (pe_slice sl_last (pe_ix ix_list (pv 7) (pe_int) (fun _ _ => rfl)) po_none (po_some (pe_un un_neg pe_int))) (pg_sub (pv 7) (pe_int) set_list))) (pss_nil)))
      (pss_one (ps_ret (pv 7)))))))))))), ?_⟩
   refine ⟨_, rfl, _, _, rfl, rfl, ⟨by decide, by decide⟩, ?_⟩
   have m0 := Int.emod_nonneg (c / 6) (show (8 : Int) ≠ 0 by decide)
   have m8 := Int.emod_lt_of_pos (c / 6) (show (0 : Int) < 8 by decide)
   refine ⟨_, rfl, _, _, rfl, rfl, ⟨by decide, by decide⟩, _, _, rfl, rfl, (by show (0 : Int) < _; decide), _, rfl, by omega, by omega, ?_⟩
   refine for_range (fun i σ H' => H = H' ∧ ∃ (t : List Nat) (r : Int) (x5 : Option V), σ = [some (.int c), some (.int n), some (.str alpha), some (.int r), some (.str (S t)), x5, none, none, none, none] ∧ t.length = i ∧ Lo t) ⟨rfl, [], _, _, rfl, rfl, fun c hc => by cases hc⟩ (fun i σ H1 hi hP => ?_) (fun σ H1 hP => ?_)
   · obtain ⟨rfl, t, r, x5, rfl, lt, lo⟩ := hP
     have h0 := Int.emod_nonneg r (show (26 : Int) ≠ 0 by decide)
     have h1 := Int.emod_lt_of_pos r (show (0 : Int) < 26 by decide)
     refine ⟨_, rfl, _, rfl, _, rfl, _, _, rfl, rfl, (by show (0 : Int) < _; decide), alpha, _, _, rfl, rfl, alpha_len, alpha_at h0 h1, _, _, rfl, rfl, ?_, ?_⟩
     · show (S t).length + 1 ≤ sizeLine
       rw [S_len]
       exact Nat.le_of_lt (small1000 (by omega))
     refine ⟨_, rfl, _, _, rfl, rfl, ⟨by decide, by decide⟩, rfl, t ++ [97 + (r % 26).toNat], r / 26, some (.int (0 + (i : Int))), ?_, by simp [lt], fun c hc => ?_⟩
     · rw [← S_app]
       rfl
     · rcases List.mem_append.mp hc with x | x
       · exact lo c x
       · rw [List.mem_singleton.mp x]; omega
   obtain ⟨rfl, t, r, x5, rfl, lt, lo⟩ := hP
   have t7 : t.length ≤ 7 := by omega
   refine ⟨_, rfl, _, rfl, by omega, by omega, fun d1 hd1 => ?_⟩
   have en : ((n : Int)).toNat = n := Int.toNat_natCast n
   rw [en]
   refine ⟨fun i H' => Same H H' ∧ H' d1 = some (.lst (((List.range i).map fun k => S [hd r k]).map V.str)), ⟨same_newO hd1 _, upd_same⟩, fun i H' hi hP => ?_, fun H1 hP => ?_⟩
   · obtain ⟨s1, hz⟩ := hP
     have ei : (0 : Int) + (i : Int) = (i : Int) := by omega
     rw [ei]
     have h0 := Int.emod_nonneg (r + 7 * (i : Int)) (show (26 : Int) ≠ 0 by decide)
     have h1 := Int.emod_lt_of_pos (r + 7 * (i : Int)) (show (0 : Int) < 26 by decide)
     refine turn_all ⟨_, rfl, _, rfl, _, rfl, _, _, rfl, rfl, .inl ⟨by decide, by decide⟩, _, _, rfl, rfl, _, _, rfl, rfl, (by show (0 : Int) < _; decide), alpha, _, _, rfl, rfl, alpha_len, alpha_at h0 h1, _, hz, ?_, same_upd hd1 s1, ?_⟩
     · rw [List.length_map, List.length_map, List.length_range]; exact small1000 (by omega)
     · rw [upd_same, List.range_succ, List.map_append, List.map_append]; rfl
   obtain ⟨s1, g1⟩ := hP
   obtain ⟨b, hb⟩ : ∃ b : Bool, b = decide (c % 2 = 1) := ⟨_, rfl⟩
   refine ⟨_, rfl, d1, _, rfl, SqL.of g1, fun d hd' => ?_⟩
   refine ⟨fun i H' => Same H1 H' ∧ H' d = some (.lst ((nms b t r i).map V.str)), ⟨same_newO hd' _, upd_same⟩, fun i H' _ hP => SqL.of (hP.1 _ _ g1), fun i x H' hx hP => ?_, fun H2 hP => ?_⟩
   · obtain ⟨s2, hz⟩ := hP
     rw [List.map_map] at hx
     have il : i < n := by have := (List.getElem?_eq_some_iff.mp hx).1; rw [List.length_map, List.length_range] at this; exact this
     rw [List.getElem?_map, List.getElem?_range il] at hx
     have ex : x = .str (S [hd r i]) := (Option.some.inj hx).symm
     subst ex
     have hl : ∀ a b : List Nat, a.length + b.length ≤ 8 → (S a).length + (S b).length ≤ sizeLine := fun a b h => by rw [S_len, S_len]; exact Nat.le_of_lt (small1000 (by omega))
     have l1 : [hd r i].length = 1 := rfl
     refine turn_all ⟨_, rfl, _, rfl, _, _, rfl, rfl, hl _ _ (by omega), _, rfl, _, rfl, _, _, rfl, rfl, hl _ _ (by omega), (by show 2 ≤ sizeLine; decide), fun o ho => ?_⟩
     have hat : atI [V.str (S [hd r i] ++ S t), .str (S t ++ S [hd r i])] (c % 2) = some (.str (S (nm1 b t (hd r i)))) := by
       have h : c % 2 = 0 ∨ c % 2 = 1 := by omega
       rw [hb]
       unfold nm1
       rcases h with h | h
       · rw [h, decide_eq_false (by decide), if_neg Bool.false_ne_true, S_app]
         rfl
       · rw [h, decide_eq_true rfl, if_pos rfl, S_app, S_app]
         rfl
     have s3 := s2.trans (same_newO ho (.lst [V.str (S [hd r i] ++ S t), .str (S t ++ S [hd r i])]))
     refine ⟨_, rfl, _, _, rfl, rfl, (by show (0 : Int) < _; decide), o, _, _, _, rfl, rfl, SqL.of upd_same, hat, _, same_newO ho _ _ _ hz, ?_, same_upd hd' s3, ?_⟩
     · rw [List.length_map]; unfold nms; rw [List.length_map, List.length_range]; exact small1000 (by omega)
     · rw [upd_same]; unfold nms; rw [List.range_succ, List.map_append, List.map_append]; rfl
   obtain ⟨s2, g2⟩ := hP
   rw [List.length_map, List.length_map, List.length_range] at g2
   have s02 := s1.trans s2
   have hdn : H d = none := none_bk s1 hd'
   refine ⟨by show 12 ≤ 1000; decide, fun o H3 s3 ho g3 => ?_⟩
   have w0 := Int.emod_nonneg (c / 35) (show (12 : Int) ≠ 0 by decide)
   have w12 := Int.emod_lt_of_pos (c / 35) (show (0 : Int) < 12 by decide)
   obtain ⟨wd, hwd, hat⟩ : ∃ wd, wd ∈ wds ∧ atI (wds.map V.str) (c / 35 % 12) = some (.str wd) := by
     obtain ⟨k, hk⟩ : ∃ k : Nat, c / 35 % 12 = k := ⟨(c / 35 % 12).toNat, by omega⟩
     have lk : k < wds.length := by show k < 12; omega
     refine ⟨wds[k], List.getElem_mem lk, ?_⟩
     rw [hk]
     exact atI_nat (by rw [List.getElem?_map, List.getElem?_eq_getElem lk]; rfl)
   generalize hz0 : nms b t r n = zs0 at g2
   have nd0 : zs0.Nodup := hz0 ▸ nms_nd n24
   have ok0 : ∀ z ∈ zs0, Nm 8 z := hz0 ▸ nms_ok t7 lo
   have ln0 : zs0.length = n := by rw [← hz0]; unfold nms; rw [List.length_map, List.length_range]
   have s03 := s02.trans s3
   have g4 := s3 _ _ g2
   refine ⟨_, rfl, _, rfl, _, _, rfl, rfl, ⟨by decide, by decide⟩, _, _, rfl, rfl, (by show (0 : Int) < _; decide), o, _, _, _, rfl, rfl, SqL.of g3, hat, ?_⟩
   have len0 : ∀ {zs : List Str}, zs.length = n → ixN (zs.map V.str).length 0 = some 0 := fun h => by
     unfold ixN
     rw [if_pos (by decide), if_pos (by rw [List.length_map, h]; omega)]
     rfl
   refine ⟨fun σ' H' => ∃ zs : List Str, σ' = [some (.int c), some (.int n), some (.str alpha), some (.int r), some (.str (S t)), x5, some (.ref d1), some (.ref d), some (.ref o), some (.str wd)] ∧ Same H H' ∧ H' d = some (.lst (zs.map V.str)) ∧ zs.length = n ∧ zs.Nodup ∧ ∀ z ∈ zs, Nm 8 z, ?_, ?_⟩
   · refine ⟨_, rfl, _, _, rfl, rfl, (by show (0 : Int) < _; decide), rfl, _, rfl, ite2 (fun _ => ?_) (fun _ => ⟨zs0, rfl, s03, g4, ln0, nd0, ok0⟩)⟩
     refine ⟨_, rfl, _, rfl, d, _, rfl, .inl (SqL.of g4), rfl, flat_strs _, _, rfl, ite2 (fun hc => ?_) (fun _ => ⟨zs0, rfl, s03, g4, ln0, nd0, ok0⟩)⟩
     rw [in_strs] at hc
     have ni : wd ∉ zs0 := fun x => by rw [decide_eq_true x] at hc; cases hc
     refine ⟨_, rfl, _, rfl, d, _, _, 0, rfl, rfl, g4, len0 ln0, zs0.set 0 wd, rfl, same_upd hdn s03, ?_, by rw [List.length_set]; exact ln0, nd_set nd0 ni, fun z hz => ?_⟩
     · rw [upd_same, List.map_set]
     · rcases List.mem_or_eq_of_mem_set hz with x | x
       · exact ok0 z x
       · rw [x]; exact wds_ok wd hwd
   rintro σ' H4 ⟨zs, rfl, s4, g5, ln, nd, ok⟩
   refine ⟨fun σ' H' => ∃ zs : List Str, σ' = [some (.int c), some (.int n), some (.str alpha), some (.int r), some (.str (S t)), x5, some (.ref d1), some (.ref d), some (.ref o), some (.str wd)] ∧ Same H H' ∧ H' d = some (.lst (zs.map V.str)) ∧ zs.length = n ∧ zs.Nodup ∧ ∀ z ∈ zs, Nm 8 z, ?_, ?_⟩
   · obtain ⟨z0, hz0⟩ : ∃ z0, zs[0]? = some z0 := ⟨zs[0]'(by omega), List.getElem?_eq_getElem (by omega)⟩
     have N0 := ok z0 (List.mem_of_getElem? hz0)
     have a0 : atI (zs.map V.str) 0 = some (.str z0) := atI_nat (j := 0) (by rw [List.getElem?_map, hz0]; rfl)
     have zl1 : 1 ≤ z0.length := by have := N0.l1; rw [Array.length_toList] at this; exact this
     have zl2 : z0.length ≤ sizeLine := Nat.le_of_lt (small1000 (by have := N0.l8; rw [Array.length_toList] at this; show z0.cps.size ≤ 1000; omega))
     refine ⟨_, rfl, _, _, rfl, rfl, _, rfl, ite2 (fun n1' => ?_) (fun _ => ⟨zs, rfl, s4, g5, ln, nd, ok⟩)⟩
     refine ⟨_, rfl, _, _, rfl, rfl, (by show (0 : Int) < _; decide), rfl, _, rfl, ite2 (fun _ => ?_) (fun _ => ⟨zs, rfl, s4, g5, ln, nd, ok⟩)⟩
     refine ⟨_, rfl, d, _, _, _, rfl, rfl, SqL.of g5, a0, _, rfl, _, rfl, z0, rfl, rfl, rfl, zl1, zl2, ?_⟩
     refine ⟨_, rfl, (by show 1 ≤ sizeLine; decide), fun p hp => ?_⟩
     have s5 := same_newO hp (.lst [V.str (Str.ofString "")])
     refine ⟨d, p, _, _, rfl, rfl, s5 _ _ g5, upd_same, Nat.le_of_lt (small1000 (by rw [List.length_map]; show zs.length + 1 ≤ 1000; omega)), fun p2 hp2 => ?_⟩
     have s6 := s5.trans (same_newO hp2 (.lst (zs.map V.str ++ [V.str (Str.ofString "")])))
     have ec : zs.map V.str ++ [V.str (Str.ofString "")] = (zs ++ [Str.ofString ""]).map V.str := by rw [List.map_append]; rfl
     have s46 := s4.trans s6
     have g6 := s6 _ _ g5
     refine ⟨p2, _, rfl, .inl (SqL.of upd_same), rfl, by rw [ec]; exact flat_strs _, _, rfl, ite2 (fun hc => ?_) (fun _ => ⟨zs, rfl, s46, g6, ln, nd, ok⟩)⟩
     rw [ec, in_strs] at hc
     have ni : (⟨z0.cps.toList.dropLast.toArray⟩ : Str) ∉ zs ++ [Str.ofString ""] := fun x => by rw [decide_eq_true x] at hc; cases hc
     have n2 : 1 < n := by have := of_decide_eq_true n1'; omega
     have i1 : ixN (zs.map V.str).length 1 = some 1 := by
       unfold ixN
       rw [if_pos (by decide), if_pos (by rw [List.length_map, ln]; omega)]
       rfl
     refine ⟨_, rfl, d, _, _, _, rfl, rfl, SqL.of g6, a0, _, rfl, _, rfl, z0, rfl, rfl, rfl, zl1, zl2, _, rfl, d, _, _, 1, rfl, rfl, g6, i1, zs.set 1 ⟨z0.cps.toList.dropLast.toArray⟩, rfl, same_upd hdn s46, ?_, by rw [List.length_set]; exact ln, nd_set nd (fun x => ni (List.mem_append_left _ x)), fun z hz => ?_⟩
     · rw [upd_same, List.map_set]
     · rcases List.mem_or_eq_of_mem_set hz with x | x
       · exact ok z x
       · rw [x]
         have e : (⟨z0.cps.toList.dropLast.toArray⟩ : Str).cps.toList = z0.cps.toList.dropLast := List.toList_toArray
         refine ⟨?_, ?_, ?_⟩ <;> rw [e]
         · rcases Nat.eq_zero_or_pos z0.cps.toList.dropLast.length with y | y
           · exfalso
             refine ni (List.mem_append_right _ (List.mem_singleton.mpr ?_))
             rw [List.length_eq_zero_iff.mp y]
             rfl
           · exact y
         · rw [List.length_dropLast]; exact Nat.le_trans (Nat.sub_le _ _) N0.l8
         · exact fun c hc => N0.lo c (List.dropLast_subset _ hc)
   rintro σ' H5 ⟨zs, rfl, s5, g6, ln, nd, ok⟩
   exact ⟨_, rfl, qq d zs H5 s5 hdn g6 ln nd ok⟩
  exact key stW rfl
end
end K92
set_option Elab.async false
set_option linter.all false
set_option maxRecDepth 100000
namespace K92
open PySem L2
def Bo (ns : List Int) : Prop := ∀ x ∈ ns, 1 ≤ x ∧ x ≤ B30
structure Bk (sg : List Str) (ps : List Int) (nm : List Str) (ws : List Int) : Prop where
  ls : sg.length = ps.length
  ln : nm.length = ws.length
  l2 : 2 ≤ ps.length
  l6 : ps.length ≤ 6
  n1 : 1 ≤ ws.length
  n24 : ws.length ≤ 24
  os : ∀ z ∈ sg, Nm 1 z
  on : ∀ z ∈ nm, Nm 8 z
  ds : sg.Nodup
  dn : nm.Nodup
  bp : Bo ps
  bw : Bo ws
theorem Nm.le {m : Nat} {z : Str} (h : Nm 1 z) (hm : 1 ≤ m) : Nm m z := ⟨h.l1, Nat.le_trans h.l8 hm, h.lo⟩
theorem Nm.len {m : Nat} {z : Str} (h : Nm m z) : z.length ≤ m := by have := h.l8; rw [Array.length_toList] at this; exact this
def kL : Str := Str.ofString "letter "
def kT : Str := Str.ofString "thing "
theorem l_kL : kL.length = 7 := by decide +kernel
theorem l_kT : kT.length = 6 := by decide +kernel
theorem l_sp : sp.length = 1 := by decide +kernel
theorem l_nl : nl.length = 1 := by decide +kernel
def r0 (k z : Str) (n : Int) : Str := k ++ z ++ sp ++ nS n
def rwS (k z : Str) (n : Int) : Str := r0 k z n ++ nl
def rowsS (sg : List Str) (ps : List Int) (nm : List Str) (ws : List Int) : List Str := List.zipWith (rwS kL) sg ps ++ List.zipWith (rwS kT) nm ws
def bookS (sg : List Str) (ps : List Int) (nm : List Str) (ws : List Int) : Str := Str.join Str.empty (rowsS sg ps nm ws)
theorem S_emp (z : Str) : Str.empty ++ z = z := by
  show (⟨#[] ++ z.cps⟩ : Str) = z
  rw [Array.empty_append]
theorem nS_len {n : Int} (h : n ≤ B30) : (nS n).length ≤ 31 := by
  show (S (dg n)).length ≤ _
  rw [S_len]
  exact dg_len h
theorem lg {n : Int} (h0 : 1 ≤ n) (h1 : n ≤ B30) : n.natAbs.log2 < 1920 := by
  rw [Nat.log2_lt (by omega)]
  have : B30 < 2 ^ 100 := by unfold B30; decide
  have h2 : n.natAbs < 2 ^ 100 := by omega
  exact Nat.lt_trans h2 (Nat.pow_lt_pow_right (by decide) (by decide))
theorem ok200 {z : Str} (h : z.length ≤ 200) : z.length ≤ sizeLine := Nat.le_of_lt (small1000 (by omega))
theorem zip_at {α β γ : Type} {f : α → β → γ} {xs : List α} {ys : List β} {i : Nat} {x : α} {y : β} (hx : xs[i]? = some x) (hy : ys[i]? = some y) : (List.zipWith f xs ys)[i]? = some (f x y) := by rw [List.getElem?_zipWith, hx, hy]
theorem row_len {k z : Str} {n : Int} (hk : k.length ≤ 7) (hz : z.length ≤ 8) (hn : n ≤ B30) : (rwS k z n).length ≤ 60 := by
  have := nS_len hn
  unfold rwS r0
  simp only [Str.length_append, l_sp, l_nl]
  omega
theorem zip_len {k : Str} {zs : List Str} {ns : List Int} (hk : k.length ≤ 7) (hz : ∀ z ∈ zs, Nm 8 z) (hn : Bo ns) : ∀ r ∈ List.zipWith (rwS k) zs ns, r.length ≤ 60 := fun r hr => by
  obtain ⟨i, hi⟩ := List.mem_iff_getElem?.mp hr
  rw [List.getElem?_zipWith] at hi
  cases hx : zs[i]? with
  | none => rw [hx] at hi; cases hi
  | some z =>
    cases hy : ns[i]? with
    | none => rw [hx, hy] at hi; cases hi
    | some n =>
      rw [hx, hy] at hi
      have e : rwS k z n = r := Option.some.inj hi
      rw [← e]
      exact row_len hk (hz z (List.mem_of_getElem? hx)).len (hn n (List.mem_of_getElem? hy)).2
theorem Bk.rows_le {sg nm : List Str} {ps ws : List Int} (B : Bk sg ps nm ws) : (∀ r ∈ rowsS sg ps nm ws, r.length ≤ 60) ∧ (rowsS sg ps nm ws).length ≤ 30 := by
  constructor
  · intro r hr
    rcases List.mem_append.mp hr with h | h
    · exact zip_len (by rw [l_kL]; decide) (fun z hz => (B.os z hz).le (by decide)) B.bp r h
    · exact zip_len (by rw [l_kT]; decide) B.on B.bw r h
  · unfold rowsS
    rw [List.length_append, List.length_zipWith, List.length_zipWith]
    have := B.l6
    have := B.n24
    omega
theorem cps_app (a b : Str) : (a ++ b).cps.toList = a.cps.toList ++ b.cps.toList := by
  show (a.cps ++ b.cps).toList = _
  rw [Array.toList_append]
theorem sp_c : sp.cps.toList = [32] := by decide +kernel
theorem nl_c : nl.cps.toList = [10] := by decide +kernel
theorem kL_is : kL = tL ++ sp := by decide +kernel
theorem kT_is : kT = tT ++ sp := by decide +kernel
theorem join_e : ∀ zs : List Str, (Str.join Str.empty zs).cps.toList = (zs.map fun z => z.cps.toList).flatten
  | [] => rfl
  | [a] => by show a.cps.toList = a.cps.toList ++ []; rw [List.append_nil]
  | a :: b :: r => by
    have ih := join_e (b :: r)
    show (a ++ Str.empty ++ Str.join Str.empty (b :: r)).cps.toList = a.cps.toList ++ ((b :: r).map fun z => z.cps.toList).flatten
    rw [cps_app, cps_app, ih]
    show a.cps.toList ++ [] ++ _ = _
    rw [List.append_nil]
theorem flat_nl (c : Nat) : ∀ ls : List (List Nat), (ls.map (· ++ [c])).flatten = jn c (ls ++ [[]])
  | [] => rfl
  | [a] => by simp [jn]
  | a :: b :: r => by
    have ih := flat_nl c (b :: r)
    show a ++ [c] ++ ((b :: r).map (· ++ [c])).flatten = a ++ c :: jn c (b :: r ++ [[]])
    rw [ih]
    simp
theorem nmB_is {m : Nat} {z : Str} (h : nmB m z = true) : Nm m z := by
  unfold nmB at h
  simp only [Bool.and_eq_true, decide_eq_true_eq] at h
  have e : z.cps.toList.length = z.length := Array.length_toList
  exact ⟨by omega, by omega, fun c hc => of_decide_eq_true (List.all_eq_true.mp h.2.2 c hc)⟩
theorem amsB_is {lo hi : Nat} {ns : List Int} (h : amsB lo hi ns = true) : lo ≤ ns.length ∧ ns.length ≤ hi ∧ Bo ns := by
  unfold amsB at h
  simp only [Bool.and_eq_true, decide_eq_true_eq] at h
  refine ⟨h.1, h.2.1, fun x hx => ?_⟩
  have := List.all_eq_true.mp h.2.2 x hx
  unfold amB at this
  simp only [Bool.and_eq_true, decide_eq_true_eq] at this
  exact this
theorem row_back {k z : Str} {m : Nat} {p : Str} (h : rwB k m (Txt.split p sp) = true) : p = r0 (k ++ sp) (k1 (Txt.split p sp)) (num (k2 (Txt.split p sp))) := by
  obtain ⟨b, c, e, _, nu⟩ := rwB_is h
  rw [e]
  show p = r0 (k ++ sp) b (num c)
  have j := jn_is 32 (Txt.split p ⟨#[32]⟩)
  rw [StrLaws.join_split, ← sp_is, e] at j
  have e2 : (r0 (k ++ sp) b (num c)).cps.toList = p.cps.toList := by
    rw [j]
    unfold r0
    rw [cps_app, cps_app, cps_app, cps_app, sp_c, show (nS (num c)).cps.toList = dg (num c) from S_cps _, nuB_back nu]
    simp [jn]
  rw [← S_of p, ← e2, S_of]
theorem zip_map {k : Str} : ∀ {pcs : List Str}, (List.zipWith (rwS k) ((pcs.map fun p => Txt.split p sp).map k1) ((pcs.map fun p => Txt.split p sp).map fun r => num (k2 r))) = pcs.map fun p => rwS k (k1 (Txt.split p sp)) (num (k2 (Txt.split p sp)))
  | [] => rfl
  | p :: pcs => by
    show _ :: _ = _ :: _
    rw [← zip_map (pcs := pcs)]
theorem res_book {z : Str} {sg nm : List Str} {ps ws : List Int} (h : res z = .book sg ps nm ws) : Bk sg ps nm ws ∧ bookS sg ps nm ws = z := by
  unfold res at h
  split at h
  · cases h
  · rename_i bn
    split at h
    · rename_i nd
      split at h
      · rename_i a1
        split at h
        · rename_i a2
          obtain ⟨b1, la⟩ := badRow_none bn
          obtain ⟨ls, ts, ers, hls, hts⟩ := badF b1
          have eL : lettersZ z = ls := by unfold lettersZ; rw [ers]; exact (flt_two hls hts).1
          have eT : thingsZ z = ts := by unfold thingsZ; rw [ers]; exact (flt_two hls hts).2
          rw [eL, eT] at h nd
          rw [eL] at a1
          rw [eT] at a2
          cases h
          obtain ⟨p1, p2, p3⟩ := amsB_is a1
          obtain ⟨w1, w2, w3⟩ := amsB_is a2
          refine ⟨⟨by rw [List.length_map, List.length_map], by rw [List.length_map, List.length_map], p1, p2, w1, w2, fun x hx => ?_, fun x hx => ?_, nd.1, nd.2, p3, w3⟩, ?_⟩
          · obtain ⟨r, hr, rfl⟩ := List.mem_map.mp hx
            obtain ⟨b, c, e, n, _⟩ := rwB_is (hls r hr)
            rw [e]
            exact nmB_is n
          · obtain ⟨r, hr, rfl⟩ := List.mem_map.mp hx
            obtain ⟨b, c, e, n, _⟩ := rwB_is (hts r hr)
            rw [e]
            exact nmB_is n
          · -- the text
            have j := jn_is 10 (Txt.split z ⟨#[10]⟩)
            rw [StrLaws.join_split, ← nl_is] at j
            have ne : Txt.split z nl ≠ [] := fun e => by
              have := PyProof.Rows.split_pos z nl
              rw [e] at this
              exact absurd this (by decide)
            have gl := getLast_is ne
            rw [show (Txt.split z nl).getLastD Str.empty = Str.empty from la] at gl
            have ez : rowsZ z = (Txt.split z nl).dropLast.map fun p => Txt.split p sp := rfl
            rw [ez] at ers
            generalize (Txt.split z nl).dropLast = pcs at gl ers
            rw [gl] at j
            obtain ⟨pl, pt, rfl, e1, e2⟩ := List.map_eq_append_iff.mp ers
            subst e1 e2
            have rl : ∀ p ∈ pl, rwS kL (k1 (Txt.split p sp)) (num (k2 (Txt.split p sp))) = p ++ nl := fun p hp => by
              unfold rwS
              rw [kL_is, ← row_back (z := z) (hls _ (List.mem_map.mpr ⟨p, hp, rfl⟩))]
            have rt : ∀ p ∈ pt, rwS kT (k1 (Txt.split p sp)) (num (k2 (Txt.split p sp))) = p ++ nl := fun p hp => by
              unfold rwS
              rw [kT_is, ← row_back (z := z) (hts _ (List.mem_map.mpr ⟨p, hp, rfl⟩))]
            have er : rowsS ((pl.map fun p => Txt.split p sp).map k1) ((pl.map fun p => Txt.split p sp).map fun r => num (k2 r)) ((pt.map fun p => Txt.split p sp).map k1) ((pt.map fun p => Txt.split p sp).map fun r => num (k2 r)) = (pl ++ pt).map (· ++ nl) := by
              unfold rowsS
              rw [zip_map, zip_map, List.map_append, List.map_congr_left rl, List.map_congr_left rt]
            unfold bookS
            rw [er]
            have e3 : (Str.join Str.empty ((pl ++ pt).map (· ++ nl))).cps.toList = z.cps.toList := by
              rw [join_e, j, List.map_map, List.map_append (l₂ := [Str.empty])]
              show _ = jn 10 ((pl ++ pt).map (fun z => z.cps.toList) ++ [[]])
              rw [← flat_nl, List.map_map]
              congr 1
              refine List.map_congr_left fun p _ => ?_
              show (p ++ nl).cps.toList = p.cps.toList ++ [10]
              rw [cps_app, nl_c]
            rw [← S_of (Str.join Str.empty ((pl ++ pt).map (· ++ nl))), e3, S_of]
        · cases h
      · cases h
    · cases h
theorem turnZ_all {te : TE} {σ : St} {d : Addr} {x y : V} {H : Hp} {Z : Hp → Prop} (h : te (some x :: some y :: σ) H fun v H4 => ∃ ys, H4 d = some (.lst ys) ∧ ys.length < sizeLine ∧ Z (upd H4 d (.lst (ys ++ [v])))) : turnZ tTrue te σ d x y H Z := by
  show (if true = true then (te (some x :: some y :: σ) H fun v H4 => ∃ ys, H4 d = some (.lst ys) ∧ ys.length < sizeLine ∧ Z (upd H4 d (.lst (ys ++ [v])))) else Z H)
  rw [if_pos rfl]
  exact h
section
variable {P : Program} {w : World} {K : PySem.W.Frag} {mg : Str → Option Value} {base : Heap} {f : Addr} {fd : FuncData}
theorem b_str : bootBuiltins "str" = some (.type "str") := by decide +kernel
abbrev NBT : List Str := ["signs", "prices", "names", "weights", "rows"]
abbrev PBT : List Str := ["signs", "prices", "names", "weights"]
def spBT : Sp := fun vs H Q _ => ∃ (a b c d : Addr) (sg : List Str) (ps : List Int) (nm : List Str) (ws : List Int), vs = [.ref a, .ref b, .ref c, .ref d] ∧ H a = some (.tup (sg.map V.str)) ∧ H b = some (.tup (ps.map V.int)) ∧ H c = some (.tup (nm.map V.str)) ∧ H d = some (.tup (ws.map V.int)) ∧ Bk sg ps nm ws ∧ ∀ H', Same H H' → Q (.str (bookS sg ps nm ws)) H'
theorem scBT : FnScope NBT PBT (defScope sBT) := ⟨rfl, rfl, rfl, by decide +kernel, rfl, by decide +kernel, by decide +kernel⟩
theorem ndBT1 : (("sign" : Str) :: ("price" : Str) :: NBT).Nodup := by decide +kernel
theorem ndBT2 : (("name" : Str) :: ("weight" : Str) :: NBT).Nodup := by decide +kernel
theorem one_row {k z : Str} {n : Int} (hk : k.length ≤ 7) (hz : z.length ≤ 8) (h1 : 1 ≤ n) (hn : n ≤ B30) : (Str.empty ++ k).length ≤ sizeLine ∧ (Str.empty ++ k ++ z).length ≤ sizeLine ∧ (Str.empty ++ k ++ z ++ sp).length ≤ sizeLine ∧ (Str.empty ++ k ++ z ++ sp ++ Str.ofString (toString n)).length ≤ sizeLine ∧ (Str.empty ++ k ++ z ++ sp ++ Str.ofString (toString n) ++ nl).length ≤ sizeLine ∧ Str.empty ++ k ++ z ++ sp ++ Str.ofString (toString n) ++ nl = rwS k z n := by
  have := nS_len hn
  rw [S_emp, nS_is (show 0 ≤ n by omega)]
  refine ⟨ok200 (by omega), ok200 ?_, ok200 ?_, ok200 ?_, ok200 ?_, rfl⟩ <;> simp only [Str.length_append, l_sp, l_nl] <;> omega
set_option maxHeartbeats 16000000 in
theorem ok_bt (F : Fun K "book_text" "book_text" sBT f fd) (mz : mg "zip" = none) : FnOk P w K mg base CX0 1 f fd PBT spBT := by
  refine F.ok (k := 0) scBT (fun vs H Q E h => ?_) (fun cdv A outer s H vs Q E hr h => ?_)
  · obtain ⟨a, b, c, d, sg, ps, nm, ws, rfl, _⟩ := h
    rfl
  obtain ⟨a, b, c, d, sg, ps, nm, ws, rfl, ha, hb, hc, hd, B, qq⟩ := h
  refine ⟨_, pss_cons (ps_compZ (i := 4) K true true (M := NBT) scBT.nd rfl rfl rfl (CompScope.of (defScope sBT) NBT rfl rfl rfl (by decide +kernel) (by decide +kernel) (by decide +kernel) rfl (by decide +kernel)) ndBT1 rfl rfl (by rfl) mz (pa_cons (pv 0) (pa_cons (pv 1) (pa_nil))) (mo_cons mo_var (mo_cons mo_var mo_nil)) (fun cl C s0 H0 fp => ⟨pts_nil, pe_joined (pj_cons pe_str (pj_cons (pe_fmt (pv 0)) (pj_cons pe_str (pj_cons (pe_fmt (pv 1)) (pj_cons pe_str pj_nil)))))⟩))
      (pss_cons (ps_expr (pe_bm PySem.F.plainAttrs_list PySem.F.slot_list_extend PySem.F.type_list_extend mt_extend (pv 4) (pa_cons (pe_compZ K true true (M := NBT) rfl (CompScope.of (defScope sBT) NBT rfl rfl rfl (by decide +kernel) (by decide +kernel) (by decide +kernel) rfl (by decide +kernel)) ndBT2 rfl rfl (by rfl) mz (pa_cons (pv 2) (pa_cons (pv 3) (pa_nil))) (mo_cons mo_var (mo_cons mo_var mo_nil)) (fun cl C s0 H0 fp pins σ bk => ⟨pts_nil, pe_joined (pj_cons pe_str (pj_cons (pe_fmt (pv 0)) (pj_cons pe_str (pj_cons (pe_fmt (pv 1)) (pj_cons pe_str pj_nil)))))⟩)) (pa_nil))))
      (pss_one (ps_ret (pe_bm PySem.F.plainAttrs_str PySem.F.slot_str_join PySem.F.type_str_join mt_join (pe_str) (pa_cons (pv 4) (pa_nil)))))), ?_⟩
  refine ⟨_, rfl, _, rfl, a, b, _, _, rfl, SqT.of ha, SqT.of hb, by rw [List.length_map, List.length_map]; exact B.ls, fun l hl => ?_⟩
  refine ⟨fun i H' => Same H H' ∧ H' l = some (.lst (((List.zipWith (rwS kL) sg ps).take i).map V.str)), ⟨same_newO hl _, upd_same⟩, fun i H' _ hP => ⟨SqT.of (hP.1 _ _ ha), SqT.of (hP.1 _ _ hb)⟩, fun i x y p H' hx hy hP hp => ?_, fun H1 hP => ?_⟩
  · obtain ⟨s1, hz⟩ := hP
    rw [List.getElem?_map] at hx hy
    obtain ⟨z, hz1, rfl⟩ := Option.map_eq_some_iff.mp hx
    obtain ⟨n, hn1, rfl⟩ := Option.map_eq_some_iff.mp hy
    have Z := B.os z (List.mem_of_getElem? hz1)
    have N := B.bp n (List.mem_of_getElem? hn1)
    obtain ⟨l1, l2, l3, l4, l5, e5⟩ := one_row (k := kL) (z := z) (n := n) (by rw [l_kL]; decide) (Nat.le_trans Z.len (by decide)) N.1 N.2
    have il : i < 6 := by have := (List.getElem?_eq_some_iff.mp hn1).1; have := B.l6; omega
    refine turnZ_all ⟨_, rfl, l1, _, rfl, .inl ⟨_, rfl, ok200 (by have := Z.len; omega), _, rfl, l2, _, rfl, l3, _, rfl, .inr ⟨_, rfl, lg N.1 N.2, _, rfl, l4, _, rfl, l5, l5, ?_⟩⟩⟩
    refine ⟨_, same_newO hp _ _ _ hz, ?_, same_upd hl (s1.trans (same_newO hp _)), ?_⟩
    · rw [List.length_map, List.length_take]; exact small1000 (by omega)
    · rw [upd_same, List.take_add_one, zip_at hz1 hn1, List.map_append, ← e5]; rfl
  obtain ⟨s1, g1⟩ := hP
  have eT : (List.zipWith (rwS kL) sg ps).take (sg.map V.str).length = List.zipWith (rwS kL) sg ps := List.take_of_length_le (by rw [List.length_zipWith, List.length_map]; omega)
  rw [eT] at g1
  have ha1 := s1 _ _ ha
  have hc1 := s1 _ _ hc
  have hd1 := s1 _ _ hd
  refine ⟨_, rfl, .inl ⟨rfl, _, SqL.of g1⟩, _, rfl, _, rfl, c, d, _, _, rfl, SqT.of hc1, SqT.of hd1, by rw [List.length_map, List.length_map]; exact B.ln, fun l2 hl2 => ?_⟩
  refine ⟨fun i H' => Same H1 H' ∧ H' l2 = some (.lst (((List.zipWith (rwS kT) nm ws).take i).map V.str)), ⟨same_newO hl2 _, upd_same⟩, fun i H' _ hP => ⟨SqT.of (hP.1 _ _ hc1), SqT.of (hP.1 _ _ hd1)⟩, fun i x y p H' hx hy hP hp => ?_, fun H2 hP => ?_⟩
  · obtain ⟨s2, hz⟩ := hP
    rw [List.getElem?_map] at hx hy
    obtain ⟨z, hz1, rfl⟩ := Option.map_eq_some_iff.mp hx
    obtain ⟨n, hn1, rfl⟩ := Option.map_eq_some_iff.mp hy
    have Z := B.on z (List.mem_of_getElem? hz1)
    have N := B.bw n (List.mem_of_getElem? hn1)
    obtain ⟨l1, l2, l3, l4, l5, e5⟩ := one_row (k := kT) (z := z) (n := n) (by rw [l_kT]; decide) Z.len N.1 N.2
    have il : i < 24 := by have := (List.getElem?_eq_some_iff.mp hn1).1; have := B.n24; omega
    refine turnZ_all ⟨_, rfl, l1, _, rfl, .inl ⟨_, rfl, ok200 (by have := Z.len; omega), _, rfl, l2, _, rfl, l3, _, rfl, .inr ⟨_, rfl, lg N.1 N.2, _, rfl, l4, _, rfl, l5, l5, ?_⟩⟩⟩
    refine ⟨_, same_newO hp _ _ _ hz, ?_, same_upd hl2 (s2.trans (same_newO hp _)), ?_⟩
    · rw [List.length_map, List.length_take]; exact small1000 (by omega)
    · rw [upd_same, List.take_add_one, zip_at hz1 hn1, List.map_append, ← e5]; rfl
  obtain ⟨s2, g2⟩ := hP
  have eT2 : (List.zipWith (rwS kT) nm ws).take (nm.map V.str).length = List.zipWith (rwS kT) nm ws := List.take_of_length_le (by rw [List.length_zipWith, List.length_map]; omega)
  rw [eT2] at g2
  have R := B.rows_le
  have el : (List.zipWith (rwS kL) sg ps).map V.str ++ (List.zipWith (rwS kT) nm ws).map V.str = (rowsS sg ps nm ws).map V.str := by unfold rowsS; rw [List.map_append]
  refine ⟨l, l2, _, _, rfl, rfl, s2 _ _ g1, g2, ?_, ?_⟩
  · have e2 := congrArg List.length el
    rw [List.length_append] at e2
    rw [e2, List.length_map]
    exact Nat.le_of_lt (small1000 (by omega))
  rw [el]
  refine ⟨rfl, _, rfl, Str.empty, l, rowsS sg ps nm ws, 60, rfl, rfl, upd_same, R.1, ?_, qq _ (same_upd hl (s1.trans s2))⟩
  have : Str.empty.length = 0 := rfl
  rw [this]
  omega
end
end K92
set_option Elab.async false
set_option linter.all false
set_option maxRecDepth 100000
set_option maxHeartbeats 1000000
namespace L2
open PySem PySem.Spec PyProof.Rows
theorem vals_bools : ∀ {bs : List Bool} {its : List Value}, Vals (bs.map V.bl) its → its = bs.map Value.bool
  | [], _, .nil => rfl
  | b :: bs, _, .cons r t => by
    cases r
    rw [vals_bools t]
    rfl
def eB (b : Bool) : Value → Bool := fun z => match z with
  | .bool c => decide (c = b)
  | _ => false
def rCntB : V → List V → Hp → VK → Prop := fun x vs H Q => ∃ (l : Addr) (bs : List Bool) (b : Bool), x = .ref l ∧ vs = [.bl b] ∧ H l = some (.lst (bs.map V.bl)) ∧ Q (.int ((bs.countP fun c => decide (c = b) : Nat) : Int)) H
theorem mt_countB {X : Cx} : MtM X "list.count" rCntB := by
  intro pins s σ H x vs v us Q I rx rv h
  obtain ⟨l, bs, b, rfl, rfl, hH, q⟩ := h
  cases rx
  obtain ⟨y', rfl, ry⟩ := rv.one
  cases ry
  obtain ⟨z, its, n, r, hl, e0⟩ := I.lstM hH
  have ei := vals_bools r
  subst ei
  refine call_meets PySem.F.slot_list_count ⟨_, e0, rfl⟩ PySem.F.entry_list_count (PySem.F.args_list_count_2 _ _) (SeqAt.list_countAt l _ n _ _ _ (eB b)) ⟨e0, fun z hz => ?_, ?_⟩
  · have hz' : z ∈ bs.map Value.bool := by simpa using hz
    obtain ⟨c, _, rfl⟩ := List.mem_map.mp hz'
    have q := SeqAt.EqAt.bool_bool (A := X.A.in1) (s := s) c b
    rw [Bool.beq_eq_decide_eq] at q
    exact q
  · have ec : (bs.map Value.bool).toArray.toList.countP (eB b) = bs.countP fun c => decide (c = b) := by
      rw [List.toList_toArray, List.countP_map]
      rfl
    exact ⟨.int _, H, I.tok _, ⟨_, by rw [ec]⟩, q⟩
def rIdxB : V → List V → Hp → VK → Prop := fun x vs H Q => ∃ (l : Addr) (bs : List Bool) (b : Bool), x = .ref l ∧ vs = [.bl b] ∧ H l = some (.lst (bs.map V.bl)) ∧ b ∈ bs ∧ Q (.int ((bs.idxOf b : Nat) : Int)) H
theorem mt_indexB {X : Cx} : MtM X "list.index" rIdxB := by
  intro pins s σ H x vs v us Q I rx rv h
  obtain ⟨l, bs, b, rfl, rfl, hH, hm, q⟩ := h
  cases rx
  obtain ⟨y', rfl, ry⟩ := rv.one
  cases ry
  obtain ⟨z, its, n, r, hl, e0⟩ := I.lstM hH
  have ei := vals_bools r
  subst ei
  have hj : bs.idxOf b < bs.length := List.idxOf_lt_length_iff.mpr hm
  have at_ : ∀ m (h : m < bs.length), (bs.map Value.bool).toArray[m]'(by rw [List.size_toArray, List.length_map]; exact h) = .bool bs[m] := fun m h => by simp
  refine call_meets PySem.F.slot_list_index ⟨_, e0, rfl⟩ PySem.F.entry_list_index (PySem.F.args_list_index_2 _ _) (SeqAt.list_indexAt l _ n _ _ _ (eB b) (bs.idxOf b) (by rw [List.size_toArray, List.length_map]; exact hj) ?_ ?_ ?_) ⟨e0, fun z hz => ?_, ⟨.int _, H, I.tok _, ⟨_, rfl⟩, q⟩⟩
  · have : (sizeLine : Nat) < 2 ^ 62 := by decide
    rw [List.length_map] at hl z
    omega
  · rw [at_ _ hj]
    show decide (bs[bs.idxOf b] = b) = true
    rw [List.getElem_idxOf hj]
    exact decide_eq_true rfl
  · intro m hm' hlt
    rw [at_ m (by omega)]
    show decide (bs[m]'(by omega) = b) = false
    refine decide_eq_false fun e => ?_
    have hlt' : m < bs.findIdx (· == b) := hlt
    have := List.not_of_lt_findIdx hlt'
    rw [e] at this
    simp at this
  · have hz' : z ∈ bs.map Value.bool := by simpa using hz
    obtain ⟨c, _, rfl⟩ := List.mem_map.mp hz'
    have q := SeqAt.EqAt.bool_bool (A := X.A.in1) (s := s) c b
    rw [Bool.beq_eq_decide_eq] at q
    exact q
end L2
set_option Elab.async false
set_option linter.all false
set_option maxRecDepth 100000
namespace K92
open PySem L2
def kidAt (i : Nat) : Stmt → Stmt
  | .ClassDef _ _ _ b .. => b.getD i (.Pass ⟨0, 0, 0, 0⟩)
  | s => s
abbrev iDesk : Stmt := kidAt 0 (top 28)
abbrev mBook : Stmt := kidAt 1 (top 28)
structure DC (K : PySem.W.Frag) (C : Addr) : Prop where
  c : Cls K C
  n1 : NoAttr K C "signs"
  n2 : NoAttr K C "prices"
  n3 : NoAttr K C "names"
  n4 : NoAttr K C "weights"
  n5 : NoAttr K C "past"
abbrev fldD (b1 b2 b3 b4 l : Addr) : List (Str × V) := [("signs", .ref b1), ("prices", .ref b2), ("names", .ref b3), ("weights", .ref b4), ("past", .ref l)]
def DkAt (C : Addr) (H : Hp) (r : Addr) (sg : List Str) (ps : List Int) (nm : List Str) (ws : List Int) : Prop := ∃ dx b1 b2 b3 b4 l, H r = some (.ins C dx (fldD b1 b2 b3 b4 l)) ∧ H b1 = some (.tup (sg.map V.str)) ∧ H b2 = some (.tup (ps.map V.int)) ∧ H b3 = some (.tup (nm.map V.str)) ∧ H b4 = some (.tup (ws.map V.int))
section
variable {P : Program} {w : World} {K : PySem.W.Frag} {mg : Str → Option Value} {base : Heap} {f : Addr} {fd : FuncData}
def raises (CR CN CP CW : Addr) (z : Str) (H : Hp) (E : XK) : Prop := (∀ k, res z = .row k → ∀ dx H', Same H H' → H' dx = some (xdO dx [("at", .int ((k : Nat) : Int))]) → E (.ref CR) (some dx) H') ∧
  (res z = .name → ∀ H', Same H H' → E (.ref CN) none H') ∧ (res z = .prices → ∀ H', Same H H' → E (.ref CP) none H') ∧ (res z = .weights → ∀ H', Same H H' → E (.ref CW) none H')
theorem raises.same {CR CN CP CW : Addr} {z : Str} {H H1 : Hp} {E : XK} (s : Same H H1) (h : raises CR CN CP CW z H E) : raises CR CN CP CW z H1 E := ⟨fun k e dx H' s' hx => h.1 k e dx H' (s.trans s') hx, fun e H' s' => h.2.1 e H' (s.trans s'), fun e H' s' => h.2.2.1 e H' (s.trans s'), fun e H' s' => h.2.2.2 e H' (s.trans s')⟩
abbrev NDi : List Str := ["self", "text", "told"]
def spDi (C CR CN CP CW : Addr) : Sp := fun vs H Q E => ∃ (r dx : Addr) (z : Str), vs = [.ref r, .str z] ∧ H r = some (.ins C dx []) ∧ Asc z ∧ z.length ≤ 4000 ∧ raises CR CN CP CW z H E ∧
  ∀ sg ps nm ws, res z = .book sg ps nm ws → ∀ H', (∀ a o, a ≠ r → H a = some o → H' a = some o) → DkAt C H' r sg ps nm ws → Q .non H'
theorem scDi : FnScope NDi ["self", "text"] (defScope iDesk) := ⟨rfl, rfl, rfl, by decide +kernel, rfl, by decide +kernel, by decide +kernel⟩
set_option maxHeartbeats 8000000 in
theorem ok_di {C CR CN CP CW : Addr} (F : Fun K "__init__" "Desk.__init__" iDesk f fd) (dc : DC K C) (GR : Fns' P w K mg base ["text"] "read_book" (spRb CR CN CP CW) 4) : FnOk P w K mg base (CXF P w) 5 f fd ["self", "text"] (spDi C CR CN CP CW) := by
  refine F.okF (k := 4) scDi (fun vs H Q E h => ?_) (fun cdv A outer s H vs Q E hr h => ?_)
  · obtain ⟨r, dx, z, rfl, _⟩ := h
    rfl
  obtain ⟨r, dx, z, rfl, hr0, as, l4, R, qb⟩ := h
  refine ⟨_, pss_cons (ps_set (i := 2) scDi.nd rfl (Or.inl rfl) (pe_call GR.ok hr (by rfl) GR.m GR.kp GR.b .nil takes_def (pa_cons (pv 1) (pa_nil))))
      (pss_cons (ps_fld (pv 0) (pe_ix ix_tup (pv 2) (pe_int) (fun _ _ => rfl)) rfl)
      (pss_cons (ps_fld (pv 0) (pe_ix ix_tup (pv 2) (pe_int) (fun _ _ => rfl)) rfl)
      (pss_cons (ps_fld (pv 0) (pe_ix ix_tup (pv 2) (pe_int) (fun _ _ => rfl)) rfl)
      (pss_cons (ps_fld (pv 0) (pe_ix ix_tup (pv 2) (pe_int) (fun _ _ => rfl)) rfl)
      (pss_one (ps_fld (pv 0) (pe_lst (pa_nil)) rfl)))))), ?_⟩
  refine ⟨_, rfl, z, rfl, as, l4, R.1, R.2.1, R.2.2.1, R.2.2.2, fun sg ps nm ws er p H1 s1 bk => ?_⟩
  obtain ⟨b1, b2, b3, b4, h0, h1, h2, h3, h4⟩ := bk
  have hr1 := s1 _ _ hr0
  have up : ∀ {H' : Hp} {fs gs : List (Str × V)}, H' r = some (.ins C dx fs) → ∀ {a : Addr} {xs : List V}, H' a = some (.tup xs) → upd H' r (.ins C dx gs) a = some (.tup xs) := fun hr' a xs ha => by
    rw [upd_ne (ne_of ha hr' (by intro z; cases z))]
    exact ha
  have i0 : atI [V.ref b1, .ref b2, .ref b3, .ref b4] 0 = some (.ref b1) := rfl
  have i1 : atI [V.ref b1, .ref b2, .ref b3, .ref b4] 1 = some (.ref b2) := rfl
  have i2 : atI [V.ref b1, .ref b2, .ref b3, .ref b4] 2 = some (.ref b3) := rfl
  have i3 : atI [V.ref b1, .ref b2, .ref b3, .ref b4] 3 = some (.ref b4) := rfl
  refine ⟨_, rfl, p, _, _, _, rfl, rfl, SqT.of h0, i0, _, rfl, r, C, dx, _, rfl, hr1, dc.c, dc.n1, (by show 0 < 1000; decide), ?_⟩
  have t00 := up (gs := putF "signs" (.ref b1) []) hr1 h0
  have t01 := up (gs := putF "signs" (.ref b1) []) hr1 h1
  have t02 := up (gs := putF "signs" (.ref b1) []) hr1 h2
  have t03 := up (gs := putF "signs" (.ref b1) []) hr1 h3
  have t04 := up (gs := putF "signs" (.ref b1) []) hr1 h4
  have kp1 : ∀ a o, a ≠ r → H a = some o → upd H1 r (.ins C dx (putF "signs" (.ref b1) [])) a = some o := fun a o ne ho => by rw [upd_ne ne]; exact s1 _ _ ho
  have hs1 : upd H1 r (.ins C dx (putF "signs" (.ref b1) [])) r = some (.ins C dx [("signs", .ref b1)]) := upd_same
  generalize upd H1 r (.ins C dx (putF "signs" (.ref b1) [])) = H2 at t00 t01 t02 t03 t04 kp1 hs1 ⊢
  refine ⟨_, rfl, p, _, _, _, rfl, rfl, SqT.of t00, i1, _, rfl, r, C, dx, _, rfl, hs1, dc.c, dc.n2, (by show 1 < 1000; decide), ?_⟩
  have t10 := up (gs := putF "prices" (.ref b2) [("signs", .ref b1)]) hs1 t00
  have t11 := up (gs := putF "prices" (.ref b2) [("signs", .ref b1)]) hs1 t01
  have t12 := up (gs := putF "prices" (.ref b2) [("signs", .ref b1)]) hs1 t02
  have t13 := up (gs := putF "prices" (.ref b2) [("signs", .ref b1)]) hs1 t03
  have t14 := up (gs := putF "prices" (.ref b2) [("signs", .ref b1)]) hs1 t04
  have kp2 : ∀ a o, a ≠ r → H a = some o → upd H2 r (.ins C dx (putF "prices" (.ref b2) [("signs", .ref b1)])) a = some o := fun a o ne ho => by rw [upd_ne ne]; exact kp1 a o ne ho
  have hs2 : upd H2 r (.ins C dx (putF "prices" (.ref b2) [("signs", .ref b1)])) r = some (.ins C dx [("signs", .ref b1), ("prices", .ref b2)]) := upd_same
  generalize upd H2 r (.ins C dx (putF "prices" (.ref b2) [("signs", .ref b1)])) = H3 at t10 t11 t12 t13 t14 kp2 hs2 ⊢
  refine ⟨_, rfl, p, _, _, _, rfl, rfl, SqT.of t10, i2, _, rfl, r, C, dx, _, rfl, hs2, dc.c, dc.n3, (by show 2 < 1000; decide), ?_⟩
  have t20 := up (gs := putF "names" (.ref b3) [("signs", .ref b1), ("prices", .ref b2)]) hs2 t10
  have t21 := up (gs := putF "names" (.ref b3) [("signs", .ref b1), ("prices", .ref b2)]) hs2 t11
  have t22 := up (gs := putF "names" (.ref b3) [("signs", .ref b1), ("prices", .ref b2)]) hs2 t12
  have t23 := up (gs := putF "names" (.ref b3) [("signs", .ref b1), ("prices", .ref b2)]) hs2 t13
  have t24 := up (gs := putF "names" (.ref b3) [("signs", .ref b1), ("prices", .ref b2)]) hs2 t14
  have kp3 : ∀ a o, a ≠ r → H a = some o → upd H3 r (.ins C dx (putF "names" (.ref b3) [("signs", .ref b1), ("prices", .ref b2)])) a = some o := fun a o ne ho => by rw [upd_ne ne]; exact kp2 a o ne ho
  have hs3 : upd H3 r (.ins C dx (putF "names" (.ref b3) [("signs", .ref b1), ("prices", .ref b2)])) r = some (.ins C dx [("signs", .ref b1), ("prices", .ref b2), ("names", .ref b3)]) := upd_same
  generalize upd H3 r (.ins C dx (putF "names" (.ref b3) [("signs", .ref b1), ("prices", .ref b2)])) = H4 at t20 t21 t22 t23 t24 kp3 hs3 ⊢
  refine ⟨_, rfl, p, _, _, _, rfl, rfl, SqT.of t20, i3, _, rfl, r, C, dx, _, rfl, hs3, dc.c, dc.n4, (by show 3 < 1000; decide), ?_⟩
  have t30 := up (gs := putF "weights" (.ref b4) [("signs", .ref b1), ("prices", .ref b2), ("names", .ref b3)]) hs3 t20
  have t31 := up (gs := putF "weights" (.ref b4) [("signs", .ref b1), ("prices", .ref b2), ("names", .ref b3)]) hs3 t21
  have t32 := up (gs := putF "weights" (.ref b4) [("signs", .ref b1), ("prices", .ref b2), ("names", .ref b3)]) hs3 t22
  have t33 := up (gs := putF "weights" (.ref b4) [("signs", .ref b1), ("prices", .ref b2), ("names", .ref b3)]) hs3 t23
  have t34 := up (gs := putF "weights" (.ref b4) [("signs", .ref b1), ("prices", .ref b2), ("names", .ref b3)]) hs3 t24
  have kp4 : ∀ a o, a ≠ r → H a = some o → upd H4 r (.ins C dx (putF "weights" (.ref b4) [("signs", .ref b1), ("prices", .ref b2), ("names", .ref b3)])) a = some o := fun a o ne ho => by rw [upd_ne ne]; exact kp3 a o ne ho
  have hs4 : upd H4 r (.ins C dx (putF "weights" (.ref b4) [("signs", .ref b1), ("prices", .ref b2), ("names", .ref b3)])) r = some (.ins C dx [("signs", .ref b1), ("prices", .ref b2), ("names", .ref b3), ("weights", .ref b4)]) := upd_same
  generalize upd H4 r (.ins C dx (putF "weights" (.ref b4) [("signs", .ref b1), ("prices", .ref b2), ("names", .ref b3)])) = H5 at t30 t31 t32 t33 t34 kp4 hs4 ⊢
  refine ⟨(by show 0 ≤ sizeLine; decide), fun l hl => ?_⟩
  have sl := same_newO hl (.lst [])
  have rl : r ≠ l := fun e => by rw [← e, hs4] at hl; cases hl
  refine ⟨_, rfl, r, C, dx, _, rfl, sl _ _ hs4, dc.c, dc.n5, (by show 4 < 1000; decide), ?_⟩
  have u : ∀ {a : Addr} {xs : List V}, H5 a = some (.tup xs) → upd (upd H5 l (.lst [])) r (.ins C dx (putF "past" (.ref l) [("signs", .ref b1), ("prices", .ref b2), ("names", .ref b3), ("weights", .ref b4)])) a = some (.tup xs) := fun ha => up (sl _ _ hs4) (sl _ _ ha)
  exact qb sg ps nm ws er _ (fun a o ne ho => by rw [upd_ne ne]; exact sl _ _ (kp4 a o ne ho)) ⟨dx, b1, b2, b3, b4, l, upd_same, u t31, u t32, u t33, u t34⟩
def spDb (C : Addr) : Sp := fun vs H Q _ => ∃ (r : Addr) (sg : List Str) (ps : List Int) (nm : List Str) (ws : List Int), vs = [.ref r] ∧ DkAt C H r sg ps nm ws ∧ Bk sg ps nm ws ∧ ∀ H', Same H H' → Q (.str (bookS sg ps nm ws)) H'
theorem scDb : FnScope ["self"] ["self"] (defScope mBook) := ⟨rfl, rfl, rfl, by decide +kernel, rfl, by decide +kernel, by decide +kernel⟩
theorem ok_db {C : Addr} (F : Fun K "book" "Desk.book" mBook f fd) (dc : DC K C) (GB : Fns P w K mg base PBT "book_text" spBT 1) : FnOk P w K mg base CX0 2 f fd ["self"] (spDb C) := by
  refine F.ok (k := 1) scDb (fun vs H Q E h => ?_) (fun cdv A outer s H vs Q E hr h => ?_)
  · obtain ⟨r, sg, ps, nm, ws, rfl, _⟩ := h
    rfl
  obtain ⟨r, sg, ps, nm, ws, rfl, ⟨dx, b1, b2, b3, b4, l, h0, h1, h2, h3, h4⟩, B, qq⟩ := h
  refine ⟨_, pss_one (ps_ret (pe_call GB.ok hr (by rfl) GB.m GB.kp GB.b .nil pass0 (pa_cons (pe_fld (pv 0) rfl) (pa_cons (pe_fld (pv 0) rfl) (pa_cons (pe_fld (pv 0) rfl) (pa_cons (pe_fld (pv 0) rfl) (pa_nil))))))), ?_⟩
  exact ⟨_, rfl, r, C, dx, _, _, rfl, h0, dc.c, dc.n1, rfl, _, rfl, r, C, dx, _, _, rfl, h0, dc.c, dc.n2, rfl, _, rfl, r, C, dx, _, _, rfl, h0, dc.c, dc.n3, rfl, _, rfl, r, C, dx, _, _, rfl, h0, dc.c, dc.n4, rfl, b1, b2, b3, b4, sg, ps, nm, ws, rfl, h1, h2, h3, h4, B, qq⟩
structure Dsk (P : Program) (w : World) (K : PySem.W.Frag) (mg : Str → Option Value) (base : Heap) (C CR CN CP CW : Addr) where
  c : Cls K C
  g : mg "Desk" = some (.ref C)
  fi : Addr
  di : FuncData
  mkk : Mk K C fi
  oki : FnOk P w K mg base (CXF P w) 5 fi di ["self", "text"] (spDi C CR CN CP CW)
  bi : Binds K di ["self", "text"] []
  fb : Addr
  db : FuncData
  m : Meth K C "book" fb
  okb : FnOk P w K mg base CX0 6 fb db ["self"] (spDb C)
  bb : Binds K db ["self"] []
abbrev NAk : List Str := ["which", "text"]
def tells (which : Int) (z : Str) (H : Hp) (Q : VK) : Prop := ∀ sg ps nm ws, res z = .book sg ps nm ws → (which = 0 → ∀ (p : Addr) H', Same H H' → BkAt H' p sg ps nm ws → Q (.ref p) H') ∧ (which ≠ 0 → ∀ H', Same H H' → Q (.str z) H')
def spAk (CR CN CP CW : Addr) : Sp := fun vs H Q E => ∃ (which : Int) (z : Str), vs = [.int which, .str z] ∧ Asc z ∧ z.length ≤ 4000 ∧ raises CR CN CP CW z H E ∧ tells which z H Q
theorem scAk : FnScope NAk NAk (defScope sAsked) := ⟨rfl, rfl, rfl, by decide +kernel, rfl, by decide +kernel, by decide +kernel⟩
theorem ok_ak {C CR CN CP CW : Addr} (F : Fun K "_law_asked" "_law_asked" sAsked f fd) (GR : Fns' P w K mg base ["text"] "read_book" (spRb CR CN CP CW) 6) (dk : Dsk P w K mg base C CR CN CP CW) : FnOk P w K mg base (CXF P w) 7 f fd NAk (spAk CR CN CP CW) := by
  refine F.okF (k := 6) scAk (fun vs H Q E h => ?_) (fun cdv A outer s H vs Q E hr h => ?_)
  · obtain ⟨which, z, rfl, _⟩ := h
    rfl
  obtain ⟨which, z, rfl, as, l4, R, T⟩ := h
  refine ⟨_, pss_cons (ps_if (pt_cmpR op_eq (pv 0) (pe_int) (nomark _)) (pss_one (ps_ret (pe_call GR.ok hr (by rfl) GR.m GR.kp GR.b .nil takes_def (pa_cons (pv 1) (pa_nil))))) (pss_nil))
      (pss_one (ps_ret (pe_meth0 (pe_make dk.mkk dk.oki hr (by rfl) dk.g dk.bi .nil takes_def (pa_cons (pv 1) (pa_nil))) dk.c dk.m dk.okb hr dk.bb .nil pass0))), ?_⟩
  refine ⟨_, rfl, rfl, _, rfl, ite2 (fun c => ?_) (fun c => ?_)⟩
  · have c : which = 0 := V.int.inj (of_decide_eq_true c)
    exact ⟨_, rfl, z, rfl, as, l4, R.1, R.2.1, R.2.2.1, R.2.2.2, fun sg ps nm ws er p H1 s1 bk => (T sg ps nm ws er).1 c p H1 s1 bk⟩
  have c : which ≠ 0 := fun e => c (decide_eq_true (congrArg V.int e))
  refine ⟨_, rfl, fun r dx rn hdx ne => ?_⟩
  have sm : Same H (upd (upd H dx (.own r)) r (.ins C dx [])) := same_upd rn (same_newO hdx _)
  refine ⟨r, dx, z, rfl, upd_same, as, l4, R.same sm, fun sg ps nm ws er H1 kp dkat => ⟨rfl, ?_⟩⟩
  obtain ⟨B, ez⟩ := res_book er
  obtain ⟨dx', b1, b2, b3, b4, l, h0, h1, h2, h3, h4⟩ := id dkat
  have s1 : Same H H1 := fun a o ho => kp a o (fun e => by rw [e, rn] at ho; cases ho) (sm _ _ ho)
  refine ⟨r, dx', _, rfl, h0, rfl, r, sg, ps, nm, ws, rfl, dkat, B, fun H2 s2 => ?_⟩
  rw [ez]
  exact (T sg ps nm ws er).2 c H2 (s1.trans s2)
end
end K92
set_option Elab.async false
set_option linter.all false
set_option maxRecDepth 100000
namespace K92
open PySem L2
def gB (b : Bool) (r : List Str) : Bool := tB r || (!b && lB r)
theorem not3 {k : Str} {m : Nat} {r : List Str} (h : ¬ r.length = 3) : rwB k m r = false := by
  unfold rwB
  split
  · exact absurd rfl h
  · rfl
section
variable {P : Program} {w : World} {K : PySem.W.Frag} {mg : Str → Option Value} {base : Heap} {f : Addr} {fd : FuncData}
abbrev NRg : List Str := ["row", "things", "words"]
abbrev PRg : List Str := ["row", "things"]
def spRg : Sp := fun vs H Q _ => ∃ (p : Str) (b : Bool), vs = [.str p, .bl b] ∧ Asc p ∧ p.length ≤ 4000 ∧ ∀ H', Same H H' → Q (.bl (gB b (Txt.split p sp))) H'
theorem scRg : FnScope NRg PRg (defScope sRG) := ⟨rfl, rfl, rfl, by decide +kernel, rfl, by decide +kernel, by decide +kernel⟩
theorem ndRg : (("sign" : Str) :: NRg).Nodup := by decide +kernel
set_option maxHeartbeats 16000000 in
theorem ok_rg (F : Fun K "_law_row_good" "_law_row_good" sRG f fd) (ml : mg "len" = none) (ma : mg "all" = none) : FnOk P w K mg base CX0 1 f fd PRg spRg := by
  refine F.ok (k := 0) scRg (fun vs H Q E h => ?_) (fun cdv A outer s H vs Q E hr h => ?_)
  · obtain ⟨p, b, rfl, _⟩ := h
    rfl
  obtain ⟨p, b, rfl, as, l4, qq⟩ := h
  refine ⟨_, pss_cons (ps_set (i := 2) scRg.nd rfl (Or.inl rfl) (pe_bmS PySem.F.slot_str_split PySem.F.type_str_split mt_split (pv 0) (pa_cons (pe_str) (pa_nil))))
      (pss_cons (ps_if (PW.pt (pw_or (pt_cmpR op_ne (pe_callB call_len_seq (by rfl) ml PySem.boot_len (pa_cons (pv 2) (pa_nil))) (pe_int) (nomark _)) (pw_or (pt_not (pt_chain op_le op_le pe_int (pe_callB call_len_str (by rfl) ml PySem.boot_len (pa_cons (pe_ix ix_list (pv 2) (pe_int) (fun _ _ => rfl)) (pa_nil))) pe_int)) (pw_or1 (pt_not (pt_chain op_le op_le pe_int (pe_callB call_len_str (by rfl) ml PySem.boot_len (pa_cons (pe_ix ix_list (pv 2) (pe_int) (fun _ _ => rfl)) (pa_nil))) pe_int)))))) (pss_one (ps_ret pe_bl)) (pss_nil))
      (pss_cons (ps_if (PW.pt (pw_or (pt_not (pt_val (pe_callB (call_all rfl) (by rfl) ma b_all (pa_cons (pe_compStr (M := NRg) rfl (CompScope.of (defScope sRG) NRg rfl rfl rfl (by decide +kernel) (by decide +kernel) (by decide +kernel) rfl (by decide +kernel)) ndRg rfl (pe_mid (pe_ix ix_list (pv 2) (pe_int) (fun _ _ => rfl))) mo_mid (fun cl C s0 H0 fp => ⟨pts_nil, pe_cmpR op_in_str (pv 0) pe_str rfl⟩)) (pa_nil))))) (pw_or1 (PW.pt (pw_and (pt_cmpR op_eq (pe_ix ix_str (pe_ix ix_list (pv 2) (pe_int) (fun _ _ => rfl)) (pe_int) (fun _ _ => rfl)) (pe_str) (nomark _)) (pw_and1 (pt_cmpR op_ne (pe_ix ix_list (pv 2) (pe_int) (fun _ _ => rfl)) (pe_str) (nomark _)))))))) (pss_one (ps_ret pe_bl)) (pss_nil))
      (pss_cons (ps_if (pt_not (pt_val (pe_callB (call_all rfl) (by rfl) ma b_all (pa_cons (pe_compStr (M := NRg) rfl (CompScope.of (defScope sRG) NRg rfl rfl rfl (by decide +kernel) (by decide +kernel) (by decide +kernel) rfl (by decide +kernel)) ndRg rfl (pe_mid (pe_ix ix_list (pv 2) (pe_int) (fun _ _ => rfl))) mo_mid (fun cl C s0 H0 fp => ⟨pts_nil, pe_cmpR op_in_str (pv 0) pe_str rfl⟩)) (pa_nil))))) (pss_one (ps_ret pe_bl)) (pss_nil))
      (pss_cons (ps_if (pt_cmpR op_eq (pe_ix ix_list (pv 2) (pe_int) (fun _ _ => rfl)) (pe_str) (nomark _)) (pss_one (ps_ret (pe_and (pe_cmpR op_eq (pe_callB call_len_str (by rfl) ml PySem.boot_len (pa_cons (pe_ix ix_list (pv 2) (pe_int) (fun _ _ => rfl)) (pa_nil))) pe_int (nomark _)) (pe_one (pe_not (pv 1)))))) (pss_nil))
      (pss_one (ps_ret (pe_cmpR op_eq (pe_ix ix_list (pv 2) (pe_int) (fun _ _ => rfl)) pe_str (nomark _)))))))), ?_⟩
  have Pp := split_pt (c := 32) as
  rw [← sp_is] at Pp
  have ple := Pp.le
  have pas := Pp.as
  refine ⟨_, rfl, ⟨_, rfl⟩, p, sp, rfl, rfl, (by decide +kernel), big5 (by omega), fun l hl => ?_⟩
  generalize Txt.split p sp = rs at Pp ple pas qq
  have s1 := same_newO hl (.lst (rs.map V.str))
  have g1 : upd H l (.lst (rs.map V.str)) l = some (.lst (rs.map V.str)) := upd_same
  generalize upd H l (.lst (rs.map V.str)) = H1 at s1 g1 ⊢
  refine ⟨_, rfl, l, _, rfl, .inl (SqL.of g1), rfl, _, rfl, ?_⟩
  rw [List.length_map]
  by_cases n3 : rs.length = 3
  case neg =>
    have e : gB b rs = false := by
      unfold gB tB lB
      rw [not3 n3, not3 n3]
      simp
    rw [e] at qq
    rw [decide_eq_false (fun h => n3 (by have := V.int.inj h; omega))]
    exact iteT (qq H1 s1)
  obtain ⟨a, c, d, rfl⟩ : ∃ a c d, rs = [a, c, d] := by
    match rs, n3 with
    | [a, c, d], _ => exact ⟨a, c, d, rfl⟩
  rw [decide_eq_true (by rw [n3]; rfl)]
  refine iteF ?_
  have i0 : atI [V.str a, .str c, .str d] 0 = some (.str a) := rfl
  have i1 : atI [V.str a, .str c, .str d] 1 = some (.str c) := rfl
  have i2 : atI [V.str a, .str c, .str d] 2 = some (.str d) := rfl
  have g1 : H1 l = some (.lst [V.str a, .str c, .str d]) := g1
  obtain ⟨asc, lc⟩ := pas c (by simp)
  obtain ⟨asd, ld⟩ := pas d (by simp)
  have eg : gB b [a, c, d] = ((decide (a = tT) && (nmB 8 c && nuB d)) || (!b && (decide (a = tL) && (nmB 1 c && nuB d)))) := rfl
  rw [eg] at qq
  clear eg
  have ed : d.cps.toList.length = d.length := Array.length_toList
  have ec : c.cps.toList.length = c.length := Array.length_toList
  refine ⟨_, rfl, l, _, _, _, rfl, rfl, SqL.of g1, i2, d, rfl, big5 (by omega), _, _, rfl, rfl, _, rfl, ?_⟩
  by_cases d1 : 1 ≤ d.length
  case neg =>
    have e : nuB d = false := by unfold nuB; rw [decide_eq_false d1]; rfl
    rw [e] at qq
    rw [if_neg (fun h => d1 (by have := of_decide_eq_true h; omega))]
    refine ⟨_, rfl, iteT ?_⟩
    exact (show Q (.bl false) H1 by simpa using qq H1 s1)
  rw [if_pos (decide_eq_true (by omega))]
  refine ⟨_, _, rfl, rfl, _, rfl, ?_⟩
  by_cases d40 : d.length ≤ 40
  case neg =>
    have e : nuB d = false := by unfold nuB; rw [decide_eq_false d40]; simp
    rw [e] at qq
    rw [decide_eq_false (by omega)]
    refine iteT ?_
    exact (show Q (.bl false) H1 by simpa using qq H1 s1)
  rw [decide_eq_true (by omega)]
  refine iteF ?_
  refine ⟨_, rfl, l, _, _, _, rfl, rfl, SqL.of g1, i1, c, rfl, big5 (by omega), _, _, rfl, rfl, _, rfl, ?_⟩
  by_cases c1 : 1 ≤ c.length
  case neg =>
    have e : ∀ m, nmB m c = false := fun m => by unfold nmB; rw [decide_eq_false c1]; rfl
    rw [e, e] at qq
    rw [if_neg (fun h => c1 (by have := of_decide_eq_true h; omega))]
    refine ⟨_, rfl, iteT ?_⟩
    exact (show Q (.bl false) H1 by simpa using qq H1 s1)
  rw [if_pos (decide_eq_true (by omega))]
  refine ⟨_, _, rfl, rfl, _, rfl, ?_⟩
  by_cases c8 : c.length ≤ 8
  case neg =>
    have e : ∀ m, m ≤ 8 → nmB m c = false := fun m hm => by unfold nmB; rw [decide_eq_false (show ¬ c.length ≤ m by omega)]; simp
    rw [e 8 (by decide), e 1 (by decide)] at qq
    rw [decide_eq_false (by omega)]
    refine iteT ?_
    exact (show Q (.bl false) H1 by simpa using qq H1 s1)
  rw [decide_eq_true (by omega)]
  refine iteF ?_
  refine ⟨fun v H' => v = .str d ∧ H1 = H', ⟨_, rfl, l, _, _, _, rfl, rfl, SqL.of g1, i2, rfl, rfl⟩, fun v H' hv => ?_⟩
  obtain ⟨rfl, rfl⟩ := hv
  refine ⟨d, rfl, asd, fun d1l hd1l => ?_⟩
  refine ⟨fun i H' => Same H1 H' ∧ H' d1l = some (.lst (((d.cps.toList.take i).map (fun c => decide (48 ≤ c ∧ c ≤ 57))).map V.bl)), ⟨same_newO hd1l _, upd_same⟩, fun i x H' hx hP => ?_, fun H2 hP => ?_⟩
  · obtain ⟨s5, hz⟩ := hP
    have il := (List.getElem?_eq_some_iff.mp hx).1
    refine turn_all ⟨_, rfl, _, _, rfl, rfl, _, hz, ?_, same_upd hd1l s5, ?_⟩
    · rw [List.length_map, List.length_map, List.length_take]; exact lt5 (by omega)
    · rw [upd_same]
      show some (HO.lst (_ ++ [V.bl (!(Builtin.Str.occurrences figs ⟨#[x]⟩ 0 figs.length 1).isEmpty)])) = _
      rw [in_figs, List.take_add_one, hx, List.map_append, List.map_append]; rfl
  obtain ⟨s2, gd1l⟩ := hP
  rw [show d.cps.size = d.cps.toList.length from Array.length_toList.symm, List.take_length] at gd1l
  refine ⟨d1l, _, rfl, gd1l, _, rfl, ?_⟩
  have eD : (d.cps.toList.map fun c => decide (48 ≤ c ∧ c ≤ 57)).all id = dgB d.cps.toList := by rw [List.all_map]; rfl
  rw [eD]
  have s12 := s1.trans s2
  have g2 := s2 _ _ g1
  cases hD : dgB d.cps.toList with
  | false =>
    have e : nuB d = false := by unfold nuB; rw [hD]; simp
    rw [e] at qq
    exact iteT (show Q (.bl false) H2 by simpa using qq H2 s12)
  | true =>
  refine iteF ?_
  obtain ⟨x0, h0⟩ : ∃ x0, d.cps.toList[0]? = some x0 := ⟨d.cps.toList[0]'(by omega), List.getElem?_eq_getElem _⟩
  have nu : nuB d = (decide (d = Str.ofString "0") || decide (x0 ≠ 48)) := by
    unfold nuB
    rw [decide_eq_true d1, decide_eq_true d40, hD, List.getD_eq_getElem?_getD, h0]
    rfl
  rw [nu] at qq
  refine ⟨_, rfl, l, _, _, _, rfl, rfl, SqL.of g2, i2, d, _, x0, rfl, rfl, big5 (by omega), atI_nat (j := 0) h0, rfl, _, rfl, ?_⟩
  have e48 : decide (V.str ⟨#[x0]⟩ = V.str (Str.ofString "0")) = decide (x0 = 48) := by
    refine decide_eq_decide.mpr ⟨fun h => (List.cons.inj (congrArg (fun z : Str => z.cps.toList) (V.str.inj h))).1, fun h => by rw [h]; rfl⟩
  rw [e48]
  have stay : x0 = 48 → d ≠ Str.ofString "0" → Q (.bl false) H2 := fun e1 e2 => by
    have := qq H2 s12
    rw [decide_eq_false e2, decide_eq_false (fun h : x0 ≠ 48 => h e1)] at this
    simpa using this
  by_cases x48 : x0 = 48
  · rw [decide_eq_true x48]
    refine iteT ?_
    refine ⟨_, rfl, l, _, _, _, rfl, rfl, SqL.of g2, i2, rfl, _, rfl, ?_⟩
    by_cases d0 : d = Str.ofString "0"
    case neg =>
      rw [decide_eq_false (fun h => d0 (V.str.inj h))]
      exact iteT (stay x48 d0)
    rw [decide_eq_true (congrArg V.str d0)]
    refine iteF ?_
    rw [decide_eq_true d0, Bool.true_or] at qq
    refine ⟨fun v H' => v = .str c ∧ H2 = H', ⟨_, rfl, l, _, _, _, rfl, rfl, SqL.of g2, i1, rfl, rfl⟩, fun v H' hv => ?_⟩
    obtain ⟨rfl, rfl⟩ := hv
    refine ⟨c, rfl, asc, fun d2l hd2l => ?_⟩
    refine ⟨fun i H' => Same H2 H' ∧ H' d2l = some (.lst (((c.cps.toList.take i).map (fun c => decide (97 ≤ c ∧ c ≤ 122))).map V.bl)), ⟨same_newO hd2l _, upd_same⟩, fun i x H' hx hP => ?_, fun H3 hP => ?_⟩
    · obtain ⟨s5, hz⟩ := hP
      have il := (List.getElem?_eq_some_iff.mp hx).1
      refine turn_all ⟨_, rfl, _, _, rfl, rfl, _, hz, ?_, same_upd hd2l s5, ?_⟩
      · rw [List.length_map, List.length_map, List.length_take]; exact lt5 (by omega)
      · rw [upd_same]
        show some (HO.lst (_ ++ [V.bl (!(Builtin.Str.occurrences alpha ⟨#[x]⟩ 0 alpha.length 1).isEmpty)])) = _
        rw [in_alpha, List.take_add_one, hx, List.map_append, List.map_append]; rfl
    obtain ⟨s3, gd2l⟩ := hP
    rw [show c.cps.size = c.cps.toList.length from Array.length_toList.symm, List.take_length] at gd2l
    refine ⟨d2l, _, rfl, gd2l, _, rfl, ?_⟩
    have eC : (c.cps.toList.map fun c => decide (97 ≤ c ∧ c ≤ 122)).all id = loB c.cps.toList := by rw [List.all_map]; rfl
    rw [eC]
    have s13 := s12.trans s3
    have g3 := s3 _ _ g2
    cases hC : loB c.cps.toList with
    | false =>
      have e : ∀ m, nmB m c = false := fun m => by unfold nmB; rw [hC]; simp
      rw [e, e] at qq
      exact iteT (show Q (.bl false) H3 by simpa using qq H3 s13)
    | true =>
    refine iteF ?_
    have n8 : nmB 8 c = true := by unfold nmB; rw [decide_eq_true c1, decide_eq_true c8, hC]; rfl
    have n1 : nmB 1 c = decide (c.length = 1) := by
      unfold nmB
      rw [decide_eq_true c1, hC, Bool.true_and, Bool.and_true]
      exact decide_eq_decide.mpr (by omega)
    rw [n8, n1] at qq
    simp only [Bool.and_true, Bool.true_and] at qq
    refine ⟨_, rfl, l, _, _, _, rfl, rfl, SqL.of g3, i0, rfl, _, rfl, ?_⟩
    by_cases aL : a = tL
    · rw [decide_eq_true (show V.str a = V.str (Str.ofString "letter") from congrArg V.str aL)]
      refine iteT ?_
      rw [decide_eq_true aL, decide_eq_false (show ¬ a = tT by rw [aL]; exact tLT), Bool.false_or, Bool.true_and] at qq
      refine ⟨_, rfl, l, _, _, _, rfl, rfl, SqL.of g3, i1, c, rfl, big5 (by omega), rfl, _, rfl, ?_⟩
      by_cases cl : c.length = 1
      · rw [decide_eq_true cl, Bool.and_true] at qq
        rw [if_pos (decide_eq_true (by rw [cl]; rfl))]
        exact ⟨_, rfl, _, rfl, qq H3 s13⟩
      · rw [decide_eq_false cl, Bool.and_false] at qq
        have : ¬ V.int ((c.length : Nat) : Int) = V.int 1 := fun h => cl (by have := V.int.inj h; omega)
        rw [if_neg (by rw [decide_eq_false this]; exact Bool.false_ne_true)]
        exact qq H3 s13
    · rw [decide_eq_false (show ¬ V.str a = V.str (Str.ofString "letter") from fun h => aL (V.str.inj h))]
      refine iteF ?_
      rw [decide_eq_false aL] at qq
      simp only [Bool.false_and, Bool.and_false, Bool.or_false] at qq
      refine ⟨_, rfl, l, _, _, _, rfl, rfl, SqL.of g3, i0, rfl, ?_⟩
      have : decide (V.str a = V.str (Str.ofString "thing")) = decide (a = tT) := decide_eq_decide.mpr ⟨fun h => V.str.inj h, fun h => congrArg V.str h⟩
      show Q (.bl (decide (V.str a = V.str (Str.ofString "thing")))) H3
      rw [this]
      exact qq H3 s13
  · rw [decide_eq_false x48]
    refine iteF ?_
    rw [decide_eq_true x48, Bool.or_true] at qq
    refine ⟨fun v H' => v = .str c ∧ H2 = H', ⟨_, rfl, l, _, _, _, rfl, rfl, SqL.of g2, i1, rfl, rfl⟩, fun v H' hv => ?_⟩
    obtain ⟨rfl, rfl⟩ := hv
    refine ⟨c, rfl, asc, fun d2l hd2l => ?_⟩
    refine ⟨fun i H' => Same H2 H' ∧ H' d2l = some (.lst (((c.cps.toList.take i).map (fun c => decide (97 ≤ c ∧ c ≤ 122))).map V.bl)), ⟨same_newO hd2l _, upd_same⟩, fun i x H' hx hP => ?_, fun H3 hP => ?_⟩
    · obtain ⟨s5, hz⟩ := hP
      have il := (List.getElem?_eq_some_iff.mp hx).1
      refine turn_all ⟨_, rfl, _, _, rfl, rfl, _, hz, ?_, same_upd hd2l s5, ?_⟩
      · rw [List.length_map, List.length_map, List.length_take]; exact lt5 (by omega)
      · rw [upd_same]
        show some (HO.lst (_ ++ [V.bl (!(Builtin.Str.occurrences alpha ⟨#[x]⟩ 0 alpha.length 1).isEmpty)])) = _
        rw [in_alpha, List.take_add_one, hx, List.map_append, List.map_append]; rfl
    obtain ⟨s3, gd2l⟩ := hP
    rw [show c.cps.size = c.cps.toList.length from Array.length_toList.symm, List.take_length] at gd2l
    refine ⟨d2l, _, rfl, gd2l, _, rfl, ?_⟩
    have eC : (c.cps.toList.map fun c => decide (97 ≤ c ∧ c ≤ 122)).all id = loB c.cps.toList := by rw [List.all_map]; rfl
    rw [eC]
    have s13 := s12.trans s3
    have g3 := s3 _ _ g2
    cases hC : loB c.cps.toList with
    | false =>
      have e : ∀ m, nmB m c = false := fun m => by unfold nmB; rw [hC]; simp
      rw [e, e] at qq
      exact iteT (show Q (.bl false) H3 by simpa using qq H3 s13)
    | true =>
    refine iteF ?_
    have n8 : nmB 8 c = true := by unfold nmB; rw [decide_eq_true c1, decide_eq_true c8, hC]; rfl
    have n1 : nmB 1 c = decide (c.length = 1) := by
      unfold nmB
      rw [decide_eq_true c1, hC, Bool.true_and, Bool.and_true]
      exact decide_eq_decide.mpr (by omega)
    rw [n8, n1] at qq
    simp only [Bool.and_true, Bool.true_and] at qq
    refine ⟨_, rfl, l, _, _, _, rfl, rfl, SqL.of g3, i0, rfl, _, rfl, ?_⟩
    by_cases aL : a = tL
    · rw [decide_eq_true (show V.str a = V.str (Str.ofString "letter") from congrArg V.str aL)]
      refine iteT ?_
      rw [decide_eq_true aL, decide_eq_false (show ¬ a = tT by rw [aL]; exact tLT), Bool.false_or, Bool.true_and] at qq
      refine ⟨_, rfl, l, _, _, _, rfl, rfl, SqL.of g3, i1, c, rfl, big5 (by omega), rfl, _, rfl, ?_⟩
      by_cases cl : c.length = 1
      · rw [decide_eq_true cl, Bool.and_true] at qq
        rw [if_pos (decide_eq_true (by rw [cl]; rfl))]
        exact ⟨_, rfl, _, rfl, qq H3 s13⟩
      · rw [decide_eq_false cl, Bool.and_false] at qq
        have : ¬ V.int ((c.length : Nat) : Int) = V.int 1 := fun h => cl (by have := V.int.inj h; omega)
        rw [if_neg (by rw [decide_eq_false this]; exact Bool.false_ne_true)]
        exact qq H3 s13
    · rw [decide_eq_false (show ¬ V.str a = V.str (Str.ofString "letter") from fun h => aL (V.str.inj h))]
      refine iteF ?_
      rw [decide_eq_false aL] at qq
      simp only [Bool.false_and, Bool.and_false, Bool.or_false] at qq
      refine ⟨_, rfl, l, _, _, _, rfl, rfl, SqL.of g3, i0, rfl, ?_⟩
      have : decide (V.str a = V.str (Str.ofString "thing")) = decide (a = tT) := decide_eq_decide.mpr ⟨fun h => V.str.inj h, fun h => congrArg V.str h⟩
      show Q (.bl (decide (V.str a = V.str (Str.ofString "thing")))) H3
      rw [this]
      exact qq H3 s13
end
end K92
set_option Elab.async false
set_option linter.all false
set_option maxRecDepth 100000
set_option maxHeartbeats 3200000
namespace L2
open PySem PySem.Spec PyProof.Rows PySem.W
section
variable {prog : Program} {w : World} {A : Around} {E : Value → Shared → Prop} {s : Shared}
theorem call_setDl {l : Addr} {items : Array Value} {zs : List Str} {Q : Value → Shared → Prop} (hh : A.handled = none) (hl : s.heap.IsList l items) (hi : Vals (zs.map V.str) items.toList) (h4 : zs.length < 4050)
    (h : ∀ h' tk, StD prog w zs h' s.heap.objs.size → (∀ c o, s.heap.get? c = some o → h'.get? c = some o) → Q (.ref s.heap.objs.size) { s with heap := h', toks := tk }) :
    wpAny (model prog w) A (call (.type "set") [.ref l]) Q E s := by
  obtain ⟨c, tl, hmro⟩ := PySem.F.called_set.mro
  have hmade := PySem.F.called_set.made
  have hsub := PySem.F.called_set.sub
  refine wpAny_call (codeAny_of_tree (A := A) ?_)
  show wpAny _ _ (callAny (.type "set") _) _ _ _
  refine wpAny_pure ⟨Code.quiet_builtin _ (by decide +kernel), codeAny_builtin PySem.F.entry_type_call ?_⟩
  rw [Around.under_plain (weight_type_call_type "set" [.ref l] []) rfl]
  have h1 := PySem.F.called_set.notType
  have h2 := PySem.F.called_set.canCreate
  have hct := PySem.F.typeCall_set_1 (.ref l)
  repeat (any_goals (first | assumption | wp_step))
  refine codeAny_mono (new_sm (.ref l) (E := E) (Q1 := fun obj s1 => obj = .ref s.heap.objs.size ∧ s1 = { s with heap := s.heap.push (newS w) }) ⟨rfl, rfl⟩) fun r s1 hr => ?_
  cases r with
  | error e => exact hr
  | ok fl =>
    cases fl with
    | ret obj =>
      obtain ⟨rfl, rfl⟩ := hr
      have hS : (s.heap.push (newS w)).get? s.heap.objs.size = some (newS w) := Heap.get?_push_size _ rfl
      have hT : Shared.TypeIs { s with heap := s.heap.push (newS w) } (.ref s.heap.objs.size) "set" := ⟨_, hS, rfl⟩
      have hli := PySem.F.called_set.init.lookup
      have hbi := PySem.F.called_set.init.bind (.ref s.heap.objs.size)
      repeat (any_goals (first | assumption | wp_step))
      refine codeAny_mono (codeAny_call_builtin (R := wants (fun r s2 => r = .none ∧ ∃ h' tk, s2 = { s with heap := h', toks := tk } ∧ StD prog w zs h' s.heap.objs.size ∧ (∀ c o, s.heap.get? c = some o → h'.get? c = some o)) E) PySem.F.called_set.init.plain PySem.F.entry_set_init (check_set_init_1 hT ?_)) fun r2 s2 hr2 => ?_
      · obtain ⟨ol, hol, hcl, nl, hdl⟩ := hl
        obtain ⟨ocls, odict, odata, oslots⟩ := ol
        simp only at hcl hdl
        subst hcl hdl
        have hol1 : (s.heap.push (newS w)).get? l = some { cls := .type "list", dict := odict, data := .seq items nl, slots := oslots } := Heap.get?_push_of_some _ hol
        have q1 := PySem.F.sub_list_set
        have q2 := PySem.F.sub_list_frozenset
        have q3 : (Value.type "list" == Value.type "dict") = false := by decide
        have hl1 : (s.heap.push (newS w)).IsList l items := ⟨_, hol1, rfl, nl, rfl⟩
        unfold Builtin.«set.__init__» noKeywords Builtin.Frozenset.updateFrom
        generalize hPI : pyIter = PI
        wp_walk
        subst hPI
        refine wpAny_pyIter_list hl1 (wpAny_bind (wpAny_runValue ?_))
        have lS : l < s.heap.objs.size := Heap.lt_size hol
        have ne : l ≠ (s.heap.push (newS w)).objs.size := by rw [Heap.size_push]; exact Nat.ne_of_lt (Nat.lt_succ_of_lt lS)
        have nf : s.heap.objs.size ∉ [(s.heap.push (newS w)).objs.size, l] := by
          rw [Heap.size_push]
          intro z
          rcases List.mem_cons.mp z with z | z
          · exact absurd z (Nat.ne_of_lt (Nat.lt_succ_self _))
          · exact absurd (List.mem_singleton.mp z) (Nat.ne_of_gt lS)
        have len : items.size = zs.length := by
          have := hi.length
          simpa using this.symm
        refine loop_sd (Walks.list (by simp [hh]) _ l ne items) nf zs len (by omega) (fun i v hlt hv => ?_) (items.size - 0) 0 _ rfl (Nat.zero_le _) ⟨⟨_, Heap.get?_push_size _ rfl, rfl, rfl⟩, hl1.push _⟩ (newS_sd (Heap.get?_push_of_some _ hS)) fun h' tk kp hS' => ?_
        · have hl : i < zs.length := by rw [← len]; exact hlt
          obtain ⟨u, hu, ru⟩ := hi.get (show (zs.map V.str)[i]? = some (.str zs[i]) by rw [List.getElem?_map, List.getElem?_eq_getElem hl]; rfl)
          rw [Array.getElem?_toList] at hu
          have hv : items[i]? = some v := hv
          rw [hu] at hv
          obtain ⟨tk, e⟩ := ru
          exact ⟨zs[i], tk, List.getElem?_eq_getElem hl, by rw [← Option.some.inj hv, e]⟩
        · show wpAny _ _ _ _ _ _
          refine wpAny_pure (show wpAny _ _ (ret Value.none) _ _ _ from wpAny_pure ⟨rfl, h', tk, rfl, hS', fun c o e => kp c o (fun z => ?_) (Heap.get?_push_of_some _ (Heap.get?_push_of_some _ e))⟩)
          have lc := Heap.lt_size e
          rcases List.mem_cons.mp z with z | z
          · exact absurd z (Nat.ne_of_lt lc)
          · have := List.mem_singleton.mp z
            rw [Heap.size_push] at this
            exact absurd this (Nat.ne_of_lt (Nat.lt_succ_of_lt lc))
      · cases r2 with
        | error e => exact hr2
        | ok fl2 =>
          cases fl2 with
          | ret r =>
            obtain ⟨rfl, h', tk, rfl, hS', hk'⟩ := hr2
            repeat (any_goals (first | assumption | wp_step))
            exact h _ _ hS' hk'
          | _ => exact hr2.elim
    | _ => exact hr.elim
end
def rSetDL (P : Program) (w : World) (K : PySem.W.Frag) : List V → Hp → VK → Prop := fun xs H Q => ∃ (l : Addr) (zs : List Str), xs = [.ref l] ∧ H l = some (.lst (zs.map V.str)) ∧ zs.length < 4050 ∧
  ∀ p H', Same H H' → H p = none → H' p = some (SetD P w p zs) → Q (.ref p) H'
theorem call_setDLs {X : Cx} (hc : X.calm = true) : CallR X (.type "set") (rSetDL X.prog X.w X.K) := by
  intro pins s σ H xs us Q I r h
  obtain ⟨l, zs, rfl, e, h4, q⟩ := h
  obtain ⟨u, rfl, rx⟩ := vals1 r
  cases rx
  obtain ⟨_, its, n, rv, _, ht⟩ := I.lstM e
  have hLn : H s.heap.objs.size = none := I.hok.fresh (Nat.le_refl _)
  refine call_setDl (I.ok.hd hc) ⟨_, ht, rfl, n, rfl⟩ (by rw [List.toList_toArray]; exact rv) h4 fun h' tk hS kp => ?_
  have I2 : Inv X pins σ (upd H s.heap.objs.size (SetD X.prog X.w s.heap.objs.size zs)) { s with heap := h', toks := tk } := I.laid (t' := tk) kp (Nat.le_refl _) ⟨hS, by obtain ⟨o, _, _, _, ho, _⟩ := hS; exact ⟨o, ho⟩, fun h1 h2 z k => z.at k⟩
  exact ⟨.ref s.heap.objs.size, _, I2, rfl, q _ _ (same_newO hLn _) hLn upd_same⟩
end L2
set_option Elab.async false
set_option linter.all false
set_option maxRecDepth 100000
namespace K92
open PySem L2
def DueAt (H : Hp) (p : Addr) : Res → Prop
  | .row k => H p = some (.tup [.str (Str.ofString "row"), .int ((k : Nat) : Int)])
  | .name => H p = some (.tup [.str (Str.ofString "name"), .int 0])
  | .prices => H p = some (.tup [.str (Str.ofString "prices"), .int 0])
  | .weights => H p = some (.tup [.str (Str.ofString "weights"), .int 0])
  | .book sg ps nm ws => BkAt H p sg ps nm ws
def PrL (H : Hp) (x : V) (r : List Str) : Prop := ∃ l, x = .ref l ∧ H l = some (.tup [.str (k1 r), .int (num (k2 r))])
def nk (r : List Str) : Int := num (k2 r)
theorem amsR_is (lo hi : Nat) (rs : List (List Str)) : amsB lo hi (rs.map fun r => num (k2 r)) = (decide (lo ≤ rs.length) && (decide (rs.length ≤ hi) && rs.all fun r => amB (num (k2 r)))) := by
  unfold amsB
  rw [List.length_map, List.all_map]
  rfl
section
variable {P : Program} {w : World} {K : PySem.W.Frag} {mg : Str → Option Value} {base : Heap} {f : Addr} {fd : FuncData}
abbrev NDu : List Str := ["text", "rows", "letters", "things", "at", "words", "pairs", "prices", "weights"]
def spDu : Sp := fun vs H Q _ => ∃ z : Str, vs = [.str z] ∧ Asc z ∧ z.length ≤ 4000 ∧ ∀ (p : Addr) H', Same H H' → DueAt H' p (res z) → Q (.ref p) H'
theorem scDu : FnScope NDu ["text"] (defScope sDue) := ⟨rfl, rfl, rfl, by decide +kernel, rfl, by decide +kernel, by decide +kernel⟩
theorem ndDu : (("pair" : Str) :: NDu).Nodup := by decide +kernel
set_option maxHeartbeats 16000000 in
theorem ok_du (F : Fun K "_law_due" "_law_due" sDue f fd) (GG : Fns P w K mg base PRg "_law_row_good" spRg 1) (ml : mg "len" = none) (mr : mg "range" = none) (ma : mg "all" = none) (mt : mg "tuple" = none) (mse : mg "set" = none) (mI : mg "int" = none) : FnOk P w K mg base CX0 2 f fd ["text"] spDu := by
  refine F.ok (k := 1) scDu (fun vs H Q E h => ?_) (fun cdv A outer s H vs Q E hr h => ?_)
  · obtain ⟨z, rfl, _⟩ := h
    rfl
  obtain ⟨z, rfl, as, l4, qq⟩ := h
  refine ⟨_, pss_cons (ps_set (i := 1) scDu.nd rfl (Or.inl rfl) (pe_bmS PySem.F.slot_str_split PySem.F.type_str_split mt_split (pv 0) (pa_cons (pe_str) (pa_nil))))
      (pss_cons (ps_set (i := 2) scDu.nd rfl (Or.inl rfl) (pe_lst (pa_nil)))
      (pss_cons (ps_set (i := 3) scDu.nd rfl (Or.inl rfl) (pe_lst (pa_nil)))
      (pss_cons (ps_for PassesOwn.never rfl (pi_range1 (by rfl) mr (pa_cons (pe_op op_sub (pe_callB call_len_seq (by rfl) ml PySem.boot_len (pa_cons (pv 1) (pa_nil))) (pe_int)) (pa_nil))) (pg_name (i := 4) scDu.nd rfl (Or.inl rfl)) (pss_cons (ps_if (pt_not (pt_val (pe_call GG.ok hr (by rfl) GG.m GG.kp GG.b .nil pass0 (pa_cons (pe_ix ix_list (pv 1) (pv 4) (fun _ _ => rfl)) (pa_cons (pe_cmpR op_gt (pe_callB call_len_seq (by rfl) ml PySem.boot_len (pa_cons (pv 3) (pa_nil))) pe_int (nomark _)) (pa_nil)))))) (pss_one (ps_ret (pe_tup (pa_cons (pe_str) (pa_cons (pe_op op_add (pv 4) (pe_int)) (pa_nil)))))) (pss_nil))
      (pss_cons (ps_set (i := 5) scDu.nd rfl (Or.inl rfl) (pe_bmS PySem.F.slot_str_split PySem.F.type_str_split mt_split (pe_ix ix_list (pv 1) (pv 4) (fun _ _ => rfl)) (pa_cons (pe_str) (pa_nil))))
      (pss_one (ps_if (pt_cmpR op_eq (pe_ix ix_list (pv 5) (pe_int) (fun _ _ => rfl)) (pe_str) (nomark _)) (pss_one (ps_expr (pe_bm PySem.F.plainAttrs_list PySem.F.slot_list_append PySem.F.type_list_append mt_append (pv 2) (pa_cons (pe_tup (pa_cons (pe_ix ix_list (pv 5) (pe_int) (fun _ _ => rfl)) (pa_cons (pe_callTy call_int_str (by rfl) mI b_int (pa_cons (pe_ix ix_list (pv 5) (pe_int) (fun _ _ => rfl)) (pa_nil))) (pa_nil)))) (pa_nil))))) (pss_one (ps_expr (pe_bm PySem.F.plainAttrs_list PySem.F.slot_list_append PySem.F.type_list_append mt_append (pv 3) (pa_cons (pe_tup (pa_cons (pe_ix ix_list (pv 5) (pe_int) (fun _ _ => rfl)) (pa_cons (pe_callTy call_int_str (by rfl) mI b_int (pa_cons (pe_ix ix_list (pv 5) (pe_int) (fun _ _ => rfl)) (pa_nil))) (pa_nil)))) (pa_nil))))))))))
      (pss_cons (ps_if (pt_cmpR op_ne (pe_ix ix_list (pv 1) (pe_un un_neg pe_int) (fun _ _ => rfl)) (pe_str) (nomark _)) (pss_one (ps_ret (pe_tup (pa_cons (pe_str) (pa_cons (pe_callB call_len_seq (by rfl) ml PySem.boot_len (pa_cons (pv 1) (pa_nil))) (pa_nil)))))) (pss_nil))
      (pss_cons (ps_for PassesOwn.never rfl (pi_list (pe_lst (pa_cons (pv 2) (pa_cons (pv 3) (pa_nil))))) (pg_name (i := 6) scDu.nd rfl (Or.inl rfl)) (pss_one (ps_if (pt_cmpR op_lt (pe_callB call_lenSd (by rfl) ml PySem.boot_len (pa_cons (pe_callTy (call_setDLs rfl) (by rfl) mse b_setT (pa_cons (pe_compL (M := NDu) rfl (CompScope.of (defScope sDue) NDu rfl rfl rfl (by decide +kernel) (by decide +kernel) (by decide +kernel) rfl (by decide +kernel)) ndDu rfl (pv 6) mo_var (fun cl C s0 H0 fp => ⟨pts_nil, pe_ix (ixT K) (pv 0) (pe_int) (fun _ _ => rfl)⟩)) (pa_nil))) (pa_nil))) (pe_callB call_len_seq (by rfl) ml PySem.boot_len (pa_cons (pv 6) (pa_nil))) (nomark _)) (pss_one (ps_ret (pe_tup (pa_cons (pe_str) (pa_cons (pe_int) (pa_nil)))))) (pss_nil))))
      (pss_cons (ps_if (PW.pt (pw_or (pt_not (pt_chain op_le op_le pe_int (pe_callB call_len_seq (by rfl) ml PySem.boot_len (pa_cons (pv 2) (pa_nil))) pe_int)) (pw_or1 (pt_not (pt_val (pe_callB (call_all rfl) (by rfl) ma b_all (pa_cons (pe_compL (M := NDu) rfl (CompScope.of (defScope sDue) NDu rfl rfl rfl (by decide +kernel) (by decide +kernel) (by decide +kernel) rfl (by decide +kernel)) ndDu rfl (pv 2) mo_var (fun cl C s0 H0 fp => ⟨pts_nil, pe_mid (pe_chain op_le op_le pe_int (pe_ix (ixT K) (pv 0) (pe_int) (fun _ _ => rfl)) (pe_op op_pow pe_int pe_int))⟩)) (pa_nil)))))))) (pss_one (ps_ret (pe_tup (pa_cons (pe_str) (pa_cons (pe_int) (pa_nil)))))) (pss_nil))
      (pss_cons (ps_if (PW.pt (pw_or (pt_not (pt_chain op_le op_le pe_int (pe_callB call_len_seq (by rfl) ml PySem.boot_len (pa_cons (pv 3) (pa_nil))) pe_int)) (pw_or1 (pt_not (pt_val (pe_callB (call_all rfl) (by rfl) ma b_all (pa_cons (pe_compL (M := NDu) rfl (CompScope.of (defScope sDue) NDu rfl rfl rfl (by decide +kernel) (by decide +kernel) (by decide +kernel) rfl (by decide +kernel)) ndDu rfl (pv 3) mo_var (fun cl C s0 H0 fp => ⟨pts_nil, pe_mid (pe_chain op_le op_le pe_int (pe_ix (ixT K) (pv 0) (pe_int) (fun _ _ => rfl)) (pe_op op_pow pe_int pe_int))⟩)) (pa_nil)))))))) (pss_one (ps_ret (pe_tup (pa_cons (pe_str) (pa_cons (pe_int) (pa_nil)))))) (pss_nil))
      (pss_cons (ps_set (i := 7) scDu.nd rfl (Or.inl rfl) (pe_callTy call_tuple_of (by rfl) mt b_tuple (pa_cons (pe_compL (M := NDu) rfl (CompScope.of (defScope sDue) NDu rfl rfl rfl (by decide +kernel) (by decide +kernel) (by decide +kernel) rfl (by decide +kernel)) ndDu rfl (pv 2) mo_var (fun cl C s0 H0 fp => ⟨pts_nil, pe_ix (ixT K) (pv 0) (pe_int) (fun _ _ => rfl)⟩)) (pa_nil))))
      (pss_cons (ps_set (i := 8) scDu.nd rfl (Or.inl rfl) (pe_callTy call_tuple_of (by rfl) mt b_tuple (pa_cons (pe_compL (M := NDu) rfl (CompScope.of (defScope sDue) NDu rfl rfl rfl (by decide +kernel) (by decide +kernel) (by decide +kernel) rfl (by decide +kernel)) ndDu rfl (pv 3) mo_var (fun cl C s0 H0 fp => ⟨pts_nil, pe_ix (ixT K) (pv 0) (pe_int) (fun _ _ => rfl)⟩)) (pa_nil))))
      (pss_one (ps_ret (pe_tup (pa_cons (pe_callTy call_tuple_of (by rfl) mt b_tuple (pa_cons (pe_compL (M := NDu) rfl (CompScope.of (defScope sDue) NDu rfl rfl rfl (by decide +kernel) (by decide +kernel) (by decide +kernel) rfl (by decide +kernel)) ndDu rfl (pv 2) mo_var (fun cl C s0 H0 fp => ⟨pts_nil, pe_ix (ixT K) (pv 0) (pe_int) (fun _ _ => rfl)⟩)) (pa_nil))) (pa_cons (pv 7) (pa_cons (pe_callTy call_tuple_of (by rfl) mt b_tuple (pa_cons (pe_compL (M := NDu) rfl (CompScope.of (defScope sDue) NDu rfl rfl rfl (by decide +kernel) (by decide +kernel) (by decide +kernel) rfl (by decide +kernel)) ndDu rfl (pv 3) mo_var (fun cl C s0 H0 fp => ⟨pts_nil, pe_ix (ixT K) (pv 0) (pe_int) (fun _ _ => rfl)⟩)) (pa_nil))) (pa_cons (pv 8) (pa_nil))))))))))))))))), ?_⟩
  have Pz := split_pt (c := 10) as
  rw [← nl_is] at Pz
  have gl := getLast_is Pz.ne
  have er : rowsZ z = (Txt.split z nl).dropLast.map fun p => Txt.split p sp := rfl
  have el : lastZ z = (Txt.split z nl).getLastD Str.empty := rfl
  have br : badRow z = (match badAt false (rowsZ z) 0 with | some k => some k | none => if 0 < (lastZ z).length then some ((rowsZ z).length + 1) else none) := rfl
  have rr : ∀ k, badRow z = some k → res z = .row k := fun k h => by unfold res; rw [h]
  have rn : badRow z = none → res z = if (((lettersZ z).map k1).Nodup ∧ ((thingsZ z).map k1).Nodup) then
      (if amsB 2 6 ((lettersZ z).map fun r => num (k2 r)) = true then
        (if amsB 1 24 ((thingsZ z).map fun r => num (k2 r)) = true then .book ((lettersZ z).map k1) ((lettersZ z).map fun r => num (k2 r)) ((thingsZ z).map k1) ((thingsZ z).map fun r => num (k2 r)) else .weights)
      else .prices) else .name := fun h => by unfold res; rw [h]
  have eL : lettersZ z = (rowsZ z).filter fun r => decide (k0 r = tL) := rfl
  have eT : thingsZ z = (rowsZ z).filter fun r => decide (k0 r = tT) := rfl
  rw [eL, eT] at rn
  clear eL eT
  have la : Asc (lastZ z) ∧ (lastZ z).length ≤ z.length := Pz.as _ (by rw [gl]; exact List.mem_append_right _ (.head _))
  have pasc : ∀ p ∈ (Txt.split z nl).dropLast, Asc p ∧ p.length ≤ z.length := fun p hp => Pz.as p (List.dropLast_subset _ hp)
  have ple := Pz.le
  rw [← el] at gl
  generalize (Txt.split z nl).dropLast = pcs at gl er pasc
  generalize lastZ z = lst at gl br la
  rw [gl, List.length_append] at ple
  have ple : pcs.length + 1 ≤ z.length + 2 := ple
  refine ⟨_, rfl, ⟨_, rfl⟩, z, nl, rfl, rfl, (by decide +kernel), big5 (by omega), fun rw' hrw => ?_⟩
  rw [gl]
  have s1 := same_newO hrw (.lst ((pcs ++ [lst]).map V.str))
  have g1 : upd H rw' (.lst ((pcs ++ [lst]).map V.str)) rw' = some (.lst (pcs.map V.str ++ [.str lst])) := by rw [upd_same, List.map_append]; rfl
  generalize upd H rw' (.lst ((pcs ++ [lst]).map V.str)) = H1 at s1 g1 ⊢
  refine ⟨(by show 0 ≤ sizeLine; decide), fun a ha => ⟨(by show 0 ≤ sizeLine; decide), fun b hb => ?_⟩⟩
  have nab : b ≠ a := fun e => by rw [e, upd_same] at hb; cases hb
  have hb1 : H1 b = none := none_bk (same_newO ha _) hb
  refine ⟨_, rfl, rw', _, rfl, .inl (SqL.of ((same_newO hb _) _ _ ((same_newO ha _) _ _ g1))), _, _, rfl, rfl, _, rfl, by omega, by rw [List.length_append, List.length_map]; show ((pcs.length + 1 : Nat) : Int) - 1 < _; omega, ?_⟩
  have en : ((((pcs.map V.str ++ [V.str lst]).length : Nat) : Int) - 1).toNat = pcs.length := by
    rw [List.length_append, List.length_map]
    show (((pcs.length + 1 : Nat) : Int) - 1).toNat = _
    omega
  rw [en]
  have lr : (rowsZ z).length = pcs.length := by rw [er, List.length_map]
  have gr : ∀ {i : Nat} {p : Str}, pcs[i]? = some p → (rowsZ z)[i]? = some (Txt.split p sp) := fun h => by rw [er, List.getElem?_map, h]; rfl
  generalize rowsZ z = rs at br rn lr gr
  clear er
  refine for_range (fun i σ H' => ∃ xa xb, H' a = some (.lst xa) ∧ H' b = some (.lst xb) ∧ Same H1 H' ∧ Paired (PrL H') xa ((rs.take i).filter fun r => decide (k0 r = tL)) ∧ Paired (PrL H') xb ((rs.take i).filter fun r => decide (k0 r = tT)) ∧ badAt false rs 0 = badAt (decide (0 < ((rs.take i).filter fun r => decide (k0 r = tT)).length)) (rs.drop i) i ∧ ∃ x4 x5 : Option V, σ = [some (.str z), some (.ref rw'), some (.ref a), some (.ref b), x4, x5, none, none, none]) ⟨[], [], by rw [upd_ne nab.symm, upd_same], upd_same, (same_newO ha _).trans (same_newO hb _), .nil, .nil, rfl, _, _, rfl⟩ (fun i σ H2 hi hP => ?_) (fun σ H2 hP => ?_)
  · obtain ⟨xa, xb, ga, gb, s2, pa, pb, eb, x4, x5, rfl⟩ := hP
    have hp : pcs[i]? = some (pcs[i]'hi) := List.getElem?_eq_getElem hi
    generalize pcs[i]'hi = p at hp
    have ht := gr hp
    have Gp := pasc p (List.mem_of_getElem? hp)
    have il := (List.getElem?_eq_some_iff.mp ht).1
    generalize hT : Txt.split p sp = t at ht
    have ed : rs.drop i = t :: rs.drop (i + 1) := by
      rw [List.drop_eq_getElem_cons il, (List.getElem?_eq_some_iff.mp ht).2]
    have et : rs.take (i + 1) = rs.take i ++ [t] := by rw [List.take_add_one, ht]; rfl
    rw [ed] at eb
    have lb := pb.length
    have lap := pa.length
    have flL := List.length_filter_le (fun r : List Str => decide (k0 r = tL)) (rs.take i)
    have flT := List.length_filter_le (fun r : List Str => decide (k0 r = tT)) (rs.take i)
    rw [List.length_take] at flL flT
    have ap : atI (pcs.map V.str ++ [V.str lst]) ((0 : Int) + i) = some (.str p) := by
      rw [Int.zero_add]
      refine atI_nat ?_
      rw [List.getElem?_append_left (by rw [List.length_map]; exact hi), List.getElem?_map, hp]
      rfl
    refine ⟨_, rfl, _, rfl, rw', _, _, _, rfl, rfl, SqL.of (s2 _ _ g1), ap, _, rfl, b, _, rfl, .inl (SqL.of gb), _, _, rfl, rfl, p, _, rfl, Gp.1, by omega, fun H3 s3 => ⟨_, rfl, ?_⟩⟩
    rw [hT]
    have ebb : decide ((0 : Int) < ((xb.length : Nat) : Int)) = decide (0 < ((rs.take i).filter fun r => decide (k0 r = tT)).length) := decide_eq_decide.mpr (by rw [← lb]; omega)
    rw [ebb]
    generalize hB : decide (0 < ((rs.take i).filter fun r => decide (k0 r = tT)).length) = bb at eb
    have s13 := s2.trans s3
    cases hG : gB bb t with
    | false =>
      refine iteT ⟨_, rfl, _, _, rfl, rfl, (by show 2 ≤ sizeLine; decide), fun q hq => ?_⟩
      have e1 : badAt bb (t :: rs.drop (i + 1)) i = some (i + 1) := by
        show (if tB t = true then _ else if bb = false ∧ lB t = true then _ else some (i + 1)) = _
        unfold gB at hG
        simp only [Bool.or_eq_false_iff, Bool.and_eq_false_iff, Bool.not_eq_false'] at hG
        rw [if_neg (by rw [hG.1]; exact Bool.false_ne_true), if_neg (fun h => by
          rcases hG.2 with x | x
          · rw [x] at h; exact absurd h.1 (by decide)
          · rw [x] at h; exact absurd h.2 (by decide))]
      rw [eb, e1] at br
      refine qq q _ ((s1.trans s13).trans (same_newO hq _)) ?_
      rw [rr _ br]
      show upd H3 q _ q = _
      rw [upd_same, Int.zero_add]
      rfl
    | true =>
    refine iteF ?_
    refine ⟨_, rfl, _, rfl, rw', _, _, _, rfl, rfl, SqL.of (s13 _ _ g1), ap, ⟨_, rfl⟩, p, sp, rfl, rfl, (by decide +kernel), big5 (by omega), fun q hq => ?_⟩
    rw [hT]
    have s4 := s3.trans (same_newO hq (.lst (t.map V.str)))
    have gq : upd H3 q (.lst (t.map V.str)) q = some (.lst (t.map V.str)) := upd_same
    generalize upd H3 q (.lst (t.map V.str)) = H4 at s4 gq ⊢
    have ga4 := s4 _ _ ga
    have gb4 := s4 _ _ gb
    have pa4 : Paired (PrL H4) xa _ := Paired.mapP pa fun _ _ ⟨l, e, hl⟩ => ⟨l, e, s4 _ _ hl⟩
    have pb4 : Paired (PrL H4) xb _ := Paired.mapP pb fun _ _ ⟨l, e, hl⟩ => ⟨l, e, s4 _ _ hl⟩
    have keep : ∀ {H' : Hp} {e : Addr} {ys zs : List V} {ts : List (List Str)} {xs : List V}, H' e = some (.lst ys) → Paired (PrL H') xs ts → Paired (PrL (upd H' e (.lst zs))) xs ts := fun he h => Paired.mapP h fun _ _ ⟨l, e', hl⟩ => ⟨l, e', by
      rw [upd_ne (fun x => by rw [x, he] at hl; cases hl)]
      exact hl⟩
    have hab : H1 a = none := ha
    cases hTt : tB t with
    | true =>
      obtain ⟨nm, c, rfl, _, nuc⟩ := rwB_is hTt
      refine ⟨_, rfl, q, _, _, _, rfl, rfl, SqL.of gq, (rfl : atI [V.str tT, .str nm, .str c] 0 = _), rfl, _, rfl, ?_⟩
      rw [decide_eq_false (show ¬ V.str tT = V.str (Str.ofString "letter") from fun h => tLT (V.str.inj h).symm)]
      refine iteF ?_
      refine ⟨_, rfl, .inl ⟨rfl, _, SqL.of gb4⟩, _, rfl, q, _, _, _, rfl, rfl, SqL.of gq, (rfl : atI [V.str tT, .str nm, .str c] 1 = _), _, rfl, q, _, _, _, rfl, rfl, SqL.of gq, (rfl : atI [V.str tT, .str nm, .str c] 2 = _), _, _, rfl, (nuB_reads nuc).1, by have := (nuB_reads nuc).2; omega, (by show 2 ≤ sizeLine; decide), fun u hu => ?_⟩
      have s5 := same_newO hu (.tup [.str nm, .int (num c)])
      have gu : upd H4 u (.tup [.str nm, .int (num c)]) u = some (.tup [.str nm, .int (num c)]) := upd_same
      have ga5 := s5 _ _ ga4
      have gb5 := s5 _ _ gb4
      generalize upd H4 u (.tup [.str nm, .int (num c)]) = H5 at s5 gu ga5 gb5 ⊢
      have nub : u ≠ b := fun e => by rw [e, gb5] at gu; cases gu
      refine ⟨b, _, _, rfl, rfl, gb5, lt5 (by omega), xa, xb ++ [.ref u], by rw [upd_ne nab.symm]; exact ga5, upd_same, same_upd hb1 ((s2.trans s4).trans s5), ?_, ?_, ?_, _, _, rfl⟩
      · rw [et, List.filter_append]
        rw [show List.filter (fun r : List Str => decide (k0 r = tL)) [[tT, nm, c]] = [] from List.filter_cons_of_neg (by exact fun h => tLT (of_decide_eq_true h).symm), List.append_nil]
        exact keep gb5 (Paired.mapP pa4 fun _ _ ⟨l, e, hl⟩ => ⟨l, e, s5 _ _ hl⟩)
      · rw [et, List.filter_append]
        rw [show List.filter (fun r : List Str => decide (k0 r = tT)) [[tT, nm, c]] = [[tT, nm, c]] from List.filter_cons_of_pos (decide_eq_true rfl)]
        refine Paired.appendP (keep gb5 (Paired.mapP pb4 fun _ _ ⟨l, e, hl⟩ => ⟨l, e, s5 _ _ hl⟩)) (Paired.oneP ⟨u, rfl, ?_⟩)
        rw [upd_ne nub]
        exact gu
      · rw [et, List.filter_append]
        rw [show List.filter (fun r : List Str => decide (k0 r = tT)) [[tT, nm, c]] = [[tT, nm, c]] from List.filter_cons_of_pos (decide_eq_true rfl)]
        rw [decide_eq_true (show 0 < (_ ++ [[tT, nm, c]]).length by rw [List.length_append]; exact Nat.succ_pos _), eb]
        show (if tB [tT, nm, c] = true then _ else _) = _
        rw [if_pos hTt]
    | false =>
      have hL : bb = false ∧ lB t = true := by
        unfold gB at hG
        rw [hTt] at hG
        simpa using hG
      obtain ⟨nm, c, rfl, _, nuc⟩ := rwB_is hL.2
      refine ⟨_, rfl, q, _, _, _, rfl, rfl, SqL.of gq, (rfl : atI [V.str tL, .str nm, .str c] 0 = _), rfl, _, rfl, ?_⟩
      rw [decide_eq_true (show V.str tL = V.str (Str.ofString "letter") from rfl)]
      refine iteT ?_
      refine ⟨_, rfl, .inl ⟨rfl, _, SqL.of ga4⟩, _, rfl, q, _, _, _, rfl, rfl, SqL.of gq, (rfl : atI [V.str tL, .str nm, .str c] 1 = _), _, rfl, q, _, _, _, rfl, rfl, SqL.of gq, (rfl : atI [V.str tL, .str nm, .str c] 2 = _), _, _, rfl, (nuB_reads nuc).1, by have := (nuB_reads nuc).2; omega, (by show 2 ≤ sizeLine; decide), fun u hu => ?_⟩
      have s5 := same_newO hu (.tup [.str nm, .int (num c)])
      have gu : upd H4 u (.tup [.str nm, .int (num c)]) u = some (.tup [.str nm, .int (num c)]) := upd_same
      have ga5 := s5 _ _ ga4
      have gb5 := s5 _ _ gb4
      generalize upd H4 u (.tup [.str nm, .int (num c)]) = H5 at s5 gu ga5 gb5 ⊢
      have nua : u ≠ a := fun e => by rw [e, ga5] at gu; cases gu
      refine ⟨a, _, _, rfl, rfl, ga5, lt5 (by omega), xa ++ [.ref u], xb, upd_same, by rw [upd_ne nab]; exact gb5, same_upd hab ((s2.trans s4).trans s5), ?_, ?_, ?_, _, _, rfl⟩
      · rw [et, List.filter_append]
        rw [show List.filter (fun r : List Str => decide (k0 r = tL)) [[tL, nm, c]] = [[tL, nm, c]] from List.filter_cons_of_pos (decide_eq_true rfl)]
        refine Paired.appendP (keep ga5 (Paired.mapP pa4 fun _ _ ⟨l, e, hl⟩ => ⟨l, e, s5 _ _ hl⟩)) (Paired.oneP ⟨u, rfl, ?_⟩)
        rw [upd_ne nua]
        exact gu
      · rw [et, List.filter_append]
        rw [show List.filter (fun r : List Str => decide (k0 r = tT)) [[tL, nm, c]] = [] from List.filter_cons_of_neg (by exact fun h => tLT (of_decide_eq_true h)), List.append_nil]
        exact keep ga5 (Paired.mapP pb4 fun _ _ ⟨l, e, hl⟩ => ⟨l, e, s5 _ _ hl⟩)
      · rw [et, List.filter_append]
        rw [show List.filter (fun r : List Str => decide (k0 r = tT)) [[tL, nm, c]] = [] from List.filter_cons_of_neg (by exact fun h => tLT (of_decide_eq_true h)), List.append_nil, hB, eb, hL.1]
        show (if tB [tL, nm, c] = true then _ else if false = false ∧ lB [tL, nm, c] = true then _ else _) = _
        rw [if_neg (by rw [hTt]; exact Bool.false_ne_true), if_pos ⟨rfl, hL.2⟩]
  obtain ⟨xa, xb, ga, gb, s2, pa, pb, eb, x4, x5, rfl⟩ := hP
  rw [← lr, List.take_length] at pa pb
  rw [← lr, List.drop_length] at eb
  have eb : badAt false rs 0 = none := eb
  rw [eb] at br
  have br : badRow z = if 0 < lst.length then some (rs.length + 1) else none := br
  have flL := List.length_filter_le (fun r : List Str => decide (k0 r = tL)) rs
  have flT := List.length_filter_le (fun r : List Str => decide (k0 r = tT)) rs
  generalize (rs.filter fun r => decide (k0 r = tL)) = ls at pa rn flL
  generalize (rs.filter fun r => decide (k0 r = tT)) = ts at pb rn flT
  have s02 := s1.trans s2
  have lx := pa.length
  have ly := pb.length
  refine ⟨_, rfl, _, rfl, rw', _, _, _, rfl, rfl, SqL.of (s2 _ _ g1), atI_last _ _, rfl, _, rfl, ?_⟩
  by_cases c : 0 < lst.length
  · rw [if_pos c] at br
    rw [decide_eq_false (show ¬ V.str lst = V.str (Str.ofString "") from fun h => by rw [V.str.inj h] at c; exact absurd c (by decide +kernel))]
    refine iteT ⟨_, rfl, rw', _, rfl, .inl (SqL.of (s2 _ _ g1)), (by show 2 ≤ sizeLine; decide), fun q hq => ?_⟩
    refine qq q _ (s02.trans (same_newO hq _)) ?_
    rw [rr _ br]
    show upd H2 q _ q = _
    rw [upd_same, List.length_append, List.length_map, lr]
    rfl
  rw [if_neg c] at br
  have le0 : lst = Str.ofString "" := by
    have : lst.cps.size = 0 := by have : lst.length = lst.cps.size := rfl; omega
    show lst = ⟨#[]⟩
    rw [← Array.eq_empty_of_size_eq_zero this]
  rw [decide_eq_true (congrArg V.str le0)]
  refine iteF ?_
  have rn := rn br
  clear br eb
  refine ⟨_, rfl, _, rfl, (by show 2 ≤ sizeLine; decide), fun pp hpp => ⟨pp, rfl, ⟨_, SqL.of upd_same⟩, ?_⟩⟩
  have spp := same_newO hpp (.lst [.ref a, .ref b])
  have gpp : upd H2 pp (.lst [.ref a, .ref b]) pp = some (.lst [.ref a, .ref b]) := upd_same
  generalize upd H2 pp (.lst [.ref a, .ref b]) = H3 at spp gpp ⊢
  refine for_list (xs := [.ref a, .ref b]) (fun i σ H' => Same H3 H' ∧ (1 ≤ i → (ls.map k1).Nodup) ∧ (2 ≤ i → (ts.map k1).Nodup) ∧ ∃ x6 : Option V, σ = [some (.str z), some (.ref rw'), some (.ref a), some (.ref b), x4, x5, x6, none, none]) ⟨Same.refl _, fun h => absurd h (by decide), fun h => absurd h (by decide), _, rfl⟩ (fun i σ H' _ hP => SqL.of (hP.1 _ _ gpp)) (fun i x σ H4 hx hP => ?_) (fun σ H4 hP => ?_)
  · obtain ⟨s4, n1, n2, x6, rfl⟩ := hP
    obtain ⟨e, xe, re, rfl, ge, pe, le5, oth⟩ : ∃ e xe re, x = .ref e ∧ H2 e = some (.lst xe) ∧ Paired (PrL H2) xe re ∧ re.length ≤ 4001 ∧ ((i = 0 ∧ re = ls) ∨ (i = 1 ∧ re = ts)) := by
      match i, hx with
      | 0, hx => exact ⟨a, xa, ls, (Option.some.inj hx).symm, ga, pa, by omega, .inl ⟨rfl, rfl⟩⟩
      | 1, hx => exact ⟨b, xb, ts, (Option.some.inj hx).symm, gb, pb, by omega, .inr ⟨rfl, rfl⟩⟩
    have s24 := spp.trans s4
    have ge4 := s24 _ _ ge
    refine ⟨_, rfl, e, xe, rfl, SqL.of ge4, fun d3 hd3 => ?_⟩
    refine ⟨fun i H' => Same H4 H' ∧ H' d3 = some (.lst (((re.take i).map k1).map V.str)), ⟨same_newO hd3 _, upd_same⟩, fun i H' _ hP => SqL.of (hP.1 _ _ ge4), fun i x H' hx hP => ?_, fun H5 hP => ?_⟩
    · obtain ⟨s2, hz⟩ := hP
      obtain ⟨t, ht, l', rfl, hl'⟩ := Paired.right_of pe i x hx
      have il := (List.getElem?_eq_some_iff.mp ht).1
      refine turn_all ⟨_, rfl, l', _, _, _, rfl, rfl, SqT.of (s2 _ _ (s24 _ _ hl')), (rfl : atI [V.str _, V.int _] 0 = _), _, hz, ?_, same_upd hd3 s2, ?_⟩
      · rw [List.length_map, List.length_map, List.length_take]; exact lt5 (by omega)
      · rw [upd_same, List.take_add_one, ht, List.map_append, List.map_append]; rfl
    obtain ⟨sd3, gd3⟩ := hP
    rw [pe.length, List.take_length] at gd3
    refine ⟨d3, re.map k1, rfl, gd3, by rw [List.length_map]; omega, fun e1 H6 s6 he1 ge1 => ?_⟩
    refine ⟨e1, re.map k1, rfl, ge1, by rw [List.length_map]; omega, _, rfl, e, _, rfl, .inl (SqL.of (s6 _ _ (sd3 _ _ ge4))), _, _, rfl, rfl, _, rfl, ?_⟩
    have ee : xe.length = (re.map k1).length := by rw [List.length_map]; exact pe.length
    rw [ee, dd_lt]
    by_cases nd : (re.map k1).Nodup
    · rw [decide_eq_true nd]
      refine iteF ⟨(s4.trans sd3).trans s6, fun h => ?_, fun h => ?_, _, rfl⟩
      · rcases oth with ⟨rfl, rfl⟩ | ⟨rfl, rfl⟩
        · exact nd
        · exact n1 (by omega)
      · rcases oth with ⟨rfl, rfl⟩ | ⟨rfl, rfl⟩
        · exact absurd h (by decide)
        · exact nd
    · rw [decide_eq_false nd]
      refine iteT ⟨(by show 2 ≤ sizeLine; decide), fun q hq => ?_⟩
      refine qq q _ (((s02.trans (s24.trans sd3)).trans s6).trans (same_newO hq _)) ?_
      rw [rn, if_neg (fun h => by
        rcases oth with ⟨rfl, rfl⟩ | ⟨rfl, rfl⟩
        · exact nd h.1
        · exact nd h.2)]
      exact upd_same
  obtain ⟨s4, n1, n2, x6, rfl⟩ := hP
  rw [if_pos ⟨n1 (by show 1 ≤ 2; decide), n2 (by show 2 ≤ 2; decide)⟩, amsR_is, amsR_is] at rn
  have s24 := spp.trans s4
  have ga4 := s24 _ _ ga
  have gb4 := s24 _ _ gb
  have bad : ∀ {H' : Hp} {q : Addr} {r : Res} {o : HO}, Same H2 H' → H' q = none → res z = r → DueAt (upd H' q o) q r → Q (.ref q) (upd H' q o) := fun s' hq er h => qq _ _ ((s02.trans s').trans (same_newO hq _)) (by rw [er]; exact h)
  clear n1 n2 spp gpp hpp
  refine ⟨_, rfl, a, _, rfl, .inl (SqL.of ga4), _, _, rfl, rfl, _, rfl, ?_⟩
  rw [lx]
  by_cases c1 : 2 ≤ ls.length
  case neg =>
    rw [if_neg (fun h => c1 (by have := of_decide_eq_true h; omega))]
    rw [decide_eq_false c1, Bool.false_and, if_neg Bool.false_ne_true] at rn
    exact ⟨_, rfl, iteT ⟨(by show 2 ≤ sizeLine; decide), fun q hq => bad s24 hq rn upd_same⟩⟩
  rw [if_pos (decide_eq_true (by omega))]
  refine ⟨_, _, rfl, rfl, _, rfl, ?_⟩
  by_cases c2 : ls.length ≤ 6
  case neg =>
    rw [decide_eq_false (by omega)]
    rw [decide_eq_false c2, Bool.false_and, Bool.and_false, if_neg Bool.false_ne_true] at rn
    exact iteT ⟨(by show 2 ≤ sizeLine; decide), fun q hq => bad s24 hq rn upd_same⟩
  rw [decide_eq_true (by omega)]
  refine iteF ?_
  refine ⟨_, rfl, a, xa, rfl, SqL.of ga4, fun d1 hd1 => ?_⟩
  refine ⟨fun i H' => Same H4 H' ∧ H' d1 = some (.lst (((ls.take i).map fun r => amB (num (k2 r))).map V.bl)), ⟨same_newO hd1 _, upd_same⟩, fun i H' _ hP => SqL.of (hP.1 _ _ ga4), fun i x H' hx hP => ?_, fun H5 hP => ?_⟩
  · obtain ⟨s2, hz⟩ := hP
    obtain ⟨t, ht, l', rfl, hl'⟩ := Paired.right_of pa i x hx
    have il := (List.getElem?_eq_some_iff.mp ht).1
    refine turn_all ⟨fun v H'' => v = .bl (amB (num (k2 t))) ∧ H' = H'', ?_, fun v H'' hv => ?_⟩
    · refine ⟨_, rfl, l', _, _, _, rfl, rfl, SqT.of (s2 _ _ (s24 _ _ hl')), (rfl : atI [V.str _, V.int _] 1 = _), _, _, rfl, rfl, _, rfl, ite2 (fun c => ?_) (fun c => ?_)⟩
      · refine ⟨_, _, rfl, rfl, ⟨by decide, by decide, by decide⟩, _, _, rfl, rfl, ?_, rfl⟩
        unfold amB
        rw [decide_eq_true (of_decide_eq_true c), Bool.true_and]
        show V.bl (decide (num (k2 t) ≤ 10 ^ (30 : Int).toNat)) = _
        rw [e30]
      · refine ⟨?_, rfl⟩
        unfold amB
        rw [Bool.eq_false_iff.mpr c, Bool.false_and]
    obtain ⟨rfl, rfl⟩ := hv
    refine ⟨_, hz, ?_, same_upd hd1 s2, ?_⟩
    · rw [List.length_map, List.length_map, List.length_take]; exact lt5 (by omega)
    · rw [upd_same, List.take_add_one, ht, List.map_append, List.map_append]; rfl
  obtain ⟨sd1, gd1⟩ := hP
  rw [pa.length, List.take_length] at gd1
  refine ⟨d1, _, rfl, gd1, _, rfl, ?_⟩
  rw [List.all_map]
  have s25 := s24.trans sd1
  cases hA : ls.all (id ∘ fun r => amB (num (k2 r))) with
  | false =>
    have hA : (ls.all fun r => amB (num (k2 r))) = false := hA
    rw [hA, Bool.and_false, Bool.and_false, if_neg Bool.false_ne_true] at rn
    exact iteT ⟨(by show 2 ≤ sizeLine; decide), fun q hq => bad s25 hq rn upd_same⟩
  | true =>
  have hA : (ls.all fun r => amB (num (k2 r))) = true := hA
  rw [hA, decide_eq_true c1, decide_eq_true c2, if_pos (show (true && (true && true)) = true from rfl)] at rn
  refine iteF ?_
  have ga5 := s25 _ _ ga
  have gb5 := s25 _ _ gb
  refine ⟨_, rfl, b, _, rfl, .inl (SqL.of gb5), _, _, rfl, rfl, _, rfl, ?_⟩
  rw [ly]
  by_cases c3 : 1 ≤ ts.length
  case neg =>
    rw [if_neg (fun h => c3 (by have := of_decide_eq_true h; omega))]
    rw [decide_eq_false c3, Bool.false_and, if_neg Bool.false_ne_true] at rn
    exact ⟨_, rfl, iteT ⟨(by show 2 ≤ sizeLine; decide), fun q hq => bad s25 hq rn upd_same⟩⟩
  rw [if_pos (decide_eq_true (by omega))]
  refine ⟨_, _, rfl, rfl, _, rfl, ?_⟩
  by_cases c4 : ts.length ≤ 24
  case neg =>
    rw [decide_eq_false (by omega)]
    rw [decide_eq_false c4, Bool.false_and, Bool.and_false, if_neg Bool.false_ne_true] at rn
    exact iteT ⟨(by show 2 ≤ sizeLine; decide), fun q hq => bad s25 hq rn upd_same⟩
  rw [decide_eq_true (by omega)]
  refine iteF ?_
  refine ⟨_, rfl, b, xb, rfl, SqL.of gb5, fun d2 hd2 => ?_⟩
  refine ⟨fun i H' => Same H5 H' ∧ H' d2 = some (.lst (((ts.take i).map fun r => amB (num (k2 r))).map V.bl)), ⟨same_newO hd2 _, upd_same⟩, fun i H' _ hP => SqL.of (hP.1 _ _ gb5), fun i x H' hx hP => ?_, fun H6 hP => ?_⟩
  · obtain ⟨s2, hz⟩ := hP
    obtain ⟨t, ht, l', rfl, hl'⟩ := Paired.right_of pb i x hx
    have il := (List.getElem?_eq_some_iff.mp ht).1
    refine turn_all ⟨fun v H'' => v = .bl (amB (num (k2 t))) ∧ H' = H'', ?_, fun v H'' hv => ?_⟩
    · refine ⟨_, rfl, l', _, _, _, rfl, rfl, SqT.of (s2 _ _ (s25 _ _ hl')), (rfl : atI [V.str _, V.int _] 1 = _), _, _, rfl, rfl, _, rfl, ite2 (fun c => ?_) (fun c => ?_)⟩
      · refine ⟨_, _, rfl, rfl, ⟨by decide, by decide, by decide⟩, _, _, rfl, rfl, ?_, rfl⟩
        unfold amB
        rw [decide_eq_true (of_decide_eq_true c), Bool.true_and]
        show V.bl (decide (num (k2 t) ≤ 10 ^ (30 : Int).toNat)) = _
        rw [e30]
      · refine ⟨?_, rfl⟩
        unfold amB
        rw [Bool.eq_false_iff.mpr c, Bool.false_and]
    obtain ⟨rfl, rfl⟩ := hv
    refine ⟨_, hz, ?_, same_upd hd2 s2, ?_⟩
    · rw [List.length_map, List.length_map, List.length_take]; exact lt5 (by omega)
    · rw [upd_same, List.take_add_one, ht, List.map_append, List.map_append]; rfl
  obtain ⟨sd2, gd2⟩ := hP
  rw [pb.length, List.take_length] at gd2
  refine ⟨d2, _, rfl, gd2, _, rfl, ?_⟩
  rw [List.all_map]
  have s26 := s25.trans sd2
  cases hB : ts.all (id ∘ fun r => amB (num (k2 r))) with
  | false =>
    have hB : (ts.all fun r => amB (num (k2 r))) = false := hB
    rw [hB, Bool.and_false, Bool.and_false, if_neg Bool.false_ne_true] at rn
    exact iteT ⟨(by show 2 ≤ sizeLine; decide), fun q hq => bad s26 hq rn upd_same⟩
  | true =>
  have hB : (ts.all fun r => amB (num (k2 r))) = true := hB
  rw [hB, decide_eq_true c3, decide_eq_true c4, if_pos (show (true && (true && true)) = true from rfl)] at rn
  refine iteF ?_
  have ga6 := s26 _ _ ga
  refine ⟨_, rfl, a, xa, rfl, SqL.of ga6, fun d4 hd4 => ?_⟩
  refine ⟨fun i H' => Same H6 H' ∧ H' d4 = some (.lst (((ls.take i).map nk).map V.int)), ⟨same_newO hd4 _, upd_same⟩, fun i H' _ hP => SqL.of (hP.1 _ _ ga6), fun i x H' hx hP => ?_, fun H7 hP => ?_⟩
  · obtain ⟨s2, hz⟩ := hP
    obtain ⟨t, ht, l', rfl, hl'⟩ := Paired.right_of pa i x hx
    have il := (List.getElem?_eq_some_iff.mp ht).1
    refine turn_all ⟨_, rfl, l', _, _, _, rfl, rfl, SqT.of (s2 _ _ (s26 _ _ hl')), (rfl : atI [V.str _, V.int _] 1 = _), _, hz, ?_, same_upd hd4 s2, ?_⟩
    · rw [List.length_map, List.length_map, List.length_take]; exact lt5 (by omega)
    · rw [upd_same, List.take_add_one, ht, List.map_append, List.map_append]; rfl
  obtain ⟨sd4, gd4⟩ := hP
  rw [pa.length, List.take_length] at gd4
  refine ⟨d4, _, rfl, .inl ⟨SqL.of gd4, fun p1 hp1 => ?_⟩⟩
  have sp1 := same_newO hp1 (.tup ((ls.map nk).map V.int))
  have gp1 : upd H7 p1 (.tup ((ls.map nk).map V.int)) p1 = some (.tup ((ls.map nk).map V.int)) := upd_same
  generalize upd H7 p1 (.tup ((ls.map nk).map V.int)) = H8 at sp1 gp1 ⊢
  have s28 := (s26.trans sd4).trans sp1
  have gb8 := s28 _ _ gb
  refine ⟨_, rfl, b, xb, rfl, SqL.of gb8, fun d5 hd5 => ?_⟩
  refine ⟨fun i H' => Same H8 H' ∧ H' d5 = some (.lst (((ts.take i).map nk).map V.int)), ⟨same_newO hd5 _, upd_same⟩, fun i H' _ hP => SqL.of (hP.1 _ _ gb8), fun i x H' hx hP => ?_, fun H9 hP => ?_⟩
  · obtain ⟨s2, hz⟩ := hP
    obtain ⟨t, ht, l', rfl, hl'⟩ := Paired.right_of pb i x hx
    have il := (List.getElem?_eq_some_iff.mp ht).1
    refine turn_all ⟨_, rfl, l', _, _, _, rfl, rfl, SqT.of (s2 _ _ (s28 _ _ hl')), (rfl : atI [V.str _, V.int _] 1 = _), _, hz, ?_, same_upd hd5 s2, ?_⟩
    · rw [List.length_map, List.length_map, List.length_take]; exact lt5 (by omega)
    · rw [upd_same, List.take_add_one, ht, List.map_append, List.map_append]; rfl
  obtain ⟨sd5, gd5⟩ := hP
  rw [pb.length, List.take_length] at gd5
  refine ⟨d5, _, rfl, .inl ⟨SqL.of gd5, fun p2 hp2 => ?_⟩⟩
  have sp2 := sd5.trans (same_newO hp2 (.tup ((ts.map nk).map V.int)))
  have gp2 : upd H9 p2 (.tup ((ts.map nk).map V.int)) p2 = some (.tup ((ts.map nk).map V.int)) := upd_same
  generalize upd H9 p2 (.tup ((ts.map nk).map V.int)) = H10 at sp2 gp2 ⊢
  have s210 := s28.trans sp2
  have ga10 := s210 _ _ ga
  refine ⟨_, rfl, a, xa, rfl, SqL.of ga10, fun d6 hd6 => ?_⟩
  refine ⟨fun i H' => Same H10 H' ∧ H' d6 = some (.lst (((ls.take i).map k1).map V.str)), ⟨same_newO hd6 _, upd_same⟩, fun i H' _ hP => SqL.of (hP.1 _ _ ga10), fun i x H' hx hP => ?_, fun H11 hP => ?_⟩
  · obtain ⟨s2, hz⟩ := hP
    obtain ⟨t, ht, l', rfl, hl'⟩ := Paired.right_of pa i x hx
    have il := (List.getElem?_eq_some_iff.mp ht).1
    refine turn_all ⟨_, rfl, l', _, _, _, rfl, rfl, SqT.of (s2 _ _ (s210 _ _ hl')), (rfl : atI [V.str _, V.int _] 0 = _), _, hz, ?_, same_upd hd6 s2, ?_⟩
    · rw [List.length_map, List.length_map, List.length_take]; exact lt5 (by omega)
    · rw [upd_same, List.take_add_one, ht, List.map_append, List.map_append]; rfl
  obtain ⟨sd6, gd6⟩ := hP
  rw [pa.length, List.take_length] at gd6
  refine ⟨d6, _, rfl, .inl ⟨SqL.of gd6, fun p3 hp3 => ?_⟩⟩
  have sp3 := sd6.trans (same_newO hp3 (.tup ((ls.map k1).map V.str)))
  have gp3 : upd H11 p3 (.tup ((ls.map k1).map V.str)) p3 = some (.tup ((ls.map k1).map V.str)) := upd_same
  generalize upd H11 p3 (.tup ((ls.map k1).map V.str)) = H12 at sp3 gp3 ⊢
  have s212 := s210.trans sp3
  have gb12 := s212 _ _ gb
  refine ⟨_, rfl, ?_⟩
  refine ⟨_, rfl, b, xb, rfl, SqL.of gb12, fun d7 hd7 => ?_⟩
  refine ⟨fun i H' => Same H12 H' ∧ H' d7 = some (.lst (((ts.take i).map k1).map V.str)), ⟨same_newO hd7 _, upd_same⟩, fun i H' _ hP => SqL.of (hP.1 _ _ gb12), fun i x H' hx hP => ?_, fun H13 hP => ?_⟩
  · obtain ⟨s2, hz⟩ := hP
    obtain ⟨t, ht, l', rfl, hl'⟩ := Paired.right_of pb i x hx
    have il := (List.getElem?_eq_some_iff.mp ht).1
    refine turn_all ⟨_, rfl, l', _, _, _, rfl, rfl, SqT.of (s2 _ _ (s212 _ _ hl')), (rfl : atI [V.str _, V.int _] 0 = _), _, hz, ?_, same_upd hd7 s2, ?_⟩
    · rw [List.length_map, List.length_map, List.length_take]; exact lt5 (by omega)
    · rw [upd_same, List.take_add_one, ht, List.map_append, List.map_append]; rfl
  obtain ⟨sd7, gd7⟩ := hP
  rw [pb.length, List.take_length] at gd7
  refine ⟨d7, _, rfl, .inl ⟨SqL.of gd7, fun p4 hp4 => ?_⟩⟩
  have sp4 := sd7.trans (same_newO hp4 (.tup ((ts.map k1).map V.str)))
  have gp4 : upd H13 p4 (.tup ((ts.map k1).map V.str)) p4 = some (.tup ((ts.map k1).map V.str)) := upd_same
  generalize upd H13 p4 (.tup ((ts.map k1).map V.str)) = H14 at sp4 gp4 ⊢
  refine ⟨_, rfl, (by show 4 ≤ sizeLine; decide), fun q hq => ?_⟩
  refine bad (s212.trans sp4) hq rn ?_
  have sq := same_newO hq (.tup [.ref p3, .ref p1, .ref p4, .ref p2])
  exact ⟨p3, p1, p4, p2, upd_same, sq _ _ (sp4 _ _ gp3), sq _ _ (sp4 _ _ (sp3 _ _ (sp2 _ _ gp1))), sq _ _ gp4, sq _ _ (sp4 _ _ (sp3 _ _ gp2))⟩
end
end K92
set_option Elab.async false
set_option linter.all false
set_option maxRecDepth 100000
namespace K92
open PySem L2
section
variable {P : Program} {w : World} {K : PySem.W.Frag} {mg : Str → Option Value} {base : Heap} {f : Addr} {fd : FuncData}
structure Kl (K : PySem.W.Frag) (mg : Str → Option Value) (D CR CN CP CW CB : Addr) : Prop where
  gD : mg "TollError" = some (.ref D)
  gR : mg "BadRow" = some (.ref CR)
  gN : mg "BadName" = some (.ref CN)
  gP : mg "BadPrices" = some (.ref CP)
  gW : mg "BadWeights" = some (.ref CW)
  gB : mg "BadWord" = some (.ref CB)
  gV : mg "ValueError" = none
  xD : XC K D
  xR : XC K CR
  xN : XC K CN
  xP : XC K CP
  xW : XC K CW
  xB : XC K CB
  es : Est K CR
  na : NoAttr K CR "at"
  rD : PySem.W.subIn K (.ref CR) (.ref D) = some true
  nD : PySem.W.subIn K (.ref CN) (.ref D) = some true
  pD : PySem.W.subIn K (.ref CP) (.ref D) = some true
  wD : PySem.W.subIn K (.ref CW) (.ref D) = some true
  bD : PySem.W.subIn K (.ref CB) (.ref D) = some true
  rN : PySem.W.subIn K (.ref CR) (.ref CN) = some false
  rP : PySem.W.subIn K (.ref CR) (.ref CP) = some false
  rW : PySem.W.subIn K (.ref CR) (.ref CW) = some false
  rB : PySem.W.subIn K (.ref CR) (.ref CB) = some false
  nR : PySem.W.subIn K (.ref CN) (.ref CR) = some false
  nP : PySem.W.subIn K (.ref CN) (.ref CP) = some false
  nW : PySem.W.subIn K (.ref CN) (.ref CW) = some false
  nB : PySem.W.subIn K (.ref CN) (.ref CB) = some false
  pR : PySem.W.subIn K (.ref CP) (.ref CR) = some false
  pN : PySem.W.subIn K (.ref CP) (.ref CN) = some false
  pW : PySem.W.subIn K (.ref CP) (.ref CW) = some false
  pB : PySem.W.subIn K (.ref CP) (.ref CB) = some false
  wR : PySem.W.subIn K (.ref CW) (.ref CR) = some false
  wN : PySem.W.subIn K (.ref CW) (.ref CN) = some false
  wP : PySem.W.subIn K (.ref CW) (.ref CP) = some false
  wB : PySem.W.subIn K (.ref CW) (.ref CB) = some false
  bN : PySem.W.subIn K (.ref CB) (.ref CN) = some false
abbrev kO (K : PySem.W.Frag) (C D : Addr) (b : Bool) : Prop := PySem.W.kitOne K (.ref C) (.ref D) = some b
abbrev NFd : List Str := ["which", "text", "caught", "found", "e", "kinds"]
def noBook (z : Str) : Prop := ∀ sg ps nm ws, res z ≠ .book sg ps nm ws
def fnd (which : Int) (z : Str) (H : Hp) (Q : VK) : Prop := (∀ (p : Addr) H', Same H H' → DueAt H' p (res z) → (which = 0 ∨ noBook z) → Q (.ref p) H') ∧ (which ≠ 0 → ∀ sg ps nm ws, res z = .book sg ps nm ws → ∀ H', Same H H' → Q (.str z) H')
def spFd : Sp := fun vs H Q _ => ∃ (which : Int) (z : Str), vs = [.int which, .str z] ∧ Asc z ∧ z.length ≤ 4000 ∧ fnd which z H Q
theorem scFd : FnScope NFd ["which", "text"] (defScope sFound) := ⟨rfl, rfl, rfl, by decide +kernel, rfl, by decide +kernel, by decide +kernel⟩
set_option maxHeartbeats 16000000 in
theorem ok_fd {D CR CN CP CW CB : Addr} (F : Fun K "_law_found" "_law_found" sFound f fd) (GA : Fns' P w K mg base NAk "_law_asked" (spAk CR CN CP CW) 7) (GW : Fns P w K mg base ["found"] "_law_whole" spWhole 7) (c : Kl K mg D CR CN CP CW CB) (mi : mg "isinstance" = none) : FnOk P w K mg base CX0 8 f fd ["which", "text"] spFd := by
  refine F.ok (k := 7) scFd (fun vs H Q E h => ?_) (fun cdv A outer s H vs Q E hr h => ?_)
  · obtain ⟨which, z, rfl, _⟩ := h
    rfl
  obtain ⟨which, z, rfl, as, l4, q1, q2⟩ := h
  refine ⟨_, pss_cons (ps_set (i := 2) scFd.nd rfl (Or.inl rfl) (pe_non))
      (pss_cons (ps_set (i := 3) scFd.nd rfl (Or.inl rfl) (pe_non))
      (pss_cons (ps_mid (ps_try (i := 4) rfl ⟨rfl, rfl⟩ (fun pn xe Ex hx => pss_one (ps_set (i := 3) scFd.nd rfl (Or.inl rfl) (pe_callX GA.ok hr (by rfl) GA.m GA.kp GA.b hx (pa_cons (pv 0) (pa_cons (pv 1) (pa_nil)))))) (fun ea => pss_one (ps_set (i := 2) scFd.nd rfl (Or.inl rfl) (pv 4))) scFd.nd rfl rfl (by rfl) c.gD c.xD.h))
      (pss_cons (ps_if (pt_cmpR op_isN (pv 2) (pe_non) (nomark _)) (pss_one (ps_ret (pv 3))) (pss_nil))
      (pss_cons (ps_set (i := 5) scFd.nd rfl (Or.inl rfl) (pe_lst (pa_cons (pe_callB (call_or (isiE K) (isiO K)) (by rfl) mi b_isi (pa_cons (pv 2) (pa_cons (pe_glob (v := .ref CR) (by rfl) c.gR rfl) (pa_nil)))) (pa_cons (pe_callB (call_or (isiE K) (isiO K)) (by rfl) mi b_isi (pa_cons (pv 2) (pa_cons (pe_glob (v := .ref CN) (by rfl) c.gN rfl) (pa_nil)))) (pa_cons (pe_callB (call_or (isiE K) (isiO K)) (by rfl) mi b_isi (pa_cons (pv 2) (pa_cons (pe_glob (v := .ref CP) (by rfl) c.gP rfl) (pa_nil)))) (pa_nil))))))
      (pss_cons (ps_expr (pe_bm PySem.F.plainAttrs_list PySem.F.slot_list_append PySem.F.type_list_append mt_append (pv 5) (pa_cons (pe_callB (call_or (isiE K) (isiO K)) (by rfl) mi b_isi (pa_cons (pv 2) (pa_cons (pe_glob (v := .ref CW) (by rfl) c.gW rfl) (pa_nil)))) (pa_nil))))
      (pss_cons (ps_if (PW.pt (pw_or (pt_cmpR op_ne (pe_bm PySem.F.plainAttrs_list PySem.F.slot_list_count PySem.F.type_list_count mt_countB (pv 5) (pa_cons (pe_bl) (pa_nil))) (pe_int) (nomark _)) (pw_or (pt_not (pt_val (pe_callB (call_or (isiE K) (isiO K)) (by rfl) mi b_isi (pa_cons (pv 2) (pa_cons (pe_bltn (v := .ty "ValueError") (by rfl) c.gV b_VE rfl) (pa_nil)))))) (pw_or1 (pt_val (pe_callB (call_or (isiE K) (isiO K)) (by rfl) mi b_isi (pa_cons (pv 2) (pa_cons (pe_glob (v := .ref CB) (by rfl) c.gB rfl) (pa_nil))))))))) (pss_one (ps_ret (pe_str))) (pss_nil))
      (pss_cons (ps_if (pt_not (pt_val (pe_ix ix_list (pv 5) (pe_int) (fun _ _ => rfl)))) (pss_one (ps_ret (pe_tup (pa_cons (pe_ix ix_list (pe_lst (pa_cons (pe_str) (pa_cons (pe_str) (pa_cons (pe_str) (pa_cons (pe_str) (pa_nil)))))) (pe_bm PySem.F.plainAttrs_list PySem.F.slot_list_index PySem.F.type_list_index mt_indexB (pv 5) (pa_cons (pe_bl) (pa_nil))) (fun _ _ => rfl)) (pa_cons (pe_int) (pa_nil)))))) (pss_nil))
      (pss_cons (ps_if (pt_not (pt_val (pe_call GW.ok hr (by rfl) GW.m GW.kp GW.b .nil pass0 (pa_cons (pe_xo K (pv 2)) (pa_nil))))) (pss_one (ps_ret (pe_str))) (pss_nil))
      (pss_one (ps_ret (pe_tup (pa_cons (pe_str) (pa_cons (pe_xo K (pv 2)) (pa_nil)))))))))))))), ?_⟩
  refine ⟨fun σ' H' => Same H H' ∧ ((∃ v, σ' = [some (.int which), some (.str z), some .non, some v, none, none] ∧ Q v H') ∨ (∃ ea k, σ' = [some (.int which), some (.str z), some (.ref ea), some .non, none, none] ∧ res z = .row k ∧ Exo H' ea CR [("at", .int ((k : Nat) : Int))]) ∨
    (∃ ea C b1 b2 b3 txt i, σ' = [some (.int which), some (.str z), some (.ref ea), some .non, none, none] ∧ H' ea = some (excO ea C none) ∧ XC K C ∧ kO K C CR false ∧ kO K C CN b1 ∧ kO K C CP b2 ∧ kO K C CW b3 ∧ kO K C CB false ∧ [false, b1, b2, b3].countP (fun c => decide (c = true)) = 1 ∧ true ∈ [false, b1, b2, b3] ∧ [false, b1, b2, b3].idxOf true = i ∧ atI [V.str (Str.ofString "row"), .str (Str.ofString "name"), .str (Str.ofString "prices"), .str (Str.ofString "weights")] ((i : Nat) : Int) = some (.str txt) ∧ (∀ q H', H' q = some (.tup [.str txt, .int 0]) → DueAt H' q (res z)) ∧ noBook z)), ?_, fun σ' H' hm => ?_⟩
  · refine ⟨_, rfl, _, rfl, which, z, rfl, as, l4, ⟨fun k er dx H1 s1 hdx => ?_, fun er H1 s1 => ?_, fun er H1 s1 => ?_, fun er H1 s1 => ?_⟩, fun sg ps nm ws er => ⟨fun w0 p H1 s1 bk => ?_, fun w0 H1 s1 => ?_⟩⟩
    · refine ⟨CR, rfl, c.rD, fun ea hea => ⟨_, rfl, ?_⟩⟩
      exact ⟨s1.trans (same_newO hea _), .inr (.inl ⟨ea, k, rfl, er, caught_of (C := CR) hea hdx⟩)⟩
    · refine ⟨CN, rfl, c.nD, fun ea hea => ⟨_, rfl, ?_⟩⟩
      exact ⟨s1.trans (same_newO hea _), .inr (.inr ⟨ea, CN, true, false, false, Str.ofString "name", 1, rfl, upd_same, c.xN, kit_f c.xN c.xR.h c.nR, kit_t c.xN.h c.xN.sf, kit_f c.xN c.xP.h c.nP, kit_f c.xN c.xW.h c.nW, kit_f c.xN c.xB.h c.nB, by decide, by decide, by decide, rfl, (fun q H' h => by rw [er]; exact h), fun _ _ _ _ e => by rw [er] at e; cases e⟩)⟩
    · refine ⟨CP, rfl, c.pD, fun ea hea => ⟨_, rfl, ?_⟩⟩
      exact ⟨s1.trans (same_newO hea _), .inr (.inr ⟨ea, CP, false, true, false, Str.ofString "prices", 2, rfl, upd_same, c.xP, kit_f c.xP c.xR.h c.pR, kit_f c.xP c.xN.h c.pN, kit_t c.xP.h c.xP.sf, kit_f c.xP c.xW.h c.pW, kit_f c.xP c.xB.h c.pB, by decide, by decide, by decide, rfl, (fun q H' h => by rw [er]; exact h), fun _ _ _ _ e => by rw [er] at e; cases e⟩)⟩
    · refine ⟨CW, rfl, c.wD, fun ea hea => ⟨_, rfl, ?_⟩⟩
      exact ⟨s1.trans (same_newO hea _), .inr (.inr ⟨ea, CW, false, false, true, Str.ofString "weights", 3, rfl, upd_same, c.xW, kit_f c.xW c.xR.h c.wR, kit_f c.xW c.xN.h c.wN, kit_f c.xW c.xP.h c.wP, kit_t c.xW.h c.xW.sf, kit_f c.xW c.xB.h c.wB, by decide, by decide, by decide, rfl, (fun q H' h => by rw [er]; exact h), fun _ _ _ _ e => by rw [er] at e; cases e⟩)⟩
    · exact ⟨s1, .inl ⟨_, rfl, q1 p H1 s1 (by rw [er]; exact bk) (.inl w0)⟩⟩
    · exact ⟨s1, .inl ⟨_, rfl, q2 w0 sg ps nm ws er H1 s1⟩⟩
  obtain ⟨s1, hm⟩ := hm
  rcases hm with ⟨v, rfl, q⟩ | ⟨ea, k, rfl, er, hE⟩ | ⟨ea, C, b1, b2, b3, txt, i, rfl, hE, xc, kR, kN, kP, kW, kB, cnt, mem, idx, at4, due, nb⟩
  · exact ⟨_, rfl, rfl, _, rfl, iteT ⟨_, rfl, q⟩⟩
  · refine ⟨_, rfl, rfl, _, rfl, ?_⟩
    rw [decide_eq_false (fun h : V.ref ea = V.non => by cases h)]
    refine iteF ?_
    have kN := kit_f c.xR c.xN.h c.rN
    have kP := kit_f c.xR c.xP.h c.rP
    have kW := kit_f c.xR c.xW.h c.rW
    have kB := kit_f c.xR c.xB.h c.rB
    have kR := kit_t c.xR.h c.xR.sf
    refine ⟨_, rfl, .inr ⟨ea, CR, _, _, true, rfl, hE, c.xR.e, .inl ⟨CR, rfl, kR⟩, ?_⟩⟩
    refine ⟨_, rfl, .inr ⟨ea, CR, _, _, false, rfl, hE, c.xR.e, .inl ⟨CN, rfl, kN⟩, ?_⟩⟩
    refine ⟨_, rfl, .inr ⟨ea, CR, _, _, false, rfl, hE, c.xR.e, .inl ⟨CP, rfl, kP⟩, (by show 3 ≤ sizeLine; decide), fun t ht => ?_⟩⟩
    have s2 := same_newO ht (.lst [.bl true, .bl false, .bl false])
    have gt : upd H' t (.lst [.bl true, .bl false, .bl false]) t = some (.lst [.bl true, .bl false, .bl false]) := upd_same
    generalize upd H' t (.lst [.bl true, .bl false, .bl false]) = H2 at s2 gt ⊢
    have hE2 := Exo.same hE s2
    refine ⟨_, rfl, .inl ⟨rfl, _, SqL.of gt⟩, _, rfl, .inr ⟨ea, CR, _, _, false, rfl, hE2, c.xR.e, .inl ⟨CW, rfl, kW⟩, t, _, _, rfl, rfl, gt, (by show 3 < sizeLine; decide), ?_⟩⟩
    have s3 := same_upd (o := .lst [.bl true, .bl false, .bl false, .bl false]) ht s2
    have gt3 : upd H2 t (.lst [.bl true, .bl false, .bl false, .bl false]) t = some (.lst ([true, false, false, false].map V.bl)) := upd_same
    show _
    have e3 : ([V.bl true, .bl false, .bl false] ++ [V.bl false]) = [V.bl true, .bl false, .bl false, .bl false] := rfl
    rw [e3]
    generalize upd H2 t (.lst [.bl true, .bl false, .bl false, .bl false]) = H3 at s3 gt3 ⊢
    have hE3 := Exo.same hE s3
    refine ⟨_, rfl, .inl ⟨rfl, _, SqL.of gt3⟩, t, [true, false, false, false], true, rfl, rfl, gt3, rfl, _, rfl, ?_⟩
    rw [decide_eq_true (by decide)]
    refine iteF ?_
    refine ⟨_, rfl, .inr ⟨ea, CR, _, _, true, rfl, hE3, c.xR.e, .inr ⟨"ValueError", rfl, kit_ve c.xR⟩, _, rfl, iteF ?_⟩⟩
    refine ⟨_, rfl, .inr ⟨ea, CR, _, _, false, rfl, hE3, c.xR.e, .inl ⟨CB, rfl, kB⟩, _, rfl, iteF ?_⟩⟩
    refine ⟨_, rfl, t, _, _, _, rfl, rfl, SqL.of gt3, (rfl : atI [V.bl true, .bl false, .bl false, .bl false] 0 = _), _, rfl, iteF ?_⟩
    refine ⟨_, rfl, ea, CR, _, _, rfl, hE3, c.xR.e, c.es, c.na, rfl, _, rfl, _, rfl, iteF ?_⟩
    refine ⟨_, rfl, ea, CR, _, _, rfl, hE3, c.xR.e, c.es, c.na, rfl, (by show 2 ≤ sizeLine; decide), fun q hq => ?_⟩
    refine q1 q _ ((s1.trans s3).trans (same_newO hq _)) ?_ (.inr fun _ _ _ _ e => by rw [er] at e; cases e)
    rw [er]
    exact upd_same
  · refine ⟨_, rfl, rfl, _, rfl, ?_⟩
    rw [decide_eq_false (fun h : V.ref ea = V.non => by cases h)]
    refine iteF ?_
    refine ⟨_, rfl, .inl ⟨ea, C, none, _, false, rfl, hE, xc.e, .inl rfl, .inl ⟨CR, rfl, kR⟩, ?_⟩⟩
    refine ⟨_, rfl, .inl ⟨ea, C, none, _, b1, rfl, hE, xc.e, .inl rfl, .inl ⟨CN, rfl, kN⟩, ?_⟩⟩
    refine ⟨_, rfl, .inl ⟨ea, C, none, _, b2, rfl, hE, xc.e, .inl rfl, .inl ⟨CP, rfl, kP⟩, (by show 3 ≤ sizeLine; decide), fun t ht => ?_⟩⟩
    have s2 := same_newO ht (.lst [.bl false, .bl b1, .bl b2])
    have gt : upd H' t (.lst [.bl false, .bl b1, .bl b2]) t = some (.lst [.bl false, .bl b1, .bl b2]) := upd_same
    generalize upd H' t (.lst [.bl false, .bl b1, .bl b2]) = H2 at s2 gt ⊢
    have hE2 := s2 _ _ hE
    refine ⟨_, rfl, .inl ⟨rfl, _, SqL.of gt⟩, _, rfl, .inl ⟨ea, C, none, _, b3, rfl, hE2, xc.e, .inl rfl, .inl ⟨CW, rfl, kW⟩, t, _, _, rfl, rfl, gt, (by show 3 < sizeLine; decide), ?_⟩⟩
    have s3 := same_upd (o := .lst [.bl false, .bl b1, .bl b2, .bl b3]) ht s2
    have gt3 : upd H2 t (.lst [.bl false, .bl b1, .bl b2, .bl b3]) t = some (.lst ([false, b1, b2, b3].map V.bl)) := upd_same
    have e3 : ([V.bl false, .bl b1, .bl b2] ++ [V.bl b3]) = [V.bl false, .bl b1, .bl b2, .bl b3] := rfl
    rw [e3]
    generalize upd H2 t (.lst [.bl false, .bl b1, .bl b2, .bl b3]) = H3 at s3 gt3 ⊢
    have hE3 := s3 _ _ hE
    refine ⟨_, rfl, .inl ⟨rfl, _, SqL.of gt3⟩, t, [false, b1, b2, b3], true, rfl, rfl, gt3, rfl, _, rfl, ?_⟩
    rw [decide_eq_true (by rw [cnt]; rfl)]
    refine iteF ?_
    refine ⟨_, rfl, .inl ⟨ea, C, none, _, true, rfl, hE3, xc.e, .inl rfl, .inr ⟨"ValueError", rfl, kit_ve xc⟩, _, rfl, iteF ?_⟩⟩
    refine ⟨_, rfl, .inl ⟨ea, C, none, _, false, rfl, hE3, xc.e, .inl rfl, .inl ⟨CB, rfl, kB⟩, _, rfl, iteF ?_⟩⟩
    refine ⟨_, rfl, t, _, _, _, rfl, rfl, SqL.of gt3, (rfl : atI [V.bl false, .bl b1, .bl b2, .bl b3] 0 = _), _, rfl, iteT ?_⟩
    refine ⟨(by show 4 ≤ sizeLine; decide), fun u hu => ?_⟩
    have s4 := same_newO hu (.lst [.str (Str.ofString "row"), .str (Str.ofString "name"), .str (Str.ofString "prices"), .str (Str.ofString "weights")])
    refine ⟨_, rfl, .inl ⟨rfl, _, SqL.of (s4 _ _ gt3)⟩, t, [false, b1, b2, b3], true, rfl, rfl, s4 _ _ gt3, mem, ?_⟩
    rw [idx]
    refine ⟨u, _, _, _, rfl, rfl, SqL.of upd_same, at4, (by show 2 ≤ sizeLine; decide), fun q hq => ?_⟩
    exact q1 q _ (((s1.trans s3).trans s4).trans (same_newO hq _)) (due q _ upd_same) (.inr nb)
end
end K92
set_option Elab.async false
set_option linter.all false
set_option maxRecDepth 100000
set_option maxHeartbeats 1000000
namespace L2
open PySem PySem.Spec PyProof.Rows
def rNeBk : R2 := fun x y H Q => ∃ a b sg ps nm ws, x = .ref a ∧ y = .ref b ∧ BkAt H a sg ps nm ws ∧ BkAt H b sg ps nm ws ∧ Q (.bl false) H
theorem op_neBk {X : Cx} (hu : X.A.units + 4 < cLine) : OpR X (compareOp .NotEq) rNeBk := by
  intro pins s σ H x y v w' Q I rx ry h
  obtain ⟨a, b, sg, ps, nm, ws, rfl, rfl, ⟨b1, b2, b3, b4, ha, h1, h2, h3, h4⟩, ⟨c1, c2, c3, c4, hb, k1, k2, k3, k4⟩, q⟩ := h
  cases rx; cases ry
  obtain ⟨_, its, vv1, p1⟩ := old_tup (I.hok a _ ha)
  obtain ⟨_, its2, vv2, p2⟩ := old_tup (I.hok b _ hb)
  obtain ⟨u1, u2, u3, u4, rfl, r1, r2, r3, r4⟩ := vals4 vv1
  obtain ⟨t1, t2, t3, t4, rfl, q1, q2, q3, q4⟩ := vals4 vv2
  have ES := EqK.tup (H := H) (s := s) (n := 0) EqK.str I.hok
  have EI := EqK.tup (H := H) (s := s) (n := 0) EqK.int I.hok
  have z1 : SeqAt.EqAt X.A.in1 s u1 t1 (decide (sg = sg)) := ES.eq X.A.in1 _ _ sg sg u1 t1 (by show X.A.units + 1 + (0 + 1) < cLine; omega) ⟨b1, _, rfl, h1, Paired.strs sg⟩ ⟨c1, _, rfl, k1, Paired.strs sg⟩ r1 q1
  have z2 : SeqAt.EqAt X.A.in1 s u2 t2 (decide (ps = ps)) := EI.eq X.A.in1 _ _ ps ps u2 t2 (by show X.A.units + 1 + (0 + 1) < cLine; omega) ⟨b2, _, rfl, h2, Paired.ints ps⟩ ⟨c2, _, rfl, k2, Paired.ints ps⟩ r2 q2
  have z3 : SeqAt.EqAt X.A.in1 s u3 t3 (decide (nm = nm)) := ES.eq X.A.in1 _ _ nm nm u3 t3 (by show X.A.units + 1 + (0 + 1) < cLine; omega) ⟨b3, _, rfl, h3, Paired.strs nm⟩ ⟨c3, _, rfl, k3, Paired.strs nm⟩ r3 q3
  have z4 : SeqAt.EqAt X.A.in1 s u4 t4 (decide (ws = ws)) := EI.eq X.A.in1 _ _ ws ws u4 t4 (by show X.A.units + 1 + (0 + 1) < cLine; omega) ⟨b4, _, rfl, h4, Paired.ints ws⟩ ⟨c4, _, rfl, k4, Paired.ints ws⟩ r4 q4
  rw [decide_eq_true rfl] at z1 z2 z3 z4
  have z := SeqAt.RcNeAt.tuples (A := X.A) (e := fun _ => true) p1 p2 (by omega) (fun k h1 h2 => by
    match k, h1, h2 with
    | 0, _, _ => exact z1
    | 1, _, _ => exact z2
    | 2, _, _ => exact z3
    | 3, _, _ => exact z4
    | k + 4, h1, _ => exact absurd (show k + 4 < 4 from h1) (by omega))
  refine z _ _ _ _ ⟨.bl _, H, I, rfl, ?_⟩
  have ez : (!((List.range (min [u1, u2, u3, u4].toArray.size [t1, t2, t3, t4].toArray.size)).all (fun _ => true) && [u1, u2, u3, u4].toArray.size == [t1, t2, t3, t4].toArray.size)) = false := by
    show (!((List.range 4).all _ && true)) = _
    simp
  rw [ez]
  exact q
end L2
set_option Elab.async false
set_option linter.all false
set_option maxRecDepth 100000
namespace K92
open PySem L2
theorem due_two {z : Str} (h : noBook z) : ∃ (u : Str) (i : Int), ∀ H p, DueAt H p (res z) → H p = some (.tup [.str u, .int i]) := by
  unfold noBook at h
  match res z, h with
  | .row k, _ => exact ⟨_, _, fun H p h => h⟩
  | .name, _ => exact ⟨_, _, fun H p h => h⟩
  | .prices, _ => exact ⟨_, _, fun H p h => h⟩
  | .weights, _ => exact ⟨_, _, fun H p h => h⟩
  | .book sg ps nm ws, h => exact absurd rfl (h sg ps nm ws)
theorem due_keep {H H' : Hp} {p : Addr} {r : Res} (s : Same H H') (h : DueAt H p r) : DueAt H' p r := by
  match r, h with
  | .row k, h => exact s _ _ h
  | .name, h => exact s _ _ h
  | .prices, h => exact s _ _ h
  | .weights, h => exact s _ _ h
  | .book sg ps nm ws, ⟨b1, b2, b3, b4, h0, h1, h2, h3, h4⟩ => exact ⟨b1, b2, b3, b4, s _ _ h0, s _ _ h1, s _ _ h2, s _ _ h3, s _ _ h4⟩
section
variable {P : Program} {w : World} {K : PySem.W.Frag} {mg : Str → Option Value} {base : Heap} {f : Addr} {fd : FuncData}
abbrev NRt : List Str := ["text", "due"]
def spRt : Sp := fun vs H Q _ => ∃ z : Str, vs = [.str z] ∧ Asc z ∧ z.length ≤ 4000 ∧ ∀ H', Same H H' → Q (.bl true) H'
theorem scRt : FnScope NRt ["text"] (defScope sRight) := ⟨rfl, rfl, rfl, by decide +kernel, rfl, by decide +kernel, by decide +kernel⟩
set_option maxHeartbeats 16000000 in
theorem ok_rt (F : Fun K "_law_right" "_law_right" sRight f fd) (GD : Fns P w K mg base ["text"] "_law_due" spDu 8) (GF : Fns P w K mg base ["which", "text"] "_law_found" spFd 8) (ml : mg "len" = none) : FnOk P w K mg base CX0 9 f fd ["text"] spRt := by
  refine F.ok (k := 8) scRt (fun vs H Q E h => ?_) (fun cdv A outer s H vs Q E hr h => ?_)
  · obtain ⟨z, rfl, _⟩ := h
    rfl
  obtain ⟨z, rfl, as, l4, qq⟩ := h
  refine ⟨_, pss_cons (ps_set (i := 1) scRt.nd rfl (Or.inl rfl) (pe_call GD.ok hr (by rfl) GD.m GD.kp GD.b .nil pass0 (pa_cons (pv 0) (pa_nil))))
      (pss_cons (ps_if (pt_cmpR (OpR.or (op_neBk (hu4 hr)) (op_neS2 (hu4 hr))) (pe_call GF.ok hr (by rfl) GF.m GF.kp GF.b .nil pass0 (pa_cons (pe_int) (pa_cons (pv 0) (pa_nil)))) (pv 1) (nomark _)) (pss_one (ps_ret pe_bl)) (pss_nil))
      (pss_cons (ps_if (pt_cmpR op_eq (pe_callB call_len_seq (by rfl) ml PySem.boot_len (pa_cons (pv 1) (pa_nil))) (pe_int) (nomark _)) (pss_one (ps_set (i := 1) scRt.nd rfl (Or.inl rfl) (pv 0))) (pss_nil))
      (pss_one (ps_ret (pe_cmpR (OpR.or op_eq (op_eqS2 (hu4 hr))) (pe_call GF.ok hr (by rfl) GF.m GF.kp GF.b .nil pass0 (pa_cons (pe_int) (pa_cons (pv 0) (pa_nil)))) (pv 1) (nomark _)))))), ?_⟩
  refine ⟨_, rfl, z, rfl, as, l4, fun p H1 s1 dp => ?_⟩
  refine ⟨_, rfl, 0, z, rfl, as, l4, fun p2 H2 s2 d2 _ => ?_, fun w0 => absurd rfl w0⟩
  have dp2 := due_keep s2 dp
  have s02 := s1.trans s2
  by_cases nb : noBook z
  · obtain ⟨u, i, two⟩ := due_two nb
    have g1 := two _ _ dp2
    refine ⟨_, rfl, .inr ⟨p2, p, u, _, rfl, rfl, two _ _ d2, g1, .inr ⟨i, rfl⟩, _, rfl, iteF ?_⟩⟩
    refine ⟨_, rfl, p, _, rfl, .inr (SqT.of g1), rfl, _, rfl, ?_⟩
    rw [decide_eq_false (show ¬ V.int (([V.str u, V.int i].length : Nat) : Int) = V.int 4 from fun h => absurd (V.int.inj h) (by show ¬ ((2 : Nat) : Int) = 4; decide))]
    refine iteF ?_
    refine ⟨_, rfl, 1, z, rfl, as, l4, fun p3 H3 s3 d3 _ => ?_, fun _ sg ps nm ws er => absurd er (nb sg ps nm ws)⟩
    exact ⟨_, rfl, .inr ⟨p3, p, u, _, rfl, rfl, two _ _ d3, s3 _ _ g1, .inr ⟨i, rfl⟩, qq H3 (s02.trans s3)⟩⟩
  · obtain ⟨sg, ps, nm, ws, er⟩ : ∃ sg ps nm ws, res z = .book sg ps nm ws := by
      unfold noBook at nb
      match hr : res z, nb with
      | .book sg ps nm ws, _ => exact ⟨sg, ps, nm, ws, rfl⟩
      | .row k, nb => exact absurd (fun _ _ _ _ e => by cases e) nb
      | .name, nb => exact absurd (fun _ _ _ _ e => by cases e) nb
      | .prices, nb => exact absurd (fun _ _ _ _ e => by cases e) nb
      | .weights, nb => exact absurd (fun _ _ _ _ e => by cases e) nb
    rw [er] at dp2 d2
    have dp2 : BkAt H2 p sg ps nm ws := dp2
    have d2 : BkAt H2 p2 sg ps nm ws := d2
    refine ⟨_, rfl, .inl ⟨p2, p, sg, ps, nm, ws, rfl, rfl, d2, dp2, _, rfl, iteF ?_⟩⟩
    obtain ⟨b1, b2, b3, b4, h0, _⟩ := dp2
    refine ⟨_, rfl, p, _, rfl, .inr (SqT.of h0), rfl, _, rfl, ?_⟩
    rw [decide_eq_true (show V.int (([V.ref b1, .ref b2, .ref b3, .ref b4].length : Nat) : Int) = V.int 4 from rfl)]
    refine iteT ⟨_, rfl, ?_⟩
    refine ⟨_, rfl, 1, z, rfl, as, l4, fun p3 H3 s3 d3 hc => ?_, fun _ _ _ _ _ _ H3 s3 => ⟨_, rfl, .inl ⟨rfl, ?_⟩⟩⟩
    · rcases hc with hc | hc
      · exact absurd hc (by decide)
      · exact absurd er (hc sg ps nm ws)
    · rw [decide_eq_true rfl]
      exact qq H3 (s02.trans s3)
end
end K92
set_option Elab.async false
set_option linter.all false
set_option maxRecDepth 100000
namespace K92
open PySem L2
theorem op_inK {X : Cx} (K : PySem.W.Frag) (hK : X.K = K := by rfl) : OpR X (compareOp .In) (rIn K false) := by subst hK; exact op_in_seq
def dotS : Str := Str.ofString "."
def al (m x : Int) : Bool := decide (0 ≤ x) && decide (x < m)
section
variable {P : Program} {w : World} {K : PySem.W.Frag} {mg : Str → Option Value} {base : Heap} {f : Addr} {fd : FuncData}
abbrev NAl : List Str := ["word", "letters"]
def spAl : Sp := fun vs H Q _ => ∃ (a : Addr) (ns : List Int) (m : Int), vs = [.ref a, .int m] ∧ H a = some (.tup (ns.map V.int)) ∧ ns.length ≤ 1000 ∧ ∀ H', Same H H' → Q (.bl (ns.all (al m))) H'
theorem scAl : FnScope NAl NAl (defScope sAlone) := ⟨rfl, rfl, rfl, by decide +kernel, rfl, by decide +kernel, by decide +kernel⟩
theorem ndAl : (("letter" : Str) :: NAl).Nodup := by decide +kernel
theorem ok_al (F : Fun K "has_letters_alone" "has_letters_alone" sAlone f fd) (ma : mg "all" = none) : FnOk P w K mg base CX0 1 f fd NAl spAl := by
  refine F.ok (k := 0) scAl (fun vs H Q E h => ?_) (fun cdv A outer s H vs Q E hr h => ?_)
  · obtain ⟨a, ns, m, rfl, _⟩ := h
    rfl
  obtain ⟨a, ns, m, rfl, ha, hl, q⟩ := h
  refine ⟨_, pss_one (ps_ret (pe_callB (call_all rfl) (by rfl) ma b_all (pa_cons (pe_compT (M := NAl) rfl (CompScope.of (defScope sAlone) NAl rfl rfl rfl (by decide +kernel) (by decide +kernel) (by decide +kernel) rfl (by decide +kernel)) ndAl rfl (pv 0) mo_var (fun cl C s0 H0 fp => ⟨pts_nil, pe_chain op_le op_lt pe_int (pv 0) (pv 2)⟩)) (pa_nil)))), ?_⟩
  refine ⟨_, rfl, a, _, rfl, SqT.of ha, fun d hd => ?_⟩
  refine ⟨fun k H' => Same H H' ∧ H' d = some (.lst (((ns.take k).map (al m)).map V.bl)), ⟨same_newO hd _, upd_same⟩, fun k H' _ hP => SqT.of (hP.1 _ _ ha), fun k x H' hx hP => ?_, fun H' hP => ?_⟩
  · obtain ⟨sm, hd'⟩ := hP
    rw [List.getElem?_map] at hx
    obtain ⟨z, hz, rfl⟩ := Option.map_eq_some_iff.mp hx
    have hk := (List.getElem?_eq_some_iff.mp hz).1
    have fin : ∀ b, b = al m z → ∃ ys, H' d = some (.lst ys) ∧ ys.length < sizeLine ∧ (Same H (upd H' d (.lst (ys ++ [.bl b]))) ∧ upd H' d (.lst (ys ++ [.bl b])) d = some (.lst (((ns.take (k + 1)).map (al m)).map V.bl))) := fun b eb => by
      refine ⟨_, hd', ?_, same_upd hd sm, ?_⟩
      · rw [List.length_map, List.length_map, List.length_take]; exact lt5 (by omega)
      · rw [upd_same, List.take_add_one, hz, List.map_append, List.map_append, eb]; rfl
    refine turn_all ⟨_, rfl, _, _, rfl, rfl, _, rfl, ?_⟩
    refine ite2 (fun c => ?_) (fun c => ?_)
    · refine ⟨_, rfl, _, _, rfl, rfl, ?_⟩
      exact fin _ (by unfold al; rw [c]; rfl)
    · exact fin _ (by unfold al; rw [Bool.eq_false_iff.mpr c]; rfl)
  · obtain ⟨sm, hd'⟩ := hP
    rw [List.length_map, List.take_length] at hd'
    refine ⟨d, _, rfl, hd', ?_⟩
    rw [List.all_map]
    exact q H' sm
abbrev NWt : List Str := ["signs", "word"]
def badN (sg : List Str) (ns : List Int) : Prop := ns.length ≤ 1000 ∧ ns.all (al (sg.length : Int)) = false
def spWt (CB : Addr) : Sp := fun vs H Q E => ∃ (a b : Addr) (sg : List Str) (ns : List Int), vs = [.ref a, .ref b] ∧ H a = some (.tup (sg.map V.str)) ∧ H b = some (.tup (ns.map V.int)) ∧ badN sg ns ∧ ∀ H', Same H H' → E (.ref CB) none H'
theorem scWt : FnScope NWt NWt (defScope sWT) := ⟨rfl, rfl, rfl, by decide +kernel, rfl, by decide +kernel, by decide +kernel⟩
theorem ok_wt {C : Addr} (F : Fun K "word_text" "word_text" sWT f fd) (GA : Fns P w K mg base NAl "has_letters_alone" spAl 1) (ml : mg "len" = none) (mC : mg "BadWord" = some (.ref C)) (eC : Ecl K C) : FnOk P w K mg base (CXF P w) 2 f fd NWt (spWt C) := by
  refine F.okF (k := 1) scWt (fun vs H Q E h => ?_) (fun cdv A outer s H vs Q E hr h => ?_)
  · obtain ⟨a, b, sg, ns, rfl, _⟩ := h
    rfl
  obtain ⟨a, b, sg, ns, rfl, ha, hb, ⟨l9, bad⟩, qq⟩ := h
  refine ⟨_, pss_cons (ps_if (pt_not (pt_val (pe_call GA.ok hr (by rfl) GA.m GA.kp GA.b .nil pass0 (pa_cons (pv 1) (pa_cons (pe_callB call_len_seq (by rfl) ml PySem.boot_len (pa_cons (pv 0) (pa_nil))) (pa_nil)))))) (pss_one (ps_raise takes_def rfl (by rfl) mC eC (pa_cons pe_str pa_nil))) (pss_nil))
      (pss_cons (ps_dead)
      (pss_one (ps_dead))), ?_⟩
  refine ⟨_, rfl, _, rfl, a, _, rfl, .inr (SqT.of ha), b, ns, _, rfl, hb, l9, fun H1 s1 => ⟨_, rfl, ?_⟩⟩
  rw [List.length_map, bad]
  exact iteT ⟨by decide, qq H1 s1⟩
abbrev NRw : List Str := ["signs", "text"]
def badW (sg : List Str) (z : Str) : Prop := Asc z ∧ z.length ≤ 1000 ∧ z ≠ dotS ∧ (z.length = 0 ∨ ∃ c ∈ z.cps.toList, (⟨#[c]⟩ : Str) ∉ sg)
def spRw (CN : Addr) : Sp := fun vs H Q E => ∃ (a : Addr) (sg : List Str) (z : Str), vs = [.ref a, .str z] ∧ H a = some (.tup (sg.map V.str)) ∧ badW sg z ∧ ∀ H', Same H H' → E (.ref CN) none H'
theorem scRw : FnScope NRw NRw (defScope sRW) := ⟨rfl, rfl, rfl, by decide +kernel, rfl, by decide +kernel, by decide +kernel⟩
theorem ndRw : (("sign" : Str) :: NRw).Nodup := by decide +kernel
set_option maxHeartbeats 8000000 in
theorem ok_rw {C : Addr} {tE : Tok} (F : Fun K "read_word" "read_word" sRW f fd) (gE : mg "EMPTY_WORD" = some (.str dotS tE)) (ml : mg "len" = none) (ma : mg "all" = none) (mC : mg "BadName" = some (.ref C)) (eC : Ecl K C) : FnOk P w K mg base (CXF P w) 1 f fd NRw (spRw C) := by
  refine F.okF (k := 0) scRw (fun vs H Q E h => ?_) (fun cdv A outer s H vs Q E hr h => ?_)
  · obtain ⟨a, sg, z, rfl, _⟩ := h
    rfl
  obtain ⟨a, sg, z, rfl, ha, ⟨az, l9, nd, bad⟩, qq⟩ := h
  refine ⟨_, pss_cons (ps_if (pt_cmpR op_eq (pv 1) (pe_glob (v := .str dotS) (by rfl) gE ⟨_, rfl⟩) (nomark _)) (pss_one (ps_dead)) (pss_nil))
      (pss_cons (ps_if (PW.pt (pw_or (pt_cmpR op_eq (pe_callB call_len_str (by rfl) ml PySem.boot_len (pa_cons (pv 1) (pa_nil))) (pe_int) (nomark _)) (pw_or1 (pt_not (pt_val (pe_callB (call_all rfl) (by rfl) ma b_all (pa_cons (pe_compStr (M := NRw) rfl (CompScope.of (defScope sRW) NRw rfl rfl rfl (by decide +kernel) (by decide +kernel) (by decide +kernel) rfl (by decide +kernel)) ndRw rfl (pv 1) mo_var (fun cl C s0 H0 fp => ⟨pts_nil, pe_cmpR (op_inK K) (pv 0) (pv 1) rfl⟩)) (pa_nil)))))))) (pss_one (ps_raise takes_def rfl (by rfl) mC eC (pa_cons pe_str pa_nil))) (pss_nil))
      (pss_one (ps_dead))), ?_⟩
  refine ⟨_, rfl, rfl, _, rfl, ?_⟩
  rw [decide_eq_false (fun h => nd (V.str.inj h))]
  refine iteF ?_
  refine ⟨_, rfl, z, rfl, big5 (by omega), rfl, _, rfl, ?_⟩
  by_cases z0 : z.length = 0
  · rw [decide_eq_true (by rw [z0]; rfl)]
    exact iteT ⟨by decide, qq H (Same.refl _)⟩
  rw [decide_eq_false (fun h => z0 (by have := V.int.inj h; omega))]
  refine iteF ?_
  have ez : z.cps.toList.length = z.length := Array.length_toList
  refine ⟨_, rfl, z, rfl, az, fun d hd => ?_⟩
  refine ⟨fun i H' => Same H H' ∧ H' d = some (.lst (((z.cps.toList.take i).map fun c => decide ((⟨#[c]⟩ : Str) ∈ sg)).map V.bl)), ⟨same_newO hd _, upd_same⟩, fun i c H' hc hP => ?_, fun H1 hP => ?_⟩
  · obtain ⟨s5, hz⟩ := hP
    have il := (List.getElem?_eq_some_iff.mp hc).1
    refine turn_all ⟨_, rfl, _, rfl, a, _, rfl, .inr (SqT.of (s5 _ _ ha)), rfl, flat_strs _, _, hz, ?_, same_upd hd s5, ?_⟩
    · rw [List.length_map, List.length_map, List.length_take]; exact lt5 (by omega)
    · rw [upd_same, List.take_add_one, hc, List.map_append, List.map_append]
      show some (HO.lst (_ ++ [V.bl (inV _ _)])) = _
      rw [in_strs]
      rfl
  obtain ⟨s5, hz⟩ := hP
  rw [show z.cps.size = z.cps.toList.length from Array.length_toList.symm, List.take_length] at hz
  refine ⟨d, _, rfl, hz, _, rfl, ?_⟩
  have : ((z.cps.toList.map fun c => decide ((⟨#[c]⟩ : Str) ∈ sg)).all id) = false := by
    rcases bad with bad | ⟨c, hc, nc⟩
    · exact absurd bad z0
    · rw [List.all_map]
      refine Bool.eq_false_iff.mpr fun h => ?_
      exact nc (of_decide_eq_true (List.all_eq_true.mp h c hc))
  rw [this]
  exact iteT ⟨by decide, qq H1 s5⟩
abbrev NWr : List Str := ["signs", "word", "text", "told", "e"]
abbrev PWr : List Str := ["signs", "word", "text"]
def spWr : Sp := fun vs H Q _ => ∃ (a b : Addr) (sg : List Str) (ns : List Int) (z : Str), vs = [.ref a, .ref b, .str z] ∧ H a = some (.tup (sg.map V.str)) ∧ H b = some (.tup (ns.map V.int)) ∧ badN sg ns ∧ badW sg z ∧ ∀ H', Same H H' → Q (.bl true) H'
theorem scWr : FnScope NWr PWr (defScope sWR) := ⟨rfl, rfl, rfl, by decide +kernel, rfl, by decide +kernel, by decide +kernel⟩
set_option maxHeartbeats 8000000 in
theorem ok_wr {D CR CN CP CW CB : Addr} (F : Fun K "_law_word_refused" "_law_word_refused" sWR f fd) (GW : Fns' P w K mg base NWt "word_text" (spWt CB) 7) (GR : Fns' P w K mg base NRw "read_word" (spRw CN) 7) (c : Kl K mg D CR CN CP CW CB) (mi : mg "isinstance" = none) : FnOk P w K mg base CX0 8 f fd PWr spWr := by
  refine F.ok (k := 7) scWr (fun vs H Q E h => ?_) (fun cdv A outer s H vs Q E hr h => ?_)
  · obtain ⟨a, b, sg, ns, z, rfl, _⟩ := h
    rfl
  obtain ⟨a, b, sg, ns, z, rfl, ha, hb, bn, bw, qq⟩ := h
  refine ⟨_, pss_cons (ps_set (i := 3) scWr.nd rfl (Or.inl rfl) (pe_lst (pa_nil)))
      (pss_cons (ps_try (i := 4) rfl ⟨rfl, rfl⟩ (fun pn xe Ex hx => pss_one (ps_expr (pe_callX GW.ok hr (by rfl) GW.m GW.kp GW.b hx (pa_cons (pv 0) (pa_cons (pv 1) (pa_nil)))))) (fun ea => pss_one (ps_set (i := 3) scWr.nd rfl (Or.inl rfl) (pe_lst (pa_cons (pe_callB (call_or (isiE K) (isiO K)) (by rfl) mi b_isi (pa_cons (pv 4) (pa_cons (pe_glob (v := .ref CB) (by rfl) c.gB rfl) (pa_nil)))) (pa_cons (pe_callB (call_or (isiE K) (isiO K)) (by rfl) mi b_isi (pa_cons (pv 4) (pa_cons (pe_glob (v := .ref CN) (by rfl) c.gN rfl) (pa_nil)))) (pa_nil)))))) scWr.nd rfl rfl (by rfl) c.gD c.xD.h)
      (pss_cons (ps_try (i := 4) rfl ⟨rfl, rfl⟩ (fun pn xe Ex hx => pss_one (ps_expr (pe_callX GR.ok hr (by rfl) GR.m GR.kp GR.b hx (pa_cons (pv 0) (pa_cons (pv 2) (pa_nil)))))) (fun ea => pss_one (ps_set (i := 3) scWr.nd rfl (Or.inl rfl) (pe_op op_cat (pv 3) (pe_lst (pa_cons (pe_callB (call_or (isiE K) (isiO K)) (by rfl) mi b_isi (pa_cons (pv 4) (pa_cons (pe_glob (v := .ref CN) (by rfl) c.gN rfl) (pa_nil)))) (pa_cons (pe_callB (call_or (isiE K) (isiO K)) (by rfl) mi b_isi (pa_cons (pv 4) (pa_cons (pe_glob (v := .ref CB) (by rfl) c.gB rfl) (pa_nil)))) (pa_nil))))))) scWr.nd rfl rfl (by rfl) c.gD c.xD.h)
      (pss_one (ps_ret (pe_cmpR (op_eqLB (hu4 hr)) (pv 3) (pe_lst (pa_cons (pe_bl) (pa_cons (pe_bl) (pa_cons (pe_bl) (pa_cons (pe_bl) (pa_nil)))))) (nomark _)))))), ?_⟩
  refine ⟨(by show 0 ≤ sizeLine; decide), fun t ht => ?_⟩
  have s1 := same_newO ht (.lst [])
  generalize upd H t (.lst []) = H1 at s1 ⊢
  refine ⟨_, rfl, _, rfl, a, b, sg, ns, rfl, s1 _ _ ha, s1 _ _ hb, bn, fun H2 s2 => ?_⟩
  refine ⟨CB, rfl, c.bD, fun ea hea => ?_⟩
  have s3 := same_newO hea (excO ea CB none)
  have hE : upd H2 ea (excO ea CB none) ea = some (excO ea CB none) := upd_same
  generalize upd H2 ea (excO ea CB none) = H3 at s3 hE ⊢
  have kB := kit_t c.xB.h c.xB.sf
  have kN := kit_f c.xB c.xN.h c.bN
  refine ⟨_, rfl, .inl ⟨ea, CB, none, _, true, rfl, hE, c.xB.e, .inl rfl, .inl ⟨CB, rfl, kB⟩, ?_⟩⟩
  refine ⟨_, rfl, .inl ⟨ea, CB, none, _, false, rfl, hE, c.xB.e, .inl rfl, .inl ⟨CN, rfl, kN⟩, (by show 2 ≤ sizeLine; decide), fun u hu => ?_⟩⟩
  have s4 := same_newO hu (.lst [.bl true, .bl false])
  have gu : upd H3 u (.lst [.bl true, .bl false]) u = some (.lst [.bl true, .bl false]) := upd_same
  generalize upd H3 u (.lst [.bl true, .bl false]) = H4 at s4 gu ⊢
  have s04 := ((s1.trans s2).trans s3).trans s4
  refine ⟨_, rfl, _, rfl, a, sg, z, rfl, s04 _ _ ha, bw, fun H5 s5 => ?_⟩
  refine ⟨CN, rfl, c.nD, fun eb heb => ?_⟩
  have s6 := same_newO heb (excO eb CN none)
  have hF : upd H5 eb (excO eb CN none) eb = some (excO eb CN none) := upd_same
  generalize upd H5 eb (excO eb CN none) = H6 at s6 hF ⊢
  have jN := kit_t c.xN.h c.xN.sf
  have jB := kit_f c.xN c.xB.h c.nB
  refine ⟨_, rfl, _, rfl, .inl ⟨eb, CN, none, _, true, rfl, hF, c.xN.e, .inl rfl, .inl ⟨CN, rfl, jN⟩, ?_⟩⟩
  refine ⟨_, rfl, .inl ⟨eb, CN, none, _, false, rfl, hF, c.xN.e, .inl rfl, .inl ⟨CB, rfl, jB⟩, (by show 2 ≤ sizeLine; decide), fun u2 hu2 => ?_⟩⟩
  have s7 := same_newO hu2 (.lst [.bl true, .bl false])
  have s47 := (s5.trans s6).trans s7
  refine ⟨u, u2, _, _, rfl, rfl, s47 _ _ gu, upd_same, (by show 2 + 2 ≤ sizeLine; decide), fun v hv => ?_⟩
  have s8 := same_newO hv (.lst ([.bl true, .bl false] ++ [.bl true, .bl false]))
  refine ⟨_, rfl, (by show 4 ≤ sizeLine; decide), fun v2 hv2 => ?_⟩
  have s9 := same_newO hv2 (.lst [.bl true, .bl false, .bl true, .bl false])
  refine ⟨v, v2, [true, false, true, false], [true, false, true, false], rfl, rfl, s9 _ _ upd_same, upd_same, ?_⟩
  rw [decide_eq_true rfl]
  exact qq _ (((s04.trans s47).trans s8).trans s9)
end
end K92
set_option Elab.async false
set_option linter.all false
set_option maxRecDepth 100000
set_option maxHeartbeats 1000000
namespace L2
open PySem PySem.Spec PyProof.Rows
def reS (b : Str) (n : Int) : Str := ⟨(List.replicate n.toNat b.cps).foldl (· ++ ·) #[]⟩
def rMulS : R2 := fun x y H Q => ∃ (b : Str) (n : Int), x = .str b ∧ y = .int n ∧ b.length = 1 ∧ 2 ≤ n ∧ n ≤ 100 ∧ (reS b n).cps.size ≤ sizeLine ∧ Q (.str (reS b n)) H
theorem op_mulStr {X : Cx} : OpR X (binaryOp .Mult) rMulS := by
  intro pins s σ H x y v u Q I rx ry h
  obtain ⟨b, n, rfl, rfl, hb, h2, h1, hs, q⟩ := h
  obtain ⟨t, rfl⟩ := rx
  obtain ⟨t', rfl⟩ := ry
  have e1 : ¬ n < 1 := by omega
  have e2 : (n == 1 || b.length == 0) = false := by
    rw [hb]
    simp
    omega
  refine PySem.P.mul_str (by rw [decide_eq_false (by omega), decide_eq_false (by omega)]; rfl) (fun _ _ => ?_) (fun _ _ => ?_) ?_
  · rw [hb]
    intro z
    have z : ((1 : Nat) : Int) > (2 ^ 63 - 1) / n := z
    have : (100 : Int) ≤ (2 ^ 63 - 1) / n := (Int.le_ediv_iff_mul_le (by omega)).mpr (by omega)
    omega
  · rw [hb]
    refine decide_eq_false ?_
    have : (1000 : Nat) < sizeLine := by decide
    omega
  · rw [if_neg e1, if_neg (by rw [e2]; exact Bool.false_ne_true)]
    exact ⟨hs, .str (reS b n), H, I.tok _, ⟨_, rfl⟩, q⟩
section
variable {X : Cx}
def okC (a b : Str) (n : Int) : Bool := decide (b.length = 1) && (decide (2 ≤ n) && (decide (n ≤ 100) && (decide ((reS b n).cps.size ≤ 1000) && decide (a.length ≤ 1000))))
def cstsOf : List Expr → Option (List Str)
  | [] => some []
  | .Constant (.str i) _ _ :: es => (cstsOf es).map fun qs => i :: qs
  | .BinOp (.Constant (.str a) _ _) .Add (.BinOp (.Constant (.str b) _ _) .Mult (.Constant (.int n) _ _) _) _ :: es => if okC a b n = true then (cstsOf es).map fun qs => (a ++ reS b n) :: qs else none
  | _ :: _ => none
theorem pe_cat {a b : Str} {n : Int} {k1 k2 k3 : Nat} {p1 p2 p3 p4 p5 : Pos} (h : okC a b n = true) : PE X (.BinOp (.Constant (.str a) k1 p1) .Add (.BinOp (.Constant (.str b) k2 p2) .Mult (.Constant (.int n) k3 p3) p4) p5) (tC (.str (a ++ reS b n))) := by
  unfold okC at h
  simp only [Bool.and_eq_true, decide_eq_true_eq] at h
  obtain ⟨h1, h2, h3, h4, h5⟩ := h
  have l : (1000 : Nat) + 1000 ≤ sizeLine := by decide
  refine (pe_op op_add_str pe_str (pe_op op_mulStr pe_str pe_int)).imp fun σ H Q q => ?_
  refine ⟨b, n, rfl, rfl, h1, h2, h3, by omega, a, _, rfl, rfl, ?_, q⟩
  show a.length + (reS b n).cps.size ≤ _
  omega
theorem csts_cons {e : Expr} {es : List Expr} {qs : List Str} (h : cstsOf (e :: es) = some qs) : ∃ q qs', cstsOf es = some qs' ∧ qs = q :: qs' ∧ PE X e (tC (.str q)) ∧ starEach (e :: es) X.env = (false, eval e X.env) :: starEach es X.env := by
  unfold cstsOf at h
  split at h
  · rename_i heq
    cases heq
  · rename_i heq
    cases heq
    cases hq : cstsOf es with
    | none => rw [hq] at h; cases h
    | some qs' => rw [hq] at h; cases h; exact ⟨_, qs', rfl, rfl, pe_str, rfl⟩
  · rename_i heq
    cases heq
    split at h
    · rename_i c
      cases hq : cstsOf es with
      | none => rw [hq] at h; cases h
      | some qs' => rw [hq] at h; cases h; exact ⟨_, qs', rfl, rfl, pe_cat c, rfl⟩
    · cases h
  · cases h
theorem pa_csts : ∀ {es : List Expr} {qs : List Str}, cstsOf es = some qs → PA X es (tSs qs)
  | [], qs, h => by unfold cstsOf at h; cases h; exact pa_nil
  | e :: es, qs, h => by
    obtain ⟨q, qs', h2, rfl, hp, hs⟩ := csts_cons (X := X) h
    exact pa_cons hp (pa_csts h2) hs
theorem pe_csts {es : List Expr} {pos : Pos} {qs : List Str} (h : cstsOf es = some qs) : PE X (.List es pos) (tStrs qs) := by
  refine (pe_lst (pa_csts h)).imp fun σ H Q q => ?_
  obtain ⟨l, q⟩ := q
  refine tSs_of qs ⟨Nat.le_of_lt (small1000 (by rw [List.length_map]; exact l)), fun d hd => ?_⟩
  exact q d _ (same_newO hd _) hd upd_same
def catAsg : Stmt → Option (Str × List Str)
  | .Assign [.Name x _] (.BinOp (.Name y _) .Add (.List es _) _) _ => if x = y then (cstsOf es).map fun q => (x, q) else none
  | _ => none
theorem ps_cat (i : Nat) (st : Stmt) {x : Str} (qs : List Str) (h : catAsg st = some (x, qs)) (hN : X.N.Nodup) (hi : X.N[i]? = some x) (hx : Loc X.env.scope x) (hf : X.fn x = true ∨ X.env.scope.names.lookup x = some .local) (hv : Vis X.env.scope x) (hd : (x == ("__debug__" : Str)) = false) (hcd : (x == ("__classdict__" : Str)) = false) :
    PS X st (tAsg (tOp rCat (tVar i) (tStrs qs)) (gName i)) := by
  unfold catAsg at h
  split at h
  · rename_i y p0 z p1 es lp pos p2
    split at h
    · rename_i e
      cases hq : cstsOf es with
      | none => rw [hq] at h; cases h
      | some q =>
        rw [hq] at h; cases h
        subst e
        exact ps_set hN hi hx (pe_op op_cat (pe_var hi hv hd hcd) (pe_csts hq)) (by rfl) hf
    · cases h
  · cases h
end
end L2
set_option Elab.async false
set_option linter.all false
set_option maxRecDepth 100000
namespace K92
open PySem L2
def odS (i : Nat) : Stmt := (defBody sOdd).getD i (.Pass ⟨0, 0, 0, 0⟩)
def od0 : List Str := ((strsAsg (odS 0)).getD (Str.empty, [])).2
def od1 : List Str := ((catAsg (odS 1)).getD (Str.empty, [])).2
def od2 : List Str := ((catAsg (odS 2)).getD (Str.empty, [])).2
def od3 : List Str := ((catAsg (odS 3)).getD (Str.empty, [])).2
def Ro (n : Nat) (z : Str) : Prop := z.length ≤ n ∧ ∀ c ∈ z.cps.toList, c < 128
theorem od_ok : (od0 ++ od1 ++ od2 ++ od3).all (fun z => decide (z.length ≤ 60) && z.cps.toList.all (fun c => decide (c < 128))) = true := by decide +kernel
theorem od_len : od0.length = 9 ∧ od1.length = 7 ∧ od2.length = 4 ∧ od3.length = 3 := by decide +kernel
theorem od_ro : ∀ z ∈ od0 ++ od1 ++ od2 ++ od3, Ro 60 z := fun z hz => by
  have := List.all_eq_true.mp od_ok z hz
  rw [Bool.and_eq_true] at this
  exact ⟨of_decide_eq_true this.1, fun c hc => of_decide_eq_true (List.all_eq_true.mp this.2 c hc)⟩
theorem od_h0 : strsAsg (odS 0) = some (("some" : Str), od0) := by rfl
theorem od_h1 : catAsg (odS 1) = some (("some" : Str), od1) := by rfl
theorem od_h2 : catAsg (odS 2) = some (("some" : Str), od2) := by rfl
theorem od_h3 : catAsg (odS 3) = some (("some" : Str), od3) := by rfl
section
variable {P : Program} {w : World} {K : PySem.W.Frag} {mg : Str → Option Value} {base : Heap} {f : Addr} {fd : FuncData}
abbrev NOd : List Str := ["cell", "some"]
def spOd : Sp := fun vs H Q _ => ∃ c : Int, vs = [.int c] ∧ ∀ z H', Same H H' → Ro 60 z → Q (.str z) H'
theorem scOd : FnScope NOd ["cell"] (defScope sOdd) := ⟨rfl, rfl, rfl, by decide +kernel, rfl, by decide +kernel, by decide +kernel⟩
set_option maxHeartbeats 8000000 in
theorem ok_od (F : Fun K "_law_odd_row" "_law_odd_row" sOdd f fd) (ml : mg "len" = none) : FnOk P w K mg base CX0 1 f fd ["cell"] spOd := by
  refine F.ok (k := 0) scOd (fun vs H Q E h => ?_) (fun cdv A outer s H vs Q E hr h => ?_)
  · obtain ⟨c, rfl, _⟩ := h
    rfl
  obtain ⟨c, rfl, qq⟩ := h
  have key : ∀ s0 s1 s2 s3 : Stmt, strsAsg s0 = some (("some" : Str), od0) → catAsg s1 = some (("some" : Str), od1) → catAsg s2 = some (("some" : Str), od2) → catAsg s3 = some (("some" : Str), od3) → ∃ t, PSs (cxOf CX0 P w K mg base NOd (Str.ofString "_law_odd_row") (defScope sOdd) f cdv A outer s H E).nox (s0 :: s1 :: s2 :: s3 :: (defBody sOdd).drop 4) t ∧ t { nx := fun x H' => Q V.non H', rt := Q } (L2.start NOd [V.int c]) H := by
   intro s0 s1 s2 s3 h0 h1 h2 h3
   refine ⟨_, pss_cons (ps_sts 1 _ od0 h0 scOd.nd rfl (Or.inl rfl) (Or.inl rfl))
      (pss_cons (ps_cat 1 _ od1 h1 scOd.nd rfl (Or.inl rfl) (Or.inl rfl) (Or.inl rfl) (by decide) (by decide))
      (pss_cons (ps_cat 1 _ od2 h2 scOd.nd rfl (Or.inl rfl) (Or.inl rfl) (Or.inl rfl) (by decide) (by decide))
      (pss_cons (ps_cat 1 _ od3 h3 scOd.nd rfl (Or.inl rfl) (Or.inl rfl) (Or.inl rfl) (by decide) (by decide))
      (pss_one (ps_ret (pe_ix ix_list (pv 1) (pe_op op_mod (pv 0) (pe_callB call_len_seq (by rfl) ml PySem.boot_len (pa_cons (pv 1) (pa_nil)))) (fun _ _ => rfl))))))), ?_⟩
   obtain ⟨l0, l1, l2, l3⟩ := od_len
   have ro := od_ro
   generalize od0 = o0 at l0 ro ⊢
   generalize od1 = o1 at l1 ro ⊢
   generalize od2 = o2 at l2 ro ⊢
   generalize od3 = o3 at l3 ro ⊢
   refine ⟨by omega, fun a H1 s1 ha ga => ?_⟩
   refine ⟨_, rfl, by omega, fun b H2 s2 hb gb => ⟨a, b, _, _, rfl, rfl, s2 _ _ ga, gb, by rw [List.length_map, List.length_map]; exact big5 (by omega), fun p hp => ?_⟩⟩
   rw [← List.map_append]
   have s3 := same_newO hp (.lst ((o0 ++ o1).map V.str))
   have g3 : upd H2 p (.lst ((o0 ++ o1).map V.str)) p = some (.lst ((o0 ++ o1).map V.str)) := upd_same
   generalize upd H2 p (.lst ((o0 ++ o1).map V.str)) = H3 at s3 g3 ⊢
   refine ⟨_, rfl, by omega, fun b2 H4 s4 hb2 gb2 => ⟨p, b2, _, _, rfl, rfl, s4 _ _ g3, gb2, by rw [List.length_map, List.length_map, List.length_append]; exact big5 (by omega), fun p2 hp2 => ?_⟩⟩
   rw [← List.map_append]
   have s5 := same_newO hp2 (.lst ((o0 ++ o1 ++ o2).map V.str))
   have g5 : upd H4 p2 (.lst ((o0 ++ o1 ++ o2).map V.str)) p2 = some (.lst ((o0 ++ o1 ++ o2).map V.str)) := upd_same
   generalize upd H4 p2 (.lst ((o0 ++ o1 ++ o2).map V.str)) = H5 at s5 g5 ⊢
   refine ⟨_, rfl, by omega, fun b3 H6 s6 hb3 gb3 => ⟨p2, b3, _, _, rfl, rfl, s6 _ _ g5, gb3, by rw [List.length_map, List.length_map, List.length_append, List.length_append]; exact big5 (by omega), fun p3 hp3 => ?_⟩⟩
   rw [← List.map_append]
   have s7 := same_newO hp3 (.lst ((o0 ++ o1 ++ o2 ++ o3).map V.str))
   have g7 : upd H6 p3 (.lst ((o0 ++ o1 ++ o2 ++ o3).map V.str)) p3 = some (.lst ((o0 ++ o1 ++ o2 ++ o3).map V.str)) := upd_same
   generalize upd H6 p3 (.lst ((o0 ++ o1 ++ o2 ++ o3).map V.str)) = H7 at s7 g7 ⊢
   have ln : (o0 ++ o1 ++ o2 ++ o3).length = 23 := by rw [List.length_append, List.length_append, List.length_append]; omega
   generalize o0 ++ o1 ++ o2 ++ o3 = os at ro g7 ln
   have lnI : (((os.map V.str).length : Nat) : Int) = 23 := by rw [List.length_map, ln]; rfl
   refine ⟨_, rfl, _, rfl, _, rfl, p3, _, rfl, .inl (SqL.of g7), _, _, rfl, rfl, (by rw [lnI]; show (0 : Int) < 23; decide), ?_⟩
   rw [lnI]
   show rIxL _ _ (V.int (c % 23)) _ _
   have m0 := Int.emod_nonneg c (show (23 : Int) ≠ 0 by decide)
   have m1 := Int.emod_lt_of_pos c (show (0 : Int) < 23 by decide)
   obtain ⟨k, hk⟩ : ∃ k : Nat, c % 23 = k := ⟨(c % 23).toNat, by omega⟩
   rw [hk]
   have kl : k < os.length := by omega
   refine ⟨p3, _, _, _, rfl, rfl, SqL.of g7, atI_nat (by rw [List.getElem?_map, List.getElem?_eq_getElem kl]; rfl), ?_⟩
   exact qq _ _ ((((((s1.trans s2).trans s3).trans s4).trans s5).trans s6).trans s7) (ro _ (List.getElem_mem kl))
  exact key _ _ _ _ od_h0 od_h1 od_h2 od_h3
end
end K92
set_option Elab.async false
set_option linter.all false
set_option maxRecDepth 100000
set_option maxHeartbeats 1000000
namespace L2
open PySem PySem.Spec PyProof.Rows
def rSlUp : V → Option Int → Option Int → Hp → VK → Prop := fun x lo hi H Q => ∃ (z : Str) (i : Int), x = .str z ∧ lo = none ∧ hi = some i ∧ z.length ≤ sizeLine ∧ ∀ u : Str, u.length ≤ z.length → (∀ c ∈ u.cps.toList, c ∈ z.cps.toList) → Q (.str u) H
theorem picked_up (i : Int) (n : Nat) : ∃ m, m ≤ n ∧ Builtin.Str.strSliceIndices none (some i) 1 n = List.range m := by
  have e : ∃ m : Nat, m ≤ n ∧ (max 0 (min ((if i < 0 then i + (n : Int) else i)) (n : Int))) = (m : Int) := by
    by_cases c : i < 0
    · rw [if_pos c]
      exact ⟨(max 0 (min (i + (n : Int)) (n : Int))).toNat, by omega, by omega⟩
    · rw [if_neg c]
      exact ⟨(max 0 (min i (n : Int))).toNat, by omega, by omega⟩
  obtain ⟨m, hm, e⟩ := e
  refine ⟨m, hm, ?_⟩
  show sliceRange 0 (max 0 (min ((if i < 0 then i + (n : Int) else i)) (n : Int))) 1 = _
  rw [e]
  have := sliceRange_one 0 m
  simpa using this
theorem sl_up {X : Cx} : SlR X rSlUp := by
  intro pins s σ H x v vl vu lo hi sl Q I rx hs pl pu h
  obtain ⟨z, i, rfl, rfl, rfl, hz, q⟩ := h
  obtain ⟨t, rfl⟩ := rx
  cases pl
  cases pu with
  | int i tk =>
  refine ⟨"str", _, F.slot_str_getitem.lookup, typeIs_str _ _ _, ?_⟩
  refine wpAny_getItem_str_slice (l := none) (u := some (i, tk)) (st := none) hs rfl ?_
  obtain ⟨m, hm, e1⟩ := picked_up i z.length
  have e1 : slicePicked z none (some (i, tk)) none = List.range m := e1
  unfold sliceMade
  rw [e1]
  split
  · exact ⟨.str _, H, I, ⟨_, rfl⟩, q z (Nat.le_refl _) fun c hc => hc⟩
  · have hl : ((List.range m).filterMap (z.cps[·]?)).length ≤ z.length := by
      have := List.length_filterMap_le (fun j => z.cps[j]?) (List.range m)
      rw [List.length_range] at this
      omega
    refine ⟨?_, .str _, H, I.tok _, ⟨_, rfl⟩, q _ (by show ((List.range m).filterMap (z.cps[·]?)).toArray.size ≤ _; rw [List.size_toArray]; exact hl) fun c hc => ?_⟩
    · show ((List.range m).filterMap (z.cps[·]?)).toArray.size ≤ _
      rw [List.size_toArray]
      exact Nat.le_trans hl hz
    · have hc : c ∈ (List.range m).filterMap (z.cps[·]?) := by simpa using hc
      obtain ⟨j, _, hj⟩ := List.mem_filterMap.mp hc
      rw [← Array.getElem?_toList] at hj
      exact List.mem_of_getElem? hj
theorem cut_strs (zs : List Str) (lo hi : Option Int) : ∃ ms : List Str, cutV (zs.map V.str) lo hi = ms.map V.str ∧ ms.length ≤ zs.length ∧ ∀ z ∈ ms, z ∈ zs := by
  obtain ⟨a, b, e⟩ := cut_sub (zs.map V.str) lo hi
  refine ⟨(zs.drop a).take b, by rw [e, ← List.map_drop, ← List.map_take], ?_, fun z hz => List.mem_of_mem_drop (List.mem_of_mem_take hz)⟩
  rw [List.length_take, List.length_drop]
  omega
end L2
set_option Elab.async false
set_option linter.all false
set_option maxRecDepth 100000
namespace K92
open PySem PySem.NumText L2 PyProof.Rows
theorem Ro.mono {m n : Nat} {z : Str} (h : Ro m z) (l : m ≤ n) : Ro n z := ⟨Nat.le_trans h.1 l, h.2⟩
theorem Ro.app {m n : Nat} {y z : Str} (h : Ro m y) (k : Ro n z) : Ro (m + n) (y ++ z) := by
  refine ⟨?_, fun c hc => ?_⟩
  · show (y.cps ++ z.cps).size ≤ _
    rw [Array.size_append]
    exact Nat.add_le_add h.1 k.1
  · have hc : c ∈ (y.cps ++ z.cps).toList := hc
    rw [Array.toList_append] at hc
    rcases List.mem_append.mp hc with x | x
    · exact h.2 c x
    · exact k.2 c x
theorem Ro.asc {m : Nat} {z : Str} (h : Ro m z) : Asc z := asc_is h.2
theorem ro_join {B : Nat} {sep : Str} (hs : Ro 1 sep) : ∀ ws : List Str, (∀ z ∈ ws, Ro B z) → Ro (ws.length * (B + 1)) (Str.join sep ws)
  | [], _ => ⟨Nat.zero_le _, fun c hc => by cases hc⟩
  | [a], h => (h a (.head _)).mono (by rw [List.length_singleton]; omega)
  | a :: b :: r, h => by
    have ih := ro_join hs (b :: r) fun z hz => h z (.tail _ hz)
    have := ((h a (.head _)).app hs).app ih
    refine Ro.mono (z := a ++ sep ++ Str.join sep (b :: r)) this ?_
    rw [List.length_cons (a := a), Nat.add_mul]
    omega
theorem ro_nm {m : Nat} {z : Str} (h : Nm m z) : Ro m z := ⟨by have := h.l8; have e : z.cps.toList.length = z.length := Array.length_toList; omega, fun c hc => by have := h.lo c hc; omega⟩
theorem ro_part {c : Nat} {m : Nat} {z p : Str} (h : Ro m z) (hp : p ∈ Txt.split z ⟨#[c]⟩) : Ro m p := ⟨by have := part_short hp; have := h.1; omega, asc_of (part_asc h.asc hp)⟩
theorem ro_sg {c : Int} {n : Nat} : ∀ z ∈ sgL c n, Ro 1 z := fun z hz => by
  unfold sgL at hz
  obtain ⟨k, _, rfl⟩ := List.mem_map.mp hz
  refine ⟨by rw [S_len]; exact Nat.le_refl _, fun x hx => ?_⟩
  rw [S_cps] at hx
  rw [List.mem_singleton.mp hx]
  have := Int.emod_lt_of_pos (c + 5 * (k : Int)) (show (0 : Int) < 26 by decide)
  omega
theorem sg_len (c : Int) (n : Nat) : (sgL c n).length = n := by unfold sgL; rw [List.length_map, List.length_range]
theorem ro_num {n : Int} (h0 : 0 ≤ n) (h1 : n < 10 ^ 31) : Ro 31 (Str.ofString (toString n)) := by
  rw [nS_is h0]
  refine ⟨?_, fun c hc => ?_⟩
  · show (S (dg n)).length ≤ 31
    rw [S_len]
    unfold dg
    rw [List.length_map]
    exact toDigits_len_pow (by decide) (by decide) (by omega)
  · have hc : c ∈ (S (dg n)).cps.toList := hc
    rw [S_cps] at hc
    have := dg_all n c hc
    omega
theorem lgN {n : Int} (h0 : 0 ≤ n) (h1 : n < 10 ^ 31) : n.natAbs.log2 < 1920 := by
  by_cases c : n.natAbs = 0
  · rw [c]; decide
  · rw [Nat.log2_lt c]
    have : (10 : Nat) ^ 31 < 2 ^ 1920 := by decide +kernel
    omega
abbrev StL (H : Hp) (d : Addr) (ys : List Str) : Prop := H d = some (.lst (ys.map V.str))
abbrev Rs (m : Nat) (ys : List Str) : Prop := ∀ z ∈ ys, Ro m z
theorem slL {K : PySem.W.Frag} {l : Addr} {zs : List Str} {n m : Nat} {lo hi : Option Int} {H : Hp} {Q : VK} (h : StL H l zs) (hn : zs.length ≤ n) (hr : Rs m zs) (q : ∀ d ys H', Same H H' → StL H' d ys → ys.length ≤ n → Rs m ys → Q (.ref d) H') : rSlL K (.ref l) lo hi H Q := by
  refine ⟨l, _, rfl, SqL.of h, fun p hp => ?_⟩
  obtain ⟨ms, e, l1, me⟩ := cut_strs zs lo hi
  rw [e]
  exact q p ms _ (same_newO hp _) upd_same (Nat.le_trans l1 hn) fun z hz => hr z (me z hz)
theorem slF {K : PySem.W.Frag} {l : Addr} {zs : List Str} {n m : Nat} {lo : Option Int} {H : Hp} {σ : L2.St} {Q : VK} (h : StL H l zs) (hn : zs.length ≤ n) (hr : Rs m zs) (q : ∀ d ys H', Same H H' → StL H' d ys → ys.length ≤ n → Rs m ys → Q (.ref d) H') : tNoPart σ H fun u H3 => rSlL K (.ref l) lo u H3 Q := slL h hn hr q
theorem catL {a b : Addr} {xs ys : List Str} {n1 n2 m : Nat} {H : Hp} {Q : VK} (ha : StL H a xs) (hb : StL H b ys) (h1 : xs.length ≤ n1) (h2 : ys.length ≤ n2) (h5 : n1 + n2 ≤ 5000) (hx : Rs m xs) (hy : Rs m ys) (q : ∀ d zs H', Same H H' → StL H' d zs → zs.length ≤ n1 + n2 → Rs m zs → Q (.ref d) H') : rCat (.ref a) (.ref b) H Q := by
  refine ⟨a, b, _, _, rfl, rfl, ha, hb, by rw [List.length_map, List.length_map]; exact big5 (by omega), fun p hp => ?_⟩
  rw [← List.map_append]
  refine q p (xs ++ ys) _ (same_newO hp _) upd_same (by rw [List.length_append]; omega) fun z hz => ?_
  rcases List.mem_append.mp hz with x | x
  · exact hx z x
  · exact hy z x
theorem one_new {p : Addr} {H : Hp} {z : Str} {m : Nat} (hp : H p = none) (r : Ro m z) : Same H (upd H p (.lst [V.str z])) ∧ StL (upd H p (.lst [V.str z])) p [z] ∧ Rs m [z] := ⟨same_newO hp _, upd_same, fun y hy => by rw [List.mem_singleton.mp hy]; exact r⟩
theorem ro_c {s : Str} {n : Nat} (h : (decide (s.length ≤ n) && s.cps.toList.all (fun c => decide (c < 128))) = true) : Ro n s := by
  rw [Bool.and_eq_true] at h
  exact ⟨of_decide_eq_true h.1, fun c hc => of_decide_eq_true (List.all_eq_true.mp h.2 c hc)⟩
section
variable {P : Program} {w : World} {K : PySem.W.Frag} {mg : Str → Option Value} {base : Heap} {f : Addr} {fd : FuncData}
abbrev NSp : List Str := ["rows", "cell", "way", "rest", "at", "more", "sign", "many", "number", "words"]
abbrev MSp : List Str := ["rows", "cell", "way", "rest", "at", "more", "-", "many", "number", "words"]
abbrev PSp : List Str := ["rows", "cell"]
def spSp : Sp := fun vs H Q _ => ∃ (l : Addr) (zs : List Str) (c : Int) (m : Nat), vs = [.ref l, .int c] ∧ StL H l zs ∧ zs.length ≤ 200 ∧ 60 ≤ m ∧ m ≤ 300 ∧ Rs m zs ∧ ∀ d ys H', Same H H' → StL H' d ys → ys.length ≤ 3 * zs.length + 30 → Rs (3 * m + 60) ys → Q (.ref d) H'
theorem scSp : FnScope NSp PSp (defScope sSpoilt) := ⟨rfl, rfl, rfl, by decide +kernel, rfl, by decide +kernel, by decide +kernel⟩
theorem ndSp1 : (("row" : Str) :: NSp).Nodup := by decide +kernel
theorem ndSp2 : (("sign" : Str) :: MSp).Nodup := by decide +kernel
theorem ndSp3 : (("name" : Str) :: NSp).Nodup := by decide +kernel
set_option maxHeartbeats 16000000 in
theorem ok_sp (F : Fun K "_law_spoilt" "_law_spoilt" sSpoilt f fd) (GO : Fns P w K mg base ["cell"] "_law_odd_row" spOd 1) (GS : Fns P w K mg base PSg "_law_signs" spSg 1) (GN : Fns P w K mg base PNm "_law_names" spNm 1) (ml : mg "len" = none) (ms : mg "str" = none) : FnOk P w K mg base CX0 2 f fd PSp spSp := by
  refine F.ok (k := 1) scSp (fun vs H Q E h => ?_) (fun cdv A outer s H vs Q E hr h => ?_)
  · obtain ⟨l, zs, c, m, rfl, _⟩ := h
    rfl
  obtain ⟨l, zs, c, m, rfl, hl, l2, m60, m300, ro, qq⟩ := h
  refine ⟨_, pss_cons (ps_set (i := 2) scSp.nd rfl (Or.inl rfl) (pe_mid (pe_op op_mod (pv 1) (pe_int))))
      (pss_cons (ps_set (i := 3) scSp.nd rfl (Or.inl rfl) (pe_mid (pe_op op_fdiv (pv 1) (pe_int))))
      (pss_cons (ps_set (i := 4) scSp.nd rfl (Or.inl rfl) (pe_mid (pe_op op_mod (pv 3) (pe_op op_add (pe_callB call_len_seq (by rfl) ml PySem.boot_len (pa_cons (pv 0) (pa_nil))) (pe_int)))))
      (pss_cons (ps_set (i := 5) scSp.nd rfl (Or.inl rfl) (pe_mid (pe_op op_fdiv (pv 3) (pe_int))))
      (pss_cons (ps_if (pt_cmpR op_eq (pv 2) (pe_int) (nomark _)) (pss_one (ps_ret (pe_op op_cat (pe_op op_cat (pe_slice sl_list (pv 0) po_none (po_some (pv 4))) (pe_lst (pa_cons (pe_call GO.ok hr (by rfl) GO.m GO.kp GO.b .nil pass0 (pa_cons (pv 5) (pa_nil))) (pa_nil)))) (pe_slice sl_list (pv 0) (po_some (pe_op op_add (pv 4) (pe_op op_mod (pe_op op_fdiv (pv 5) (pe_int)) (pe_int)))) po_none)))) (pss_nil))
      (pss_cons (ps_if (pt_cmpR op_eq (pv 2) (pe_int) (nomark _)) (pss_one (ps_ret (pe_op op_cat (pe_op op_cat (pe_slice sl_list (pv 0) po_none (po_some (pv 4))) (pe_slice sl_list (pe_slice sl_list (pv 0) po_none (po_some (pv 4))) (po_some (pe_un un_neg pe_int)) po_none)) (pe_slice sl_list (pv 0) (po_some (pv 4)) po_none)))) (pss_nil))
      (pss_cons (ps_if (pt_cmpR op_eq (pv 2) (pe_int) (nomark _)) (pss_one (ps_ret (pe_op op_cat (pv 0) (pe_lst (pa_cons (pe_op op_add_str (pe_op op_add_str (pe_str) (pe_ix ix_list (pe_call GS.ok hr (by rfl) GS.m GS.kp GS.b .nil pass0 (pa_cons (pv 5) (pa_cons (pe_int) (pa_nil)))) (pe_int) (fun _ _ => rfl))) (pe_str)) (pa_nil)))))) (pss_nil))
      (pss_cons (ps_if (pt_cmpR op_eq (pv 2) (pe_int) (nomark _)) (pss_cons (ps_set (i := 6) scSp.nd rfl (Or.inr rfl) (pe_ix ix_list (pe_lst (pa_cons (pe_str) (pa_cons (pe_str) (pa_nil)))) (pe_op op_mod (pv 5) (pe_int)) (fun _ _ => rfl)))
      (pss_one (ps_ret (pe_compL (M := NSp) rfl (CompScope.of (defScope sSpoilt) NSp rfl rfl rfl (by decide +kernel) (by decide +kernel) (by decide +kernel) rfl (by decide +kernel)) ndSp1 rfl (pv 0) mo_var (fun cl C s0 H0 fp => ⟨pts_one (PW.pt (pw_or (pt_cmpR op_ne (pe_slice sl_up (pv 0) po_none (po_some (pe_int))) (pv 7) (nomark _)) (pw_or1 (pt_cmpR op_eq (pv 0) (pe_ix (ixL K) (pv 1) (pe_int) (fun _ _ => rfl)) (nomark _))))), pv 0⟩))))) (pss_nil))
      (pss_cons (ps_if (pt_cmpR op_eq (pv 2) (pe_int) (nomark _)) (pss_cons (ps_set (i := 7) scSp.nd rfl (Or.inl rfl) (pe_mid (pe_op op_add (pe_int) (pe_op op_mod (pe_op op_fdiv (pv 5) (pe_int)) (pe_int)))))
      (pss_one (ps_ret (pe_op op_cat (pe_compL (M := MSp) rfl (CompScope.of (defScope sSpoilt) NSp rfl rfl rfl (by decide +kernel) (by decide +kernel) (by decide +kernel) rfl (by decide +kernel)) ndSp2 rfl (pe_mid (pe_call GS.ok hr (by rfl) GS.m GS.kp GS.b .nil pass0 (pa_cons (pv 5) (pa_cons (pv 7) (pa_nil))))) mo_mid (fun cl C s0 H0 fp => ⟨pts_nil, pe_op op_add_str (pe_op op_add_str (pe_str) (pv 0)) (pe_str)⟩)) (pv 0))))) (pss_nil))
      (pss_cons (ps_if (pt_cmpR op_eq (pv 2) (pe_int) (nomark _)) (pss_one (ps_ret (pe_op op_cat (pv 0) (pe_compL (M := NSp) rfl (CompScope.of (defScope sSpoilt) NSp rfl rfl rfl (by decide +kernel) (by decide +kernel) (by decide +kernel) rfl (by decide +kernel)) ndSp3 rfl (pe_mid (pe_call GN.ok hr (by rfl) GN.m GN.kp GN.b .nil pass0 (pa_cons (pv 5) (pa_cons (pe_op op_add (pe_int) (pe_op op_mod (pv 5) (pe_int))) (pa_nil))))) mo_mid (fun cl C s0 H0 fp => ⟨pts_nil, pe_op op_add_str (pe_op op_add_str (pe_str) (pv 0)) (pe_str)⟩))))) (pss_nil))
      (pss_cons (ps_if (PW.pt (pw_and (pt_cmpR op_eq (pv 2) (pe_int) (nomark _)) (pw_and1 (pt_cmpR op_lt (pv 4) (pe_callB call_len_seq (by rfl) ml PySem.boot_len (pa_cons (pv 0) (pa_nil))) (nomark _))))) (pss_cons (ps_set (i := 8) scSp.nd rfl (Or.inl rfl) (pe_ix ix_list (pe_lst (pa_cons (pe_int) (pa_cons (pe_op op_add (pe_op op_add (pe_op op_pow pe_int pe_int) (pe_int)) (pe_op op_mod (pv 5) (pe_op op_pow pe_int pe_int))) (pa_nil)))) (pe_op op_mod (pv 5) (pe_int)) (fun _ _ => rfl)))
      (pss_cons (ps_set (i := 9) scSp.nd rfl (Or.inl rfl) (pe_op op_cat (pe_slice sl_list (pe_bmS PySem.F.slot_str_split PySem.F.type_str_split mt_split (pe_ix ix_list (pv 0) (pv 4) (fun _ _ => rfl)) (pa_cons (pe_str) (pa_nil))) po_none (po_some (pe_int))) (pe_lst (pa_cons (pe_callTy call_str_int (by rfl) ms b_str (pa_cons (pv 8) (pa_nil))) (pa_nil)))))
      (pss_one (ps_ret (pe_op op_cat (pe_op op_cat (pe_slice sl_list (pv 0) po_none (po_some (pv 4))) (pe_lst (pa_cons (pe_bmS PySem.F.slot_str_join PySem.F.type_str_join mt_join pe_str (pa_cons (pv 9) (pa_nil))) (pa_nil)))) (pe_slice sl_list (pv 0) (po_some (pe_op op_add (pv 4) (pe_int))) po_none)))))) (pss_nil))
      (pss_one (ps_ret (pv 0))))))))))))), ?_⟩
  refine ⟨fun v H' => H = H' ∧ ∃ W : Int, v = .int W, ⟨_, rfl, _, _, rfl, rfl, (by show (0 : Int) < _; decide), rfl, _, rfl⟩, fun v H' hv => ?_⟩
  obtain ⟨rfl, W, rfl⟩ := hv
  refine ⟨fun v H' => H = H' ∧ ∃ W : Int, v = .int W, ⟨_, rfl, _, _, rfl, rfl, ⟨by decide, by decide⟩, rfl, _, rfl⟩, fun v H' hv => ?_⟩
  obtain ⟨rfl, R, rfl⟩ := hv
  refine ⟨fun v H' => H = H' ∧ ∃ A : Int, v = .int A ∧ 0 ≤ A ∧ A < (zs.length : Int) + 1, ⟨_, rfl, _, rfl, l, _, rfl, .inl (SqL.of hl), _, _, rfl, rfl, _, _, rfl, rfl, (by show (0 : Int) < _; omega), rfl, _, rfl, ?_, ?_⟩, fun v H' hv => ?_⟩
  · exact Int.emod_nonneg _ (by omega)
  · rw [List.length_map]
    exact Int.emod_lt_of_pos _ (by omega)
  obtain ⟨rfl, A, rfl, a0, a1⟩ := hv
  refine ⟨fun v H' => H = H' ∧ ∃ W : Int, v = .int W, ⟨_, rfl, _, _, rfl, rfl, ⟨by decide, by decide⟩, rfl, _, rfl⟩, fun v H' hv => ?_⟩
  obtain ⟨rfl, M, rfl⟩ := hv
  have Rm : Rs (3 * m + 60) zs := fun z hz => (ro z hz).mono (by omega)
  have nn := Nat.le_refl zs.length
  refine ⟨_, rfl, rfl, _, rfl, ite2 (fun _ => ?_) (fun _ => ?_)⟩
  · refine ⟨_, rfl, _, rfl, _, rfl, slL hl nn Rm fun d1 y1 H1 s1 g1 n1 r1 => ?_⟩
    refine ⟨_, rfl, M, rfl, fun z H2 s2 rz => ⟨(by show 1 ≤ sizeLine; decide), fun p hp => ?_⟩⟩
    obtain ⟨s3, g3, r3⟩ := one_new hp (rz.mono (show 60 ≤ 3 * m + 60 by omega))
    refine catL (s3 _ _ (s2 _ _ g1)) g3 n1 (Nat.le_refl _) (by show zs.length + 1 ≤ _; omega) r1 r3 fun d4 y4 H4 s4 g4 n4 r4 => ?_
    have s04 := ((s1.trans s2).trans s3).trans s4
    refine ⟨_, rfl, _, rfl, _, rfl, _, _, rfl, rfl, ⟨by decide, by decide⟩, _, _, rfl, rfl, (by show (0 : Int) < _; decide), _, _, rfl, rfl, _, rfl, slF (s04 _ _ hl) nn Rm fun d5 y5 H5 s5 g5 n5 r5 => ?_⟩
    exact catL (s5 _ _ g4) g5 n4 n5 (by show zs.length + 1 + zs.length ≤ _; omega) r4 r5 fun d6 y6 H6 s6 g6 n6 r6 => qq d6 y6 H6 ((s04.trans s5).trans s6) g6 (Nat.le_trans n6 (by show zs.length + 1 + zs.length ≤ _; omega)) r6
  refine ⟨_, rfl, rfl, _, rfl, ite2 (fun _ => ?_) (fun _ => ?_)⟩
  · refine ⟨_, rfl, _, rfl, _, rfl, slL hl nn Rm fun d1 y1 H1 s1 g1 n1 r1 => ?_⟩
    refine ⟨_, rfl, _, rfl, _, rfl, slL (s1 _ _ hl) nn Rm fun d2 y2 H2 s2 g2 n2 r2 => ?_⟩
    refine ⟨_, rfl, _, rfl, slF g2 n2 r2 fun d3 y3 H3 s3 g3 n3 r3 => ?_⟩
    refine catL (s3 _ _ (s2 _ _ g1)) g3 n1 n3 (by omega) r1 r3 fun d4 y4 H4 s4 g4 n4 r4 => ?_
    have s04 := ((s1.trans s2).trans s3).trans s4
    refine ⟨_, rfl, _, rfl, _, rfl, slF (s04 _ _ hl) nn Rm fun d5 y5 H5 s5 g5 n5 r5 => ?_⟩
    exact catL (s5 _ _ g4) g5 n4 n5 (by omega) r4 r5 fun d6 y6 H6 s6 g6 n6 r6 => qq d6 y6 H6 ((s04.trans s5).trans s6) g6 (Nat.le_trans n6 (by omega)) r6
  refine ⟨_, rfl, rfl, _, rfl, ite2 (fun _ => ?_) (fun _ => ?_)⟩
  · refine ⟨_, rfl, _, rfl, M, 1, rfl, by decide, fun d1 H1 s1 _ g1 => ?_⟩
    obtain ⟨u, hu⟩ : ∃ u, sgL M 1 = [u] := ⟨_, rfl⟩
    have ru : Ro 1 u := ro_sg u (by rw [hu]; exact .head _)
    rw [hu] at g1
    have ra : Ro 20 (Str.ofString "letter " ++ u) := ((ro_c (n := 7) (by decide +kernel)).app ru).mono (by decide)
    have rb : Ro (3 * m + 60) (Str.ofString "letter " ++ u ++ Str.ofString " 5") := (ra.app (ro_c (n := 7) (by decide +kernel))).mono (by omega)
    have lr := ra.1
    have lu := ru.1
    refine ⟨d1, _, _, _, rfl, rfl, SqL.of g1, (rfl : atI [V.str u] 0 = _), _, _, rfl, rfl, big5 (by rw [show (Str.ofString "letter ").length = 7 by decide +kernel]; omega), _, _, rfl, rfl, big5 (by rw [show (Str.ofString " 5").length = 2 by decide +kernel]; omega), (by show 1 ≤ sizeLine; decide), fun p hp => ?_⟩
    obtain ⟨s3, g3, r3⟩ := one_new hp rb
    exact catL (s3 _ _ (s1 _ _ hl)) g3 nn (Nat.le_refl _) (by show zs.length + 1 ≤ _; omega) Rm r3 fun d6 y6 H6 s6 g6 n6 r6 => qq d6 y6 H6 ((s1.trans s3).trans s6) g6 (Nat.le_trans n6 (by show zs.length + 1 ≤ _; omega)) r6
  refine ⟨_, rfl, rfl, _, rfl, ite2 (fun _ => ?_) (fun _ => ?_)⟩
  · refine ⟨(by show 2 ≤ sizeLine; decide), fun p hp => ?_⟩
    have s1 := same_newO hp (.lst [.str (Str.ofString "l"), .str (Str.ofString "t")])
    obtain ⟨sg, hsg⟩ : ∃ sg, atI [V.str (Str.ofString "l"), .str (Str.ofString "t")] (M % 2) = some (.str sg) := by
      rcases (show M % 2 = 0 ∨ M % 2 = 1 by omega) with e | e <;> rw [e] <;> exact ⟨_, rfl⟩
    refine ⟨_, rfl, _, _, rfl, rfl, (by show (0 : Int) < _; decide), p, _, _, _, rfl, rfl, SqL.of upd_same, hsg, ?_⟩
    have hl1 := s1 _ _ hl
    generalize upd H p (.lst [.str (Str.ofString "l"), .str (Str.ofString "t")]) = H1 at s1 hl1 ⊢
    refine ⟨_, rfl, l, _, rfl, SqL.of hl1, fun d hd => ?_⟩
    refine ⟨fun i H' => Same H1 H' ∧ ∃ ys, StL H' d ys ∧ ys.length ≤ i ∧ Rs (3 * m + 60) ys, ⟨same_newO hd _, [], upd_same, Nat.zero_le _, fun z hz => by cases hz⟩, fun i H' _ hP => SqL.of (hP.1 _ _ hl1), fun i x H' hx hP => ?_, fun H' hP => ?_⟩
    · obtain ⟨s2, ys, hz, hy, ry⟩ := hP
      rw [List.getElem?_map] at hx
      obtain ⟨z, hz', rfl⟩ := Option.map_eq_some_iff.mp hx
      have il := (List.getElem?_eq_some_iff.mp hz').1
      have rz := ro z (List.mem_of_getElem? hz')
      have lz := rz.1
      have add : ∃ ys', H' d = some (.lst ys') ∧ ys'.length < sizeLine ∧ (Same H1 (upd H' d (.lst (ys' ++ [V.str z]))) ∧ ∃ ys, StL (upd H' d (.lst (ys' ++ [V.str z]))) d ys ∧ ys.length ≤ i + 1 ∧ Rs (3 * m + 60) ys) := by
        refine ⟨_, hz, by rw [List.length_map]; exact lt5 (by omega), same_upd hd s2, ys ++ [z], by show upd _ _ _ _ = _; rw [upd_same, List.map_append]; rfl, by rw [List.length_append]; exact Nat.succ_le_succ hy, fun y hy' => ?_⟩
        rcases List.mem_append.mp hy' with x | x
        · exact ry y x
        · rw [List.mem_singleton.mp x]; exact rz.mono (by omega)
      have skip : Same H1 H' ∧ ∃ ys, StL H' d ys ∧ ys.length ≤ i + 1 ∧ Rs (3 * m + 60) ys := ⟨s2, ys, hz, by omega, ry⟩
      obtain ⟨z0, h0⟩ : ∃ z0, atI (zs.map V.str) 0 = some (.str z0) := ⟨_, atI_nat (j := 0) (by rw [List.getElem?_map, List.getElem?_eq_getElem (show 0 < zs.length by omega)]; rfl)⟩
      refine ⟨_, rfl, _, rfl, z, _, rfl, rfl, rfl, big5 (by omega), fun u _ _ => ⟨_, rfl, rfl, _, rfl, ite2 (fun _ => ?_) (fun _ => ?_)⟩⟩
      · exact ite2 (fun _ => ⟨_, rfl, add⟩) (fun _ => skip)
      · exact ⟨_, rfl, _, rfl, l, _, _, _, rfl, rfl, SqL.of (s2 _ _ hl1), h0, rfl, _, rfl, ite2 (fun _ => ⟨_, rfl, add⟩) (fun _ => skip)⟩
    · obtain ⟨s2, ys, hz, hy, ry⟩ := hP
      rw [List.length_map] at hy
      exact qq d ys H' (s1.trans s2) hz (by omega) ry
  refine ⟨_, rfl, rfl, _, rfl, ite2 (fun _ => ?_) (fun _ => ?_)⟩
  · refine ⟨fun v H' => H = H' ∧ ∃ n : Nat, v = .int (n : Int) ∧ n ≤ 7, ⟨_, rfl, _, _, rfl, rfl, ⟨by decide, by decide⟩, _, _, rfl, rfl, (by show (0 : Int) < _; decide), _, _, rfl, rfl, rfl, (6 + M / 26 % 2).toNat, ?_, by omega⟩, fun v H' hv => ?_⟩
    · show V.int (6 + M / 26 % 2) = _
      congr 1
      omega
    obtain ⟨rfl, n, rfl, n7⟩ := hv
    refine ⟨fun v H' => Same H H' ∧ ∃ d, v = .ref d ∧ StL H' d (sgL M n), ⟨_, rfl, _, rfl, M, n, rfl, by omega, fun d H' s' _ g' => ⟨s', d, rfl, g'⟩⟩, fun v H1 hv => ?_⟩
    obtain ⟨s1, d1, rfl, g1⟩ := hv
    refine ⟨d1, _, rfl, SqL.of g1, fun d hd => ?_⟩
    refine ⟨fun i H' => Same H1 H' ∧ ∃ ys, StL H' d ys ∧ ys.length ≤ i ∧ Rs (3 * m + 60) ys, ⟨same_newO hd _, [], upd_same, Nat.zero_le _, fun z hz => by cases hz⟩, fun i H' _ hP => SqL.of (hP.1 _ _ g1), fun i x H' hx hP => ?_, fun H' hP => ?_⟩
    · obtain ⟨s2, ys, hz, hy, ry⟩ := hP
      rw [List.getElem?_map] at hx
      obtain ⟨z, hz', rfl⟩ := Option.map_eq_some_iff.mp hx
      have il := (List.getElem?_eq_some_iff.mp hz').1
      rw [sg_len] at il
      have rz := ro_sg z (List.mem_of_getElem? hz')
      have ra : Ro 20 (Str.ofString "letter " ++ z) := ((ro_c (n := 7) (by decide +kernel)).app rz).mono (by decide)
      have rb : Ro (3 * m + 60) (Str.ofString "letter " ++ z ++ Str.ofString " 3") := (ra.app (ro_c (n := 7) (by decide +kernel))).mono (by omega)
      have lr := ra.1
      have lu := rz.1
      refine turn_all ⟨_, rfl, _, _, rfl, rfl, big5 (by rw [show (Str.ofString "letter ").length = 7 by decide +kernel]; omega), _, _, rfl, rfl, big5 (by rw [show (Str.ofString " 3").length = 2 by decide +kernel]; omega), _, hz, by rw [List.length_map]; exact lt5 (by omega), same_upd hd s2, ys ++ [_], by show upd _ _ _ _ = _; rw [upd_same, List.map_append]; rfl, by rw [List.length_append]; exact Nat.succ_le_succ hy, fun y hy' => ?_⟩
      rcases List.mem_append.mp hy' with x | x
      · exact ry y x
      · rw [List.mem_singleton.mp x]; exact rb
    · obtain ⟨s2, ys, hz, hy, ry⟩ := hP
      rw [List.length_map, sg_len] at hy
      have s02 := s1.trans s2
      exact ⟨_, rfl, catL hz (s02 _ _ hl) hy nn (by omega) ry Rm fun d6 y6 H6 s6 g6 n6 r6 => qq d6 y6 H6 (s02.trans s6) g6 (Nat.le_trans n6 (by omega)) r6⟩
  refine ⟨_, rfl, rfl, _, rfl, ite2 (fun _ => ?_) (fun _ => ?_)⟩
  · obtain ⟨n, hn, n7⟩ : ∃ n : Nat, 24 + M % 2 = (n : Int) ∧ (1 ≤ n ∧ n ≤ 25) := ⟨(24 + M % 2).toNat, by omega, by omega⟩
    refine ⟨_, rfl, fun v H' => Same H H' ∧ ∃ d ns, v = .ref d ∧ StL H' d ns ∧ ns.length = n ∧ Rs 8 ns, ⟨_, rfl, _, rfl, _, _, rfl, rfl, (by show (0 : Int) < _; decide), _, _, rfl, rfl, M, n, congrArg (fun x => [V.int M, V.int x]) hn, n7.1, by omega, fun d ns H' s' _ g' ln _ nm => ⟨s', d, ns, rfl, g', ln, fun z hz => ro_nm (nm z hz)⟩⟩, fun v H1 hv => ?_⟩
    obtain ⟨s1, d1, ns, rfl, g1, ln, rn⟩ := hv
    refine ⟨d1, _, rfl, SqL.of g1, fun d hd => ?_⟩
    refine ⟨fun i H' => Same H1 H' ∧ ∃ ys, StL H' d ys ∧ ys.length ≤ i ∧ Rs (3 * m + 60) ys, ⟨same_newO hd _, [], upd_same, Nat.zero_le _, fun z hz => by cases hz⟩, fun i H' _ hP => SqL.of (hP.1 _ _ g1), fun i x H' hx hP => ?_, fun H' hP => ?_⟩
    · obtain ⟨s2, ys, hz, hy, ry⟩ := hP
      rw [List.getElem?_map] at hx
      obtain ⟨z, hz', rfl⟩ := Option.map_eq_some_iff.mp hx
      have il := (List.getElem?_eq_some_iff.mp hz').1
      have rz := rn z (List.mem_of_getElem? hz')
      have ra : Ro 20 (Str.ofString "thing " ++ z) := ((ro_c (n := 7) (by decide +kernel)).app rz).mono (by decide)
      have rb : Ro (3 * m + 60) (Str.ofString "thing " ++ z ++ Str.ofString " 1") := (ra.app (ro_c (n := 7) (by decide +kernel))).mono (by omega)
      have lr := ra.1
      have lu := rz.1
      refine turn_all ⟨_, rfl, _, _, rfl, rfl, big5 (by rw [show (Str.ofString "thing ").length = 6 by decide +kernel]; omega), _, _, rfl, rfl, big5 (by rw [show (Str.ofString " 1").length = 2 by decide +kernel]; omega), _, hz, by rw [List.length_map]; exact lt5 (by omega), same_upd hd s2, ys ++ [_], by show upd _ _ _ _ = _; rw [upd_same, List.map_append]; rfl, by rw [List.length_append]; exact Nat.succ_le_succ hy, fun y hy' => ?_⟩
      rcases List.mem_append.mp hy' with x | x
      · exact ry y x
      · rw [List.mem_singleton.mp x]; exact rb
    · obtain ⟨s2, ys, hz, hy, ry⟩ := hP
      rw [List.length_map, ln] at hy
      have s02 := s1.trans s2
      exact catL (s02 _ _ hl) hz nn hy (by omega) Rm ry fun d6 y6 H6 s6 g6 n6 r6 => qq d6 y6 H6 (s02.trans s6) g6 (Nat.le_trans n6 (by omega)) r6
  have end7 : Q (.ref l) H := qq l zs H (Same.refl _) hl (by omega) Rm
  refine ⟨_, rfl, rfl, _, rfl, ite2 (fun _ => ?_) (fun _ => iteF ⟨_, rfl, end7⟩)⟩
  refine ⟨_, rfl, _, rfl, l, _, rfl, .inl (SqL.of hl), _, _, rfl, rfl, _, rfl, ite2 (fun c6 => ?_) (fun _ => ⟨_, rfl, end7⟩)⟩
  have c6 := of_decide_eq_true c6
  rw [List.length_map] at c6
  have c6 : A < (zs.length : Int) := c6
  obtain ⟨j, rfl⟩ : ∃ j : Nat, A = j := ⟨A.toNat, by omega⟩
  have jl : j < zs.length := by omega
  have hj : atI (zs.map V.str) (j : Int) = some (.str (zs[j]'jl)) := atI_nat (by rw [List.getElem?_map, List.getElem?_eq_getElem jl]; rfl)
  have rj := ro _ (List.getElem_mem jl)
  generalize zs[j]'jl = y at hj rj
  refine ⟨_, _, rfl, rfl, ⟨by decide, by decide, by decide⟩, _, _, rfl, rfl, _, rfl, _, _, rfl, rfl, ⟨by decide, by decide, by decide⟩, _, _, rfl, rfl, (by show (0 : Int) < _; decide), _, _, rfl, rfl, (by show 2 ≤ sizeLine; decide), fun p hp => ?_⟩
  have q0 := Int.emod_nonneg M (show (10 : Int) ^ (9 : Int).toNat ≠ 0 by decide)
  have q1 := Int.emod_lt_of_pos M (show (0 : Int) < 10 ^ (9 : Int).toNat by decide)
  obtain ⟨n, hn, n0, n1⟩ : ∃ n : Int, atI [V.int 0, V.int ((10 : Int) ^ (30 : Int).toNat + 1 + M % 10 ^ (9 : Int).toNat)] (M % 2) = some (.int n) ∧ 0 ≤ n ∧ n < 10 ^ 31 := by
    rcases (show M % 2 = 0 ∨ M % 2 = 1 by omega) with e | e <;> rw [e]
    · exact ⟨0, rfl, by decide, by decide⟩
    · refine ⟨_, rfl, ?_, ?_⟩
      · have : (0 : Int) ≤ 10 ^ (30 : Int).toNat := by decide
        omega
      · have : (10 : Int) ^ (30 : Int).toNat + 1 + 10 ^ (9 : Int).toNat < 10 ^ 31 := by decide
        omega
  have s1 := same_newO hp (.lst [V.int 0, V.int ((10 : Int) ^ (30 : Int).toNat + 1 + M % 10 ^ (9 : Int).toNat)])
  refine ⟨_, rfl, _, _, rfl, rfl, (by show (0 : Int) < _; decide), p, _, _, _, rfl, rfl, SqL.of upd_same, hn, ?_⟩
  generalize upd H p (.lst [V.int 0, V.int ((10 : Int) ^ (30 : Int).toNat + 1 + M % 10 ^ (9 : Int).toNat)]) = H1 at s1 ⊢
  have ly := rj.1
  refine ⟨_, rfl, _, rfl, l, _, _, _, rfl, rfl, SqL.of (s1 _ _ hl), hj, ⟨_, rfl⟩, y, sp, rfl, rfl, (by decide +kernel), big5 (by omega), fun p2 hp2 => ?_⟩
  have Py := split_pt (c := 32) rj.asc
  have rp : Rs m (Txt.split y sp) := fun z hz => ro_part (c := 32) rj (by rw [← sp_is]; exact hz)
  rw [← sp_is] at Py
  generalize Txt.split y sp = ps at Py rp
  have s2 := same_newO hp2 (.lst (ps.map V.str))
  have g2 : upd H1 p2 (.lst (ps.map V.str)) p2 = some (.lst (ps.map V.str)) := upd_same
  generalize upd H1 p2 (.lst (ps.map V.str)) = H2 at s2 g2 ⊢
  refine ⟨_, rfl, p2, _, rfl, SqL.of g2, fun p3 hp3 => ?_⟩
  have ec : cutV (ps.map V.str) none (some 2) = (ps.take 2).map V.str := by
    rw [cutLit _ _ (by decide), List.map_take]
    rfl
  rw [ec]
  have lt2 : (ps.take 2).length ≤ 2 := by rw [List.length_take]; omega
  have rt : Rs m (ps.take 2) := fun z hz => rp z (List.mem_of_mem_take hz)
  generalize ps.take 2 = ts at lt2 rt
  have s3 := same_newO hp3 (.lst (ts.map V.str))
  have g3 : StL (upd H2 p3 (.lst (ts.map V.str))) p3 ts := upd_same
  generalize upd H2 p3 (.lst (ts.map V.str)) = H3 at s3 g3 ⊢
  have rn := ro_num n0 n1
  refine ⟨_, rfl, n, rfl, lgN n0 n1, (by show 1 ≤ sizeLine; decide), fun p4 hp4 => ?_⟩
  obtain ⟨s4, g4, r4⟩ := one_new hp4 (rn.mono (show 31 ≤ m by omega))
  refine catL (s4 _ _ g3) g4 lt2 (Nat.le_refl _) (by show 2 + 1 ≤ 5000; decide) rt r4 fun d5 y5 H5 s5 g5 n5 r5 => ?_
  have s05 := (((s1.trans s2).trans s3).trans s4).trans s5
  refine ⟨_, rfl, _, rfl, _, rfl, slL (s05 _ _ hl) nn Rm fun d6 y6 H6 s6 g6 n6 r6 => ?_⟩
  have n5 : y5.length ≤ 3 := n5
  have rJ : Ro (3 * m + 60) (Str.join sp y5) := (ro_join (ro_c (by decide +kernel)) y5 r5).mono (by
    have := Nat.mul_le_mul_right (m + 1) n5
    omega)
  refine ⟨⟨_, rfl⟩, _, rfl, sp, d5, y5, m, rfl, rfl, s6 _ _ g5, fun z hz => (r5 z hz).1, ?_, (by show 1 ≤ sizeLine; decide), fun p7 hp7 => ?_⟩
  · have e1 : sp.length = 1 := by decide +kernel
    have := Nat.mul_le_mul_right m n5
    rw [e1]
    omega
  obtain ⟨s7, g7, r7⟩ := one_new hp7 rJ
  refine catL (s7 _ _ g6) g7 n6 (Nat.le_refl _) (by show zs.length + 1 ≤ _; omega) r6 r7 fun d8 y8 H8 s8 g8 n8 r8 => ?_
  have s08 := ((s05.trans s6).trans s7).trans s8
  refine ⟨_, rfl, _, rfl, _, _, rfl, rfl, _, rfl, slF (s08 _ _ hl) nn Rm fun d9 y9 H9 s9 g9 n9 r9 => ?_⟩
  exact catL (s9 _ _ g8) g9 n8 n9 (by show zs.length + 1 + zs.length ≤ _; omega) r8 r9 fun d6 y6 H6 s6 g6 n6 r6 => qq d6 y6 H6 ((s08.trans s9).trans s6) g6 (Nat.le_trans n6 (by show zs.length + 1 + zs.length ≤ _; omega)) r6
end
end K92
set_option Elab.async false
set_option linter.all false
set_option maxRecDepth 100000
set_option maxHeartbeats 1000000
namespace L2
open PySem PySem.Spec PyProof.Rows
theorem noFill_tup_mul : fillsNumberSlot (.type "tuple") "mul" = pure false :=
  PySem.fillsNumberSlot_seq (id := "tuple.__mul__") (r := some (.builtin "tuple.__rmul__")) PySem.F.slot_tuple_mul.lookup (by decide +kernel) PySem.F.slot_tuple_rmul.lookup (by decide +kernel)
theorem repeat_tup : seqRepeat? (.type "tuple") = pure (some (.builtin "tuple.__mul__")) := by
  unfold seqRepeat?
  rw [PySem.seqSlot_of (T := "tuple") (name := "__mul__") (id := "tuple.__mul__") PySem.F.slot_tuple_mul.lookup (by decide +kernel), PySem.seqSlot_of (T := "tuple") (name := "__rmul__") (id := "tuple.__rmul__") PySem.F.slot_tuple_rmul.lookup (by decide +kernel)]
  rfl
theorem rmul_tup (a : Int) (t : Tok) (l : Addr) (items : Array Value) (n : Nat) :
    Meets (Builtin.«int.__rmul__» ⟨[.int a t, .ref l], []⟩) (fun _ R s => s.heap.get? l = some { cls := .type "tuple", dict := none, data := .seq items n, slots := #[] } ∧ R (.ok (.ret Value.notImplemented)) s) :=
  .of_wp fun prog w A R s h => by obtain ⟨hp, g, d, tk, os⟩ := s; obtain ⟨hl, h⟩ := h; wp_walk; exact ⟨_, rfl, h⟩
theorem mul_tupN (l : Addr) (items : Array Value) (n : Nat) (k : Int) (t : Tok) (q1 : ¬ (decide (k < -2 ^ 63) || decide (k ≥ 2 ^ 63)) = true) (q2 : ¬ (items.isEmpty || k == 1) = true) (q3 : ¬ (decide (k ≤ 0) || items.isEmpty) = true) (q4 : ¬ (items.size : Int) * k > (2 ^ 63 - 1) / 8) (q5 : ¬ Builtin.Tuple.tupleTooMany (items.size * k) = true) (q6 : ¬ ((List.replicate k.toNat items).foldl (· ++ ·) #[]).size > sizeLine) :
    Meets (Builtin.«tuple.__mul__» ⟨[.ref l, .int k t], []⟩) (fun _ R s => s.heap.get? l = some { cls := .type "tuple", dict := none, data := .seq items n, slots := #[] } ∧ R (.ok (.ret (.ref s.heap.objs.size))) { s with heap := s.heap.push { cls := .type "tuple", data := .seq ((List.replicate k.toNat items).foldl (· ++ ·) #[]) 0 } }) :=
  .of_wp fun prog w A R s h => by
    obtain ⟨hp, g, d, tk, os⟩ := s
    obtain ⟨hl, h⟩ := h
    unfold Builtin.«tuple.__mul__»
    wp_walk
    rw [if_neg q1]
    wp_walk
    rw [if_neg q4]
    wp_walk
    exact ⟨_, rfl, h⟩
theorem mul_tup0 (l : Addr) (items : Array Value) (n : Nat) (k : Int) (t : Tok) (q1 : ¬ (decide (k < -2 ^ 63) || decide (k ≥ 2 ^ 63)) = true) (q2 : ¬ (items.isEmpty || k == 1) = true) (q3 : (decide (k ≤ 0) || items.isEmpty) = true) :
    Meets (Builtin.«tuple.__mul__» ⟨[.ref l, .int k t], []⟩) (fun _ R s => s.heap.get? l = some { cls := .type "tuple", dict := none, data := .seq items n, slots := #[] } ∧ R (.ok (.ret (.ref s.heap.objs.size))) { s with heap := s.heap.push { cls := .type "tuple", data := .seq #[] 0 } }) :=
  .of_wp fun prog w A R s h => by
    obtain ⟨hp, g, d, tk, os⟩ := s
    obtain ⟨hl, h⟩ := h
    unfold Builtin.«tuple.__mul__»
    wp_walk
    rw [if_neg q1]
    wp_walk
    exact ⟨_, rfl, h⟩
theorem mul_tup1 (l : Addr) (items : Array Value) (n : Nat) (k : Int) (t : Tok) (q1 : ¬ (decide (k < -2 ^ 63) || decide (k ≥ 2 ^ 63)) = true) (q2 : (items.isEmpty || k == 1) = true) :
    Meets (Builtin.«tuple.__mul__» ⟨[.ref l, .int k t], []⟩) (fun _ R s => s.heap.get? l = some { cls := .type "tuple", dict := none, data := .seq items n, slots := #[] } ∧ R (.ok (.ret (.ref l))) s) :=
  .of_wp fun prog w A R s h => by
    obtain ⟨hp, g, d, tk, os⟩ := s
    obtain ⟨hl, h⟩ := h
    unfold Builtin.«tuple.__mul__»
    wp_walk
    rw [if_neg q1]
    wp_walk
    exact ⟨_, rfl, h⟩
def rRepT : R2 := fun x y H Q => ∃ (l : Addr) (k : Int) (v : V), x = .ref l ∧ y = .int k ∧ H l = some (.tup [v]) ∧ 0 ≤ k ∧ k ≤ 100 ∧ ∀ p H', Same H H' → H' p = some (.tup (List.replicate k.toNat [v]).flatten) → Q (.ref p) H'
theorem op_repT {X : Cx} : OpR X (binaryOp .Mult) rRepT := by
  intro pins s σ H x y v w' Q I rx ry h
  obtain ⟨l, k, v, rfl, rfl, hH, h0, h1, q⟩ := h
  cases rx
  obtain ⟨t, rfl⟩ := ry
  obtain ⟨z, its, n, r, e⟩ := I.tup0 hH
  obtain ⟨u, rfl, ru⟩ := vals1 r
  have q1 : ¬ (decide (k < -2 ^ 63) || decide (k ≥ 2 ^ 63)) = true := by
    rw [decide_eq_false (by omega), decide_eq_false (by omega)]
    exact Bool.false_ne_true
  have fr : H s.heap.objs.size = none := I.hok.fresh (Nat.le_refl _)
  refine wpAny_binaryOp_repeat_ref (T := "tuple") (U := "int") (by decide) ⟨_, e, rfl⟩ (fun s' => typeIs_int s' k t) noFill_tup_mul F.fills_int_mul F.slot_int_rmul repeat_tup F.slot_int_index.lookup
    (call_meets F.slot_int_rmul (typeIs_int s k t) F.entry_int_rmul (F.args_int_rmul_2 _ _) (rmul_tup k t l _ n) ⟨e, rfl, ⟨_, e, rfl⟩, ?_⟩)
  by_cases k0 : k = 0
  · subst k0
    refine call_meets F.slot_tuple_mul ⟨_, e, rfl⟩ F.entry_tuple_mul (F.args_tuple_mul_2 _ _) (mul_tup0 l _ n 0 t q1 (by show ¬ (false || (0 : Int) == 1) = true; decide) (by show (true || _) = true; rfl)) ⟨e, ?_⟩
    refine ⟨.ref s.heap.objs.size, _, I.laid (t' := s.toks) (o := .tup []) (fun b ob q => Heap.get?_push_of_some _ q) (Nat.le_refl _) ⟨Nat.zero_le _, [], .nil, IsTp.new _ _⟩, rfl, q _ _ (same_newO fr _) upd_same⟩
  by_cases k1 : k = 1
  · subst k1
    exact call_meets F.slot_tuple_mul ⟨_, e, rfl⟩ F.entry_tuple_mul (F.args_tuple_mul_2 _ _) (mul_tup1 l _ n 1 t q1 (by show (false || (1 : Int) == 1) = true; decide)) ⟨e, .ref l, H, I, rfl, q l H (Same.refl H) hH⟩
  have f0 : List.foldl (fun x1 x2 => x1 ++ x2) #[] (List.replicate k.toNat [u].toArray) = (List.replicate k.toNat [u]).flatten.toArray := by
    have := foldl_rep [u] k.toNat []
    rw [List.nil_append] at this
    exact this
  have sz : ([u].toArray.size : Int) = 1 := rfl
  refine call_meets F.slot_tuple_mul ⟨_, e, rfl⟩ F.entry_tuple_mul (F.args_tuple_mul_2 _ _) (mul_tupN l _ n k t q1 ?_ ?_ ?_ ?_ ?_) ⟨e, ?_⟩
  · show ¬ (false || k == 1) = true
    rw [Bool.false_or, beq_iff_eq]
    exact k1
  · show ¬ (decide (k ≤ 0) || false) = true
    rw [Bool.or_false, decide_eq_true_eq]
    omega
  · rw [sz, Int.one_mul]
    have : (100 : Int) ≤ (2 ^ 63 - 1) / 8 := by decide
    omega
  · show ¬ decide ((([u].toArray.size : Nat) : Int) * k > (sizeLine : Int)) = true
    rw [sz, Int.one_mul, decide_eq_true_eq]
    have : (100 : Nat) ≤ sizeLine := by decide
    omega
  · rw [f0, List.size_toArray, len_rep, List.length_singleton, Nat.mul_one]
    have : (100 : Nat) ≤ sizeLine := by decide
    omega
  · rw [f0]
    refine ⟨.ref s.heap.objs.size, _, I.laid (t' := s.toks) (o := .tup (List.replicate k.toNat [v]).flatten) (fun b ob q => Heap.get?_push_of_some _ q) (Nat.le_refl _) ⟨?_, _, r.rep k.toNat, IsTp.new _ _⟩, rfl, q _ _ (same_newO fr _) upd_same⟩
    rw [len_rep, List.length_singleton, Nat.mul_one]
    have : (100 : Nat) ≤ sizeLine := by decide
    omega
end L2
set_option Elab.async false
set_option linter.all false
set_option maxRecDepth 100000
namespace K92
open PySem L2
theorem sg_not {c : Int} {n x : Nat} (h : x < 97) : (⟨#[x]⟩ : Str) ∉ sgL c n := fun hm => by
  unfold sgL at hm
  obtain ⟨k, _, e⟩ := List.mem_map.mp hm
  have := congrArg (fun z : Str => z.cps.toList) e
  have : [97 + ((c + 5 * (k : Int)) % 26).toNat] = [x] := this
  have := (List.cons.inj this).1
  omega
theorem badW_of {c : Int} {n x : Nat} {z : Str} (r : Ro 3 z) (hx : x ∈ z.cps.toList) (h : x < 97) (nd : z ≠ dotS) : badW (sgL c n) z := ⟨r.asc, Nat.le_trans r.1 (by decide), nd, .inr ⟨x, hx, sg_not h⟩⟩
theorem app_cps (a b : Str) : (a ++ b).cps.toList = a.cps.toList ++ b.cps.toList := by
  show (a.cps ++ b.cps).toList = _
  rw [Array.toList_append]
theorem two_dot {z : Str} (h : 2 ≤ z.length) : z ≠ dotS := fun e => by rw [e] at h; exact absurd h (by decide +kernel)
theorem app_len (a b : Str) : (a ++ b).length = a.length + b.length := Array.size_append
def shorts : List Str := [Str.ofString "", Str.ofString "\n", Str.ofString "thing a 1\n", Str.ofString "letter a 1\nletter b 1\n"]
theorem shorts_ok : shorts.all (fun z => decide (z.length ≤ 60) && z.cps.toList.all (fun c => decide (c < 128))) = true := by decide +kernel
section
variable {P : Program} {w : World} {K : PySem.W.Frag} {mg : Str → Option Value} {base : Heap} {f : Addr} {fd : FuncData}
theorem b_ord : bootBuiltins "ord" = some (.builtin "ord") := by decide +kernel
abbrev NLw : List Str := ["script", "first", "signs", "names", "rows", "sign", "name", "cell", "spoilt", "text", "odd", "bad"]
def spLaw (K : PySem.W.Frag) : Sp := fun vs H Q _ => ∃ (a : Addr) (ns : List Int), vs = [.ref a] ∧ SqL K H a (ns.map V.int) ∧ ns.length ≤ 63 ∧ ∀ H', Q (.bl true) H'
theorem scLaw : FnScope NLw ["script"] (defScope sLaw) := ⟨rfl, rfl, rfl, by decide +kernel, rfl, by decide +kernel, by decide +kernel⟩
theorem ndLw : (("row" : Str) :: NLw).Nodup := by decide +kernel
set_option maxHeartbeats 16000000 in
theorem ok_law {e : Addr} {ed : FuncData} (F : Fun K "law" "law" sLaw e ed) (GC : Fns P w K mg base ["script", "k"] "_law_cell_at" (spCell K) 9) (GA : Fns P w K mg base ["cell"] "_law_amount" spAmount 9) (GS : Fns P w K mg base PSg "_law_signs" spSg 9) (GN : Fns P w K mg base PNm "_law_names" spNm 9) (GP : Fns P w K mg base PSp "_law_spoilt" spSp 9) (GR : Fns P w K mg base ["text"] "_law_right" spRt 9) (GX : Fns P w K mg base PWr "_law_word_refused" spWr 9)
    (ml : mg "len" = none) (mt : mg "tuple" = none) (ms : mg "str" = none) (mL : mg "list" = none) (mo : mg "ord" = none) : FnOk P w K mg base CX0 10 e ed ["script"] (spLaw K) := by
  refine F.ok (k := 9) scLaw (fun vs H Q E h => ?_) (fun cdv A outer s H vs Q E hr h => ?_)
  · obtain ⟨a, ns, rfl, _⟩ := h
    rfl
  obtain ⟨a, ns, rfl, hS, h63, q⟩ := h
  refine ⟨_, pss_cons (ps_set (i := 1) scLaw.nd rfl (Or.inl rfl) (pe_call GC.ok hr (by rfl) GC.m GC.kp GC.b .nil pass0 (pa_cons (pv 0) (pa_cons (pe_int) (pa_nil)))))
      (pss_cons (ps_set (i := 2) scLaw.nd rfl (Or.inl rfl) (pe_call GS.ok hr (by rfl) GS.m GS.kp GS.b .nil pass0 (pa_cons (pe_call GC.ok hr (by rfl) GC.m GC.kp GC.b .nil pass0 (pa_cons (pv 0) (pa_cons (pe_int) (pa_nil)))) (pa_cons (pe_op op_add (pe_int) (pe_op op_mod (pv 1) (pe_int))) (pa_nil)))))
      (pss_cons (ps_set (i := 3) scLaw.nd rfl (Or.inl rfl) (pe_call GN.ok hr (by rfl) GN.m GN.kp GN.b .nil pass0 (pa_cons (pe_call GC.ok hr (by rfl) GC.m GC.kp GC.b .nil pass0 (pa_cons (pv 0) (pa_cons (pe_int) (pa_nil)))) (pa_cons (pe_op op_add (pe_int) (pe_op op_mod (pe_op op_fdiv (pv 1) (pe_int)) (pe_int))) (pa_nil)))))
      (pss_cons (ps_set (i := 4) scLaw.nd rfl (Or.inl rfl) (pe_lst (pa_nil)))
      (pss_cons (ps_for PassesOwn.never rfl (pi_list (pv 2)) (pg_name (i := 5) scLaw.nd rfl (Or.inl rfl)) (pss_one (ps_expr (pe_bm PySem.F.plainAttrs_list PySem.F.slot_list_append PySem.F.type_list_append mt_append (pv 4) (pa_cons (pe_op op_add_str (pe_op op_add_str (pe_op op_add_str (pe_str) (pv 5)) (pe_str)) (pe_callTy call_str_int (by rfl) ms b_str (pa_cons (pe_call GA.ok hr (by rfl) GA.m GA.kp GA.b .nil pass0 (pa_cons (pe_op op_add (pe_call GC.ok hr (by rfl) GC.m GC.kp GC.b .nil pass0 (pa_cons (pv 0) (pa_cons (pe_int) (pa_nil)))) (pe_callB call_ord (by rfl) mo b_ord (pa_cons (pv 5) (pa_nil)))) (pa_nil))) (pa_nil)))) (pa_nil))))))
      (pss_cons (ps_for PassesOwn.never rfl (pi_list (pv 3)) (pg_name (i := 6) scLaw.nd rfl (Or.inl rfl)) (pss_one (ps_expr (pe_bm PySem.F.plainAttrs_list PySem.F.slot_list_append PySem.F.type_list_append mt_append (pv 4) (pa_cons (pe_op op_add_str (pe_op op_add_str (pe_op op_add_str (pe_str) (pv 6)) (pe_str)) (pe_callTy call_str_int (by rfl) ms b_str (pa_cons (pe_call GA.ok hr (by rfl) GA.m GA.kp GA.b .nil pass0 (pa_cons (pe_op op_add (pe_call GC.ok hr (by rfl) GC.m GC.kp GC.b .nil pass0 (pa_cons (pv 0) (pa_cons (pe_int) (pa_nil)))) (pe_callB call_ord (by rfl) mo b_ord (pa_cons (pe_ix ix_str (pv 6) (pe_int) (fun _ _ => rfl)) (pa_nil)))) (pa_nil))) (pa_nil)))) (pa_nil))))))
      (pss_cons (ps_for PassesOwn.never rfl (pi_list (pe_op op_cat (pe_lst (pa_cons (pe_int) (pa_nil))) (pe_callTy call_list_of (by rfl) mL b_list (pa_cons (pe_slice sl_list (pv 0) (po_some (pe_int)) (po_some (pe_int))) (pa_nil))))) (pg_name (i := 7) scLaw.nd rfl (Or.inl rfl)) (pss_cons (ps_set (i := 8) scLaw.nd rfl (Or.inl rfl) (pe_call GP.ok hr (by rfl) GP.m GP.kp GP.b .nil pass0 (pa_cons (pv 4) (pa_cons (pe_op op_fdiv (pv 7) (pe_int)) (pa_nil)))))
      (pss_cons (ps_mid (ps_if (pt_cmpR op_eq (pe_op op_mod (pv 7) (pe_int)) (pe_int) (nomark _)) (pss_one (ps_set (i := 8) scLaw.nd rfl (Or.inl rfl) (pe_call GP.ok hr (by rfl) GP.m GP.kp GP.b .nil pass0 (pa_cons (pv 8) (pa_cons (pe_op op_fdiv (pv 7) (pe_int)) (pa_nil)))))) (pss_nil)))
      (pss_cons (ps_set (i := 9) scLaw.nd rfl (Or.inl rfl) (pe_bmS PySem.F.slot_str_join PySem.F.type_str_join mt_join pe_str (pa_cons (pe_compL (M := NLw) rfl (CompScope.of (defScope sLaw) NLw rfl rfl rfl (by decide +kernel) (by decide +kernel) (by decide +kernel) rfl (by decide +kernel)) ndLw rfl (pv 8) mo_var (fun cl C s0 H0 fp => ⟨pts_nil, pe_op op_add_str (pv 0) (pe_str)⟩)) (pa_nil))))
      (pss_cons (ps_mid (ps_if (pt_cmpR op_eq (pe_op op_mod (pv 7) (pe_int)) (pe_int) (nomark _)) (pss_one (ps_set (i := 9) scLaw.nd rfl (Or.inl rfl) (pe_slice sl_up (pv 9) po_none (po_some (pe_un un_neg pe_int))))) (pss_nil)))
      (pss_one (ps_if (PW.pt (pw_and (pt_cmpR op_le (pe_callB call_len_str (by rfl) ml PySem.boot_len (pa_cons (pv 9) (pa_nil))) (pe_int) (nomark _)) (pw_and1 (pt_not (pt_val (pe_call GR.ok hr (by rfl) GR.m GR.kp GR.b .nil pass0 (pa_cons (pv 9) (pa_nil)))))))) (pss_one (ps_ret pe_bl)) (pss_nil))))))))
      (pss_cons (ps_for PassesOwn.never rfl (pi_list (pe_lst (pa_cons (pe_str) (pa_cons (pe_str) (pa_cons (pe_str) (pa_cons (pe_str) (pa_nil))))))) (pg_name (i := 9) scLaw.nd rfl (Or.inl rfl)) (pss_one (ps_if (pt_not (pt_val (pe_call GR.ok hr (by rfl) GR.m GR.kp GR.b .nil pass0 (pa_cons (pv 9) (pa_nil))))) (pss_one (ps_ret pe_bl)) (pss_nil))))
      (pss_cons (ps_set (i := 7) scLaw.nd rfl (Or.inl rfl) (pe_call GC.ok hr (by rfl) GC.m GC.kp GC.b .nil pass0 (pa_cons (pv 0) (pa_cons (pe_int) (pa_nil)))))
      (pss_cons (ps_set (i := 10) scLaw.nd rfl (Or.inl rfl) (pe_mid (pe_ix ix_list (pe_lst (pa_cons (pe_callB call_len_seq (by rfl) ml PySem.boot_len (pa_cons (pv 2) (pa_nil))) (pa_cons (pe_un un_neg pe_int) (pa_cons (pe_op op_add (pe_callB call_len_seq (by rfl) ml PySem.boot_len (pa_cons (pv 2) (pa_nil))) (pe_op op_mod (pe_op op_fdiv (pv 7) (pe_int)) (pe_op op_pow pe_int pe_int))) (pa_nil))))) (pe_op op_mod (pv 7) (pe_int)) (fun _ _ => rfl))))
      (pss_cons (ps_set (i := 11) scLaw.nd rfl (Or.inl rfl) (pe_mid (pe_ix ix_list (pe_lst (pa_cons (pe_str) (pa_cons (pe_op op_add_str (pe_ix ix_list (pv 2) (pe_int) (fun _ _ => rfl)) (pe_str)) (pa_cons (pe_op op_add_str (pe_str) (pe_ix ix_list (pv 2) (pe_int) (fun _ _ => rfl))) (pa_cons (pe_op op_add_str (pe_ix ix_list (pv 2) (pe_int) (fun _ _ => rfl)) (pe_str)) (pa_cons (pe_str) (pa_nil))))))) (pe_op op_mod (pv 7) (pe_int)) (fun _ _ => rfl))))
      (pss_one (ps_ret (pe_call GX.ok hr (by rfl) GX.m GX.kp GX.b .nil pass0 (pa_cons (pe_callTy call_tuple_of (by rfl) mt b_tuple (pa_cons (pv 2) (pa_nil))) (pa_cons (pe_op op_catG (pe_op op_repT (pe_tup (pa_cons (pe_int) (pa_nil))) (pe_op op_mod (pe_op op_fdiv (pv 7) (pe_int)) (pe_int))) (pe_tup (pa_cons (pv 10) (pa_cons (pe_int) (pa_nil))))) (pa_cons (pv 11) (pa_nil))))))))))))))))), ?_⟩
  refine ⟨_, rfl, a, ns, 0, rfl, hS, by decide, fun first => ?_⟩
  obtain ⟨L, eL, L2, L6⟩ : ∃ L : Nat, 2 + first % 5 = (L : Int) ∧ 2 ≤ L ∧ L ≤ 6 := ⟨(2 + first % 5).toNat, by omega, by omega, by omega⟩
  obtain ⟨M, eM, M1, M24⟩ : ∃ M : Nat, 1 + first / 5 % 24 = (M : Int) ∧ 1 ≤ M ∧ M ≤ 24 := ⟨(1 + first / 5 % 24).toNat, by omega, by omega, by omega⟩
  refine ⟨_, rfl, a, ns, 1, rfl, hS, by decide, fun c1 => ?_⟩
  refine ⟨_, rfl, _, _, rfl, rfl, (by show (0 : Int) < _; decide), _, _, rfl, rfl, c1, L, congrArg (fun x => [V.int c1, V.int x]) eL, by omega, fun d1 H1 s1 _ g1 => ?_⟩
  refine ⟨_, rfl, a, ns, 2, rfl, s1.seq hS, by decide, fun c2 => ?_⟩
  refine ⟨_, rfl, _, _, rfl, rfl, ⟨by decide, by decide⟩, _, _, rfl, rfl, (by show (0 : Int) < _; decide), _, _, rfl, rfl, c2, M, congrArg (fun x => [V.int c2, V.int x]) eM, M1, by omega, fun d2 nm H2 s2 _ g2 lN dN oN => ?_⟩
  have s02 := s1.trans s2
  have g1' := s2 _ _ g1
  refine ⟨(by show 0 ≤ sizeLine; decide), fun r hr' => ?_⟩
  refine ⟨_, rfl, d1, rfl, ⟨_, SqL.of ((same_newO hr' _) _ _ g1')⟩, ?_⟩
  have lS := sg_len c1 L
  refine for_list (xs := (sgL c1 L).map V.str) (fun i σ H' => Same H2 H' ∧ (∃ zs, StL H' r zs ∧ zs.length ≤ i ∧ Rs 60 zs) ∧ ∃ x5 : Option V, σ = [some (.ref a), some (.int first), some (.ref d1), some (.ref d2), some (.ref r), x5, none, none, none, none, none, none]) ⟨same_newO hr' _, ⟨[], upd_same, Nat.zero_le _, fun z hz => by cases hz⟩, _, rfl⟩ (fun i σ H' _ hP => SqL.of (hP.1 _ _ g1')) (fun i x σ H3 hx hP => ?_) (fun σ H3 hP => ?_)
  · obtain ⟨s3, ⟨zs, gz, lz, rz⟩, x5, rfl⟩ := hP
    rw [List.getElem?_map] at hx
    obtain ⟨u, hu, rfl⟩ := Option.map_eq_some_iff.mp hx
    have il := (List.getElem?_eq_some_iff.mp hu).1
    rw [lS] at il
    have hm := List.mem_of_getElem? hu
    have ru : Ro 1 u := ro_sg u hm
    have u1 : u.length = 1 := by
      unfold sgL at hm
      obtain ⟨k, _, rfl⟩ := List.mem_map.mp hm
      rfl
    refine ⟨_, rfl, .inl ⟨rfl, _, SqL.of gz⟩, _, rfl, _, _, rfl, rfl, big5 (by rw [show (Str.ofString "letter ").length = 7 by decide +kernel]; omega), _, _, rfl, rfl, big5 (by rw [app_len, show (Str.ofString "letter ").length = 7 by decide +kernel, show (Str.ofString " ").length = 1 by decide +kernel]; omega), _, rfl, a, ns, 5, rfl, (s02.trans s3).seq hS, by decide, fun c5 => ⟨_, rfl, u, rfl, u1, _, _, rfl, rfl, _, rfl, fun v v1 v30 => ?_⟩⟩
    have rn := ro_num (n := v) (by omega) (by have : B30 < 10 ^ 31 := by unfold B30; decide
                                              omega)
    have rr : Ro 60 (Str.ofString "letter " ++ u ++ Str.ofString " " ++ Str.ofString (toString v)) := ((((ro_c (n := 7) (by decide +kernel)).app ru).app (ro_c (n := 1) (by decide +kernel))).app rn).mono (by decide)
    have lr := rr.1
    rw [app_len] at lr
    refine ⟨v, rfl, lg v1 v30, _, _, rfl, rfl, big5 (by omega), r, _, _, rfl, rfl, gz, by rw [List.length_map]; exact lt5 (by omega), same_upd hr' s3, ⟨zs ++ [_], by show upd _ _ _ _ = _; rw [upd_same, List.map_append]; rfl, by rw [List.length_append]; exact Nat.succ_le_succ lz, fun y hy => ?_⟩, _, rfl⟩
    rcases List.mem_append.mp hy with x | x
    · exact rz y x
    · rw [List.mem_singleton.mp x]; exact rr
  obtain ⟨s3, ⟨zs, gz, lz, rz⟩, x5, rfl⟩ := hP
  rw [List.length_map, lS] at lz
  have g2' := s3 _ _ g2
  refine ⟨_, rfl, d2, rfl, ⟨_, SqL.of g2'⟩, ?_⟩
  refine for_list (xs := nm.map V.str) (fun i σ H' => Same H2 H' ∧ (∃ zs, StL H' r zs ∧ zs.length ≤ 6 + i ∧ Rs 60 zs) ∧ ∃ x6 : Option V, σ = [some (.ref a), some (.int first), some (.ref d1), some (.ref d2), some (.ref r), x5, x6, none, none, none, none, none]) ⟨s3, ⟨zs, gz, by omega, rz⟩, _, rfl⟩ (fun i σ H' _ hP => SqL.of (hP.1 _ _ g2)) (fun i x σ H4 hx hP => ?_) (fun σ H4 hP => ?_)
  · obtain ⟨s4, ⟨zs, gz, lz, rz⟩, x6, rfl⟩ := hP
    rw [List.getElem?_map] at hx
    obtain ⟨u, hu, rfl⟩ := Option.map_eq_some_iff.mp hx
    have il := (List.getElem?_eq_some_iff.mp hu).1
    have on := oN u (List.mem_of_getElem? hu)
    have ru : Ro 8 u := ro_nm on
    have lu := ru.1
    obtain ⟨x0, h0⟩ : ∃ x0, u.cps.toList[0]? = some x0 := ⟨u.cps.toList[0]'(by have := on.l1; omega), List.getElem?_eq_getElem _⟩
    refine ⟨_, rfl, .inl ⟨rfl, _, SqL.of gz⟩, _, rfl, _, _, rfl, rfl, big5 (by rw [show (Str.ofString "thing ").length = 6 by decide +kernel]; omega), _, _, rfl, rfl, big5 (by rw [app_len, show (Str.ofString "thing ").length = 6 by decide +kernel, show (Str.ofString " ").length = 1 by decide +kernel]; omega), _, rfl, a, ns, 6, rfl, (s02.trans s4).seq hS, by decide, fun c5 => ⟨_, rfl, u, _, x0, rfl, rfl, big5 (by omega), atI_nat (j := 0) h0, _, rfl, rfl, _, _, rfl, rfl, _, rfl, fun v v1 v30 => ?_⟩⟩
    have rn := ro_num (n := v) (by omega) (by have : B30 < 10 ^ 31 := by unfold B30; decide
                                              omega)
    have rr : Ro 60 (Str.ofString "thing " ++ u ++ Str.ofString " " ++ Str.ofString (toString v)) := ((((ro_c (n := 7) (by decide +kernel)).app ru).app (ro_c (n := 1) (by decide +kernel))).app rn).mono (by decide)
    have lr := rr.1
    rw [app_len] at lr
    refine ⟨v, rfl, lg v1 v30, _, _, rfl, rfl, big5 (by omega), r, _, _, rfl, rfl, gz, by rw [List.length_map]; exact lt5 (by omega), same_upd hr' s4, ⟨zs ++ [_], by show upd _ _ _ _ = _; rw [upd_same, List.map_append]; rfl, by rw [List.length_append, List.length_singleton]; omega, fun y hy => ?_⟩, _, rfl⟩
    rcases List.mem_append.mp hy with x | x
    · exact rz y x
    · rw [List.mem_singleton.mp x]; exact rr
  clear gz lz rz
  obtain ⟨s4, ⟨zs, gz, lz, rz⟩, x6, rfl⟩ := hP
  rw [List.length_map, lN] at lz
  have s04 := s02.trans s4
  have g14 := s4 _ _ g1'
  refine ⟨(by show 1 ≤ sizeLine; decide), fun p1 hp1 => ?_⟩
  have t1 := same_newO hp1 (.lst [.int 0])
  refine ⟨_, rfl, _, rfl, _, rfl, a, _, rfl, (s04.trans t1).seq hS, fun p2 hp2 => ?_⟩
  obtain ⟨ms', em, lm⟩ := cuts_ints ns (some 3) (some 15)
  rw [em]
  have t2 := same_newO hp2 (.lst (ms'.map V.int))
  refine ⟨p2, _, rfl, .inl (SqL.of upd_same), fun p3 hp3 => ?_⟩
  have t3 := same_newO hp3 (.lst (ms'.map V.int))
  refine ⟨p1, p3, _, _, rfl, rfl, t3 _ _ (t2 _ _ upd_same), upd_same, by rw [List.length_map]; exact big5 (by show 1 + ms'.length ≤ _; omega), fun p4 hp4 => ?_⟩
  have t4 := same_newO hp4 (.lst ([.int 0] ++ ms'.map V.int))
  have g4 : upd (upd (upd (upd H4 p1 (.lst [.int 0])) p2 (.lst (ms'.map V.int))) p3 (.lst (ms'.map V.int))) p4 (.lst ([.int 0] ++ ms'.map V.int)) p4 = some (.lst ((0 :: ms').map V.int)) := upd_same
  have t04 := ((t1.trans t2).trans t3).trans t4
  generalize upd (upd (upd (upd H4 p1 (.lst [.int 0])) p2 (.lst (ms'.map V.int))) p3 (.lst (ms'.map V.int))) p4 (.lst ([.int 0] ++ ms'.map V.int)) = H5 at t04 g4 ⊢
  clear t1 t2 t3 t4
  have gz5 := t04 _ _ gz
  have s05 := s04.trans t04
  refine ⟨p4, rfl, ⟨_, SqL.of g4⟩, ?_⟩
  refine for_list (xs := (0 :: ms').map V.int) (fun i σ H' => Same H5 H' ∧ ∃ x7 x8 x9 : Option V, σ = [some (.ref a), some (.int first), some (.ref d1), some (.ref d2), some (.ref r), x5, x6, x7, x8, x9, none, none]) ⟨Same.refl _, _, _, _, rfl⟩ (fun i σ H' _ hP => SqL.of (hP.1 _ _ g4)) (fun i x σ H6 hx hP => ?_) (fun σ H6 hP => ?_)
  · obtain ⟨s6, x7, x8, x9, rfl⟩ := hP
    rw [List.getElem?_map] at hx
    obtain ⟨c, hc, rfl⟩ := Option.map_eq_some_iff.mp hx
    have gz6 := s6 _ _ gz5
    refine ⟨_, rfl, _, rfl, _, _, rfl, rfl, ⟨by decide, by decide⟩, r, zs, _, 60, rfl, gz6, by omega, by decide, by decide, rz, fun e1 y1 H7 s7 g7 n7 r7 => ?_⟩
    have s67 := s6.trans s7
    refine ⟨fun σ' H' => Same H5 H' ∧ ∃ d ys, σ' = [some (.ref a), some (.int first), some (.ref d1), some (.ref d2), some (.ref r), x5, x6, some (.int c), some (.ref d), x9, none, none] ∧ StL H' d ys ∧ ys.length ≤ 390 ∧ Rs 780 ys, ?_, fun σ' H8 hm => ?_⟩
    · refine ⟨_, rfl, _, _, rfl, rfl, (by show (0 : Int) < _; decide), rfl, _, rfl, ite2 (fun _ => ?_) (fun _ => ?_)⟩
      · exact ⟨_, rfl, _, rfl, _, _, rfl, rfl, ⟨by decide, by decide⟩, e1, y1, _, 240, rfl, g7, by omega, by decide, by decide, r7, fun e2 y2 H8 s8 g8 n8 r8 => ⟨s67.trans s8, e2, y2, rfl, g8, by omega, r8⟩⟩
      · exact ⟨s67, e1, y1, rfl, g7, by omega, fun z hz => (r7 z hz).mono (by decide)⟩
    obtain ⟨s8, e3, ys, rfl, g8, n8, r8⟩ := hm
    refine ⟨⟨_, rfl⟩, _, rfl, e3, _, rfl, SqL.of g8, fun d hd => ?_⟩
    refine ⟨fun i H' => Same H8 H' ∧ ∃ ws, StL H' d ws ∧ ws.length = i ∧ Rs 781 ws, ⟨same_newO hd _, [], upd_same, rfl, fun z hz => by cases hz⟩, fun i H' _ hP => SqL.of (hP.1 _ _ g8), fun i x H' hx hP => ?_, fun H9 hP => ?_⟩
    · obtain ⟨t2, ws, hz, hw, rw'⟩ := hP
      rw [List.getElem?_map] at hx
      obtain ⟨z, hz', rfl⟩ := Option.map_eq_some_iff.mp hx
      have il := (List.getElem?_eq_some_iff.mp hz').1
      have rz' := r8 z (List.mem_of_getElem? hz')
      have lz' := rz'.1
      have ra : Ro 781 (z ++ Str.ofString "\n") := rz'.app (ro_c (n := 1) (by decide +kernel))
      refine turn_all ⟨_, rfl, _, _, rfl, rfl, big5 (by rw [show (Str.ofString "\n").length = 1 by decide +kernel]; omega), _, hz, by rw [List.length_map]; exact lt5 (by omega), same_upd hd t2, ws ++ [_], by show upd _ _ _ _ = _; rw [upd_same, List.map_append]; rfl, by rw [List.length_append, hw]; rfl, fun y hy => ?_⟩
      rcases List.mem_append.mp hy with x | x
      · exact rw' y x
      · rw [List.mem_singleton.mp x]; exact ra
    obtain ⟨s9, ws, gw, lw, rw'⟩ := hP
    rw [List.length_map] at lw
    have l390 : ws.length ≤ 390 := by omega
    have m1 := Nat.mul_le_mul_right 781 l390
    have m2 := Nat.mul_le_mul_right 782 l390
    refine ⟨Str.empty, d, ws, 781, rfl, rfl, gw, fun z hz => (rw' z hz).1, by rw [show Str.empty.length = 0 from rfl]; omega, ?_⟩
    have rj : Ro 400000 (Str.join Str.empty ws) := (ro_join (sep := Str.empty) ⟨by decide, fun c hc => by cases hc⟩ ws rw').mono (by omega)
    generalize Str.join Str.empty ws = tx at rj ⊢
    have big : (400000 : Nat) ≤ sizeLine := by decide
    refine ⟨fun σ' H' => H9 = H' ∧ ∃ z, σ' = [some (.ref a), some (.int first), some (.ref d1), some (.ref d2), some (.ref r), x5, x6, some (.int c), some (.ref e3), some (.str z), none, none] ∧ Ro 400000 z, ?_, fun σ' H10 hm => ?_⟩
    · refine ⟨_, rfl, _, _, rfl, rfl, (by show (0 : Int) < _; decide), rfl, _, rfl, ite2 (fun _ => ?_) (fun _ => ?_)⟩
      · exact ⟨_, rfl, _, rfl, _, rfl, tx, _, rfl, rfl, rfl, Nat.le_trans rj.1 big, fun u lu hu => ⟨rfl, u, rfl, Nat.le_trans lu rj.1, fun c hc => rj.2 c (hu c hc)⟩⟩
      · exact ⟨rfl, tx, rfl, rj⟩
    obtain ⟨rfl, z, rfl, rz'⟩ := hm
    have s59 := s8.trans s9
    refine ⟨_, rfl, z, rfl, Nat.le_trans rz'.1 big, _, _, rfl, rfl, _, rfl, ite2 (fun c4 => ?_) (fun _ => ?_)⟩
    · have c4 := of_decide_eq_true c4
      have c4 : ((z.length : Nat) : Int) ≤ 4000 := c4
      exact ⟨_, rfl, z, rfl, rz'.asc, by omega, fun H' s' => ⟨_, rfl, iteF ⟨s59.trans s', _, _, _, rfl⟩⟩⟩
    · exact iteF ⟨s59, _, _, _, rfl⟩
  obtain ⟨s6, x7, x8, x9, rfl⟩ := hP
  have s06 := s05.trans s6
  refine ⟨(by show 4 ≤ sizeLine; decide), fun p5 hp5 => ⟨p5, rfl, ⟨_, SqL.of upd_same⟩, ?_⟩⟩
  have t5 := same_newO hp5 (.lst (shorts.map V.str))
  have g5 : upd H6 p5 (.lst (shorts.map V.str)) p5 = some (.lst (shorts.map V.str)) := upd_same
  have g15 := t5 _ _ (s6 _ _ (t04 _ _ g14))
  have e5 : [V.str (Str.ofString ""), V.str (Str.ofString "\n"), V.str (Str.ofString "thing a 1\n"), V.str (Str.ofString "letter a 1\nletter b 1\n")] = shorts.map V.str := rfl
  generalize hH7 : upd H6 p5 (.lst (shorts.map V.str)) = H7 at t5 g5 g15
  refine for_list (xs := shorts.map V.str) (fun i σ H' => Same H7 H' ∧ ∃ x9 : Option V, σ = [some (.ref a), some (.int first), some (.ref d1), some (.ref d2), some (.ref r), x5, x6, x7, x8, x9, none, none]) ⟨by rw [← hH7]; exact Same.refl _, _, rfl⟩ (fun i σ H' _ hP => SqL.of (hP.1 _ _ g5)) (fun i x σ H8 hx hP => ?_) (fun σ H8 hP => ?_)
  · obtain ⟨s8, x9, rfl⟩ := hP
    rw [List.getElem?_map] at hx
    obtain ⟨z, hz, rfl⟩ := Option.map_eq_some_iff.mp hx
    have ok := List.all_eq_true.mp shorts_ok z (List.mem_of_getElem? hz)
    have rz' : Ro 60 z := ro_c ok
    exact ⟨_, rfl, z, rfl, rz'.asc, Nat.le_trans rz'.1 (by decide), fun H' s' => ⟨_, rfl, iteF ⟨s8.trans s', _, rfl⟩⟩⟩
  obtain ⟨s8, x9, rfl⟩ := hP
  have s08 := (s06.trans t5).trans s8
  have g18 := s8 _ _ g15
  refine ⟨_, rfl, a, ns, 3, rfl, s08.seq hS, by decide, fun c => ?_⟩
  have e9 : (10 : Int) ^ (9 : Int).toNat = 1000000000 := by decide
  refine ⟨fun v H' => Same H8 H' ∧ ∃ o : Int, v = .int o ∧ al (L : Int) o = false, ?_, fun v H9 hv => ?_⟩
  · refine ⟨_, rfl, d1, _, rfl, .inl (SqL.of g18), _, rfl, _, rfl, d1, _, rfl, .inl (SqL.of g18), _, rfl, _, _, rfl, rfl, ⟨by decide, by decide⟩, _, _, rfl, rfl, ⟨by decide, by decide, by decide⟩, _, _, rfl, rfl, (by show (0 : Int) < _; decide), _, _, rfl, rfl, (by show 3 ≤ sizeLine; decide), fun p hp => ?_⟩
    rw [List.length_map, lS]
    have q0 := Int.emod_nonneg (c / 9) (show (10 : Int) ^ (9 : Int).toNat ≠ 0 by decide)
    obtain ⟨o, ho, ao⟩ : ∃ o : Int, atI [V.int (L : Int), V.int (-1), V.int ((L : Int) + c / 9 % 10 ^ (9 : Int).toNat)] (c % 3) = some (.int o) ∧ al (L : Int) o = false := by
      rcases (show c % 3 = 0 ∨ c % 3 = 1 ∨ c % 3 = 2 by omega) with e | e | e <;> rw [e]
      · exact ⟨_, rfl, by unfold al; rw [decide_eq_false (show ¬ (L : Int) < L by omega), Bool.and_false]⟩
      · exact ⟨_, rfl, by unfold al; rw [decide_eq_false (show ¬ (0 : Int) ≤ -1 by decide), Bool.false_and]⟩
      · exact ⟨_, rfl, by unfold al; rw [decide_eq_false (show ¬ (L : Int) + c / 9 % 10 ^ (9 : Int).toNat < L by omega), Bool.and_false]⟩
    exact ⟨_, rfl, _, _, rfl, rfl, (by show (0 : Int) < _; decide), p, _, _, _, rfl, rfl, SqL.of upd_same, ho, same_newO hp _, o, rfl, ao⟩
  obtain ⟨s9, o, rfl, ao⟩ := hv
  have g19 := s9 _ _ g18
  obtain ⟨u, us, eu⟩ : ∃ u us, sgL c1 L = u :: us := by
    match hs : sgL c1 L, lS with
    | [], h => exact absurd h (by show ¬ 0 = L; omega)
    | u :: us, _ => exact ⟨u, us, rfl⟩
  have ru : Ro 1 u := ro_sg (c := c1) (n := L) u (by rw [eu]; exact .head _)
  have u1 : u.length = 1 := by
    have hm : u ∈ sgL c1 L := by rw [eu]; exact .head _
    unfold sgL at hm
    obtain ⟨k, _, rfl⟩ := List.mem_map.mp hm
    rfl
  have au : atI ((sgL c1 L).map V.str) 0 = some (.str u) := atI_nat (j := 0) (by rw [eu]; rfl)
  refine ⟨fun v H' => Same H9 H' ∧ ∃ z : Str, v = .str z ∧ badW (sgL c1 L) z, ?_, fun v H10 hv => ?_⟩
  · refine ⟨_, rfl, d1, _, _, _, rfl, rfl, SqL.of g19, au, _, _, rfl, rfl, big5 (by rw [u1, show (Str.ofString ".").length = 1 by decide +kernel]; decide), _, rfl, d1, _, _, _, rfl, rfl, SqL.of g19, au, _, _, rfl, rfl, big5 (by rw [u1, show (Str.ofString "A").length = 1 by decide +kernel]; decide), _, rfl, d1, _, _, _, rfl, rfl, SqL.of g19, au, _, _, rfl, rfl, big5 (by rw [u1, show (Str.ofString " ").length = 1 by decide +kernel]; decide), (by show 5 ≤ sizeLine; decide), fun p hp => ?_⟩
    obtain ⟨z, hz, bz⟩ : ∃ z : Str, atI [V.str (Str.ofString ""), V.str (u ++ Str.ofString "."), V.str (Str.ofString "A" ++ u), V.str (u ++ Str.ofString " "), V.str (Str.ofString "1")] (c % 5) = some (.str z) ∧ badW (sgL c1 L) z := by
      rcases (show c % 5 = 0 ∨ c % 5 = 1 ∨ c % 5 = 2 ∨ c % 5 = 3 ∨ c % 5 = 4 by omega) with e | e | e | e | e <;> rw [e]
      · exact ⟨_, rfl, (ro_c (n := 0) (by decide +kernel)).asc, by decide +kernel, by decide +kernel, .inl (by decide +kernel)⟩
      · exact ⟨_, rfl, badW_of (x := 46) ((ru.app (ro_c (n := 1) (by decide +kernel))).mono (by decide)) (by rw [app_cps]; exact List.mem_append_right _ (by decide +kernel)) (by decide) (two_dot (by rw [app_len, u1]; decide +kernel))⟩
      · exact ⟨_, rfl, badW_of (x := 65) (((ro_c (n := 1) (by decide +kernel)).app ru).mono (by decide)) (by rw [app_cps]; exact List.mem_append_left _ (by decide +kernel)) (by decide) (two_dot (by rw [app_len, u1]; decide +kernel))⟩
      · exact ⟨_, rfl, badW_of (x := 32) ((ru.app (ro_c (n := 1) (by decide +kernel))).mono (by decide)) (by rw [app_cps]; exact List.mem_append_right _ (by decide +kernel)) (by decide) (two_dot (by rw [app_len, u1]; decide +kernel))⟩
      · exact ⟨_, rfl, badW_of (x := 49) (ro_c (n := 3) (by decide +kernel)) (by decide +kernel) (by decide) (by decide +kernel)⟩
    exact ⟨_, rfl, _, _, rfl, rfl, (by show (0 : Int) < _; decide), p, _, _, _, rfl, rfl, SqL.of upd_same, hz, same_newO hp _, z, rfl, bz⟩
  obtain ⟨s10, z, rfl, bz⟩ := hv
  have g110 := s10 _ _ g19
  refine ⟨_, rfl, d1, _, rfl, .inl ⟨SqL.of g110, fun q1 hq1 => ?_⟩⟩
  have v1 := same_newO hq1 (.tup ((sgL c1 L).map V.str))
  have gq1 : upd H10 q1 (.tup ((sgL c1 L).map V.str)) q1 = some (.tup ((sgL c1 L).map V.str)) := upd_same
  generalize upd H10 q1 (.tup ((sgL c1 L).map V.str)) = H11 at v1 gq1 ⊢
  refine ⟨(by show 1 ≤ sizeLine; decide), fun q2 hq2 => ?_⟩
  have v2 := same_newO hq2 (.tup [.int 0])
  have k0 := Int.emod_nonneg (c / 9) (show (5 : Int) ≠ 0 by decide)
  have k5 := Int.emod_lt_of_pos (c / 9) (show (0 : Int) < 5 by decide)
  refine ⟨_, rfl, _, _, rfl, rfl, ⟨by decide, by decide⟩, _, _, rfl, rfl, (by show (0 : Int) < _; decide), q2, _, .int 0, rfl, rfl, upd_same, k0, (by show c / 9 % 5 ≤ 100; omega), fun q3 H12 v3 gq3 => ?_⟩
  have er : (List.replicate (c / 9 % 5).toNat [V.int 0]).flatten = (List.replicate (c / 9 % 5).toNat (0 : Int)).map V.int := by
    rw [List.flatten_replicate_singleton, List.map_replicate]
  have gq3 : H12 q3 = some (.tup (List.replicate (c / 9 % 5).toNat [V.int 0]).flatten) := gq3
  rw [er] at gq3
  have kl : (c / 9 % 5).toNat ≤ 5 := by omega
  generalize (c / 9 % 5).toNat = kk at gq3 kl
  refine ⟨_, rfl, (by show 2 ≤ sizeLine; decide), fun q4 hq4 => ?_⟩
  have v4 := same_newO hq4 (.tup [.int o, .int 1])
  refine ⟨q3, q4, _, _, rfl, rfl, v4 _ _ gq3, upd_same, by rw [List.length_map, List.length_replicate]; exact big5 (by show kk + 2 ≤ _; omega), fun q5 H13 v5 gq5 => ?_⟩
  have gq5 : H13 q5 = some (.tup ((List.replicate kk (0 : Int) ++ [o, 1]).map V.int)) := by rw [gq5, List.map_append]; rfl
  refine ⟨_, rfl, q1, q5, sgL c1 L, _, z, rfl, v5 _ _ (v4 _ _ (v3 _ _ (v2 _ _ gq1))), gq5, ⟨by rw [List.length_append, List.length_replicate]; show kk + 2 ≤ _; omega, ?_⟩, bz, fun H' _ => q H'⟩
  rw [lS]
  refine Bool.eq_false_iff.mpr fun h => ?_
  have := List.all_eq_true.mp h o (List.mem_append_right _ (.head _))
  rw [ao] at this
  cases this
end
end K92
set_option Elab.async false
set_option linter.all false
set_option maxRecDepth 100000
namespace K92
open PySem L2
theorem al1 {α : Type} {P : List α → Prop} (h : ∀ a0 : α, P [a0]) : ∀ us : List α, us.length = 1 → P us
  | [a0], _ => h a0
theorem al2 {α : Type} {P : List α → Prop} (h : ∀ a0 a1 : α, P [a0, a1]) : ∀ us : List α, us.length = 2 → P us
  | [a0, a1], _ => h a0 a1
theorem al3 {α : Type} {P : List α → Prop} (h : ∀ a0 a1 a2 : α, P [a0, a1, a2]) : ∀ us : List α, us.length = 3 → P us
  | [a0, a1, a2], _ => h a0 a1 a2
theorem al4 {α : Type} {P : List α → Prop} (h : ∀ a0 a1 a2 a3 : α, P [a0, a1, a2, a3]) : ∀ us : List α, us.length = 4 → P us
  | [a0, a1, a2, a3], _ => h a0 a1 a2 a3
set_option maxHeartbeats 0 in
theorem all_mk {l : PySem.W.OpenLaw} {w : World} {K : PySem.W.Frag} {h : Heap} {mg : Str → Option Value} {fa f1 f2 f3 f4 f5 f6 f7 f8 f9 f10 f11 f12 f13 f14 f15 f16 f17 f18 f19 f20 f21 f22 f23 f24 f25 f26 f27 f28 : Addr} (X : K.In h) (G : h.Ns mainGlobals mg) (hfa : mg "law" = some (.ref fa))
    {od1 an1 od2 an2 od3 an3 od4 an4 od5 an5 od6 an6 od7 an7 od8 an8 od9 an9 od10 an10 od11 an11 od12 an12 od13 an13 od14 an14 od15 an15 od16 an16 od17 an17 od18 an18 od19 an19 od20 an20 od21 an21 od22 an22 od23 an23 od24 an24 od25 an25 od26 an26 od27 an27 od28 an28 : Option Addr} {sl1 sl2 sl3 sl4 sl5 sl6 sl7 sl8 sl9 sl10 sl11 sl12 sl13 sl14 sl15 sl16 sl17 sl18 sl19 sl20 sl21 sl22 sl23 sl24 sl25 sl26 sl27 sl28 : Array (Option Value)}
    {oc1 kV1 dc1 pm1 cd1 ct1 oc2 kV2 dc2 pm2 cd2 ct2 oc3 kV3 dc3 pm3 cd3 ct3 oc4 kV4 dc4 pm4 cd4 ct4 oc5 kV5 dc5 pm5 cd5 ct5 oc6 kV6 dc6 pm6 cd6 ct6 oc7 kV7 dc7 pm7 cd7 ct7 oc8 kV8 dc8 pm8 cd8 ct8 oc9 kV9 dc9 pm9 cd9 ct9 oc10 kV10 dc10 pm10 cd10 ct10 oc11 kV11 dc11 pm11 cd11 ct11 oc12 kV12 dc12 pm12 cd12 ct12 oc13 kV13 dc13 pm13 cd13 ct13 oc14 kV14 dc14 pm14 cd14 ct14 oc15 kV15 dc15 pm15 cd15 ct15 oc16 kV16 dc16 pm16 cd16 ct16 oc17 kV17 dc17 pm17 cd17 ct17 oc18 kV18 dc18 pm18 cd18 ct18 oc19 kV19 dc19 pm19 cd19 ct19 oc20 kV20 dc20 pm20 cd20 ct20 oc21 kV21 dc21 pm21 cd21 ct21 oc22 kV22 dc22 pm22 cd22 ct22 oc23 kV23 dc23 pm23 cd23 ct23 oc24 kV24 dc24 pm24 cd24 ct24 oc25 kV25 dc25 pm25 cd25 ct25 oc26 kV26 dc26 pm26 cd26 ct26 oc27 kV27 dc27 pm27 cd27 ct27 oc28 kV28 dc28 pm28 cd28 ct28 : Value}
    (a1 : PySem.W.nsIn K mainGlobals "is_amount" = some (some (.ref f1))) (l1 : K.lookup f1 = some ⟨oc1, od1, .func (PySem.W.fnOf "is_amount" "is_amount" (defArgs sIsAm) (defBody sIsAm) (defScope sIsAm) .none kV1 dc1 pm1 an1 cd1 ct1), sl1⟩) (c1 : PySem.W.codeIn K cd1 "is_amount" = true) (k1 : PySem.W.keepIn K (.ref f1) = true)
    (a2 : PySem.W.nsIn K mainGlobals "are_amounts" = some (some (.ref f2))) (l2 : K.lookup f2 = some ⟨oc2, od2, .func (PySem.W.fnOf "are_amounts" "are_amounts" (defArgs sAre) (defBody sAre) (defScope sAre) .none kV2 dc2 pm2 an2 cd2 ct2), sl2⟩) (c2 : PySem.W.codeIn K cd2 "are_amounts" = true) (k2 : PySem.W.keepIn K (.ref f2) = true)
    (a3 : PySem.W.nsIn K mainGlobals "made_prices" = some (some (.ref f3))) (l3 : K.lookup f3 = some ⟨oc3, od3, .func (PySem.W.fnOf "made_prices" "made_prices" (defArgs sMP) (defBody sMP) (defScope sMP) .none kV3 dc3 pm3 an3 cd3 ct3), sl3⟩) (c3 : PySem.W.codeIn K cd3 "made_prices" = true) (k3 : PySem.W.keepIn K (.ref f3) = true)
    (a4 : PySem.W.nsIn K mainGlobals "made_weights" = some (some (.ref f4))) (l4 : K.lookup f4 = some ⟨oc4, od4, .func (PySem.W.fnOf "made_weights" "made_weights" (defArgs sMW) (defBody sMW) (defScope sMW) .none kV4 dc4 pm4 an4 cd4 ct4), sl4⟩) (c4 : PySem.W.codeIn K cd4 "made_weights" = true) (k4 : PySem.W.keepIn K (.ref f4) = true)
    (a5 : PySem.W.nsIn K mainGlobals "has_letters_alone" = some (some (.ref f5))) (l5 : K.lookup f5 = some ⟨oc5, od5, .func (PySem.W.fnOf "has_letters_alone" "has_letters_alone" (defArgs sAlone) (defBody sAlone) (defScope sAlone) .none kV5 dc5 pm5 an5 cd5 ct5), sl5⟩) (c5 : PySem.W.codeIn K cd5 "has_letters_alone" = true) (k5 : PySem.W.keepIn K (.ref f5) = true)
    (a6 : PySem.W.nsIn K mainGlobals "book_text" = some (some (.ref f6))) (l6 : K.lookup f6 = some ⟨oc6, od6, .func (PySem.W.fnOf "book_text" "book_text" (defArgs sBT) (defBody sBT) (defScope sBT) .none kV6 dc6 pm6 an6 cd6 ct6), sl6⟩) (c6 : PySem.W.codeIn K cd6 "book_text" = true) (k6 : PySem.W.keepIn K (.ref f6) = true)
    (a7 : PySem.W.nsIn K mainGlobals "read_book" = some (some (.ref f7))) (l7 : K.lookup f7 = some ⟨oc7, od7, .func (PySem.W.fnOf "read_book" "read_book" (defArgs sRB) (defBody sRB) (defScope sRB) .none kV7 dc7 pm7 an7 cd7 ct7), sl7⟩) (c7 : PySem.W.codeIn K cd7 "read_book" = true) (k7 : PySem.W.keepIn K (.ref f7) = true)
    (a8 : PySem.W.nsIn K mainGlobals "rows_of" = some (some (.ref f8))) (l8 : K.lookup f8 = some ⟨oc8, od8, .func (PySem.W.fnOf "rows_of" "rows_of" (defArgs sRO) (defBody sRO) (defScope sRO) .none kV8 dc8 pm8 an8 cd8 ct8), sl8⟩) (c8 : PySem.W.codeIn K cd8 "rows_of" = true) (k8 : PySem.W.keepIn K (.ref f8) = true)
    (a9 : PySem.W.nsIn K mainGlobals "is_letter_row" = some (some (.ref f9))) (l9 : K.lookup f9 = some ⟨oc9, od9, .func (PySem.W.fnOf "is_letter_row" "is_letter_row" (defArgs sILR) (defBody sILR) (defScope sILR) .none kV9 dc9 pm9 an9 cd9 ct9), sl9⟩) (c9 : PySem.W.codeIn K cd9 "is_letter_row" = true) (k9 : PySem.W.keepIn K (.ref f9) = true)
    (a10 : PySem.W.nsIn K mainGlobals "is_thing_row" = some (some (.ref f10))) (l10 : K.lookup f10 = some ⟨oc10, od10, .func (PySem.W.fnOf "is_thing_row" "is_thing_row" (defArgs sITR) (defBody sITR) (defScope sITR) .none kV10 dc10 pm10 an10 cd10 ct10), sl10⟩) (c10 : PySem.W.codeIn K cd10 "is_thing_row" = true) (k10 : PySem.W.keepIn K (.ref f10) = true)
    (a11 : PySem.W.nsIn K mainGlobals "is_name" = some (some (.ref f11))) (l11 : K.lookup f11 = some ⟨oc11, od11, .func (PySem.W.fnOf "is_name" "is_name" (defArgs sIN) (defBody sIN) (defScope sIN) .none kV11 dc11 pm11 an11 cd11 ct11), sl11⟩) (c11 : PySem.W.codeIn K cd11 "is_name" = true) (k11 : PySem.W.keepIn K (.ref f11) = true)
    (a12 : PySem.W.nsIn K mainGlobals "is_number" = some (some (.ref f12))) (l12 : K.lookup f12 = some ⟨oc12, od12, .func (PySem.W.fnOf "is_number" "is_number" (defArgs sINu) (defBody sINu) (defScope sINu) .none kV12 dc12 pm12 an12 cd12 ct12), sl12⟩) (c12 : PySem.W.codeIn K cd12 "is_number" = true) (k12 : PySem.W.keepIn K (.ref f12) = true)
    (a13 : PySem.W.nsIn K mainGlobals "word_text" = some (some (.ref f13))) (l13 : K.lookup f13 = some ⟨oc13, od13, .func (PySem.W.fnOf "word_text" "word_text" (defArgs sWT) (defBody sWT) (defScope sWT) .none kV13 dc13 pm13 an13 cd13 ct13), sl13⟩) (c13 : PySem.W.codeIn K cd13 "word_text" = true) (k13 : PySem.W.keepIn K (.ref f13) = true)
    (a14 : PySem.W.nsIn K mainGlobals "read_word" = some (some (.ref f14))) (l14 : K.lookup f14 = some ⟨oc14, od14, .func (PySem.W.fnOf "read_word" "read_word" (defArgs sRW) (defBody sRW) (defScope sRW) .none kV14 dc14 pm14 an14 cd14 ct14), sl14⟩) (c14 : PySem.W.codeIn K cd14 "read_word" = true) (k14 : PySem.W.keepIn K (.ref f14) = true)
    (a15 : PySem.W.nsIn K mainGlobals "_law_cell_at" = some (some (.ref f15))) (l15 : K.lookup f15 = some ⟨oc15, od15, .func (PySem.W.fnOf "_law_cell_at" "_law_cell_at" (defArgs sCell) (defBody sCell) (defScope sCell) .none kV15 dc15 pm15 an15 cd15 ct15), sl15⟩) (c15 : PySem.W.codeIn K cd15 "_law_cell_at" = true) (k15 : PySem.W.keepIn K (.ref f15) = true)
    (a16 : PySem.W.nsIn K mainGlobals "_law_whole" = some (some (.ref f16))) (l16 : K.lookup f16 = some ⟨oc16, od16, .func (PySem.W.fnOf "_law_whole" "_law_whole" (defArgs sWhole) (defBody sWhole) (defScope sWhole) .none kV16 dc16 pm16 an16 cd16 ct16), sl16⟩) (c16 : PySem.W.codeIn K cd16 "_law_whole" = true) (k16 : PySem.W.keepIn K (.ref f16) = true)
    (a17 : PySem.W.nsIn K mainGlobals "_law_amount" = some (some (.ref f17))) (l17 : K.lookup f17 = some ⟨oc17, od17, .func (PySem.W.fnOf "_law_amount" "_law_amount" (defArgs sAmount) (defBody sAmount) (defScope sAmount) .none kV17 dc17 pm17 an17 cd17 ct17), sl17⟩) (c17 : PySem.W.codeIn K cd17 "_law_amount" = true) (k17 : PySem.W.keepIn K (.ref f17) = true)
    (a18 : PySem.W.nsIn K mainGlobals "_law_signs" = some (some (.ref f18))) (l18 : K.lookup f18 = some ⟨oc18, od18, .func (PySem.W.fnOf "_law_signs" "_law_signs" (defArgs sSigns) (defBody sSigns) (defScope sSigns) .none kV18 dc18 pm18 an18 cd18 ct18), sl18⟩) (c18 : PySem.W.codeIn K cd18 "_law_signs" = true) (k18 : PySem.W.keepIn K (.ref f18) = true)
    (a19 : PySem.W.nsIn K mainGlobals "_law_names" = some (some (.ref f19))) (l19 : K.lookup f19 = some ⟨oc19, od19, .func (PySem.W.fnOf "_law_names" "_law_names" (defArgs sNames) (defBody sNames) (defScope sNames) .none kV19 dc19 pm19 an19 cd19 ct19), sl19⟩) (c19 : PySem.W.codeIn K cd19 "_law_names" = true) (k19 : PySem.W.keepIn K (.ref f19) = true)
    (a20 : PySem.W.nsIn K mainGlobals "_law_odd_row" = some (some (.ref f20))) (l20 : K.lookup f20 = some ⟨oc20, od20, .func (PySem.W.fnOf "_law_odd_row" "_law_odd_row" (defArgs sOdd) (defBody sOdd) (defScope sOdd) .none kV20 dc20 pm20 an20 cd20 ct20), sl20⟩) (c20 : PySem.W.codeIn K cd20 "_law_odd_row" = true) (k20 : PySem.W.keepIn K (.ref f20) = true)
    (a21 : PySem.W.nsIn K mainGlobals "_law_spoilt" = some (some (.ref f21))) (l21 : K.lookup f21 = some ⟨oc21, od21, .func (PySem.W.fnOf "_law_spoilt" "_law_spoilt" (defArgs sSpoilt) (defBody sSpoilt) (defScope sSpoilt) .none kV21 dc21 pm21 an21 cd21 ct21), sl21⟩) (c21 : PySem.W.codeIn K cd21 "_law_spoilt" = true) (k21 : PySem.W.keepIn K (.ref f21) = true)
    (a22 : PySem.W.nsIn K mainGlobals "_law_row_good" = some (some (.ref f22))) (l22 : K.lookup f22 = some ⟨oc22, od22, .func (PySem.W.fnOf "_law_row_good" "_law_row_good" (defArgs sRG) (defBody sRG) (defScope sRG) .none kV22 dc22 pm22 an22 cd22 ct22), sl22⟩) (c22 : PySem.W.codeIn K cd22 "_law_row_good" = true) (k22 : PySem.W.keepIn K (.ref f22) = true)
    (a23 : PySem.W.nsIn K mainGlobals "_law_due" = some (some (.ref f23))) (l23 : K.lookup f23 = some ⟨oc23, od23, .func (PySem.W.fnOf "_law_due" "_law_due" (defArgs sDue) (defBody sDue) (defScope sDue) .none kV23 dc23 pm23 an23 cd23 ct23), sl23⟩) (c23 : PySem.W.codeIn K cd23 "_law_due" = true) (k23 : PySem.W.keepIn K (.ref f23) = true)
    (a24 : PySem.W.nsIn K mainGlobals "_law_asked" = some (some (.ref f24))) (l24 : K.lookup f24 = some ⟨oc24, od24, .func (PySem.W.fnOf "_law_asked" "_law_asked" (defArgs sAsked) (defBody sAsked) (defScope sAsked) .none kV24 dc24 pm24 an24 cd24 ct24), sl24⟩) (c24 : PySem.W.codeIn K cd24 "_law_asked" = true) (k24 : PySem.W.keepIn K (.ref f24) = true)
    (a25 : PySem.W.nsIn K mainGlobals "_law_found" = some (some (.ref f25))) (l25 : K.lookup f25 = some ⟨oc25, od25, .func (PySem.W.fnOf "_law_found" "_law_found" (defArgs sFound) (defBody sFound) (defScope sFound) .none kV25 dc25 pm25 an25 cd25 ct25), sl25⟩) (c25 : PySem.W.codeIn K cd25 "_law_found" = true) (k25 : PySem.W.keepIn K (.ref f25) = true)
    (a26 : PySem.W.nsIn K mainGlobals "_law_word_refused" = some (some (.ref f26))) (l26 : K.lookup f26 = some ⟨oc26, od26, .func (PySem.W.fnOf "_law_word_refused" "_law_word_refused" (defArgs sWR) (defBody sWR) (defScope sWR) .none kV26 dc26 pm26 an26 cd26 ct26), sl26⟩) (c26 : PySem.W.codeIn K cd26 "_law_word_refused" = true) (k26 : PySem.W.keepIn K (.ref f26) = true)
    (a27 : PySem.W.nsIn K mainGlobals "_law_right" = some (some (.ref f27))) (l27 : K.lookup f27 = some ⟨oc27, od27, .func (PySem.W.fnOf "_law_right" "_law_right" (defArgs sRight) (defBody sRight) (defScope sRight) .none kV27 dc27 pm27 an27 cd27 ct27), sl27⟩) (c27 : PySem.W.codeIn K cd27 "_law_right" = true) (k27 : PySem.W.keepIn K (.ref f27) = true)
    (a28 : PySem.W.nsIn K mainGlobals "law" = some (some (.ref f28))) (l28 : K.lookup f28 = some ⟨oc28, od28, .func (PySem.W.fnOf "law" "law" (defArgs sLaw) (defBody sLaw) (defScope sLaw) .none kV28 dc28 pm28 an28 cd28 ct28), sl28⟩) (c28 : PySem.W.codeIn K cd28 "law" = true) (k28 : PySem.W.keepIn K (.ref f28) = true)
    {tk1 : Tok} (y1 : PySem.W.nsIn K mainGlobals "SIGNS" = some (some (.str alpha tk1)))
    {tk2 : Tok} (y2 : PySem.W.nsIn K mainGlobals "FIGURES" = some (some (.str figs tk2)))
    {tk3 : Tok} (y3 : PySem.W.nsIn K mainGlobals "EMPTY_WORD" = some (some (.str dotS tk3)))
    (z1 : PySem.W.nsIn K mainGlobals "len" = some none)
    (z2 : PySem.W.nsIn K mainGlobals "range" = some none)
    (z3 : PySem.W.nsIn K mainGlobals "tuple" = some none)
    (z4 : PySem.W.nsIn K mainGlobals "list" = some none)
    (z5 : PySem.W.nsIn K mainGlobals "isinstance" = some none)
    (z6 : PySem.W.nsIn K mainGlobals "int" = some none)
    (z7 : PySem.W.nsIn K mainGlobals "bool" = some none)
    (z8 : PySem.W.nsIn K mainGlobals "all" = some none)
    (z9 : PySem.W.nsIn K mainGlobals "str" = some none)
    (z10 : PySem.W.nsIn K mainGlobals "set" = some none)
    (z11 : PySem.W.nsIn K mainGlobals "zip" = some none)
    (z12 : PySem.W.nsIn K mainGlobals "enumerate" = some none)
    (z13 : PySem.W.nsIn K mainGlobals "ord" = some none)
    (z14 : PySem.W.nsIn K mainGlobals "ValueError" = some none)
    {D : Addr} (gD : PySem.W.nsIn K mainGlobals "TollError" = some (some (.ref D)))
    (xD : xcIn K D = true)
    (eD : PySem.W.excIn K D bmVE newVE = true)
    {CR : Addr} (gCR : PySem.W.nsIn K mainGlobals "BadRow" = some (some (.ref CR)))
    (xCR : xcIn K CR = true)
    {CN : Addr} (gCN : PySem.W.nsIn K mainGlobals "BadName" = some (some (.ref CN)))
    (xCN : xcIn K CN = true)
    (eCN : PySem.W.excIn K CN bmVE newVE = true)
    {CP : Addr} (gCP : PySem.W.nsIn K mainGlobals "BadPrices" = some (some (.ref CP)))
    (xCP : xcIn K CP = true)
    (eCP : PySem.W.excIn K CP bmVE newVE = true)
    {CW : Addr} (gCW : PySem.W.nsIn K mainGlobals "BadWeights" = some (some (.ref CW)))
    (xCW : xcIn K CW = true)
    (eCW : PySem.W.excIn K CW bmVE newVE = true)
    {CB : Addr} (gCB : PySem.W.nsIn K mainGlobals "BadWord" = some (some (.ref CB)))
    (xCB : xcIn K CB = true)
    (eCB : PySem.W.excIn K CB bmVE newVE = true)
    (sCRD : PySem.W.subIn K (.ref CR) (.ref D) = some true)
    (sCND : PySem.W.subIn K (.ref CN) (.ref D) = some true)
    (sCPD : PySem.W.subIn K (.ref CP) (.ref D) = some true)
    (sCWD : PySem.W.subIn K (.ref CW) (.ref D) = some true)
    (sCBD : PySem.W.subIn K (.ref CB) (.ref D) = some true)
    (sCRCN : PySem.W.subIn K (.ref CR) (.ref CN) = some false)
    (sCRCP : PySem.W.subIn K (.ref CR) (.ref CP) = some false)
    (sCRCW : PySem.W.subIn K (.ref CR) (.ref CW) = some false)
    (sCRCB : PySem.W.subIn K (.ref CR) (.ref CB) = some false)
    (sCNCR : PySem.W.subIn K (.ref CN) (.ref CR) = some false)
    (sCNCP : PySem.W.subIn K (.ref CN) (.ref CP) = some false)
    (sCNCW : PySem.W.subIn K (.ref CN) (.ref CW) = some false)
    (sCNCB : PySem.W.subIn K (.ref CN) (.ref CB) = some false)
    (sCPCR : PySem.W.subIn K (.ref CP) (.ref CR) = some false)
    (sCPCN : PySem.W.subIn K (.ref CP) (.ref CN) = some false)
    (sCPCW : PySem.W.subIn K (.ref CP) (.ref CW) = some false)
    (sCPCB : PySem.W.subIn K (.ref CP) (.ref CB) = some false)
    (sCWCR : PySem.W.subIn K (.ref CW) (.ref CR) = some false)
    (sCWCN : PySem.W.subIn K (.ref CW) (.ref CN) = some false)
    (sCWCP : PySem.W.subIn K (.ref CW) (.ref CP) = some false)
    (sCWCB : PySem.W.subIn K (.ref CW) (.ref CB) = some false)
    (sCBCN : PySem.W.subIn K (.ref CB) (.ref CN) = some false)
    {i90 : Addr} (fi90 : PySem.W.findIn K (.ref CR) "__init__" = some (some (.ref i90)))
    (xi90 : exiIn K CR i90 = true)
    {oi90 : Value} {di90 : Option Addr} {ki90 ui90 mi90 : Value} {ni90 : Option Addr} {vi90 ti90 : Value} {si90 : Array (Option Value)} (li90 : K.lookup i90 = some ⟨oi90, di90, .func (PySem.W.fnOf "__init__" "BadRow.__init__" (defArgs iBad) (defBody iBad) (defScope iBad) .none ki90 ui90 mi90 ni90 vi90 ti90), si90⟩)
    (ci90 : PySem.W.codeIn K vi90 "BadRow.__init__" = true)
    (kki90 : PySem.W.keepIn K (.ref i90) = true)
    (es90 : estIn K CR = true)
    (kc90 : PySem.W.keepIn K (.ref CR) = true)
    (na90at : PySem.W.findIn K (.ref CR) "at" = some none)
    {C : Addr} (gC : PySem.W.nsIn K mainGlobals "Desk" = some (some (.ref C)))
    {qCinit : Addr} (faCinit : PySem.W.findIn K (.ref C) "__init__" = some (some (.ref qCinit)))
    (fiCinit : PySem.W.isFn K (.ref qCinit) = true)
    {oiCinit : Value} {diCinit : Option Addr} {kiCinit : Value} {uiCinit : Value} {miCinit : Value} {niCinit : Option Addr} {viCinit : Value} {tiCinit : Value} {siCinit : Array (Option Value)} (liCinit : K.lookup qCinit = some ⟨oiCinit, diCinit, .func (PySem.W.fnOf "__init__" "Desk.__init__" (defArgs iDesk) (defBody iDesk) (defScope iDesk) .none kiCinit uiCinit miCinit niCinit viCinit tiCinit), siCinit⟩)
    (ciCinit : PySem.W.codeIn K viCinit "Desk.__init__" = true)
    (kkCinit : PySem.W.keepIn K (.ref qCinit) = true)
    {qCbook : Addr} (faCbook : PySem.W.findIn K (.ref C) "book" = some (some (.ref qCbook)))
    (fiCbook : PySem.W.isFn K (.ref qCbook) = true)
    {oiCbook : Value} {diCbook : Option Addr} {kiCbook : Value} {uiCbook : Value} {miCbook : Value} {niCbook : Option Addr} {viCbook : Value} {tiCbook : Value} {siCbook : Array (Option Value)} (liCbook : K.lookup qCbook = some ⟨oiCbook, diCbook, .func (PySem.W.fnOf "book" "Desk.book" (defArgs mBook) (defBody mBook) (defScope mBook) .none kiCbook uiCbook miCbook niCbook viCbook tiCbook), siCbook⟩)
    (ciCbook : PySem.W.codeIn K viCbook "Desk.book" = true)
    (kkCbook : PySem.W.keepIn K (.ref qCbook) = true)
    (pgC : PySem.W.plainGet K C Str.empty = true)
    (hdC : PySem.W.hasDictIn K C = true)
    (poC : PySem.W.plainOver K C = true)
    (saC : PySem.W.findIn K (.ref C) "__setattr__" = some (some (.builtin "object.__setattr__")))
    (mkC : PySem.W.makesIn K C = true)
    (kcC : PySem.W.keepIn K (.ref C) = true)
    (naCsigns : PySem.W.findIn K (.ref C) "signs" = some none)
    (naCprices : PySem.W.findIn K (.ref C) "prices" = some none)
    (naCnames : PySem.W.findIn K (.ref C) "names" = some none)
    (naCweights : PySem.W.findIn K (.ref C) "weights" = some none)
    (naCpast : PySem.W.findIn K (.ref C) "past" = some none) :
    ∃ fd : FuncData, (∀ (s : Shared) (v : Value), BindsTo s fd ⟨[v], []⟩ [("script", v)]) ∧ ∀ base : Heap, K.In base → base.Ns mainGlobals mg → FnOk l.prog w K mg base CX0 10 fa fd ["script"] (spLaw K) := by
  have e := hfa.symm.trans (PySem.W.mg_of X G a28)
  cases e
  have F1 := fun_mk (st := sIsAm) l1 c1 k1
  have m1 := PySem.W.mg_of X G a1
  have b1 := F1.binds (ps := ["number"]) fun _ _ _ _ _ _ => al1 fun _ => rfl
  have F2 := fun_mk (st := sAre) l2 c2 k2
  have m2 := PySem.W.mg_of X G a2
  have b2 := F2.binds (ps := ["numbers", "fewest", "most"]) fun _ _ _ _ _ _ => al3 fun _ _ _ => rfl
  have F3 := fun_mk (st := sMP) l3 c3 k3
  have m3 := PySem.W.mg_of X G a3
  have b3 := F3.binds (ps := ["prices"]) fun _ _ _ _ _ _ => al1 fun _ => rfl
  have F4 := fun_mk (st := sMW) l4 c4 k4
  have m4 := PySem.W.mg_of X G a4
  have b4 := F4.binds (ps := ["weights"]) fun _ _ _ _ _ _ => al1 fun _ => rfl
  have F5 := fun_mk (st := sAlone) l5 c5 k5
  have m5 := PySem.W.mg_of X G a5
  have b5 := F5.binds (ps := ["word", "letters"]) fun _ _ _ _ _ _ => al2 fun _ _ => rfl
  have F6 := fun_mk (st := sBT) l6 c6 k6
  have m6 := PySem.W.mg_of X G a6
  have b6 := F6.binds (ps := ["signs", "prices", "names", "weights"]) fun _ _ _ _ _ _ => al4 fun _ _ _ _ => rfl
  have F7 := fun_mk (st := sRB) l7 c7 k7
  have m7 := PySem.W.mg_of X G a7
  have b7 := F7.binds (ps := ["text"]) fun _ _ _ _ _ _ => al1 fun _ => rfl
  have F8 := fun_mk (st := sRO) l8 c8 k8
  have m8 := PySem.W.mg_of X G a8
  have b8 := F8.binds (ps := ["text"]) fun _ _ _ _ _ _ => al1 fun _ => rfl
  have F9 := fun_mk (st := sILR) l9 c9 k9
  have m9 := PySem.W.mg_of X G a9
  have b9 := F9.binds (ps := ["row"]) fun _ _ _ _ _ _ => al1 fun _ => rfl
  have F10 := fun_mk (st := sITR) l10 c10 k10
  have m10 := PySem.W.mg_of X G a10
  have b10 := F10.binds (ps := ["row"]) fun _ _ _ _ _ _ => al1 fun _ => rfl
  have F11 := fun_mk (st := sIN) l11 c11 k11
  have m11 := PySem.W.mg_of X G a11
  have b11 := F11.binds (ps := ["text", "most"]) fun _ _ _ _ _ _ => al2 fun _ _ => rfl
  have F12 := fun_mk (st := sINu) l12 c12 k12
  have m12 := PySem.W.mg_of X G a12
  have b12 := F12.binds (ps := ["text"]) fun _ _ _ _ _ _ => al1 fun _ => rfl
  have F13 := fun_mk (st := sWT) l13 c13 k13
  have m13 := PySem.W.mg_of X G a13
  have b13 := F13.binds (ps := ["signs", "word"]) fun _ _ _ _ _ _ => al2 fun _ _ => rfl
  have F14 := fun_mk (st := sRW) l14 c14 k14
  have m14 := PySem.W.mg_of X G a14
  have b14 := F14.binds (ps := ["signs", "text"]) fun _ _ _ _ _ _ => al2 fun _ _ => rfl
  have F15 := fun_mk (st := sCell) l15 c15 k15
  have m15 := PySem.W.mg_of X G a15
  have b15 := F15.binds (ps := ["script", "k"]) fun _ _ _ _ _ _ => al2 fun _ _ => rfl
  have F16 := fun_mk (st := sWhole) l16 c16 k16
  have m16 := PySem.W.mg_of X G a16
  have b16 := F16.binds (ps := ["found"]) fun _ _ _ _ _ _ => al1 fun _ => rfl
  have F17 := fun_mk (st := sAmount) l17 c17 k17
  have m17 := PySem.W.mg_of X G a17
  have b17 := F17.binds (ps := ["cell"]) fun _ _ _ _ _ _ => al1 fun _ => rfl
  have F18 := fun_mk (st := sSigns) l18 c18 k18
  have m18 := PySem.W.mg_of X G a18
  have b18 := F18.binds (ps := ["cell", "many"]) fun _ _ _ _ _ _ => al2 fun _ _ => rfl
  have F19 := fun_mk (st := sNames) l19 c19 k19
  have m19 := PySem.W.mg_of X G a19
  have b19 := F19.binds (ps := ["cell", "many"]) fun _ _ _ _ _ _ => al2 fun _ _ => rfl
  have F20 := fun_mk (st := sOdd) l20 c20 k20
  have m20 := PySem.W.mg_of X G a20
  have b20 := F20.binds (ps := ["cell"]) fun _ _ _ _ _ _ => al1 fun _ => rfl
  have F21 := fun_mk (st := sSpoilt) l21 c21 k21
  have m21 := PySem.W.mg_of X G a21
  have b21 := F21.binds (ps := ["rows", "cell"]) fun _ _ _ _ _ _ => al2 fun _ _ => rfl
  have F22 := fun_mk (st := sRG) l22 c22 k22
  have m22 := PySem.W.mg_of X G a22
  have b22 := F22.binds (ps := ["row", "things"]) fun _ _ _ _ _ _ => al2 fun _ _ => rfl
  have F23 := fun_mk (st := sDue) l23 c23 k23
  have m23 := PySem.W.mg_of X G a23
  have b23 := F23.binds (ps := ["text"]) fun _ _ _ _ _ _ => al1 fun _ => rfl
  have F24 := fun_mk (st := sAsked) l24 c24 k24
  have m24 := PySem.W.mg_of X G a24
  have b24 := F24.binds (ps := ["which", "text"]) fun _ _ _ _ _ _ => al2 fun _ _ => rfl
  have F25 := fun_mk (st := sFound) l25 c25 k25
  have m25 := PySem.W.mg_of X G a25
  have b25 := F25.binds (ps := ["which", "text"]) fun _ _ _ _ _ _ => al2 fun _ _ => rfl
  have F26 := fun_mk (st := sWR) l26 c26 k26
  have m26 := PySem.W.mg_of X G a26
  have b26 := F26.binds (ps := ["signs", "word", "text"]) fun _ _ _ _ _ _ => al3 fun _ _ _ => rfl
  have F27 := fun_mk (st := sRight) l27 c27 k27
  have m27 := PySem.W.mg_of X G a27
  have b27 := F27.binds (ps := ["text"]) fun _ _ _ _ _ _ => al1 fun _ => rfl
  have F28 := fun_mk (st := sLaw) l28 c28 k28
  have m28 := PySem.W.mg_of X G a28
  have C_SIGNS := PySem.W.mg_of X G y1
  have C_FIGURES := PySem.W.mg_of X G y2
  have C_EMPTY_WORD := PySem.W.mg_of X G y3
  have B_len := PySem.W.mg_none_of X G z1
  have B_range := PySem.W.mg_none_of X G z2
  have B_tuple := PySem.W.mg_none_of X G z3
  have B_list := PySem.W.mg_none_of X G z4
  have B_isinstance := PySem.W.mg_none_of X G z5
  have B_int := PySem.W.mg_none_of X G z6
  have B_bool := PySem.W.mg_none_of X G z7
  have B_all := PySem.W.mg_none_of X G z8
  have B_str := PySem.W.mg_none_of X G z9
  have B_set := PySem.W.mg_none_of X G z10
  have B_zip := PySem.W.mg_none_of X G z11
  have B_enumerate := PySem.W.mg_none_of X G z12
  have B_ord := PySem.W.mg_none_of X G z13
  have B_ValueError := PySem.W.mg_none_of X G z14
  refine ⟨PySem.W.fnOf "law" "law" (defArgs sLaw) (defBody sLaw) (defScope sLaw) .none kV28 dc28 pm28 an28 cd28 ct28, fun s v => .of_eq rfl, fun base _ _ => ?_⟩
  have cc : Kl K mg D CR CN CP CW CB := ⟨PySem.W.mg_of X G gD, PySem.W.mg_of X G gCR, PySem.W.mg_of X G gCN, PySem.W.mg_of X G gCP, PySem.W.mg_of X G gCW, PySem.W.mg_of X G gCB, B_ValueError, .of xD, .of xCR, .of xCN, .of xCP, .of xCW, .of xCB, Est.of es90, na90at, sCRD, sCND, sCPD, sCWD, sCBD, sCRCN, sCRCP, sCRCW, sCRCB, sCNCR, sCNCP, sCNCW, sCNCB, sCPCR, sCPCN, sCPCW, sCPCB, sCWCR, sCWCN, sCWCP, sCWCB, sCBCN⟩
  have dc : DC K C := ⟨⟨pgC, hdC, poC, saC⟩, naCsigns, naCprices, naCnames, naCweights, naCpast⟩
  have FI := fun_mk (st := iDesk) liCinit ciCinit kkCinit
  have bI := FI.binds (ps := ["self", "text"]) fun _ _ _ _ _ _ => al2 fun _ _ => rfl
  have FK := fun_mk (st := mBook) liCbook ciCbook kkCbook
  have bK := FK.binds (ps := ["self"]) fun _ _ _ _ _ _ => al1 fun _ => rfl
  have FB := fun_mk (st := iBad) li90 ci90 kki90
  have bB := FB.binds (ps := ["self", "at"]) fun _ _ _ _ _ _ => al2 fun _ _ => rfl
  have kb : ClB l.prog w K mg base CR := ⟨cc.gR, cc.xR.h, kc90, _, _, ⟨xi90⟩, ok_binit FB (Est.of es90) na90at, bB⟩
  have B1 : Fns l.prog w K mg base ["number"] "is_amount" spIs 1 := ⟨_, _, (ok_is F1).mono (by decide), b1, k1, m1⟩
  have B2 : Fns l.prog w K mg base NAr "are_amounts" spAr 2 := ⟨_, _, (ok_ar F2 B1 B_len B_all).mono (by decide), b2, k2, m2⟩
  have B3 : Fns' l.prog w K mg base ["prices"] "made_prices" (spMk CP 2 6) 3 := ⟨_, _, (ok_mp F3 B2 B_tuple cc.gP ⟨eCP⟩).mono (by decide), b3, k3, m3⟩
  have B4 : Fns' l.prog w K mg base ["weights"] "made_weights" (spMk CW 1 24) 3 := ⟨_, _, (ok_mw F4 B2 B_tuple cc.gW ⟨eCW⟩).mono (by decide), b4, k4, m4⟩
  have B5 : Fns l.prog w K mg base NAl "has_letters_alone" spAl 1 := ⟨_, _, (ok_al F5 B_all).mono (by decide), b5, k5, m5⟩
  have B6 : Fns l.prog w K mg base PBT "book_text" spBT 1 := ⟨_, _, (ok_bt F6 B_zip).mono (by decide), b6, k6, m6⟩
  have B11 : Fns l.prog w K mg base NIn "is_name" spIn 1 := ⟨_, _, (ok_in F11 C_SIGNS B_len B_all).mono (by decide), b11, k11, m11⟩
  have B12 : Fns l.prog w K mg base NNu "is_number" spNu 1 := ⟨_, _, (ok_nu F12 C_FIGURES B_len B_all).mono (by decide), b12, k12, m12⟩
  have B9 : Fns l.prog w K mg base NRr "is_letter_row" (spRr tL 1) 2 := ⟨_, _, (ok_lr F9 B11 B12 B_len).mono (by decide), b9, k9, m9⟩
  have B10 : Fns l.prog w K mg base NRr "is_thing_row" (spRr tT 8) 2 := ⟨_, _, (ok_tr F10 B11 B12 B_len).mono (by decide), b10, k10, m10⟩
  have B8 : Fns' l.prog w K mg base ["text"] "rows_of" (spRo CR) 3 := ⟨_, _, (ok_ro F8 kb B10 B9 B_len B_enumerate).mono (by decide), b8, k8, m8⟩
  have B7 : Fns' l.prog w K mg base ["text"] "read_book" (spRb CR CN CP CW) 4 := ⟨_, _, (ok_rb F7 B8 B3 B4 cc.gN ⟨eCN⟩ B_len B_tuple B_set B_int).mono (by decide), b7, k7, m7⟩
  have dk : Dsk l.prog w K mg base C CR CN CP CW := ⟨⟨pgC, hdC, poC, saC⟩, PySem.W.mg_of X G gC, _, _, ⟨mkC, faCinit, fiCinit, kcC⟩, ok_di FI dc B7, bI, _, _, ⟨faCbook, fiCbook, kkCbook⟩, (ok_db FK dc B6).mono (by decide), bK⟩
  have B24 : Fns' l.prog w K mg base NAk "_law_asked" (spAk CR CN CP CW) 7 := ⟨_, _, (ok_ak F24 (B7.up (by decide)) dk).mono (by decide), b24, k24, m24⟩
  have B16 : Fns l.prog w K mg base ["found"] "_law_whole" spWhole 7 := ⟨_, _, (ok_whole F16 B_isinstance B_int B_bool).mono (by decide), b16, k16, m16⟩
  have B25 : Fns l.prog w K mg base ["which", "text"] "_law_found" spFd 8 := ⟨_, _, (ok_fd F25 B24 B16 cc B_isinstance).mono (by decide), b25, k25, m25⟩
  have B22 : Fns l.prog w K mg base PRg "_law_row_good" spRg 1 := ⟨_, _, (ok_rg F22 B_len B_all).mono (by decide), b22, k22, m22⟩
  have B23 : Fns l.prog w K mg base ["text"] "_law_due" spDu 8 := ⟨_, _, (ok_du F23 B22 B_len B_range B_all B_tuple B_set B_int).mono (by decide), b23, k23, m23⟩
  have B27 : Fns l.prog w K mg base ["text"] "_law_right" spRt 9 := ⟨_, _, (ok_rt F27 B23 B25 B_len).mono (by decide), b27, k27, m27⟩
  have B13 : Fns' l.prog w K mg base NWt "word_text" (spWt CB) 7 := ⟨_, _, (ok_wt F13 B5 B_len cc.gB ⟨eCB⟩).mono (by decide), b13, k13, m13⟩
  have B14 : Fns' l.prog w K mg base NRw "read_word" (spRw CN) 7 := ⟨_, _, (ok_rw F14 C_EMPTY_WORD B_len B_all cc.gN ⟨eCN⟩).mono (by decide), b14, k14, m14⟩
  have B26 : Fns l.prog w K mg base PWr "_law_word_refused" spWr 9 := ⟨_, _, (ok_wr F26 B13 B14 cc B_isinstance).mono (by decide), b26, k26, m26⟩
  have B20 : Fns l.prog w K mg base ["cell"] "_law_odd_row" spOd 1 := ⟨_, _, (ok_od F20 B_len).mono (by decide), b20, k20, m20⟩
  have B18 : Fns l.prog w K mg base PSg "_law_signs" spSg 1 := ⟨_, _, (ok_sg F18 B_range).mono (by decide), b18, k18, m18⟩
  have B19 : Fns l.prog w K mg base PNm "_law_names" spNm 1 := ⟨_, _, (ok_nm F19 B_range).mono (by decide), b19, k19, m19⟩
  have B21 : Fns l.prog w K mg base PSp "_law_spoilt" spSp 9 := ⟨_, _, (ok_sp F21 B20 B18 B19 B_len B_str).mono (by decide), b21, k21, m21⟩
  have B15 : Fns l.prog w K mg base ["script", "k"] "_law_cell_at" (spCell K) 9 := ⟨_, _, (ok_cell F15 B_len).mono (by decide), b15, k15, m15⟩
  have B17 : Fns l.prog w K mg base ["cell"] "_law_amount" spAmount 9 := ⟨_, _, (ok_amount F17).mono (by decide), b17, k17, m17⟩
  exact ok_law F28 B15 B17 (B18.up (by decide)) (B19.up (by decide)) B21 B27 B26 B_len B_tuple B_str B_list B_ord
theorem walk {l : PySem.W.OpenLaw} {q : Program} {loose : List Str} {XP : (Str → Option Value) → Heap → Prop} {YP : World → Heap → Prop} {d : DefRec} {K : Params → PySem.W.Frag} (hn : l.most = some 63) (hdf : d.params.defaults = [])
    (hY : ∀ (w : World) (h : Heap), YP w h → (K w.params).In h)
    (F : ∀ (w : World) (mg : Str → Option Value) (fa : Addr) (h : Heap), (K w.params).In h → h.Ns mainGlobals mg → mg d.name = some (.ref fa) →
      ∃ fd : FuncData, (∀ (s : Shared) (u : Value), BindsTo s fd ⟨[u], []⟩ [("script", u)]) ∧ ∀ base : Heap, (K w.params).In base → base.Ns mainGlobals mg → FnOk l.prog w (K w.params) mg base CX0 10 fa fd ["script"] (spLaw (K w.params))) :
    PySem.W.WalkO q loose XP YP l.row.toRowW d [] (fun f vs => PySem.call f vs) :=
  L2.walk_of (n := 63) (k := 10) (x := "script") (CX := fun _ => CX0) (sp := fun w => spLaw (K w.params)) hn (by decide) hdf ⟨rfl, by decide, by decide⟩ hY F (fun _ _ a ns hl _ hS => ⟨a, ns, rfl, hS, hl, fun _ => rfl⟩) fun _ _ _ _ _ z => z
end K92
namespace PySem.W.Fast
def tw10000873420816861111:=0
def tw10008355900008052672:=0
def tw10034553228961036235:=0
def tw10045106422615357873:=0
def tw10065149659922040053:=0
def tw10103941106780870683:=0
def tw10122791897155066510:=0
def tw10163659449841194605:=0
def tw1020044655192389913:=0
def tw10209565157974488619:=0
def tw10244217955385356143:=0
def tw10269491801699288408:=0
def tw10302517349364888553:=0
def tw10370988539278221852:=0
def tw10646696768095269706:=0
def tw10696365966140918687:=0
def tw10696671075553212756:=0
def tw10789422840596607947:=0
def tw10809359718570436842:=0
def tw10815041988569519157:=0
def tw1082361551726612001:=0
def tw10878215817741443596:=0
def tw10888741979888965550:=0
def tw10918456660218898645:=0
def tw10965650146615353855:=0
def tw11076613012728226413:=0
def tw11090271976011585852:=0
def tw11091278824399258936:=0
def tw11149756780849257057:=0
def tw11205653756604138868:=0
def tw11242357494934795046:=0
def tw11259352382139568337:=0
def tw11293497378533865373:=0
def tw11370737494445762967:=0
def tw11398109405515773935:=0
def tw11400128629919140817:=0
def tw11420217796642301481:=0
def tw11479145640364563731:=0
def tw11538485883336178987:=0
def tw11620209401546572326:=0
def tw11710518130869729519:=0
def tw11733130428673032954:=0
def tw11769280272600692311:=0
def tw11774142241368837769:=0
def tw11919658830462555663:=0
def tw11973091255643510393:=0
def tw12065163896994877790:=0
def tw12199014449958584172:=0
def tw12237752723012960550:=0
def tw12245877835728261865:=0
def tw12258495145395944681:=0
def tw12429763806573181511:=0
def tw12430666593248475593:=0
def tw1253886859437019336:=0
def tw12544380155260486096:=0
def tw12555547872641099085:=0
def tw12591415403497655831:=0
def tw12621402669024206017:=0
def tw12703744399783651048:=0
def tw12766341365802096968:=0
def tw12770195937340971773:=0
def tw12776134236278421092:=0
def tw12909624734202066748:=0
def tw13027173109689840325:=0
def tw13063077257426737918:=0
def tw13081556239907266506:=0
def tw13087037060711489993:=0
def tw13139058978163429787:=0
def tw13179308688192909859:=0
def tw13250309863756307888:=0
def tw13299196928915460789:=0
def tw133432519465174962:=0
def tw13385920989426887041:=0
def tw13388853574172791478:=0
def tw13459422369350963612:=0
def tw13463870829356194845:=0
def tw13476112303888091803:=0
def tw135030366269727626:=0
def tw1357310502030980917:=0
def tw13592011457881461032:=0
def tw13592987594939968548:=0
def tw13611619262206260465:=0
def tw13626010849075139104:=0
def tw13744695948197587204:=0
def tw13751540280202985929:=0
def tw13769306634901853889:=0
def tw1380761808683822696:=0
def tw13810003068850356302:=0
def tw13842026403818881684:=0
def tw13862834966607712022:=0
def tw13898675927100141202:=0
def tw13908192531967239043:=0
def tw13955394532775649059:=0
def tw14040804717063039663:=0
def tw14041972299672217776:=0
def tw14055039808732342661:=0
def tw1411456180687642432:=0
def tw14166908827623226069:=0
def tw14254967260832706480:=0
def tw14270303219061217648:=0
def tw14287437621530970388:=0
def tw14452641140149414605:=0
def tw14512931177492670800:=0
def tw14599899476881691232:=0
def tw14674561644814282424:=0
def tw14693913462337040325:=0
def tw14790131829495624403:=0
def tw14846891183632775668:=0
def tw14849600203468611995:=0
def tw14882092883052194159:=0
def tw14902722347759353603:=0
def tw14934480201501665178:=0
def tw15042792443077341312:=0
def tw15062870478292232975:=0
def tw15066541463915464645:=0
def tw15067269250578412132:=0
def tw15069387855057587267:=0
def tw15112170176113795694:=0
def tw15269846126126676036:=0
def tw15321503508462872811:=0
def tw15420641970369028629:=0
def tw15438212475601203958:=0
def tw15439855133321794407:=0
def tw15449436176667521388:=0
def tw15456115234225669616:=0
def tw15484032807360637169:=0
def tw15541432818476497248:=0
def tw15594211662313637216:=0
def tw15700450075894868975:=0
def tw15759383603105585647:=0
def tw15824342878310286253:=0
def tw1605277324773613087:=0
def tw16086553747373789809:=0
def tw1610533767580819060:=0
def tw1613811239361606539:=0
def tw16139867178285262881:=0
def tw16190027607549806699:=0
def tw16203104711989401519:=0
def tw16226726652698682552:=0
def tw16324030008868686516:=0
def tw16341602244350707833:=0
def tw16368945027103434845:=0
def tw16409285476341824899:=0
def tw16416381856191270887:=0
def tw16492440922633762816:=0
def tw16498861288506260613:=0
def tw16644981361328028176:=0
def tw16690178063501895984:=0
def tw16699098059873852747:=0
def tw16777786036985181042:=0
def tw16793211007319783657:=0
def tw16817914600518375543:=0
def tw16819348849775874812:=0
def tw16939997399668527305:=0
def tw1706992896702310069:=0
def tw17079797196796888951:=0
def tw1712167398438652184:=0
def tw17157574371500213704:=0
def tw17268246619079046473:=0
def tw17294151590413551306:=0
def tw17381214775391137944:=0
def tw1742249510579331186:=0
def tw17563489555409791054:=0
def tw17679964570110602026:=0
def tw17757287052516309639:=0
def tw17790606201625535249:=0
def tw17818970581304437813:=0
def tw17829090080909778260:=0
def tw17882728031029836084:=0
def tw17928336922229274816:=0
def tw17999313014680039989:=0
def tw18000089809193763740:=0
def tw18088157475362138387:=0
def tw18143159216418274362:=0
def tw18164603920364763452:=0
def tw18239853023319074043:=0
def tw18251944578970033130:=0
def tw18275115736850499463:=0
def tw1831384209373324176:=0
def tw18342147076933684432:=0
def tw18345458205351543680:=0
def tw18413161794599843599:=0
def tw18420106446195287870:=0
def tw1843352915383353226:=0
def tw1943645017514769124:=0
def tw1949369553410282476:=0
def tw1956739631263635848:=0
def tw2004478981064877225:=0
def tw2090661004661938735:=0
def tw2098572866977133967:=0
def tw224239990120546747:=0
def tw2343953754451471810:=0
def tw2351103533679726345:=0
def tw2403937561641134142:=0
def tw2433297831006461198:=0
def tw256195615307375858:=0
def tw2579202451251764425:=0
def tw276225379880595380:=0
def tw2791299320122394011:=0
def tw2805308586648962128:=0
def tw2837420576925820407:=0
def tw293334364438133580:=0
def tw2948043585300263593:=0
def tw2974554325816560346:=0
def tw3030696346379359375:=0
def tw3119433653331106401:=0
def tw3146015381287592265:=0
def tw3219945445575879586:=0
def tw3285875054700878366:=0
def tw3341318246263298967:=0
def tw3472431878683485479:=0
def tw3504018591375178154:=0
def tw3519698062480481729:=0
def tw3524209876529642826:=0
def tw3572878058096131482:=0
def tw357556439803560370:=0
def tw3701907091431865135:=0
def tw3761889219739649195:=0
def tw3867325944392684613:=0
def tw3909168499608812631:=0
def tw4008563996142336938:=0
def tw4016022431990356068:=0
def tw4018579503110742144:=0
def tw403889490888727469:=0
def tw412265128395397207:=0
def tw417921487804843566:=0
def tw4382376992389936330:=0
def tw4443642217764479647:=0
def tw4469906399632084214:=0
def tw4476231004256030137:=0
def tw4485885668372593123:=0
def tw4608074215311393601:=0
def tw4669773542316024843:=0
def tw4679119071787015:=0
def tw4690902873071412735:=0
def tw4690908640415272672:=0
def tw4716202767847922559:=0
def tw4722876644732171973:=0
def tw4763206174109248533:=0
def tw4817793875535737652:=0
def tw4906523320387621892:=0
def tw4926843055261229760:=0
def tw5142547222042803627:=0
def tw5166371926999742502:=0
def tw5167893225672046978:=0
def tw5172721148597317037:=0
def tw5269831533240972408:=0
def tw5395227126175236481:=0
def tw5492075846385990007:=0
def tw5570212229277091369:=0
def tw5614800710884494361:=0
def tw5625294947679149294:=0
def tw5633194526693520072:=0
def tw5633874170396845823:=0
def tw5669520786678069686:=0
def tw5671943768021653767:=0
def tw5690206210198736472:=0
def tw576289215904540088:=0
def tw5791054777198344622:=0
def tw5857023364391940979:=0
def tw5945843832601537760:=0
def tw5971652588059144478:=0
def tw6001030200891322415:=0
def tw6025304631424916773:=0
def tw6036301168337414020:=0
def tw6082319402130750732:=0
def tw6132896491160290961:=0
def tw6133854993896133770:=0
def tw6137656479718875758:=0
def tw6209642222340016418:=0
def tw6310860382719054623:=0
def tw6442693618633911117:=0
def tw6473867863449849412:=0
def tw6574119168711593387:=0
def tw6582194021743536561:=0
def tw66896713607541269:=0
def tw6772919263875382161:=0
def tw6784728013819427177:=0
def tw6811508468226613990:=0
def tw682250925062222648:=0
def tw6953369630301757724:=0
def tw6956776071138731403:=0
def tw6958383839610719240:=0
def tw7018506956713110256:=0
def tw7097847729969611275:=0
def tw7200980715536865274:=0
def tw7236086893990235896:=0
def tw7338593155696519350:=0
def tw7367276627156038672:=0
def tw7367766482259272810:=0
def tw7370344285019164689:=0
def tw742893456141991892:=0
def tw7452796453314212634:=0
def tw7461705902218626663:=0
def tw7486020421851079349:=0
def tw7490214546540155873:=0
def tw7567999961094471001:=0
def tw7593369529473016203:=0
def tw7629629087140527169:=0
def tw7668701877143180758:=0
def tw7733639627584631215:=0
def tw7863152753062772885:=0
def tw790171914819884545:=0
def tw8001628940827946830:=0
def tw8025666029333041458:=0
def tw8030490049052857209:=0
def tw8048664199523564702:=0
def tw8057479143079745222:=0
def tw8095922819097855360:=0
def tw8117778180560148319:=0
def tw8126223226759576674:=0
def tw8143697884590827825:=0
def tw8231085279756814633:=0
def tw82356386479304183:=0
def tw8328421428153729801:=0
def tw8446825031147792196:=0
def tw847077096077157825:=0
def tw8549735700815969837:=0
def tw8581678778887768511:=0
def tw8603732292216090647:=0
def tw8605332781510893842:=0
def tw8672371991538351603:=0
def tw8718508569156011865:=0
def tw8742600803686320239:=0
def tw8819951466738435684:=0
def tw886618278179053460:=0
def tw9089705057072771971:=0
def tw9112700749317377564:=0
def tw9118617426657336740:=0
def tw9148808531915140278:=0
def tw9167359385393932242:=0
def tw9281176871703160097:=0
def tw9294790179858965219:=0
def tw9313648824989653420:=0
def tw9329225143219556142:=0
def tw9351009925640696763:=0
def tw9357408923517657391:=0
def tw9395304850542327480:=0
def tw9430576968204783399:=0
def tw9478341729705370262:=0
def tw9486181603776834421:=0
def tw9530288936486711000:=0
def tw9549748689109627520:=0
def tw9639203761753370556:=0
def tw9658897029204168649:=0
def tw969237338847891978:=0
def tw9859868146255477369:=0
def tw9962138147490738413:=0
end PySem.W.Fast
open PySem PySem.W PyProof.Rows
set_option maxRecDepth 100000 in
set_option maxHeartbeats 0 in
theorem PySem.Challenge.cw_lettertoll_k92_texts_that_are_no_books_holds : PySem.Challenge.rw_lettertoll_k92_texts_that_are_no_books.Holds := by
  w_on; o_law; k_head; (case hw => w_witness2)
  k_fill
  refine K92.walk (l := PySem.Challenge.rw_lettertoll_k92_texts_that_are_no_books) rfl rfl (fun w h Y => PySem.W.kIn_of Y) ?F
  case F =>
    intro w mg fa h KX G hmg
    refine' K92.all_mk KX G hmg ?a1 ?l1 ?c1 ?k1 ?a2 ?l2 ?c2 ?k2 ?a3 ?l3 ?c3 ?k3 ?a4 ?l4 ?c4 ?k4 ?a5 ?l5 ?c5 ?k5 ?a6 ?l6 ?c6 ?k6 ?a7 ?l7 ?c7 ?k7 ?a8 ?l8 ?c8 ?k8 ?a9 ?l9 ?c9 ?k9 ?a10 ?l10 ?c10 ?k10 ?a11 ?l11 ?c11 ?k11 ?a12 ?l12 ?c12 ?k12 ?a13 ?l13 ?c13 ?k13 ?a14 ?l14 ?c14 ?k14 ?a15 ?l15 ?c15 ?k15 ?a16 ?l16 ?c16 ?k16 ?a17 ?l17 ?c17 ?k17 ?a18 ?l18 ?c18 ?k18 ?a19 ?l19 ?c19 ?k19 ?a20 ?l20 ?c20 ?k20 ?a21 ?l21 ?c21 ?k21 ?a22 ?l22 ?c22 ?k22 ?a23 ?l23 ?c23 ?k23 ?a24 ?l24 ?c24 ?k24 ?a25 ?l25 ?c25 ?k25 ?a26 ?l26 ?c26 ?k26 ?a27 ?l27 ?c27 ?k27 ?a28 ?l28 ?c28 ?k28 ?y1 ?y2 ?y3 ?z1 ?z2 ?z3 ?z4 ?z5 ?z6 ?z7 ?z8 ?z9 ?z10 ?z11 ?z12 ?z13 ?z14 ?gD ?xD ?eD ?gCR ?xCR ?gCN ?xCN ?eCN ?gCP ?xCP ?eCP ?gCW ?xCW ?eCW ?gCB ?xCB ?eCB ?sCRD ?sCND ?sCPD ?sCWD ?sCBD ?sCRCN ?sCRCP ?sCRCW ?sCRCB ?sCNCR ?sCNCP ?sCNCW ?sCNCB ?sCPCR ?sCPCN ?sCPCW ?sCPCB ?sCWCR ?sCWCN ?sCWCP ?sCWCB ?sCBCN ?fi90 ?xi90 ?li90 ?ci90 ?kki90 ?es90 ?kc90 ?na90at ?gC ?faCinit ?fiCinit ?liCinit ?ciCinit ?kkCinit ?faCbook ?fiCbook ?liCbook ?ciCbook ?kkCbook ?pgC ?hdC ?poC ?saC ?mkC ?kcC ?naCsigns ?naCprices ?naCnames ?naCweights ?naCpast
    (case a1 => k_is); (case l1 => k_is); (case c1 => k_is); (case k1 => k_is)
    (case a2 => k_is); (case l2 => k_is); (case c2 => k_is); (case k2 => k_is)
    (case a3 => k_is); (case l3 => k_is); (case c3 => k_is); (case k3 => k_is)
    (case a4 => k_is); (case l4 => k_is); (case c4 => k_is); (case k4 => k_is)
    (case a5 => k_is); (case l5 => k_is); (case c5 => k_is); (case k5 => k_is)
    (case a6 => k_is); (case l6 => k_is); (case c6 => k_is); (case k6 => k_is)
    (case a7 => k_is); (case l7 => k_is); (case c7 => k_is); (case k7 => k_is)
    (case a8 => k_is); (case l8 => k_is); (case c8 => k_is); (case k8 => k_is)
    (case a9 => k_is); (case l9 => k_is); (case c9 => k_is); (case k9 => k_is)
    (case a10 => k_is); (case l10 => k_is); (case c10 => k_is); (case k10 => k_is)
    (case a11 => k_is); (case l11 => k_is); (case c11 => k_is); (case k11 => k_is)
    (case a12 => k_is); (case l12 => k_is); (case c12 => k_is); (case k12 => k_is)
    (case a13 => k_is); (case l13 => k_is); (case c13 => k_is); (case k13 => k_is)
    (case a14 => k_is); (case l14 => k_is); (case c14 => k_is); (case k14 => k_is)
    (case a15 => k_is); (case l15 => k_is); (case c15 => k_is); (case k15 => k_is)
    (case a16 => k_is); (case l16 => k_is); (case c16 => k_is); (case k16 => k_is)
    (case a17 => k_is); (case l17 => k_is); (case c17 => k_is); (case k17 => k_is)
    (case a18 => k_is); (case l18 => k_is); (case c18 => k_is); (case k18 => k_is)
    (case a19 => k_is); (case l19 => k_is); (case c19 => k_is); (case k19 => k_is)
    (case a20 => k_is); (case l20 => k_is); (case c20 => k_is); (case k20 => k_is)
    (case a21 => k_is); (case l21 => k_is); (case c21 => k_is); (case k21 => k_is)
    (case a22 => k_is); (case l22 => k_is); (case c22 => k_is); (case k22 => k_is)
    (case a23 => k_is); (case l23 => k_is); (case c23 => k_is); (case k23 => k_is)
    (case a24 => k_is); (case l24 => k_is); (case c24 => k_is); (case k24 => k_is)
    (case a25 => k_is); (case l25 => k_is); (case c25 => k_is); (case k25 => k_is)
    (case a26 => k_is); (case l26 => k_is); (case c26 => k_is); (case k26 => k_is)
    (case a27 => k_is); (case l27 => k_is); (case c27 => k_is); (case k27 => k_is)
    (case a28 => k_is); (case l28 => k_is); (case c28 => k_is); (case k28 => k_is)
    (case y1 => k_is)
    (case y2 => k_is)
    (case y3 => k_is)
    (case z1 => k_is)
    (case z2 => k_is)
    (case z3 => k_is)
    (case z4 => k_is)
    (case z5 => k_is)
    (case z6 => k_is)
    (case z7 => k_is)
    (case z8 => k_is)
    (case z9 => k_is)
    (case z10 => k_is)
    (case z11 => k_is)
    (case z12 => k_is)
    (case z13 => k_is)
    (case z14 => k_is)
    (case gD => k_is)
    (case xD => kernel_rfl)
    (case eD => kernel_rfl)
    (case gCR => k_is)
    (case xCR => kernel_rfl)
    (case gCN => k_is)
    (case xCN => kernel_rfl)
    (case eCN => kernel_rfl)
    (case gCP => k_is)
    (case xCP => kernel_rfl)
    (case eCP => kernel_rfl)
    (case gCW => k_is)
    (case xCW => kernel_rfl)
    (case eCW => kernel_rfl)
    (case gCB => k_is)
    (case xCB => kernel_rfl)
    (case eCB => kernel_rfl)
    (case sCRD => k_is)
    (case sCND => k_is)
    (case sCPD => k_is)
    (case sCWD => k_is)
    (case sCBD => k_is)
    (case sCRCN => k_is)
    (case sCRCP => k_is)
    (case sCRCW => k_is)
    (case sCRCB => k_is)
    (case sCNCR => k_is)
    (case sCNCP => k_is)
    (case sCNCW => k_is)
    (case sCNCB => k_is)
    (case sCPCR => k_is)
    (case sCPCN => k_is)
    (case sCPCW => k_is)
    (case sCPCB => k_is)
    (case sCWCR => k_is)
    (case sCWCN => k_is)
    (case sCWCP => k_is)
    (case sCWCB => k_is)
    (case sCBCN => k_is)
    (case fi90 => k_is)
    (case xi90 => kernel_rfl)
    (case li90 => k_is)
    (case ci90 => k_is)
    (case kki90 => k_is)
    (case es90 => kernel_rfl)
    (case kc90 => k_is)
    (case na90at => k_is)
    (case gC => k_is)
    (case faCinit => k_is)
    (case fiCinit => k_is)
    (case liCinit => k_is)
    (case ciCinit => k_is)
    (case kkCinit => k_is)
    (case faCbook => k_is)
    (case fiCbook => k_is)
    (case liCbook => k_is)
    (case ciCbook => k_is)
    (case kkCbook => k_is)
    (case pgC => k_is)
    (case hdC => k_is)
    (case poC => k_is)
    (case saC => k_is)
    (case mkC => k_is)
    (case kcC => k_is)
    (case naCsigns => k_is)
    (case naCprices => k_is)
    (case naCnames => k_is)
    (case naCweights => k_is)
    (case naCpast => k_is)
